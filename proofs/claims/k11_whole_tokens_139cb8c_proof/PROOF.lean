import PyProof.Rows.All
import Wide.All
import OpenK.AllK
import Wide.FinOn
import PyProof.EqAt
import PyProof.EqKinds
import PyProof.TupleCall
import PyProof.NeKinds
import KE.KMinBuiltin
import Lean
import PySem.Challenge.RW_tokenwright_k11_whole_tokens
open Array renaming getElem?_eq_some_iff->gy,length_toList->oM,toList->yD
open Bool renaming and_eq_true->ag,false_eq_true->aq,false_ne_true->aU,or_eq_true->bb,not_true->bJ,not_false->cq,eq_iff_iff->de,not_eq_true->fh,not_eq_true'->fZ,and_false->vg,true_and->yw,and_true->yx,or_true->zT,not_eq_false->Eu,noConfusion->Ht
open Classical renaming byContradiction->r6
open False renaming elim->aI
open ForInStep renaming yield->dU
open Function renaming comp_def->kr
open Iff renaming rfl->jx
open Int renaming emod_lt_of_pos->iD,emod_nonneg->jR,toNat_natCast->rM,fdiv_eq_ediv_of_nonneg->wy
open List renaming getElem?_eq_getElem->aa,getElem?_eq_some_iff->ae,getElem?_append_left->ak,length_map->ar,getElem?_set_ne->au,getElem?_append_right->av,getElem?_map->aw,forall_mem_cons->az,size_toArray->aA,mem_of_getElem?->aB,length_append->aC,map_cons->aE,length_cons->aN,mem_append->aQ,mem_cons_of_mem->aS,mem_append_right->aT,mem_cons->aX,lookup_cons->aY,append_nil->aZ,mem_cons_self->ba,append_assoc->bB,suffix_refl->bC,all_cons->bD,map_map->bI,not_mem_nil->bK,getElem_mem->bL,mem_append_left->bO,getElem?_set_self->bP,mem_map->bT,all_eq_true->bY,take_add_one->bZ,range->cv,replicate->cB,getElem?_of_mem->cC,take_length->cF,length->cU,suffix_cons->cV,map->cX,length_set->df,take_of_length_le->dD,any_cons->dG,drop_eq_getElem_cons->d6,mem_filter->d8,map_append->d9,length_nil->eh,map_inj_left->eG,filterMap_cons->eU,lookup->fA,eq_nil_of_length_eq_zero->fB,mem_singleton->fH,drop_of_length_le->fJ,find?_cons->fM,nil_append->fN,length_singleton->fV,contains_iff_mem->fW,getElem?_append->gM,length_eq_one_iff->iR,getElem?_set->iS,length_take->jo,any_eq_true->jq,getElem?_mapIdx->jz,nodup_cons->jO,mem_filterMap->kD,contains_cons->kE,drop_zero->kF,nodup_append->lI,foldl_append->lJ,flatten_cons->lK,getElem?_replicate->mG,length_drop->mH,prefix_iff_eq_take->mI,lookup_cons_self->nO,getElem?_eq_none->nP,filterMap_map->qg,set_cons_succ->qh,set_cons_zero->qi,length_range->qZ,set_set->rf,drop_length->rW,cons_append->rZ,of_mem_zip->uo,foldl_cons->ur,dropLast_concat_getLast->uu,mem_range->u9,isPrefixOf_iff_prefix->vj,foldl_nil->vm,mem_of_find?_eq_some->wR,sum_cons->yu,length_eq_zero_iff->yF,range_succ_eq_map->zU,all_map->zW,length_filter_le->Ad,drop_eq_nil_iff->Bz,getElem_of_mem->Cz,map_congr_left->CB,take_succ_cons->CC,replicate_succ->CD,drop_succ_cons->CH,length_pos_iff->CI,getElem?_range->CJ,filter_append->D6,length_mapIdx->D7,append_of_mem->D8,isEmpty_cons->Ew,mem_range'_1->Ey,flatMap_cons->Ez,getElem_inj->Ho,map_fst_zip->Hu,map_snd_zip->Hv,filter_cons->Hw,find?_some->HW,sum_append->HY
open List.IsSuffix renaming trans->l7
open List.cons renaming injEq->dW
open Nat renaming le_refl->ax,lt_of_lt_of_le->aL,le_trans->aR,pow_le_pow_right->bw,ne_of_lt->bV,sub_self->cf,lt_succ_of_lt->cP,testBit_and->cR,testBit_or->cY,lt_irrefl->dI,zero_le->dM,pow_succ->fK,le_succ->gN,not_lt_zero->iB,eq_of_testBit_eq->jD,mul_le_mul_left->kb,ne_of_gt->kg,testBit_one_eq_true_iff_self_eq_zero->oz,le_of_lt->rJ,one_shiftLeft->rL,lt_succ_self->sD,min_eq_right->sG,zero_or->uv,not_lt->wQ,le_of_eq->z4,min_self->Aa,testBit_lt_two_pow->Ae,mul_add->CK,or_lt_two_pow->Hx,le_succ_of_le->Hz,le_of_not_lt->HN
open Nat.succ renaming inj->Hr
open Ne renaming symm->dJ
open Option renaming map_eq_some_iff->af,bind_eq_some_iff->ao,bind_eq_bind->aH,getD_some->dh,getD_none->iY,map_some->jw,isSome_iff_exists->vc,bind_some->D1,map_map->Hy
open Option.some renaming inj->aG,injEq->ow
open Or renaming inl->rg
open PyProof.Rows renaming slot_tuple_getitem->iu,callWith_type1->iW,AllBare->mV,envOfC->oO,subscriptTail_builtinR->Em,IntsAre->Er
open PyProof.Rows.IsTup renaming new->Ek
open PySem renaming wpAny_bind->ah,Shared->aj,wpAny_pure->aJ,model->aP,mainGlobals->bp,Program->bx,compareOp->bF,wpAny_mono->bH,starEach->bN,World->bU,binaryOp->cw,Around->cy,wpAny_Call_Name_kw->dw,sysModules->dE,FuncData->dQ,mem_of_lookup->eS,wpAny_truthy_bool->eV,wpAny_loadPart_at->eY,wpAny_passesOwn->gv,inplaceOp->gJ,wpAny_holding->gK,wpAny_newObj_type->gO,swapsWith->iy,backTo->iC,attributeBase->iO,sizeLine_eq->iX,bootBuiltins->js,Within->jQ,Scope->kf,cLine->kh,wpAny_field->kj,sliceBounds->km,keywordEach->kn,excClassObj->ko,wpAny_execs_nil->lj,wpAny_isSubtype_exc->lC,codeAny_mono->lH,Operator->lY,codeAny->mW,wpAny_pyIter_list->mY,wpAny_standAt->m9,rawInt->oN,wpAny_call->oQ,letOwnedTupleGo->pd,wpAny_loadPart->qj,lookup_relabel_local->qp,Keyword->qY,assignEach->sC,typeLookup->sF,wpAny_assign_Name->uC,getItem->uD,callerA->uG,plainObj_wpAny_Assign_Attribute->vb,tupleKind->wu,assign->wx,noFill_tuple_add->wC,IsPart->wD,BindsTo->zR,valueAt->zS,bindArgs->z6,wpAny_setField->z8,methodCallForm->Ab,seq_tuple_add->Cu,call->Cw,wpAny_comprehension_free->Cy,Model->DS,PassesOwn->DT,bindL->DW,bindC->DX,noteFrame->DY,handedOut->D3,wpAny_pyNext_list_item->Ef,getAttr->Eg,setAttr->Eh,concat_meets->Ei,wpAny_typeOf->Ej,seqIndex_neg->El,Params->Ep,relabel->Et,wpAny_pyNext_list_end->Hq,GenState->HK,wpAny_loadName_local->HL,seqIndex_of->HM,codeAny_call_builtin->HP,unbindBehindTheSuite->HS,getAttr?->HU,boot_len->HV
open PySem.Around renaming under->yp,under_plainId->zX
open PySem.Calls renaming spliced_cons->ki,callWith_builtin->mL,spliced_nil->qk,Name_function_global->uB,evalArgs_plain->z7
open PySem.Code renaming isFrame->zQ,quiet_builtin->DZ
open PySem.EntryCells renaming newEntry->wO
open PySem.Expr renaming Name->Hs
open PySem.F renaming args_tuple_add_2->lu,entry_tuple_add->lF,slot_tuple_add->lZ,plainAttrs_str->l6,slot_dict_get->mM,slot_list_getattribute->mN,args_dict_get_3->vh,attr_ValueError->vi,plainAttrs_list->vk,entry_dict_get->wN
open PySem.Heap renaming get?_push_of_some->ay,lt_size->aK,get?_push_size->bu,get?_update_self->dX,get?_update_other->mX,get?_none_of_le->oB,SameBut->qX,size_push->va
open PySem.Heap.Ns1 renaming of_empty->z5
open PySem.NameKind renaming free->bM
open PySem.Obj renaming mapSeq->qm,data_mapFields->qo,isFreed_of_fields->By
open PySem.SeqAt renaming EqAt->uE,notIn_listAt->Cv
open PySem.SeqAt.EqAt renaming same->lG,int_str->nM,str_int->nN,none_bool->vd,bool_none->ve,bool_bool->vf,none_int->wF,none_str->wG,bool_int->wH,bool_str->wI,int_none->wJ,int_bool->wK,str_none->wL,str_bool->wM,int_int->yq,str_str->yr,of_refs->yt
open PySem.SeqAt.RcAt renaming tuples->yE
open PySem.Str renaming ofString->bX,length->Eo
open PySem.Value renaming ref->aO,none->dm,bool->iw,str->je,int->lX,builtin->pe,type->uA,float->z3
open PySem.W renaming Frag->aD,emptyDict->cJ,kia_one->cQ,findIn->dq,instObj->dv,InstAt->fY,findIn->ik,fnOf->jC,mg_of->kz,keepIn->ly,plainGet->lE,lookIn->m7,keepIn->m8,plainGet_of->oy,methodObj->pf,hasDictIn->ph,kitOne->qr,takerIn->rK,codeIn->sE,looks_findIn->uH,isFn->wz,cellsFrom_some->wB,KeysLit->zV,Looks->z9,callWith_K->Ac,plainOver->Bv,kitx_list->Bw,kitx_dict->Bx,handedIn->Ct,makesIn->DV,OpenLaw->Es,looks_clsIn->HQ,any_some->HR,callWith_K0->HX
open PySem.W.Looks renaming here->kq
open PySem.Within renaming cons->wA
open Sum renaming inr->fg,inl->rH
open Sum.inr renaming inj->yC
open True renaming intro->dS
set_option linter.all false
set_option Elab.async false
set_option maxRecDepth 100000
set_option maxHeartbeats 4000000
set_option genSizeOf false
set_option bootstrap.genMatcherCode false
set_option compiler.extract_closed false
noncomputable section
section
namespace L2
open PySem PySem.Spec PyProof.Rows
abbrev Key:=Sum Int Str
noncomputable def vn:Key->Value->Bool
 | .inl k,v=>Value.isInt k v
 | .inr x,v=>Value.isStrOf x v
noncomputable def SX(w:bU):Key->Int
 | .inl k=>hashInt k
 | .inr x=>hashStr w x
theorem dY:∀ {k:Key} {v:Value},vn k v=true->(∃i t,k=rH i/\v=lX i t)\/(∃x t,k=fg x/\v=je x t)
 | .inl i,v,h=>by
  obtain⟨t,e⟩:=Value.isInt_shape (k:=i) (v:=v) h;exact .inl ⟨i,t,rfl,e⟩
 | .inr x,v,h=>by
  obtain⟨t,e⟩:=Value.isStrOf_shape (x:=x) (v:=v) h;exact .inr ⟨x,t,rfl,e⟩
theorem CM(i:Int)(t:Tok):vn (.inl i) (.int i t)=true:=by simp[vn,Value.isInt]
theorem CN(x:Str)(t:Tok):vn (.inr x) (.str x t)=true:=by simp[vn,Value.isStrOf]
theorem Lj(a b:Int):decide ((rH a:Key)=rH b)=(a == b):=by
 by_cases e:a=b
 ·subst e;simp
 ·have h:¬(rH a:Key)=rH b:=fun q=>e (Sum.inl.inj q)
  rw[decide_eq_false h]
  exact(beq_eq_false_iff_ne.mpr e).symm
theorem Lk(a b:Str):decide ((fg a:Key)=fg b)=decide (a=b):=by
 by_cases e:a=b
 ·subst e;simp
 ·have h:¬(fg a:Key)=fg b:=fun q=>e (yC q)
  rw[decide_eq_false h,decide_eq_false e]
theorem Ll(a:Int)(b:Str):decide ((rH a:Key)=fg b)=false:=decide_eq_false (fun q=>nomatch q)
theorem Lm(a:Str)(b:Int):decide ((fg a:Key)=rH b)=false:=decide_eq_false (fun q=>nomatch q)
noncomputable def eH(prog:bx)(w:bU):PySem.KeyKind prog w Key where
 is:=vn
 hash:=SX w
 inj:=fun v a b ha hb=>by
  rcases dY ha with⟨i,t,rfl,rfl⟩ | ⟨x,t,rfl,rfl⟩
  ·rcases dY hb with⟨j,u,rfl,e⟩ | ⟨y,u,rfl,e⟩
   ·injection e with e1 _;rw[e1]
   ·exact nomatch e
  ·rcases dY hb with⟨j,u,rfl,e⟩ | ⟨y,u,rfl,e⟩
   ·exact nomatch e
   ·injection e with e1 _;rw[e1]
 byValue:=fun k v h=>by
  rcases dY h with⟨i,t,rfl,rfl⟩ | ⟨x,t,rfl,rfl⟩<;>rfl
 pyHash:=fun hv h=>by
  rcases dY hv with⟨i,t,rfl,rfl⟩ | ⟨x,t,rfl,rfl⟩
  ·exact wpAny_pyHash_int h
  ·exact wpAny_pyHash_str h
 eqBool:=fun hu hv h=>by
  rcases dY hu with⟨i,t,rfl,rfl⟩ | ⟨x,t,rfl,rfl⟩
  ·rcases dY hv with⟨j,u,rfl,rfl⟩ | ⟨y,u,rfl,rfl⟩
   ·rw[Lj] at h;exact wpAny_eqBool_int h
   ·rw[Ll] at h;exact nM i t y u _ _ _ _ h
  ·rcases dY hv with⟨j,u,rfl,rfl⟩ | ⟨y,u,rfl,rfl⟩
   ·rw[Lm] at h;exact nN x t j u _ _ _ _ h
   ·rw[Lk] at h;exact wpAny_eqBool_str h
 «strs»:=fun k x t v h=>by
  rcases dY h with⟨i,u,rfl,e⟩ | ⟨y,u,rfl,e⟩
  ·exact nomatch e
  ·injection e with e1 _
   subst e1;cases v<;>rfl
theorem yG(prog:bx)(w:bU)(i:Int)(t:Tok):(eH prog w).is (.inl i) (.int i t)=true:=CM i t
theorem yH(prog:bx)(w:bU)(x:Str)(t:Tok):(eH prog w).is (.inr x) (.str x t)=true:=CN x t
inductive V where
 | bQ | bl (b:Bool) | int (i:Int) | str (x:Str) | zY (b:Array UInt8) | Ln (b:UInt64) | ref (a:Addr) | ty (n:String)
 deriving DecidableEq
def RelV:V->Value->Prop
 | .bQ,u=>u=dm
 | .bl b,u=>u=iw b
 | .int i,u=>∃t,u=lX i t
 | .str x,u=>∃t,u=je x t
 | .zY b,u=>∃t,u=Value.bytes b t
 | .Ln b,u=>∃t,u=z3 b t
 | .ref a,u=>u=aO a
 | .ty n,u=>u=uA n
abbrev Vals:List V->List Value->Prop:=Paired RelV
theorem Vals.length{xs:List V}{us:List Value}(r:Vals xs us):xs.length=us.length:=Paired.length r
theorem Vals.get:∀ {xs:List V} {us:List Value} {i:Nat} {x:V},Vals xs us->xs[i]? = some x->∃u,us[i]? = some u/\RelV x u
 | _,_,_,_,.nil,e=>by simp at e
 | _,_,0,_,.cons r _,e=>by simp at e;subst e;exact⟨_,rfl,r⟩
 | _,_,i + 1,x,.cons _ t,e=>by
  obtain⟨u,h1,h2⟩:=Vals.get (i:=i) (x:=x) t (by simpa using e);exact⟨u,by simpa using h1,h2⟩
theorem Vals.set{x:V}{u:Value}(r:RelV x u):∀ {xs:List V} {us:List Value} (i:Nat),Vals xs us->Vals (xs.set i x) (us.set i u)
 | _,_,_,.nil=>.nil
 | _,_,0,.cons _ t=>.cons r t
 | _,_,i + 1,.cons q t=>.cons q (Vals.set r i t)
theorem Vals.append:∀ {xs ys:List V} {us ws:List Value},Vals xs us->Vals ys ws->Vals (xs ++ ys) (us ++ ws)
 | _,_,_,_,.nil,s=>s
 | _,_,_,_,.cons r t,s=>.cons r (Vals.append t s)
theorem Vals.take:∀ {xs:List V} {us:List Value} (n:Nat),Vals xs us->Vals (xs.take n) (us.take n)
 | _,_,0,_=>.nil
 | _,_,_ + 1,.nil=>.nil
 | _,_,n + 1,.cons r t=>.cons r (Vals.take n t)
theorem Vals.drop:∀ {xs:List V} {us:List Value} (n:Nat),Vals xs us->Vals (xs.drop n) (us.drop n)
 | _,_,0,r=>r
 | _,_,_ + 1,.nil=>.nil
 | _,_,n + 1,.cons _ t=>Vals.drop n t
def mO:Option V->Option Value->Prop
 | some v,some u=>RelV v u
 | none,none=>True
 | _,_=>False
def KV{κ:Type}:List (κ × V)->List (κ × Value)->Prop:=Paired fun(p:κ × V) (q:κ × Value)=>p.1=q.1/\RelV p.2 q.2
noncomputable def kV:Key->V
 | .inl i=>.int i
 | .inr x=>.str x
inductive HO where
 | lst (xs:List V)
 | tup (xs:List V)
 | dK (kvs:List (Key × V)) | dT (kvs:List (List Key × V))
 | set (S:Int->Bool) (n:Nat)
 | ins (C dx:Addr) (fs:List (Str × V))
 | own (x:Addr)
 | xd (fs:List (Str × V))
 | met (f x:Addr)
 | SY (lo hi:Int)
 | Af (o:Obj) (u:HO)
 | Lo (ps:Array Value)
 | ext (φ:Heap->Prop)
abbrev Hp:=Addr->Option HO
noncomputable def upd(H:Hp)(a:Addr)(o:HO):Hp:=fun b=>if b=a then some o else H b
theorem bE{H:Hp}{a:Addr}{o:HO}:upd H a o a=some o:=by unfold upd;rw[if_pos rfl]
theorem bq{H:Hp}{a b:Addr}{o:HO}(h:b≠a):upd H a o b=H b:=by unfold upd;rw[if_neg h]
theorem fk{H:Hp}{a b:Addr}{o:HO}(h:H a=some o)(h':H b=none):a≠b:=by
 intro e;subst e;rw[h] at h';cases h'
section
variable (P:bx) (w:bU)
def dZ(H:Hp)(h:Heap)(a:Addr):HO->Prop
 | .lst xs=>xs.length<=sizeLine/\∃(its:List Value) (n:Nat),Vals xs its/\h.get? a=some { cls:=.type "list",data:=.seq its.toArray n }
 | .tup xs=>xs.length<=sizeLine/\∃its:List Value,Vals xs its/\IsTup h a its.toArray
 | .dK kvs=>kvs.length<=sizeLine/\(a == dE)=false/\∃vs,KV kvs vs/\h.DictOf (eH P w) a vs
 | .dT kvs=>kvs.length<=sizeLine/\(a == dE)=false/\∃xs:List (List Key × Addr × Value),
   Paired (fun(p:List Key × V) (q:List Key × Addr × Value)=>p.1=q.1/\H q.2.1=some (.tup (p.1.map kV))/\RelV p.2 q.2.2) kvs xs /\
   ∃o es ep,h.get? a=some o/\o.ExactDict/\o.data = .dict es ep/\es.toList=xs.map (entryOfKey (wu (eH P w)))/\(xs.map (·.1)).Nodup
 | .set S n=>h.SetOf (intKind P w) a S n
 | .ins C dx fs=>H dx=some (.own a)/\fs.length<=1000/\dx≠a/\h.get? a=some (dv C dx) /\
   ∃mA,h.Ns1 dx mA/\(∀f,mO (fs.lookup f) (mA f))/\jQ mA (fs.map (·.1))
 | .own _=>∃o,h.get? a=some o
 | .xd fs=>∃mA,h.Ns1 a mA/\∀f,mO (fs.lookup f) (mA f)
 | .SY lo hi=>∃t u v,h.get? a=some { cls:=.type "range",data:=.fields #[.int lo t,.int hi u,.int 1 v] }
 | .Af o u=>h.get? a=some o/\dZ H h a u
 | .Lo ps=>h.get? a=some { cls:=.none,data:=.fields ps }
 | .met f x=>h.get? a=some (pf (.ref f) (.ref x))
 | .ext φ=>φ h/\(∃o,h.get? a=some o)/\∀h1 h2:Heap,φ h1->(∀o,h1.get? a=some o->h2.get? a=some o)->φ h2
def ng(H:Hp)(h:Heap):Prop:=∀a o,H a=some o->dZ P w H h a o
end
section
variable {P:bx} {w:bU} {H H':Hp} {h h':Heap} {a:Addr} {o:HO}
theorem dZ.lt(x:dZ P w H h a o):a < h.objs.size:=by
 cases o with
 | lst xs=>obtain⟨_,_,_,_,e⟩:=x;exact aK e
 | tup xs=>obtain⟨_,_,_,p⟩:=x;exact p.lt
 | dK kvs=>obtain⟨_,_,_,_,o,_,_,e,_⟩:=x;exact aK e
 | dT kvs=>obtain⟨_,_,_,_,o,_,_,e,_⟩:=x;exact aK e
 | set S n=>obtain⟨o,_,_,_,e,_⟩:=x;exact aK e
 | ins C dx fs=>obtain⟨_,_,_,e,_⟩:=x;exact aK e
 | own y=>obtain⟨_,e⟩:=x;exact aK e
 | xd fs=>obtain⟨_,⟨_,_,_,e,_⟩,_⟩:=x;exact aK e
 | SY lo hi=>obtain⟨_,_,_,e⟩:=x;exact aK e
 | Af ob u=>obtain⟨e,_⟩:=x;exact aK e
 | Lo ps=>exact aK (show h.get? a=some _ from x)
 | met f y=>exact aK (show h.get? a=some _ from x)
 | ext φ=>obtain⟨_,⟨_,e⟩,_⟩:=x;exact aK e
theorem Paired.OU{α β:Type}{F G:α->β->Prop}:∀ {l₁:List α} {l₂:List β},Paired F l₁ l₂->(∀a b,F a b->G a b)->Paired G l₁ l₂
 | _,_,.nil,_=>.nil
 | _,_,.cons r t,f=>.cons (f _ _ r) (Paired.OU t f)
theorem dZ.sH(x:dZ P w H h a o)(k:∀b u,(b=a\/H b=some (.own a))->h.get? b=some u->h'.get? b=some u)
  (ho:∀b,H b=some (.own a)->H' b=some (.own a)) (ht:∀b xs,H b=some (.tup xs)->H' b=some (.tup xs)):dZ P w H' h' a o:=by
 induction o with
 | lst xs=>obtain⟨z,its,n,r,e⟩:=x;exact⟨z,its,n,r,k _ _ (.inl rfl) e⟩
 | tup xs=>obtain⟨z,its,r,ob,e,c⟩:=x;exact⟨z,its,r,ob,k _ _ (.inl rfl) e,c⟩
 | dK kvs=>obtain⟨z,y,vs,r,ob,es,ep,e,c⟩:=x;exact⟨z,y,vs,r,ob,es,ep,k _ _ (.inl rfl) e,c⟩
 | dT kvs=>
  obtain⟨z,y,xs,r,ob,es,ep,e,c⟩:=x;exact⟨z,y,xs,Paired.OU r fun p q z=>⟨z.1,ht _ _ z.2.1,z.2.2⟩,ob,es,ep,k _ _ (.inl rfl) e,c⟩
 | set S n=>obtain⟨ob,es,ep,t,e,c⟩:=x;exact⟨ob,es,ep,t,k _ _ (.inl rfl) e,c⟩
 | ins C dx fs=>
  obtain⟨d,z,ne,e,mA,⟨od,es,ep,e2,c⟩,r⟩:=x;exact⟨ho _ d,z,ne,k _ _ (.inl rfl) e,mA,⟨od,es,ep,k _ _ (.inr d) e2,c⟩,r⟩
 | own y=>obtain⟨ob,e⟩:=x;exact⟨ob,k _ _ (.inl rfl) e⟩
 | xd fs=>obtain⟨mA,⟨od,es,ep,e,c⟩,r⟩:=x;exact⟨mA,⟨od,es,ep,k _ _ (.inl rfl) e,c⟩,r⟩
 | SY lo hi=>obtain⟨t,u,v,e⟩:=x;exact⟨t,u,v,k _ _ (.inl rfl) e⟩
 | Af ob u ih=>obtain⟨e,q⟩:=x;exact⟨k _ _ (.inl rfl) e,ih q⟩
 | Lo ps=>
  have e:h.get? a=some { cls:=.none,data:=.fields ps }:=x;show h'.get? a=some { cls:=.none,data:=.fields ps };exact k a _ (.inl rfl) e
 | met f y=>
  have e:h.get? a=some (pf (.ref f) (.ref y)):=x;show h'.get? a=some (pf (.ref f) (.ref y));exact k a _ (.inl rfl) e
 | ext φ=>obtain⟨p,⟨o,e⟩,st⟩:=x;exact⟨st _ _ p fun o q=>k _ _ (.inl rfl) q,⟨o,k _ _ (.inl rfl) e⟩,st⟩
theorem ng.lt(x:ng P w H h)(e:H a=some o):a < h.objs.size:=(x a o e).lt
theorem ng.fresh(x:ng P w H h)(e:h.objs.size<=a):H a=none:=by
 cases q:H a with
 | none=>rfl
 | some u=>exact absurd (aL (x.lt q) e) (dI _)
theorem ng.kept(x:ng P w H h)(k:∀b u,h.get? b=some u->h'.get? b=some u):ng P w H h':=fun a o e=>
 (x a o e).sH (fun b u _ q=>k b u q) (fun _ q=>q) fun _ _ q=>q
theorem ng.laid(x:ng P w H h)(k:∀b u,h.get? b=some u->h'.get? b=some u)(hp:h.objs.size<=a)(new:dZ P w (upd H a o) h' a o):ng P w (upd H a o) h':=fun b u e=>by
 have hn:=x.fresh hp;by_cases hb:b=a
 ·subst hb;rw[bE] at e;cases e;exact new
 ·rw[bq hb] at e
  exact(x b u e).sH (fun c v _ q=>k c v q) (fun c q=>by rw[bq (fk q hn)];exact q) fun c xs q=>by rw[bq (fk q hn)];exact q
end
def Rd(H:Hp)(a:Addr)(u:HO):Prop:=H a=some u\/∃o,H a=some (.Af o u)
theorem Rd.ok{P:bx}{w:bU}{H:Hp}{h:Heap}{a:Addr}{u:HO}(r:Rd H a u)(x:ng P w H h):dZ P w H h a u:=by
 rcases r with r | ⟨o,r⟩
 ·exact x a u r
 ·obtain⟨_,q⟩:=x a _ r
  exact q
def Se:Option HO->Prop
 | some (.lst _)=>True
 | some (.dK _)=>True
 | some (.dT _)=>True
 | some (.set _ _)=>True
 | some (.ins _ _ _)=>True
 | some (.ext _)=>True
 | _=>False
section
variable {P:bx} {w:bU} {H:Hp} {h h':Heap} {x e:Addr} {o':HO}
theorem ng.write(ok:ng P w H h)(mu:Se (H x))(he:e=x\/H e=some (.own x))(k:∀b u,b≠e->h.get? b=some u->h'.get? b=some u)(heo:∃u,h'.get? e=some u)
  (new:dZ P w (upd H x o') h' x o'):ng P w (upd H x o') h':=fun b u q=>by
 have nown:∀c y,H c=some (.own y)->c≠x:=fun c y r z=>by subst z;rw[r] at mu;exact mu
 have ntup:∀c xs,H c=some (.tup xs)->c≠x:=fun c xs r z=>by subst z;rw[r] at mu;exact mu
 by_cases hb:b=x
 ·subst hb;rw[bE] at q;cases q;exact new
 ·rw[bq hb] at q
  by_cases hbe:b=e
  ·have q':H b=some (.own x):=by
    rcases he with z | z
    ·exact absurd (hbe.trans z) hb
    ·rw[hbe];exact z
   rw[q] at q';cases q';obtain⟨v,hv⟩:=heo;exact⟨v,by rw[hbe];exact hv⟩
  ·refine(ok b u q).sH (fun c v hc r=>k c v ?_ r) (fun c r=>by rw[bq (nown c b r)];exact r) fun c xs r=>by rw[bq (ntup c xs r)];exact r
   rcases hc with rfl | hc
   ·exact hbe
   ·rintro rfl
    rcases he with z | z
    ·exact nown c b hc z
    ·rw[hc] at z;cases z;exact hb rfl
end
structure Un (fs ex:List Addr) (H H':Hp) (h h':Heap):Prop where
 keep:∀b o,h.get? b=some o->H b=none->b ∉ fs->b ∉ ex->h'.get? b=some o
 slot:∀b o,h.get? b=some o->H b=none->b∈fs->b ∉ ex->∃sl,h'.get? b=some { o with slots:=sl }
 free:∀b o,h.get? b=some o->H b=none->b ∉ ex->H' b=none
 there:∀b o,h.get? b=some o->b ∉ ex->∃o',h'.get? b=some o'
 wU:∀b xs,H b=some (.tup xs)->H' b=some (.tup xs)
 uI:∀b o u,H b=some (.Af o u)->H' b=some (.Af o u)
 wV:∀b ps,H b=some (.Lo ps)->∃more,H' b=some (.Lo (ps ++ more))
section
variable {fs fs' ex ex':List Addr} {H H1 H2:Hp} {h h1 h2 h':Heap} {a x e:Addr} {o:HO}
theorem Un.any(u:Un fs ex H H1 h h1){b:Addr}{ob:Obj}(q:h.get? b=some ob)(n:H b=none)(hx:b ∉ ex):∃sl,h1.get? b=some { ob with slots:=sl }:=by
 by_cases hb:b∈fs
 ·exact u.slot b ob q n hb hx
 ·exact⟨ob.slots,u.keep b ob q n hb hx⟩
theorem Un.kept(k:∀b u,h.get? b=some u->h'.get? b=some u):Un fs ex H H h h':=
 ⟨fun b ob q _ _ _=>k b ob q,fun b ob q _ _ _=>⟨ob.slots,k b ob q⟩,fun _ _ _ n _=>n,fun b ob q _=>⟨ob,k b ob q⟩,fun _ _ q=>q,fun _ _ _ q=>q,fun _ ps q=>⟨#[],by rw[q];simp⟩⟩
theorem Un.refl:Un fs ex H H h h:=Un.kept fun _ _ q=>q
theorem Un.laid(k:∀b u,h.get? b=some u->h'.get? b=some u)(hp:h.objs.size<=a)(hn:H a=none):Un fs ex H (upd H a o) h h' where
 keep:=fun b u q _ _ _=>k b u q
 slot:=fun b u q _ _ _=>⟨u.slots,k b u q⟩
 free:=fun b u q n _=>by rw[bq (bV (aL (aK q) hp))];exact n
 there:=fun b u q _=>⟨u,k b u q⟩
 wU:=fun b xs q=>by rw[bq (fk q hn)];exact q
 uI:=fun b u xs q=>by rw[bq (fk q hn)];exact q
 wV:=fun b ps q=>⟨#[],by rw[bq (fk q hn),q];simp⟩
theorem Un.write(mu:Se (H x))(he:e=x\/H e=some (.own x))(k:∀b u,b≠e->h.get? b=some u->h'.get? b=some u)(heo:∃u,h'.get? e=some u):Un fs ex H (upd H x o) h h':=by
 have hx:∀b,H b=none->b≠x:=fun b n z=>by subst z;rw[n] at mu;exact mu
 have hb:∀b,H b=none->b≠e:=fun b n z=>by
  subst z;rcases he with r | r
  ·exact hx b n r
  ·rw[n] at r;cases r
 have hm:∀b u,H b=some u->¬Se (some u)->b≠x:=fun b u q nm z=>by subst z;rw[q] at mu;exact nm mu
 refine⟨fun b u q n _ _=>k b u (hb b n) q,fun b u q n _ _=>⟨u.slots,k b u (hb b n) q⟩,fun b u q n _=>by rw[bq (hx b n)];exact n,fun b u q _=>?_,
  fun b xs q=>by rw[bq (hm b _ q fun z=>z)];exact q,fun b u xs q=>by rw[bq (hm b _ q fun z=>z)];exact q,fun b ps q=>⟨#[],by rw[bq (hm b _ q fun z=>z),q];simp⟩⟩
 by_cases hbe:b=e
 ·subst hbe;exact heo
 ·exact⟨u,k b u hbe q⟩
end
noncomputable def Sf(h:Heap)(H:Hp):List Addr:=(cv h.objs.size).filter fun a=>(H a).isSome
noncomputable def wW(h:Heap)(H:Hp):Heap:=PySem.W.hideAll h (Sf h H)
theorem CO(h:Heap)(H:Hp):(wW h H).objs.size=h.objs.size:=PySem.W.hideAll_size _ _
theorem EB{h:Heap}{H:Hp}{b:Addr}{o:Obj}(e:h.get? b=some o)(n:H b=none):(wW h H).get? b=some o:=
 PySem.W.hideAll_get _ e fun hm=>by
  have q:(H b).isSome=true:=(d8.mp hm).2;rw[n] at q;simp at q
theorem HZ{h:Heap}{H:Hp}{b:Addr}{o:Obj}(e:(wW h H).get? b=some o):h.get? b=some o/\H b=none:=by
 have e':h.get? b=some o:=PySem.W.of_hideAll (Sf h H) e;refine⟨e',?_⟩;cases q:H b with
 | none=>rfl
 | some x=>
  have hm:b∈Sf h H:=d8.mpr ⟨u9.mpr (aK e'),by simp[q]⟩;have z:(wW h H).get? b=none:=PySem.W.hideAll_none (Sf h H) hm;rw[z] at e;cases e
noncomputable def nQ(g h:Heap)(L:Addr):List (Addr × Obj):=(cv h.objs.size).filterMap fun a=>if a=L\/(g.get? a).isSome=true then none else(h.get? a).map fun o=>(a,o)
theorem yI{g h:Heap}{L a:Addr}{o:Obj}(h1:a≠L)(h2:g.get? a=none)(h3:h.get? a=some o):(a,o)∈nQ g h L:=
 kD.mpr ⟨a,u9.mpr (aK h3),by simp[h1,h2,h3]⟩
theorem sI{g h:Heap}{L:Addr}{p:Addr × Obj}(hp:p∈nQ g h L):p.1≠L/\g.get? p.1=none/\h.get? p.1=some p.2:=by
 obtain⟨b,_,e⟩:=kD.mp hp;split at e
 ·cases e
 ·rename_i hn
  cases q:h.get? b with
  | none=>rw[q] at e;simp at e
  | some u=>
   rw[q] at e;simp only[jw,ow] at e;subst e;refine⟨fun z=>hn (.inl z),?_,q⟩;show g.get? b=none;cases r:g.get? b with
   | none=>rfl
   | some v=>exact(hn (.inr (by simp[r]))).elim
noncomputable def rest(g h:Heap)(L d:Addr):List (Addr × Obj):=(nQ g h L).filter fun p=>decide (p.1≠d)
theorem EC{g h:Heap}{L:Addr}:News g L h (nQ g h L):=fun p hp=>let ⟨a,b,c⟩:=sI hp;⟨c,a,b⟩
structure Mod (K:aD) (mg:Str->Option Value) (base:Heap):Prop where
 OF:K.In base
 glob:base.Ns bp mg
 blt:∃mb,base.Ns builtinsNs mb/\∀x:Str,x≠"__name__"->mb x=js x
 nolimit:base.NoLimit
structure Cx where
 prog:bx
 w:bU
 K:aD
 mg:Str->Option Value
 base:Heap
 A:cy
 N:List Str
 s₀:aj
 H₀:Hp
 env:Env
 outer:List Env
 stack:List Env
 ex:List Addr
 fn:Str->Bool
 calm:Bool
 pn:List (Addr × Obj)
 xe:Value->aj->Prop
noncomputable def uJ(l:List Env):List Addr:=l.filterMap (·.frame)
noncomputable abbrev Cx.fs(X:Cx):List Addr:=uJ X.outer
def HA(sc:kf)(x:Str):Prop:=sc.names.lookup x=some .local\/sc.names.lookup x=some .cell\/sc.names.lookup x=some .free
def Loc(sc:kf)(x:Str):Prop:=sc.names.lookup x=some .local\/sc.names.lookup x=some .cell
def Look(env:Env)(h:Heap)(m:Str->Option Value)(x:Str)(u:Value):Prop:=
 (env.kindOf x=some .local/\m x=some u)\/((env.kindOf x=some .cell\/env.kindOf x=some .free)/\∃c,env.cells.lookup x=some c/\h.IsCell c (some u))
structure Cx.Ok (X:Cx):Prop where
 mod:Mod X.K X.mg X.base
 kind:X.env.scope.kind = .function
 glob:X.env.globals=bp
 blt:X.env.builtins=builtinsNs
 above:X.s₀.heap.objs.size<=X.env.locals
 inj:∀x y c,X.env.cells.lookup x=some c->X.env.cells.lookup y=some c->x=y
 has:∀x,(X.env.kindOf x=some .cell\/X.env.kindOf x=some .free)->∃c,X.env.cells.lookup x=some c
 KC:∀x c,X.fn x=true->X.env.cells.lookup x=some c->X.s₀.heap.objs.size<=c
 hd:X.calm=true->X.A.handled=none
 frames:X.A.frames=some X.stack
 CP:X.stack=X.outer\/(X.stack=X.env::X.outer/\X.env.frame=some X.env.locals)
 OV:∀b∈X.ex,b≠X.env.locals/\∀x c,X.env.cells.lookup x=some c->c≠b
 bs:∀b o,X.base.get? b=some o->X.s₀.heap.get? b=some o/\X.H₀ b=none
 D9:X.base.objs.size<=X.s₀.heap.objs.size
 yJ:∀b o,X.base.get? b=some o->b ∉ X.ex
 Ag:∀b∈X.ex,b ∉ X.fs
 oR:X.s₀.heap.FunFrames X.base X.outer
 HB:∀b∈X.fs,X.H₀ b=none
structure Inv (X:Cx) (pZ:List (Addr × Obj)) (σ:List (Option V)) (H:Hp) (s:aj):Prop where
 ok:X.Ok
 os:s.os=X.s₀.os
 bare:mV s.gens
 base:Un X.fs X.ex X.H₀ H X.s₀.heap s.heap
 loc:∃m,s.heap.Ns X.env.locals m/\∀(i:Nat) (x:Str) (v:V),X.N[i]? = some x->σ[i]? = some (some v)->HA X.env.scope x->∃u,RelV v u/\Look X.env s.heap m x u
 cell:∀x c,X.env.cells.lookup x=some c->∃v,s.heap.IsCell c v
 free:H X.env.locals=none
 jS:∀x c,X.env.cells.lookup x=some c->H c=none
 pin:∀p∈X.pn ++ pZ,s.heap.get? p.1=some p.2/\H p.1=none/\p.1≠X.env.locals/\p.1 ∉ X.fs/\∀v,p.2.data≠.cell v
 dj:ng X.prog X.w H s.heap
 len:σ.length=X.N.length
section
variable {X:Cx} {pZ:List (Addr × Obj)} {σ:List (Option V)} {H H':Hp} {s:aj} {h':Heap}
theorem Cx.Ok.Ta(ok:X.Ok){b:Addr}{o:Obj}(e:X.base.get? b=some o):b ∉ X.fs:=fun hb=>by
 have:=(ok.oR.mem hb).1;rw[e] at this;cases this
theorem Inv.bs(I:Inv X pZ σ H s):∀b o,X.base.get? b=some o->s.heap.get? b=some o/\H b=none:=fun b o e=>
 ⟨I.base.keep b o (I.ok.bs b o e).1 (I.ok.bs b o e).2 (I.ok.Ta e) (I.ok.yJ b o e),I.base.free b o (I.ok.bs b o e).1 (I.ok.bs b o e).2 (I.ok.yJ b o e)⟩
theorem Inv.bk(I:Inv X pZ σ H s):∀b o,X.base.get? b=some o->s.heap.get? b=some o:=fun b o e=>(I.bs b o e).1
theorem Inv.mod(I:Inv X pZ σ H s):Mod X.K X.mg X.base:=I.ok.mod
theorem Inv.kA(I:Inv X pZ σ H s):X.K.In s.heap:=I.ok.mod.OF.keeps I.bk
theorem Inv.fr(I:Inv X pZ σ H s):∃m,Fr X.base X.env.locals s.heap m:=
 let ⟨m,hn,_⟩:=I.loc
 ⟨m,hn,I.bk,aR I.ok.D9 I.ok.above⟩
theorem Inv.lt(I:Inv X pZ σ H s):X.env.locals < s.heap.objs.size:=let ⟨_,hn,_⟩:=I.loc;hn.lt
theorem Inv.sz(I:Inv X pZ σ H s):X.s₀.heap.objs.size<=s.heap.objs.size:=aR I.ok.above (rJ I.lt)
theorem Inv.Tc(I:Inv X pZ σ H s){a:Addr}(h:s.heap.objs.size<=a):a ∉ X.fs:=fun hb=>by
 obtain⟨_,o,ho,_⟩:=I.ok.oR.mem hb;exact absurd (aL (aK ho) (aR I.sz h)) (dI _)
theorem Inv.H0(I:Inv X pZ σ H s):∀x c,X.env.cells.lookup x=some c->c≠X.env.locals:=fun x c e z=>by
 obtain⟨v,o,ho,hd⟩:=I.cell x c e;obtain⟨m,⟨o',es,ep,ho',hd',_⟩,_⟩:=I.loc;rw[z,ho'] at ho;cases ho;rw[hd'] at hd;cases hd
theorem Inv.oR(I:Inv X pZ σ H s):s.heap.FunFrames X.base X.outer:=by
 have all:∀(l:List Env),(∀b∈uJ l,b∈X.fs)->X.s₀.heap.FunFrames X.base l->s.heap.FunFrames X.base l:=by
  intro l;induction l with
  | nil=>intro _ _;trivial
  | cons env r ih=>
   intro hs hl;obtain⟨hk,⟨L,o,hf,hn,ho,hd⟩,hr⟩:=hl;have hL:L∈X.fs:=hs L (by unfold uJ;rw[eU,hf];exact ba);obtain⟨sl,e⟩:=I.base.slot L o ho (I.ok.HB L hL) hL fun z=>I.ok.Ag L z hL
   exact⟨hk,⟨L,_,hf,hn,e,hd⟩,ih (fun b hb=>hs b (by unfold uJ;rw[eU,hf];exact aS _ hb)) hr⟩
 exact all X.outer (fun _ hb=>hb) I.ok.oR
theorem Inv.stack(I:Inv X pZ σ H s):s.heap.FunFrames X.base X.stack:=by
 rcases I.ok.CP with e | ⟨e,hf⟩
 ·rw[e];exact I.oR
 ·rw[e]
  obtain⟨m,hn,_⟩:=I.loc;refine .cons (by rw[I.ok.kind];decide) hf hn ?_ I.oR;exact oB (aR I.ok.D9 I.ok.above)
theorem Inv.sJ(I:Inv X pZ σ H s):∀b∈uJ X.stack,b∈X.env.locals::X.fs:=fun b hb=>by
 rcases I.ok.CP with e | ⟨e,hf⟩
 ·rw[e] at hb;exact aS _ hb
 ·rw[e] at hb
  unfold uJ at hb;rw[eU,hf] at hb;exact hb
theorem Inv.wX(I:Inv X pZ σ H s):∀b∈uJ X.stack,H b=none:=fun b hb=>by
 rcases aX.mp (I.sJ b hb) with e | hb
 ·rw[e];exact I.free
 ·obtain⟨_,o,ho,_⟩:=I.ok.oR.mem hb
  exact I.base.free b o ho (I.ok.HB b hb) fun z=>I.ok.Ag b z hb
theorem Inv.step{g':Array HK}{t':Nat}{d':Drawn}{ch:List Addr}(I:Inv X pZ σ H s)
  (hch:∀b∈ch,(b∈X.ex\/X.s₀.heap.objs.size<=b)/\b≠X.env.locals/\(∀x c,X.env.cells.lookup x=some c->c≠b)/\∀p∈X.pn ++ pZ,p.1≠b)
  (keep:∀b o,b≠X.env.locals->b ∉ X.fs->b ∉ ch->s.heap.get? b=some o->H b=none->h'.get? b=some o)
  (slot:∀b o,b≠X.env.locals->b∈X.fs->b ∉ ch->s.heap.get? b=some o->H b=none->∃sl,h'.get? b=some { o with slots:=sl }) (free:∀b o,b ∉ ch->s.heap.get? b=some o->H b=none->H' b=none)
  (there:∀b o,b ∉ ch->s.heap.get? b=some o->∃o',h'.get? b=some o')
  (wU:∀b xs,H b=some (.tup xs)->H' b=some (.tup xs)) (uI:∀b o u,H b=some (.Af o u)->H' b=some (.Af o u)) (wV:∀b ps,H b=some (.Lo ps)->∃more,H' b=some (.Lo (ps ++ more)))
  (ns:∀m,s.heap.Ns X.env.locals m->h'.Ns X.env.locals m) (dj:ng X.prog X.w H' h') (hg:mV g'):
  Inv X pZ σ H' { s with heap:=h',gens:=g',drawn:=d',toks:=t' }:=by
 have neL:∀b o,X.s₀.heap.get? b=some o->b≠X.env.locals:=fun b o e=>bV (aL (aK e) I.ok.above)
 have neC:∀b o,X.s₀.heap.get? b=some o->b ∉ X.ex->b ∉ ch:=fun b o e hx hb=>by
  rcases(hch b hb).1 with z | z
  ·exact hx z
  ·exact absurd (aL (aK e) z) (dI _)
 have cellK:∀x c,X.env.cells.lookup x=some c->∀v,s.heap.IsCell c v->h'.IsCell c v:=fun x c e v ⟨o,ho,hd⟩=>by
  have nch:c ∉ ch:=fun z=>(hch c z).2.2.1 x c e rfl
  by_cases hc:c∈X.fs
  ·obtain⟨sl,q⟩:=slot c o (I.H0 x c e) hc nch ho (I.jS x c e)
   exact⟨_,q,hd⟩
  ·exact⟨o,keep c o (I.H0 x c e) hc nch ho (I.jS x c e),hd⟩
 refine⟨I.ok,I.os,hg,⟨fun b o e n hb hx=>?_,fun b o e n hb hx=>?_,fun b o e n hx=>?_,fun b o e hx=>?_,fun b xs e=>wU b xs (I.base.wU b xs e),fun b o xs e=>uI b o xs (I.base.uI b o xs e),fun b ps e=>?_⟩,?_,fun x c e=>?_,?_,fun x c e=>?_,fun p hp=>?_,dj,I.len⟩
 ·exact keep b o (neL b o e) hb (neC b o e hx) (I.base.keep b o e n hb hx) (I.base.free b o e n hx)
 ·obtain⟨sl,e1⟩:=I.base.slot b o e n hb hx
  obtain⟨sl',e2⟩:=slot b _ (neL b o e) hb (neC b o e hx) e1 (I.base.free b o e n hx);exact⟨sl',e2⟩
 ·obtain⟨o',e1⟩:=I.base.there b o e hx
  exact free b o' (neC b o e hx) e1 (I.base.free b o e n hx)
 ·obtain⟨o',e1⟩:=I.base.there b o e hx
  exact there b o' (neC b o e hx) e1
 ·obtain⟨m1,e1⟩:=I.base.wV b ps e
  obtain⟨m2,e2⟩:=wV b _ e1;exact⟨m1 ++ m2,by rw[e2,Array.append_assoc]⟩
 ·obtain⟨m,hn,hl⟩:=I.loc
  refine⟨m,ns m hn,fun i x v e1 e2 e3=>?_⟩;obtain⟨u,r,l⟩:=hl i x v e1 e2 e3;refine⟨u,r,?_⟩;rcases l with l | ⟨k,c,e,z⟩
  ·exact .inl l
  ·exact .inr ⟨k,c,e,cellK x c e _ z⟩
 ·obtain⟨v,z⟩:=I.cell x c e
  exact⟨v,cellK x c e v z⟩
 ·obtain⟨m,⟨o,_,_,ho,_⟩,_⟩:=I.loc
  exact free _ o (fun z=>(hch _ z).2.1 rfl) ho I.free
 ·obtain⟨v,o,ho,hd⟩:=I.cell x c e
  exact free c o (fun z=>(hch c z).2.2.1 x c e rfl) ho (I.jS x c e)
 ·obtain⟨e,n,ne,nf,d⟩:=I.pin p hp
  have nch:p.1 ∉ ch:=fun z=>(hch p.1 z).2.2.2 p hp rfl
  exact⟨keep p.1 p.2 ne nf nch e n,free p.1 p.2 nch e n,ne,nf,d⟩
theorem Inv.un{t':Nat}(I:Inv X pZ σ H s)(u:Un X.fs [] H H' s.heap h')(dj:ng X.prog X.w H' h'):Inv X pZ σ H' { s with heap:=h',toks:=t' }:=by
 obtain⟨m,⟨o,es,ep,ho,r⟩,_⟩:=id I.loc;obtain⟨sl,hL⟩:=u.any ho I.free (by simp);exact I.step (g':=s.gens) (d':=s.drawn) (ch:=[]) (fun _ z=>nomatch z) (fun b o _ hb _ e n=>u.keep b o e n hb (by simp)) (fun b o _ hb _ e n=>u.slot b o e n hb (by simp)) (fun b o _ e n=>u.free b o e n (by simp)) (fun b o _ e=>u.there b o e (by simp)) u.wU u.uI u.wV (fun m' hm=>by
  obtain⟨o',es',ep',ho',r'⟩:=hm;rw[ho] at ho';cases ho';exact⟨_,es',ep',hL,r'⟩) dj I.bare
theorem Inv.call{g':Array HK}{t':Nat}{d':Drawn}{ch:List Addr}(I:Inv X pZ σ H s)(u:Un (uJ X.stack) ch H H' s.heap h')(dj:ng X.prog X.w H' h')(hg:mV g')
  (hch:∀b∈ch,(b∈X.ex\/X.s₀.heap.objs.size<=b)/\b≠X.env.locals/\(∀x c,X.env.cells.lookup x=some c->c≠b)/\∀p∈X.pn ++ pZ,p.1≠b):
  Inv X pZ σ H' { s with heap:=h',gens:=g',drawn:=d',toks:=t' }:=by
 obtain⟨m,⟨o,es,ep,ho,r⟩,_⟩:=id I.loc;obtain⟨sl,hL⟩:=u.any ho I.free fun z=>(hch _ z).2.1 rfl
 exact I.step (ch:=ch) hch (fun b o hL hb hc e n=>u.keep b o e n (fun z=>(aX.mp (I.sJ b z)).elim hL hb) hc) (fun b o _ _ hc e n=>u.any e n hc) (fun b o hc e n=>u.free b o e n hc) (fun b o hc e=>u.there b o e hc) u.wU u.uI u.wV (fun m' hm=>by
  obtain⟨o',es',ep',ho',r'⟩:=hm;rw[ho] at ho';cases ho';exact⟨_,es',ep',hL,r'⟩) dj hg
theorem Inv.turned{t':Nat}{it:Addr}(I:Inv X pZ σ H s)(k:∀b o,b≠it->s.heap.get? b=some o->h'.get? b=some o)(hn:H it=none)(hL:it≠X.env.locals)
  (h1:it∈X.ex\/X.s₀.heap.objs.size<=it) (h2:∀x c,X.env.cells.lookup x=some c->c≠it) (h3:∀p∈X.pn ++ pZ,p.1≠it):Inv X pZ σ H { s with heap:=h',toks:=t' }:=by
 have nit:∀b u,H b=some u->b≠it:=fun b u e z=>by rw[z,hn] at e;cases e
 refine I.step (g':=s.gens) (d':=s.drawn) (ch:=[it]) (fun b hb=>?_) (fun b o _ _ hc e _=>k b o (fun z=>hc (by simp[z])) e) (fun b o _ _ hc e _=>⟨o.slots,k b o (fun z=>hc (by simp[z])) e⟩) (fun _ _ _ _ n=>n)
  (fun b o hc e=>⟨o,k b o (fun z=>hc (by simp[z])) e⟩) (fun _ _ e=>e) (fun _ _ _ e=>e) (fun b ps e=>⟨#[],by rw[e];simp⟩) (fun m hm=>?_) (fun b u e=>?_) I.bare
 ·have e:b=it:=by simpa using hb
  subst e;exact⟨h1,hL,h2,h3⟩
 ·obtain⟨o,es,ep,ho,r⟩:=hm
  exact⟨o,es,ep,k _ o (dJ hL) ho,r⟩
 ·refine(I.dj b u e).sH (fun c v hc q=>k c v ?_ q) (fun _ q=>q) fun _ _ q=>q
  rcases hc with z | z
  ·rw[z];exact nit b u e
  ·exact nit c _ z
theorem Inv.tok(I:Inv X pZ σ H s)(t:Nat):Inv X pZ σ H { s with toks:=t }:=I.un (h':=s.heap) (t':=t) Un.refl I.dj
theorem Inv.kept{t':Nat}(I:Inv X pZ σ H s)(k:∀b u,s.heap.get? b=some u->h'.get? b=some u):Inv X pZ σ H { s with heap:=h',toks:=t' }:=I.un (Un.kept k) (I.dj.kept k)
theorem Inv.laid{a:Addr}{o:HO}{t':Nat}(I:Inv X pZ σ H s)(k:∀b u,s.heap.get? b=some u->h'.get? b=some u)(hp:s.heap.objs.size<=a)(new:dZ X.prog X.w (upd H a o) h' a o):
  Inv X pZ σ (upd H a o) { s with heap:=h',toks:=t' }:=I.un (Un.laid k hp (I.dj.fresh hp)) (I.dj.laid k hp new)
theorem Inv.write{x e:Addr}{o:HO}{t':Nat}(I:Inv X pZ σ H s)(mu:Se (H x))(he:e=x\/H e=some (.own x))(k:∀b u,b≠e->s.heap.get? b=some u->h'.get? b=some u)(heo:∃u,h'.get? e=some u)
  (new:dZ X.prog X.w (upd H x o) h' x o):Inv X pZ σ (upd H x o) { s with heap:=h',toks:=t' }:=I.un (Un.write mu he k heo) (I.dj.write mu he k heo new)
theorem Inv.BA{pins':List (Addr × Obj)}(I:Inv X pZ σ H s)(h:∀p∈pins',s.heap.get? p.1=some p.2/\H p.1=none/\p.1≠X.env.locals/\p.1 ∉ X.fs/\∀v,p.2.data≠.cell v):Inv X pins' σ H s:=
 ⟨I.ok,I.os,I.bare,I.base,I.loc,I.cell,I.free,I.jS,fun p hp=>(aQ.mp hp).elim (fun z=>I.pin p (bO _ z)) (h p),I.dj,I.len⟩
theorem sM{N:List Str}(hN:N.Nodup){i j:Nat}{x:Str}(a:N[i]? = some x)(b:N[j]? = some x):i=j:=by
 obtain⟨h1,e1⟩:=ae.mp a;obtain⟨h2,e2⟩:=ae.mp b;exact(Ho hN).mp (e1.trans e2.symm)
theorem vo{M:DS}{A:cy}{E:Value->aj->Prop}{i:Nat}{x:Str}{v:V}{u:Value}{Q:Unit->aj->Prop}(I:Inv X pZ σ H s)(hN:X.N.Nodup)(hi:X.N[i]? = some x)(hx:Loc X.env.scope x)(r:RelV v u)
  (h:∀s',Inv X pZ (σ.set i (some v)) H s'->(∃a,qX a s.heap s'.heap/\(a=X.env.locals\/X.env.cells.lookup x=some a))->Q () s') (hf:X.fn x=true\/X.env.scope.names.lookup x=some .local:=by first | exact .inl rfl | exact .inr rfl | assumption):wpAny M A (storeName X.env x u) Q E s:=by
 obtain⟨m,hn,hl⟩:=id I.loc;have hcls:(X.env.scope.kind == .class || (X.env.scope.kind == .module && X.env.locals != X.env.globals))=false:=by rw[I.ok.kind];rfl
 have hiσ:i < σ.length:=by rw[I.len];exact(ae.mp hi).1
 have H0:=I.H0;have tracked:∀ {a:Addr} {h':Heap},(∃o,s.heap.get? a=some o/\H a=none)->qX a s.heap h'->ng X.prog X.w H h':=fun {a h'} ha hs b ob e=>by
  obtain⟨_,_,hfree⟩:=ha;refine(I.dj b ob e).sH (fun c w' hc q=>(hs.2 c ?_).trans q) (fun _ q=>q) fun _ _ q=>q
  rintro rfl;rcases hc with rfl | hc
  ·rw[hfree] at e;cases e
  ·rw[hfree] at hc;cases hc
 rcases hx with hk | hk
 ·refine wpAny_storeName_local hk hn (fun h' hn' hs=>?_) hcls
  obtain⟨oL,_,_,hoL,_⟩:=id hn;refine h _ ⟨I.ok,I.os,I.bare,⟨fun b o e n hb hx=>?_,fun b o e n hb hx=>?_,I.base.free,fun b o e hx=>?_,I.base.wU,I.base.uI,I.base.wV⟩,⟨_,hn',fun j y v' e1 e2 e3=>?_⟩,fun y c e=>?_,I.free,I.jS,fun p hp=>?_,tracked ⟨oL,hoL,I.free⟩ hs,by simpa using I.len⟩ ⟨_,hs,.inl rfl⟩
  ·exact(hs.2 b (bV (aL (aK e) I.ok.above))).trans (I.base.keep b o e n hb hx)
  ·obtain⟨sl,e1⟩:=I.base.slot b o e n hb hx
   exact⟨sl,(hs.2 b (bV (aL (aK e) I.ok.above))).trans e1⟩
  ·obtain⟨o',e1⟩:=I.base.there b o e hx
   exact⟨o',(hs.2 b (bV (aL (aK e) I.ok.above))).trans e1⟩
  ·by_cases hj:j=i
   ·subst hj
    rw[hi] at e1;cases e1;rw[bP hiσ] at e2;cases e2;exact⟨u,r,.inl ⟨hk,by simp⟩⟩
   ·rw[au (dJ hj)] at e2
    obtain⟨u',r',q⟩:=hl j y v' e1 e2 e3;refine⟨u',r',?_⟩;rcases q with⟨k,e⟩ | ⟨k,c,e,z⟩
    ·refine .inl ⟨k,?_⟩
     have:y≠x:=fun e=>hj (sM hN e1 (e ▸ hi))
     simp[this,e]
    ·exact .inr ⟨k,c,e,z.sameBut hs (H0 y c e)⟩
  ·obtain⟨w',z⟩:=I.cell y c e
   exact⟨w',z.sameBut hs (H0 y c e)⟩
  ·obtain⟨e,n,ne,nf,d⟩:=I.pin p hp
   exact⟨(hs.2 p.1 ne).trans e,n,ne,nf,d⟩
 ·have hfn:X.fn x=true:=by
   rcases hf with z | z
   ·exact z
   ·rw[z] at hk;cases hk
  obtain⟨c,hc⟩:=I.ok.has x (.inl hk);obtain⟨w',z⟩:=I.cell x c hc;refine wpAny_storeName_cell I.ok.kind hk hc z (fun h' hc' hs=>?_);obtain⟨oc,hoc,hocd⟩:=id z;refine h { s with heap:=h' } ⟨I.ok,I.os,I.bare,⟨fun b o e n hb hx=>?_,fun b o e n hb hx=>?_,I.base.free,fun b o e hx=>?_,I.base.wU,I.base.uI,I.base.wV⟩,⟨m,hn.sameBut hs (dJ (H0 x c hc)),fun j y v' e1 e2 e3=>?_⟩,fun y c' e=>?_,I.free,I.jS,fun p hp=>?_,tracked ⟨oc,hoc,I.jS x c hc⟩ hs,by simpa using I.len⟩ ⟨c,hs,.inr hc⟩
  ·exact(hs.2 b (bV (aL (aK e) (I.ok.KC x c hfn hc)))).trans (I.base.keep b o e n hb hx)
  ·obtain⟨sl,e1⟩:=I.base.slot b o e n hb hx
   exact⟨sl,(hs.2 b (bV (aL (aK e) (I.ok.KC x c hfn hc)))).trans e1⟩
  ·obtain⟨o',e1⟩:=I.base.there b o e hx
   exact⟨o',(hs.2 b (bV (aL (aK e) (I.ok.KC x c hfn hc)))).trans e1⟩
  ·by_cases hj:j=i
   ·subst hj
    rw[hi] at e1;cases e1;rw[bP hiσ] at e2;cases e2;exact⟨u,r,.inr ⟨.inl hk,c,hc,hc'⟩⟩
   ·rw[au (dJ hj)] at e2
    obtain⟨u',r',q⟩:=hl j y v' e1 e2 e3;refine⟨u',r',?_⟩;rcases q with q | ⟨k,c',e,z'⟩
    ·exact .inl q
    ·refine .inr ⟨k,c',e,z'.sameBut hs ?_⟩
     rintro rfl;exact hj (sM hN e1 (I.ok.inj _ _ _ e hc ▸ hi))
  ·by_cases hcc:c'=c
   ·subst hcc;exact⟨_,hc'⟩
   ·obtain⟨w2,z2⟩:=I.cell y c' e
    exact⟨w2,z2.sameBut hs hcc⟩
  ·obtain⟨e,n,ne,nf,d⟩:=I.pin p hp
   refine⟨(hs.2 p.1 ?_).trans e,n,ne,nf,d⟩;intro q;rw[q,hoc] at e;have q':oc=p.2:=aG e;exact d w' (by rw[<-q'];exact hocd)
theorem lL{M:DS}{A:cy}{E:Value->aj->Prop}{i:Nat}{x:Str}{v:V}{u:Value}{Q:Unit->aj->Prop}(I:Inv X pZ σ H s)(hN:X.N.Nodup)(hi:X.N[i]? = some x)(hx:Loc X.env.scope x)(r:RelV v u)
  (h:∀s',Inv X pZ (σ.set i (some v)) H s'->Q () s') (hf:X.fn x=true\/X.env.scope.names.lookup x=some .local:=by first | exact .inl rfl | exact .inr rfl | assumption):wpAny M A (storeName X.env x u) Q E s:=
 vo I hN hi hx r (fun s' I' _=>h s' I') hf
theorem Inv.KD{s':aj}{ch:List Addr}(I:Inv X pZ σ H s)(ho:s'.os=s.os)(u:Un (uJ X.stack) ch H H' s.heap s'.heap)(dj:ng X.prog X.w H' s'.heap)(hg:mV s'.gens)
  (hch:∀b∈ch,(b∈X.ex\/X.s₀.heap.objs.size<=b)/\b≠X.env.locals/\(∀x c,X.env.cells.lookup x=some c->c≠b)/\∀p∈X.pn ++ pZ,p.1≠b):Inv X pZ σ H' s':=by
 obtain⟨h',g',d',t',o'⟩:=s';have e:o'=s.os:=ho;subst e;exact I.call (g':=g') (t':=t') (d':=d') u dj hg hch
end
abbrev XK:=Value->Option Addr->Hp->Prop
abbrev St:=List (Option V)
abbrev VK:=V->Hp->Prop
abbrev TE:=St->Hp->VK->Prop
abbrev TT:=St->Hp->(Bool->Hp->Prop)->Prop
abbrev TA:=St->Hp->(List V->Hp->Prop)->Prop
structure Ends where
 nx:St->Hp->Prop
 rt:VK
 bk:St->Hp->Prop:=fun _ _=>False
 ct:St->Hp->Prop:=fun _ _=>False
abbrev TS:=Ends->St->Hp->Prop
def EP(X:Cx)(pZ:List (Addr × Obj))(σ:St)(Q:VK)(u:Value)(s':aj):Prop:=∃v H',Inv X pZ σ H' s'/\RelV v u/\Q v H'
def TP(X:Cx)(pZ:List (Addr × Obj))(σ:St)(Q:Bool->Hp->Prop)(b:Bool)(s':aj):Prop:=∃H',Inv X pZ σ H' s'/\Q b H'
def AP(X:Cx)(pZ:List (Addr × Obj))(σ:St)(Q:List V->Hp->Prop)(us:List Value)(s':aj):Prop:=∃vs H',Inv X pZ σ H' s'/\Vals vs us/\Q vs H'
def SP(X:Cx)(pZ:List (Addr × Obj))(D:Ends)(f:Flow)(s':aj):Prop:=
 match f with
 | .next=>∃ σ' H',Inv X pZ σ' H' s'/\D.nx σ' H'
 | .brk=>∃ σ' H',Inv X pZ σ' H' s'/\D.bk σ' H'
 | .cont=>∃ σ' H',Inv X pZ σ' H' s'/\D.ct σ' H'
 | .ret u=>∃v σ' H',Inv X pZ σ' H' s'/\RelV v u/\D.rt v H'
def PE(X:Cx)(e:Expr)(t:TE):Prop:=
 ∀(pZ:List (Addr × Obj)) (s:aj) (σ:St) (H:Hp) (Q:VK),Inv X pZ σ H s->t σ H Q->wpAny (aP X.prog X.w) X.A (eval e X.env) (EP X pZ σ Q) X.xe s
def PT(X:Cx)(e:Expr)(t:TT):Prop:=
 ∀(pZ:List (Addr × Obj)) (s:aj) (σ:St) (H:Hp) (Q:Bool->Hp->Prop),Inv X pZ σ H s->t σ H Q->wpAny (aP X.prog X.w) X.A (isTrue e X.env (eval e X.env)) (TP X pZ σ Q) X.xe s
def PW(X:Cx)(e:Expr)(t:TT):Prop:=
 ∀(whole:Sem Value) (pZ:List (Addr × Obj)) (s:aj) (σ:St) (H:Hp) (Q:Bool->Hp->Prop),Inv X pZ σ H s->t σ H Q->wpAny (aP X.prog X.w) X.A (isTrue e X.env whole) (TP X pZ σ Q) X.xe s
theorem PW.pt{X:Cx}{e:Expr}{t:TT}(h:PW X e t):PT X e t:=h _
def PA(X:Cx)(es:List Expr)(t:TA):Prop:=
 ∀(pos:Pos) (pZ:List (Addr × Obj)) (s:aj) (σ:St) (H:Hp) (Q:List V->Hp->Prop),Inv X pZ σ H s->t σ H Q->wpAny (aP X.prog X.w) X.A (spliced (iC pos (bN es X.env))) (AP X pZ σ Q) X.xe s
def PS(X:Cx)(st:Stmt)(t:TS):Prop:=
 ∀(pZ:List (Addr × Obj)) (s:aj) (σ:St) (H:Hp) (D:Ends),Inv X pZ σ H s->t D σ H->wpAny (aP X.prog X.w) X.A (exec st X.env) (SP X pZ D) X.xe s
def rN(X:Cx)(st:List Stmt)(t:TS):Prop:=
 ∀(pZ:List (Addr × Obj)) (s:aj) (σ:St) (H:Hp) (D:Ends),Inv X pZ σ H s->t D σ H->wpAny (aP X.prog X.w) X.A (execs st X.env) (SP X pZ D) X.xe s
theorem eT{α:Type}{t:Sem α}{Q Q':α->aj->Prop}{M:DS}{A:cy}{E:Value->aj->Prop}{s:aj}(h:wpAny M A t Q E s)(hQ:∀a s,Q a s->Q' a s):wpAny M A t Q' E s:=bH h hQ fun _ _ x=>x
section
variable {X:Cx}
def Td(i:Nat):TE:=fun σ H Q=>∃v,σ[i]? = some (some v)/\Q v H
def tC(v:V):TE:=fun _ H Q=>Q v H
theorem oS {i:Nat} {x:Str} {pos:Pos} (hN:X.N[i]? = some x) (hv:HA X.env.scope x) (hd:(x == ("__debug__":Str))=false:=by decide) (hcd:(x == ("__classdict__":Str))=false:=by decide):PE X (.Name x pos) (Td i):=by
 intro pZ s σ H Q I h;obtain⟨v,e,h⟩:=h;obtain⟨m,hn,hl⟩:=I.loc;obtain⟨u,r,l⟩:=hl i x v hN e hv;have fin:EP X pZ σ Q u s:=⟨v,H,I,r,h⟩
 rcases l with⟨hk,hm⟩ | ⟨hk,c,hc,hcell⟩
 ·exact wpAny_Name (HL I.ok.kind hk hn hm fin) hd
 ·rcases hk with hk | hk
  ·exact wpAny_Name (wpAny_loadName_cell I.ok.kind hk hc hcell fin) hd
  ·exact wpAny_Name (wpAny_loadName_free I.ok.kind hk hc hcell fin hcd) hd
theorem Lp{i j pos}:PE X (.Constant (.int i) j pos) (tC (.int i)):=fun _ _ _ H _ I h=>wpAny_Constant_int ⟨.int i,H,I.tok _,⟨_,rfl⟩,h⟩
theorem OW{b j pos}:PE X (.Constant (.bool b) j pos) (tC (.bl b)):=fun _ _ _ H _ I h=>Constant_bool ⟨.bl b,H,I,rfl,h⟩
theorem Lq{j pos}:PE X (.Constant .none j pos) (tC .bQ):=fun _ _ _ H _ I h=>Constant_none ⟨.bQ,H,I,rfl,h⟩
theorem Lr{x j pos}:PE X (.Constant (.str x) j pos) (tC (.str x)):=fun _ _ _ H _ I h=>Calls.Constant_str ⟨.str x,H,I.tok _,⟨_,rfl⟩,h⟩
def Gl(X:Cx)(x:Str):Prop:=X.env.kindOf x=some .globalImplicit
theorem l9{E:Value->aj->Prop}{pZ:List (Addr × Obj)}{s:aj}{σ:St}{H:Hp}{x:Str}{u:Value}{pos:Pos}{Q:Value->aj->Prop}(I:Inv X pZ σ H s)(hg:Gl X x)(hm:X.mg x=some u)(h:Q u s)
  (hd:(x == ("__debug__":Str))=false:=by decide):wpAny (aP X.prog X.w) X.A (eval (.Name x pos) X.env) Q E s:=
 uB I.ok.kind hg (Calls.loadGlobal_global (by rw[I.ok.glob];exact I.mod.glob.keeps I.bk) hm h) hd
theorem oU{E:Value->aj->Prop}{pZ:List (Addr × Obj)}{s:aj}{σ:St}{H:Hp}{x:Str}{u:Value}{pos:Pos}{Q:Value->aj->Prop}(I:Inv X pZ σ H s)(hg:Gl X x)(hm:X.mg x=none)(hv:js x=some u)(h:Q u s)
  (hn:x≠"__name__":=by decide) (hd:(x == ("__debug__":Str))=false:=by decide):wpAny (aP X.prog X.w) X.A (eval (.Name x pos) X.env) Q E s:=by
 obtain⟨mb,h1,h2⟩:=I.mod.blt;exact uB I.ok.kind hg (Calls.loadGlobal_builtin (by rw[I.ok.glob];exact I.mod.glob.keeps I.bk) hm (by rw[I.ok.blt];exact h1.keeps I.bk) ((h2 x hn).trans hv) h) hd
theorem wY {x:Str} {v:V} {u:Value} {pos:Pos} (hg:Gl X x) (hm:X.mg x=some u) (r:RelV v u) (hd:(x == ("__debug__":Str))=false:=by decide):PE X (.Name x pos) (tC v):=
 fun _ _ _ H _ I h=>l9 I hg hm ⟨v,H,I,r,h⟩ hd
theorem H8 {x:Str} {v:V} {u:Value} {pos:Pos} (hg:Gl X x) (hm:X.mg x=none) (hv:js x=some u) (r:RelV v u) (hn:x≠"__name__":=by decide) (hd:(x == ("__debug__":Str))=false:=by decide):PE X (.Name x pos) (tC v):=
 fun _ _ _ H _ I h=>oU I hg hm hv ⟨v,H,I,r,h⟩ hn hd
variable {a b:Expr} {ta tb:TE} {pos:Pos}
variable {tA tB':TT} {rest:List Expr}
def Te(t u:TT):TT:=fun σ H Q=>t σ H fun c H1=>if c=true then u σ H1 Q else Q false H1
def Ww(t u:TT):TT:=fun σ H Q=>t σ H fun c H1=>if c=true then Q true H1 else u σ H1 Q
def Tf(t:TT):TT:=fun σ H Q=>t σ H fun c H1=>Q (!c) H1
theorem Ia(ha:PT X a tA):PW X (.BoolOp .And [a] pos) tA:=by
 intro wh pZ s σ H Q I h;refine isTrue_and (eT (ha pZ s σ H Q I h) fun c s1 e=>?_);cases c with
 | true=>exact isTrue_and_nil e
 | false=>exact e
theorem Ls(ha:PT X a tA):PW X (.BoolOp .Or [a] pos) tA:=by
 intro wh pZ s σ H Q I h;refine isTrue_or (eT (ha pZ s σ H Q I h) fun c s1 e=>?_);cases c with
 | false=>exact isTrue_or_nil e
 | true=>exact e
theorem Lu(ha:PT X a tA)(hb:PW X (.BoolOp .And (b::rest) pos) tB'):PW X (.BoolOp .And (a::b::rest) pos) (Te tA tB'):=by
 intro wh pZ s σ H Q I h;refine isTrue_and (eT (ha pZ s σ H _ I h) fun c s1 h9=>?_);obtain⟨H1,I1,q1⟩:=h9;cases c with
 | true=>exact hb wh pZ s1 σ H1 Q I1 q1
 | false=>exact⟨H1,I1,q1⟩
theorem OX(ha:PT X a tA)(hb:PW X (.BoolOp .Or (b::rest) pos) tB'):PW X (.BoolOp .Or (a::b::rest) pos) (Ww tA tB'):=by
 intro wh pZ s σ H Q I h;refine isTrue_or (eT (ha pZ s σ H _ I h) fun c s1 h9=>?_);obtain⟨H1,I1,q1⟩:=h9;cases c with
 | true=>exact⟨H1,I1,q1⟩
 | false=>exact hb wh pZ s1 σ H1 Q I1 q1
theorem Lv(ha:PT X a tA):PT X (.UnaryOp .Not a pos) (Tf tA):=by
 intro pZ s σ H Q I h;exact isTrue_not (ha pZ s σ H (fun c H1=>Q (!c) H1) I h)
def OY(ta tb:TE):TE:=fun σ H Q=>ta σ H fun x H1=>∃c,x = .bl c/\if c=true then tb σ H1 Q else Q (.bl false) H1
def Th(ta tb:TE):TE:=fun σ H Q=>ta σ H fun x H1=>∃c,x = .bl c/\if c=true then Q (.bl true) H1 else tb σ H1 Q
def OZ(ta:TE):TE:=fun σ H Q=>ta σ H fun x H1=>∃c,x = .bl c/\Q (.bl (!c)) H1
theorem Lw{op}{t:TE}(h:PE X a t):PE X (.BoolOp op [a] pos) t:=fun pZ s σ H Q I hw=>BoolOp_one (h pZ s σ H Q I hw)
theorem Lx(ha:PE X a ta)(hb:PE X (.BoolOp .And (b::rest) pos) tb):PE X (.BoolOp .And (a::b::rest) pos) (OY ta tb):=by
 intro pZ s σ H Q I h;refine BoolOp_and (eT (ha pZ s σ H _ I h) fun v s1 h9=>?_);obtain⟨x,H1,I1,r1,q1⟩:=h9;obtain⟨c,rfl,q1⟩:=q1;cases r1;refine eV ?_;cases c with
 | true=>exact hb pZ s1 σ H1 Q I1 q1
 | false=>exact⟨.bl false,H1,I1,rfl,q1⟩
theorem O0(ha:PE X a ta)(hb:PE X (.BoolOp .Or (b::rest) pos) tb):PE X (.BoolOp .Or (a::b::rest) pos) (Th ta tb):=by
 intro pZ s σ H Q I h;refine BoolOp_or (eT (ha pZ s σ H _ I h) fun v s1 h9=>?_);obtain⟨x,H1,I1,r1,q1⟩:=h9;obtain⟨c,rfl,q1⟩:=q1;cases r1;refine eV ?_;cases c with
 | false=>exact hb pZ s1 σ H1 Q I1 q1
 | true=>exact⟨.bl true,H1,I1,rfl,q1⟩
theorem Ly(ha:PE X a ta):PE X (.UnaryOp .Not a pos) (OZ ta):=by
 intro pZ s σ H Q I h;refine UnaryOp_ (eT (ha pZ s σ H _ I h) fun v s1 h9=>?_);obtain⟨x,H1,I1,r1,q1⟩:=h9;obtain⟨c,rfl,q1⟩:=q1;cases r1;exact not_of (eV ⟨.bl (!c),H1,I1,rfl,q1⟩)
def Wx(t:TT)(ta tb:TE):TE:=fun σ H Q=>t σ H fun c H1=>if c=true then ta σ H1 Q else tb σ H1 Q
theorem ED{c:Expr}(hc:PT X c tA)(ha:PE X a ta)(hb:PE X b tb):PE X (.IfExp c a b pos) (Wx tA ta tb):=by
 intro pZ s σ H Q I h;refine wpAny_IfExp (eT (hc pZ s σ H _ I h) fun d s1 h9=>?_);obtain⟨H1,I1,q1⟩:=h9;cases d with
 | true=>exact ha pZ s1 σ H1 Q I1 q1
 | false=>exact hb pZ s1 σ H1 Q I1 q1
end
def gV(K:aD)(H:Hp)(a:Addr)(xs:List V):Prop:=
 Rd H a (.lst xs) \/
  ∃(o:Obj) (its:Array Value) (n:Nat),K.lookup a=some o/\o.cls = .type "list"/\o.dict=none/\o.data = .seq its n/\its.size<=sizeLine/\Vals xs its.toList
def lD(K:aD)(H:Hp)(a:Addr)(xs:List V):Prop:=
 Rd H a (.tup xs) \/
  ∃(o:Obj) (its:Array Value) (n:Nat),K.lookup a=some o/\o.cls = .type "tuple"/\o.data = .seq its n/\its.size<=sizeLine/\Vals xs its.toList
noncomputable def Ti:Value->Option V
 | .none=>some .bQ
 | .bool b=>some (.bl b)
 | .int i _=>some (.int i)
 | .str x _=>some (.str x)
 | .bytes b _=>some (.zY b)
 | .float b _=>some (.Ln b)
 | .ref a=>some (.ref a)
 | .type n=>some (.ty n)
 | _=>none
theorem RelV.abs{x:V}{u:Value}(r:RelV x u):Ti u=some x:=by
 cases x with
 | bQ=>cases r;rfl
 | bl _=>cases r;rfl
 | int _=>obtain⟨t,rfl⟩:=r;rfl
 | str _=>obtain⟨t,rfl⟩:=r;rfl
 | zY _=>obtain⟨t,rfl⟩:=r;rfl
 | Ln _=>obtain⟨t,rfl⟩:=r;rfl
 | ref _=>cases r;rfl
 | ty _=>cases r;rfl
theorem RelV.inj{x y:V}{u:Value}(r:RelV x u)(q:RelV y u):x=y:=aG (r.abs.symm.trans q.abs)
theorem Vals.inj:∀ {xs ys:List V} {us:List Value},Vals xs us->Vals ys us->xs=ys
 | _,_,_,.nil,.nil=>rfl
 | _,_,_,.cons r t,.cons r' t'=>by rw[r.inj r',Vals.inj t t']
section
variable {X:Cx} {pZ:List (Addr × Obj)} {σ:St} {H:Hp} {s:aj} {a:Addr} {xs ys:List V}
theorem gV.of{K:aD}(h:H a=some (.lst xs)):gV K H a xs:=.inl (.inl h)
theorem lD.of{K:aD}(h:H a=some (.tup xs)):lD K H a xs:=.inl (.inl h)
theorem Inv.list(I:Inv X pZ σ H s)(h:gV X.K H a xs):∃its:List Value,Vals xs its/\PlainL s.heap a its.toArray/\xs.length<=sizeLine:=by
 rcases h with h | ⟨o,its,n,hk,hc,hd,hs,hz,r⟩
 ·obtain⟨z,its,n,r,e⟩:=h.ok I.dj
  exact⟨its,r,⟨_,n,e,rfl,rfl,rfl⟩,z⟩
 ·refine⟨its.toList,r,⟨o,n,I.kA a o hk,hc,hd,by simpa using hs⟩,?_⟩
  have e:=r.length;simp only[oM] at e;omega
theorem Inv.tuple(I:Inv X pZ σ H s)(h:lD X.K H a xs):∃its:List Value,Vals xs its/\IsTup s.heap a its.toArray/\xs.length<=sizeLine:=by
 rcases h with h | ⟨o,its,n,hk,hc,hs,hz,r⟩
 ·obtain⟨z,its,r,p⟩:=h.ok I.dj
  exact⟨its,r,p,z⟩
 ·refine⟨its.toList,r,⟨o,I.kA a o hk,hc,n,by simpa using hs⟩,?_⟩
  have e:=r.length;simp only[oM] at e;omega
theorem Inv.sN(I:Inv X pZ σ H s)(h:gV X.K H a xs)(h':gV X.K H a ys):xs=ys:=by
 obtain⟨its,r,⟨o,n,e,_,_,d⟩,_⟩:=I.list h;obtain⟨its',r',⟨o',n',e',_,_,d'⟩,_⟩:=I.list h';rw[e] at e';cases e';rw[d] at d';injection d' with d1 _
 have:its=its':=by simpa using congrArg yD d1
 subst this;exact r.inj r'
theorem Inv.vp(I:Inv X pZ σ H s)(h:lD X.K H a xs)(h':lD X.K H a ys):xs=ys:=by
 obtain⟨its,r,⟨o,e,_,n,d⟩,_⟩:=I.tuple h;obtain⟨its',r',⟨o',e',_,n',d'⟩,_⟩:=I.tuple h';rw[e] at e';cases e';rw[d] at d';injection d' with d1 _
 have:its=its':=by simpa using congrArg yD d1
 subst this;exact r.inj r'
end
section
variable {X:Cx} {st:Stmt} {rest:List Stmt} {t u:TS} {e:Expr} {te:TE} {pos:Pos}
def O1:TS:=fun D σ H=>D.nx σ H
def Tj(t u:TS):TS:=fun D σ H=>t { D with nx:=u D } σ H
theorem Ib:rN X [] O1:=fun _ _ σ H _ I h=>lj ⟨σ,H,I,h⟩
theorem yK(h1:PS X st t)(h2:rN X rest u):rN X (st::rest) (Tj t u):=by
 intro pZ s σ H D I h;refine wpAny_execs_cons (eT (h1 pZ s σ H { D with nx:=u D } I h) fun f s1 q=>?_);cases f with
 | next=>
  obtain⟨σ',H',I',q⟩:=q;exact h2 pZ s1 σ' H' D I' q
 | ret v=>exact q
 | brk=>exact q
 | cont=>exact q
theorem BC(h1:PS X st t):rN X [st] t:=by
 intro pZ s σ H D I h;refine wpAny_execs_cons (eT (h1 pZ s σ H D I h) fun f s1 q=>?_);cases f with
 | next=>exact lj q
 | ret v=>exact q
 | brk=>exact q
 | cont=>exact q
theorem Inv.quiet{pZ:List (Addr × Obj)}{σ:St}{H:Hp}{s:aj}(I:Inv X pZ σ H s):interactive X.env=false:=by simp[interactive,I.ok.kind]
def O2(te:TE):TS:=fun D σ H=>te σ H fun _ H1=>D.nx σ H1
theorem Ic(he:PE X e te)(hs:iy e none pos.line X.env=pure false:=by rfl):PS X (.Expr e pos) (O2 te):=by
 intro pZ s σ H D I h;refine wpAny_Expr_any (eT (he pZ s σ H _ I h) fun v s1 h9=>?_) I.quiet hs;obtain⟨x,H1,I1,r1,q1⟩:=h9;exact⟨σ,H1,I1,q1⟩
def Tn(te:TE):TS:=fun D σ H=>te σ H D.rt
theorem Lz(he:PE X e te):PS X (.Return (some e) pos) (Tn te):=by
 intro pZ s σ H D I h;refine wpAny_Return_some (eT (he pZ s σ H _ I h) fun v s1 h9=>?_);obtain⟨x,H1,I1,r1,q1⟩:=h9;exact⟨x,σ,H1,I1,r1,q1⟩
def To(c:TT)(t u:TS):TS:=fun D σ H=>c σ H fun b H1=>if b=true then t D σ H1 else u D σ H1
theorem O3{c:Expr}{a b:List Stmt}{tc:TT}(hc:PT X c tc)(ha:rN X a t)(hb:rN X b u):PS X (.If c a b pos) (To tc t u):=by
 intro pZ s σ H D I h;refine wpAny_If (eT (hc pZ s σ H _ I h) fun d s1 h9=>?_);obtain⟨H1,I1,q1⟩:=h9;cases d with
 | true=>exact ha pZ s1 σ H1 D I1 q1
 | false=>exact hb pZ s1 σ H1 D I1 q1
end
abbrev TG:=V->St->Hp->(St->Hp->Prop)->Prop
abbrev LA:=List V->St->Hp->(St->Hp->Prop)->Prop
def PG(X:Cx)(target:Expr)(t:TG):Prop:=
 ∀(pZ:List (Addr × Obj)) (s:aj) (σ:St) (H:Hp) (v:V) (u:Value) (Q:St->Hp->Prop),Inv X pZ σ H s->RelV v u->t v σ H Q ->
  wpAny (aP X.prog X.w) X.A (wx target X.env u) (fun _ s'=>∃ σ' H',Inv X pZ σ' H' s'/\Q σ' H') X.xe s
def Sg(X:Cx)(ts:List Expr)(t:LA):Prop:=
 ∀(pZ:List (Addr × Obj)) (s:aj) (σ:St) (H:Hp) (vs:List V) (us:List Value) (Q:St->Hp->Prop),Inv X pZ σ H s->Vals vs us->t vs σ H Q ->
  wpAny (aP X.prog X.w) X.A (assignInOrder ((sC ts X.env).map (·.2)) us) (fun _ s'=>∃ σ' H',Inv X pZ σ' H' s'/\Q σ' H') X.xe s
abbrev LB:=V->V->V->Hp->(Hp->Prop)->Prop
def O4(X:Cx)(t:LB):Prop:=
 ∀(pZ:List (Addr × Obj)) (s:aj) (σ:St) (H:Hp) (o i v:V) (ov iv u:Value) (Q:Hp->Prop),Inv X pZ σ H s->RelV o ov->RelV i iv->RelV v u->t o i v H Q ->
  wpAny (aP X.prog X.w) X.A (setItem ov iv u) (fun _ s'=>∃H',Inv X pZ σ H' s'/\Q H') X.xe s
abbrev O5:=V->V->Hp->VK->Prop
def Vl(X:Cx)(op:lY)(t:O5):Prop:=
 ∀(pZ:List (Addr × Obj)) (s:aj) (σ:St) (H:Hp) (x y:V) (v u:Value) (Q:VK),Inv X pZ σ H s->RelV x v->RelV y u->t x y H Q ->
  wpAny (aP X.prog X.w) X.A (gJ op v u) (EP X pZ σ Q) X.xe s
section
variable {X:Cx} {pos:Pos}
def vq(i:Nat):TG:=fun v σ H Q=>Q (σ.set i (some v)) H
theorem pj{i:Nat}{x:Str}(hN:X.N.Nodup)(hi:X.N[i]? = some x)(hx:Loc X.env.scope x)(hf:X.fn x=true\/X.env.scope.names.lookup x=some .local:=by first | exact .inl rfl | exact .inr rfl | assumption):PG X (.Name x pos) (vq i):=by
 intro pZ s σ H v u Q I r h;exact uC (lL I hN hi hx r (fun s' I'=>⟨_,H,I',h⟩) hf)
noncomputable def Tp:LA:=fun vs σ H Q=>vs = []/\Q σ H
noncomputable def O6(t:TG)(u:LA):LA:=fun vs σ H Q=>∃v r,vs=v::r/\t v σ H fun σ' H'=>u r σ' H' Q
theorem BD:Sg X [] Tp:=by
 intro pZ s σ H vs us Q I r h;obtain⟨e,h⟩:=h;subst e;cases r;exact assignInOrder_nil ⟨σ,H,I,h⟩
theorem pq{e:Expr}{es:List Expr}{t:TG}{u:LA}(h1:PG X e t)(h2:Sg X es u)
  (hs:(sC (e::es) X.env).map (·.2)=wx e X.env::(sC es X.env).map (·.2):=by rfl):Sg X (e::es) (O6 t u):=by
 intro pZ s σ H vs us Q I r h;obtain⟨v,vr,e1,h⟩:=h;subst e1;cases r with
 | cons r rr=>
  rw[hs]
  refine assignInOrder_cons (eT (h1 pZ s σ H _ _ _ I r h) fun _ s1 h9=>?_);obtain⟨σ1,H1,I1,q1⟩:=h9;exact h2 pZ s1 σ1 H1 _ _ Q I1 rr q1
def Tq(K:aD)(n:Nat)(t:LA):TG:=fun v σ H Q=>∃a xs,v = .ref a/\lD K H a xs/\xs.length=n/\t xs σ H Q
theorem EE{es:List Expr}{k:Nat}{t:LA}{n:Nat}(hc:X.calm=true)(h:Sg X es t)
  (hn:(sC es X.env).length=n:=by rfl) (hst:(sC es X.env).findIdx? (·.1)=none:=by rfl):PG X (.Tuple es k pos) (Tq X.K n t):=by
 intro pZ s σ H v u Q I r hw;obtain⟨a,xs,e1,hq,hl,hw⟩:=hw;subst e1;cases r;obtain⟨its,rv,ht,hz⟩:=I.tuple hq;refine assign_Tuple_tuple (I.ok.hd hc) ht (by simp[hn,<-hl,rv.length]) hst fun h' hx=>?_
 have I1:Inv X pZ σ H { s with heap:=h' }:=I.kept (t':=s.toks) fun b o e=>hx b o (bV (aK e)) e
 exact h pZ _ σ H xs _ Q I1 (by simpa using rv) hw
def O7(te:TE)(g:TG):TS:=fun D σ H=>te σ H fun x H1=>g x σ H1 D.nx
theorem EF{i:Nat}{x:Str}{e:Expr}{te:TE}{pos':Pos}(hN:X.N.Nodup)(hi:X.N[i]? = some x)(hx:Loc X.env.scope x)(he:PE X e te)(hs:iy e (some (.Name x pos')) pos.line X.env=pure false:=by rfl)(hf:X.fn x=true\/X.env.scope.names.lookup x=some .local:=by first | exact .inl rfl | exact .inr rfl | assumption):
  PS X (.Assign [.Name x pos'] e pos) (O7 te (vq i)):=by
 intro pZ s σ H D I h;refine wpAny_Assign_Name (eT (he pZ s σ H _ I h) fun v s1 h9=>?_) hs;obtain⟨y,H1,I1,r1,q1⟩:=h9;exact lL I1 hN hi hx r1 (fun s2 I2=>⟨_,H1,I2,q1⟩) hf
def Ts(i:Nat)(te:TE)(ti:O5):TS:=fun D σ H=>∃x,σ[i]? = some (some x)/\te σ H fun y H1=>ti x y H1 fun z H2=>D.nx (σ.set i (some z)) H2
theorem LC{i:Nat}{x:Str}{e:Expr}{te:TE}{op:lY}{ti:O5}{pos':Pos}(hN:X.N.Nodup)(hi:X.N[i]? = some x)(hx:Loc X.env.scope x)(he:PE X e te)(ho:Vl X op ti)(hf:X.fn x=true\/X.env.scope.names.lookup x=some .local:=by first | exact .inl rfl | exact .inr rfl | assumption):
  PS X (.AugAssign (.Name x pos') op e pos) (Ts i te ti):=by
 intro pZ s σ H D I h;obtain⟨v,e1,h⟩:=h;obtain⟨m,hn,hl⟩:=I.loc;have vis:HA X.env.scope x:=by rcases hx with k | k;exact .inl k;exact .inr (.inl k)
 obtain⟨u,r,l⟩:=hl i x v hi e1 vis;refine wpAny_AugAssign_Name ?_;have go:wpAny (aP X.prog X.w) X.A (eval e X.env) (fun w s₂=>wpAny (aP X.prog X.w) X.A (gJ op u w) (fun r s₃=>wpAny (aP X.prog X.w) X.A (storeName X.env x r) (fun _=>SP X pZ D .next) X.xe s₃) X.xe s₂) X.xe s:=by
  refine eT (he pZ s σ H _ I h) fun w s1 h9=>?_
  obtain⟨y,H1,I1,r1,q1⟩:=h9;refine eT (ho pZ s1 σ H1 v y u w _ I1 r r1 q1) fun z s2 h9=>?_
  obtain⟨zv,H2,I2,r2,q2⟩:=h9;exact lL I2 hN hi hx r2 (fun s3 I3=>⟨_,H2,I3,q2⟩) hf
 rcases l with⟨hk,hm⟩ | ⟨hk,c,hc,hcell⟩
 ·exact HL I.ok.kind hk hn hm go
 ·rcases hk with hk | hk
  ·exact wpAny_loadName_cell I.ok.kind hk hc hcell go
  ·rcases hx with k | k
   ·have:X.env.scope.names.lookup x=some .free:=hk
    rw[k] at this;cases this
   ·have:X.env.scope.names.lookup x=some .free:=hk
    rw[k] at this;cases this
def O8(to ti te:TE)(tget:V->V->Hp->VK->Prop)(tip:O5)(tset:LB):TS:=fun D σ H=>to σ H fun o H1=>ti σ H1 fun i H2=>tget o i H2 fun x H3=>te σ H3 fun y H4=>tip x y H4 fun z H5=>tset o i z H5 fun H6=>D.nx σ H6
def O9(X:Cx)(t:V->V->Hp->VK->Prop):Prop:=
 ∀(pZ:List (Addr × Obj)) (s:aj) (σ:St) (H:Hp) (o i:V) (ov iv:Value) (Q:VK),Inv X pZ σ H s->RelV o ov->RelV i iv->t o i H Q ->
  wpAny (aP X.prog X.w) X.A (uD ov iv) (EP X pZ σ Q) X.xe s
theorem Ie{o i e:Expr}{to ti te:TE}{tget:V->V->Hp->VK->Prop}{tip:O5}{tset:LB}{op:lY}{tpos:Pos}(ho:PE X o to)(hi:PE X i ti)(hg:O9 X tget)(he:PE X e te)(hp:Vl X op tip)(hs:O4 X tset)
  (ha:∀ov iv new,augStore i ov iv new=(do holding [new,ov,iv] (setItem ov iv new);release [new,ov,iv] [];pure .next):=by intros;rfl):PS X (.AugAssign (.Subscript o i tpos) op e pos) (O8 to ti te tget tip tset):=by
 intro pZ s σ H D I h;refine wpAny_AugAssign_SubscriptAny (eT (ho pZ s σ H _ I h) fun ov s1 h9=>?_) ha;obtain⟨x1,H1,I1,r1,q1⟩:=h9;refine eT (hi pZ s1 σ H1 _ I1 q1) fun iv s2 h9=>?_
 obtain⟨x2,H2,I2,r2,q2⟩:=h9;refine eT (hg pZ s2 σ H2 x1 x2 ov iv _ I2 r1 r2 q2) fun old s3 h9=>?_
 obtain⟨x3,H3,I3,r3,q3⟩:=h9;refine eT (he pZ s3 σ H3 _ I3 q3) fun v s4 h9=>?_
 obtain⟨x4,H4,I4,r4,q4⟩:=h9;refine eT (hp pZ s4 σ H4 x3 x4 old v _ I4 r3 r4 q4) fun new s5 h9=>?_
 obtain⟨x5,H5,I5,r5,q5⟩:=h9;refine eT (hs pZ s5 σ H5 x1 x2 x5 ov iv new _ I5 r1 r2 r5 q5) fun _ s6 h9=>?_
 obtain⟨H6,I6,q6⟩:=h9;exact⟨σ,H6,I6,q6⟩
end
section
variable {X:Cx} {pos:Pos}
def LD(c:TT)(tb:TS):TS:=fun D σ H=>∃W:Nat->St->Hp->Prop,(∃m,W m σ H)/\∀m σ H,W m σ H ->
 c σ H fun b H1=>if b=true then ∃N:St->Hp->Prop,(∀ σ' H',N σ' H'->∃m',m' < m/\W m' σ' H')/\tb { D with nx:=N,ct:=N,bk:=D.nx } σ H1 else D.nx σ H1
theorem EG{c:Expr}{body:List Stmt}{tc:TT}{tb:TS}(hp:DT (aP X.prog X.w) X.A X.env X.xe)(hc:PT X c tc)(hb:rN X body tb):PS X (.While c body [] pos) (LD tc tb):=by
 intro pZ s σ H D I h;obtain⟨W,⟨m0,w0⟩,turn⟩:=h;refine wpAny_While (codeAny_whileLoop (fun n s'=>∃ σ' H',Inv X pZ σ' H' s'/\W n σ' H') ?_ m0 ⟨σ,H,I,w0⟩);rintro n s1 ⟨σ1,H1,I1,w1⟩;refine gv hp (eT (hc pZ s1 σ1 H1 _ I1 (turn n σ1 H1 w1)) fun b s2 h9=>?_);obtain⟨H2,I2,q2⟩:=h9;cases b with
 | true=>
  obtain⟨N,hN,q2⟩:=q2;rw[if_pos rfl]
  refine gv hp (eT (hb pZ s2 σ1 H2 _ I2 q2) fun f s3 q3=>?_);cases f with
  | next=>
   obtain⟨σ3,H3,I3,n3⟩:=q3;obtain⟨m',hm,w3⟩:=hN σ3 H3 n3;exact⟨m',hm,σ3,H3,I3,w3⟩
  | cont=>
   obtain⟨σ3,H3,I3,n3⟩:=q3;obtain⟨m',hm,w3⟩:=hN σ3 H3 n3;exact⟨m',hm,σ3,H3,I3,w3⟩
  | brk=>exact q3
  | ret v=>exact q3
 | false=>
  rw[if_neg aU]
  exact lj ⟨σ1,H2,I2,q2⟩
end
structure It where
 go:Nat->Hp->Prop
 Pa:Nat->Hp->V->Hp->Prop
 stop:Nat->Hp->Prop
def oV(X:Cx)(pZ:List (Addr × Obj))(H:Hp)(b:Addr):Prop:=
 H b=none/\b≠X.env.locals/\b ∉ X.fs/\(b∈X.ex\/X.s₀.heap.objs.size<=b)/\(∀x c,X.env.cells.lookup x=some c->c≠b)/\∀p∈X.pn ++ pZ,p.1≠b
theorem Inv.CQ{X:Cx}{pZ:List (Addr × Obj)}{σ:St}{H H':Hp}{s:aj}{b:Addr}(I:Inv X pZ σ H s)(hb:s.heap.objs.size<=b)(hn:H' b=none):oV X pZ H' b:=by
 refine⟨hn,kg (aL I.lt hb),I.Tc hb,.inr (aR I.sz hb),fun x c e z=>?_,fun p hp z=>?_⟩
 ·obtain⟨v,q⟩:=I.cell x c e
  exact absurd (aL q.lt (by rw[z];exact hb)) (dI _)
 ·exact absurd (aL (aK (I.pin p hp).1) (by rw[z];exact hb)) (dI _)
structure Turn (P:bx) (w:bU) (K:aD) (tg:Expr) (J:It) (fp:List Addr) (it:Addr) (tn:Nat->Heap->Prop):Prop where
 mem:it∈fp
 obj:∀i h,tn i h->∀b∈fp,∃o,h.get? b=some o/\∀v,o.data≠.cell v
 keep:∀i h h',tn i h->(∀b∈fp,∀o,h.get? b=some o->h'.get? b=some o)->tn i h'
 item:∀(X:Cx),X.prog=P->X.w=w->X.K=K->X.calm=true->∀(i:Nat) (pZ:List (Addr × Obj)) (s:aj) (σ:St) (H:Hp) (E:Value->aj->Prop),Inv X pZ σ H s->(∀b∈fp,oV X pZ H b)->tn i s.heap->J.go i H ->
  wpAny (aP P w) X.A (pyNext (.ref it)) (fun r s1=>∃u,r=some u /\
   wpAny (aP P w) X.A (pd tg (.ref it) u) (fun _ s2=>∃x H',Inv X pZ σ H' s2/\RelV x u/\J.Pa i H x H'/\tn (i + 1) s2.heap/\∀b∈fp,H' b=none) E s1) E s
 done:∀(X:Cx),X.prog=P->X.w=w->X.K=K->X.calm=true->∀(i:Nat) (pZ:List (Addr × Obj)) (s:aj) (σ:St) (H:Hp) (E:Value->aj->Prop),Inv X pZ σ H s->(∀b∈fp,oV X pZ H b)->tn i s.heap->J.stop i H ->
  wpAny (aP P w) X.A (pyNext (.ref it)) (fun r s1=>r=none/\Inv X pZ σ H s1) E s
 self:∀(A:cy) (i:Nat) (s:aj) (Q:Value->aj->Prop) (E:Value->aj->Prop),tn i s.heap->Q (.ref it) s->wpAny (aP P w) A (pyIter (.ref it)) Q E s
abbrev TI:=St->Hp->(It->Hp->Prop)->Prop
def Tt(X:Cx)(pZ:List (Addr × Obj))(σ:St)(tg:Expr)(R:It->Hp->Prop)(itv:Value)(s2:aj):Prop:=
 ∃(it:Addr) (fp:List Addr) (tn:Nat->Heap->Prop) (J:It) (H':Hp),itv = .ref it/\Inv X pZ σ H' s2/\Turn X.prog X.w X.K tg J fp it tn/\tn 0 s2.heap/\(∀b∈fp,oV X pZ H' b)/\R J H'
def PI(X:Cx)(tg iter:Expr)(wi:TI):Prop:=
 ∀(pZ:List (Addr × Obj)) (s:aj) (σ:St) (H:Hp) (R:It->Hp->Prop),Inv X pZ σ H s->wi σ H R ->
  wpAny (aP X.prog X.w) X.A (eval iter X.env) (fun v s1=>wpAny (aP X.prog X.w) X.A (pyIter v) (Tt X pZ σ tg R) X.xe s1) X.xe s
theorem BE{M:DS}{A:cy}{E:Value->aj->Prop}{s:aj}{tg:Expr}{it:Addr}{u:Value}{o:Obj}{n:String}{vs:Array Value}{Q:Unit->aj->Prop}(ho:s.heap.get? it=some o)(hc:o.cls = .type n)(hd:o.data = .fields vs)
    (hn:["enumerate","zip","dict_itemiterator","dict_reverseitemiterator","odict_iterator","itertools.zip_longest","itertools.pairwise"].contains n=false) (hQ:Q () s):wpAny M A (pd tg (.ref it) u) Q E s:=by
  unfold pd;cases tg<;>first
    | exact aJ hQ
    | (cases u<;>first
        | exact aJ hQ
        | (refine ah (wpAny_load ho ?_)
           rw[hc,hd]
           show wpAny M A (if (["enumerate","zip","dict_itemiterator","dict_reverseitemiterator","odict_iterator","itertools.zip_longest","itertools.pairwise"].contains n && vs[0]? == some (oN _))=true then _ else _) Q E s
           rw[if_neg (by intro h;rw[hn,Bool.false_and] at h;cases h)]
           exact aJ hQ))
def Tv(K:aD)(a:Addr):It:=
 ⟨fun i H=>∃xs x,gV K H a xs/\xs[i]? = some x,fun i H x H'=>H'=H/\∀xs,gV K H a xs->xs[i]? = some x,fun i H=>∃xs,gV K H a xs/\xs.length<=i⟩
def Tw(K:aD)(a:Addr):It:=
 ⟨fun i H=>∃xs x,lD K H a xs/\xs[i]? = some x,fun i H x H'=>H'=H/\∀xs,lD K H a xs->xs[i]? = some x,fun i H=>∃xs,lD K H a xs/\xs.length<=i⟩
def Sh(lo:Int)(n:Nat):It:=⟨fun i _=>i < n,fun i H x H'=>H'=H/\x = .int (lo + i),fun i _=>n<=i⟩
theorem CS{P:bx}{w:bU}{K:aD}{tg:Expr}(a it:Addr):Turn P w K tg (Tv K a) [it] it (fun i h=>h.IsListIter it a i) where
 mem:=by simp
 obj:=fun i h st b hb=>by
  have e:b=it:=by simpa using hb
  subst e;obtain⟨o,e,c,d⟩:=st;exact⟨o,e,fun v z=>by rw[d] at z;cases z⟩
 keep:=fun i h h' st k=>st.at fun o e=>k it (by simp) o e
 item:=by
  intro X hP hw hK hc i pZ s σ H E I hf st hg;subst hP hw hK;obtain⟨xs,x,hq,hx⟩:=hg;obtain⟨its,rv,p,hz⟩:=I.list hq;obtain⟨u,hu,ru⟩:=rv.get hx;obtain⟨f0,f1,f2,f3,f4,f5⟩:=hf it (by simp);refine Ef st p.isList (x:=u) (by simpa using hu) fun h' st' sb=>?_
  have I1:Inv X pZ σ H { s with heap:=h' }:=I.turned (t':=s.toks) (fun b o hb e=>(sb.2 b hb).trans e) f0 f1 f3 f4 f5;obtain⟨o,e,c,d⟩:=id st';exact⟨u,rfl,BE (s:={ s with heap:=h' }) e c d (by decide) ⟨x,H,I1,ru,⟨rfl,fun ys hy=>by rw[I.sN hy hq];exact hx⟩,st',fun b hb=>(hf b hb).1⟩⟩
 done:=by
  intro X hP hw hK hc i pZ s σ H E I hf st hg;subst hP hw hK;obtain⟨xs,hq,hx⟩:=hg;obtain⟨its,rv,p,hz⟩:=I.list hq;obtain⟨f0,f1,f2,f3,f4,f5⟩:=hf it (by simp);have hl:=rv.length;exact Hq (I.ok.hd hc) st p.isList (by simp;omega) fun h' eb=>⟨rfl,I.turned (t':=s.toks) (fun b o hb e=>eb b o hb e) f0 f1 f3 f4 f5⟩
 self:=fun _ _ _ _ _ st h=>wpAny_pyIter_listiter st h
theorem Ah{P:bx}{w:bU}{K:aD}{tg:Expr}(a it:Addr):Turn P w K tg (Tw K a) [it] it (fun i h=>h.IsTupleIter it a i) where
 mem:=by simp
 obj:=fun i h st b hb=>by
  have e:b=it:=by simpa using hb
  subst e;obtain⟨o,e,c,d⟩:=st;exact⟨o,e,fun v z=>by rw[d] at z;cases z⟩
 keep:=fun i h h' st k=>st.at fun o e=>k it (by simp) o e
 item:=by
  intro X hP hw hK hc i pZ s σ H E I hf st hg;subst hP hw hK;obtain⟨xs,x,hq,hx⟩:=hg;obtain⟨its,rv,p,hz⟩:=I.tuple hq;obtain⟨u,hu,ru⟩:=rv.get hx;obtain⟨f0,f1,f2,f3,f4,f5⟩:=hf it (by simp);refine wpAny_pyNext_tuple_item st (show s.heap.IsTuple a its.toArray from p) (x:=u) (by simpa using hu) fun h' st' sb=>?_
  have I1:Inv X pZ σ H { s with heap:=h' }:=I.turned (t':=s.toks) (fun b o hb e=>(sb.2 b hb).trans e) f0 f1 f3 f4 f5;obtain⟨o,e,c,d⟩:=id st';exact⟨u,rfl,BE (s:={ s with heap:=h' }) e c d (by decide) ⟨x,H,I1,ru,⟨rfl,fun ys hy=>by rw[I.vp hy hq];exact hx⟩,st',fun b hb=>(hf b hb).1⟩⟩
 done:=by
  intro X hP hw hK hc i pZ s σ H E I hf st hg;subst hP hw hK;obtain⟨xs,hq,hx⟩:=hg;obtain⟨its,rv,p,hz⟩:=I.tuple hq;obtain⟨f0,f1,f2,f3,f4,f5⟩:=hf it (by simp);have hl:=rv.length;exact wpAny_pyNext_tuple_end (I.ok.hd hc) st (show s.heap.IsTuple a its.toArray from p) (by simp;omega) fun h' eb=>⟨rfl,I.turned (t':=s.toks) (fun b o hb e=>eb b o hb e) f0 f1 f3 f4 f5⟩
 self:=fun _ _ _ _ _ st h=>wpAny_pyIter_tupleiter st h
theorem Ai{P:bx}{w:bU}{K:aD}{tg:Expr}(it:Addr)(lo:Int)(n:Nat):Turn P w K tg (Sh lo n) [it] it (fun i h=>IsRangeIter h it (lo + (i:Nat) * 1) ((n:Int) - (i:Nat)) 1) where
 mem:=by simp
 obj:=fun i h st b hb=>by
  have e:b=it:=by simpa using hb
  subst e;exact⟨_,st,fun v z=>by
   have z':Data.fields _=Data.cell v:=z;cases z'⟩
 keep:=fun i h h' st k=>k it (by simp) _ st
 item:=by
  intro X hP hw hK hc i pZ s σ H E I hf st hg;subst hP hw hK;obtain⟨f0,f1,f2,f3,f4,f5⟩:=hf it (by simp);have W:=Walks.range (prog:=X.prog) (w:=X.w) (I.ok.hd hc) it lo 1 n;refine W.item i s _ _ hg st fun v h' tk hv st' kk=>?_
  obtain⟨t,rfl⟩:=hv;have I1:Inv X pZ σ H { s with heap:=h',toks:=tk }:=I.turned (fun b o hb e=>kk b o (by simpa using hb) e) f0 f1 f3 f4 f5;refine⟨_,rfl,BE (s:={ s with heap:=h',toks:=tk }) (n:="range_iterator") st' rfl rfl (by decide) ⟨.int (lo + i),H,I1,⟨t,?_⟩,⟨rfl,rfl⟩,st',fun b hb=>(hf b hb).1⟩⟩;rw[Int.mul_one]
 done:=by
  intro X hP hw hK hc i pZ s σ H E I hf st hg;subst hP hw hK;obtain⟨f0,f1,f2,f3,f4,f5⟩:=hf it (by simp);exact wpAny_pyNext_range_end (I.ok.hd hc) st (by have:n<=i:=hg;omega) fun h' eb=>⟨rfl,I.turned (t':=s.toks) (fun b o hb e=>eb b o hb e) f0 f1 f3 f4 f5⟩
 self:=fun _ _ _ _ _ st h=>wpAny_pyIter_rangeiter st h
section
variable {X:Cx} {tg:Expr}
theorem EH{pZ:List (Addr × Obj)}{σ:St}{H:Hp}{s:aj}{R:It->Hp->Prop}{E:Value->aj->Prop}{lo hi:Int}{t u v:Tok}{tk:Nat}(I:Inv X pZ σ H s)(h1:-(2 ^ 62)<=lo)(h2:lo < 2 ^ 62)(h3:-(2 ^ 62)<=hi)(h4:hi < 2 ^ 62)
  (q:R (Sh lo (hi - lo).toNat) H):wpAny (aP X.prog X.w) X.A (pyIter (.ref s.heap.objs.size)) (Tt X pZ σ tg R) E { s with heap:=s.heap.push { cls:=.type "range",data:=.fields #[.int lo t,.int hi u,.int 1 v] },toks:=tk }:=by
 refine wpAny_pyIter_range (IsRange.new ..) (small_one h1 h2 h3 h4) ?_;have I1:Inv X pZ σ H { s with heap:=s.heap.push { cls:=.type "range",data:=.fields #[.int lo t,.int hi u,.int 1 v] },toks:=tk }:=I.kept fun b o e=>ay _ e
 refine⟨(s.heap.push { cls:=.type "range",data:=.fields #[.int lo t,.int hi u,.int 1 v] }).objs.size,[(s.heap.push { cls:=.type "range",data:=.fields #[.int lo t,.int hi u,.int 1 v] }).objs.size],_,_,H,rfl,
  I1.kept (t':=tk) fun b o e=>ay _ e,Ai _ lo (hi - lo).toNat,?_,fun b hb=>?_,q⟩
 ·have e1:lo + ((0:Nat):Int) * 1=lo:=by simp
  have e2:(((hi - lo).toNat:Nat):Int) - ((0:Nat):Int)=Builtin.Range.rangeSize lo hi 1:=by rw[rangeSize_one];split<;>omega
  show IsRangeIter _ _ (lo + ((0:Nat):Int) * 1) ((((hi - lo).toNat:Nat):Int) - ((0:Nat):Int)) 1
  rw[e1,e2]
  exact bu _ rfl
 ·have e:b=(s.heap.push { cls:=.type "range",data:=.fields #[.int lo t,.int hi u,.int 1 v] }).objs.size:=by simpa using hb
  subst e;exact I1.CQ (ax _) (I1.dj.fresh (ax _))
noncomputable def Pb(ta:TA):TI:=fun σ H R=>ta σ H fun vs H1=>∃j:Int,vs = [.int j]/\-(2 ^ 62)<=j/\j < 2 ^ 62/\R (Sh 0 j.toNat) H1
theorem CT {a:Expr} {ta:TA} {p pos:Pos} (hg:Gl X "range") (hm:X.mg "range" = none) (ha:PA X [a] ta) (hs:bN [a] X.env = [(false,eval a X.env)]:=by rfl):PI X tg (.Call (.Name "range" p) [a] [] pos) (Pb ta):=by
 intro pZ s σ H R I h;refine Call_ (oU I hg hm boot_range (iW (eT (ha pos pZ s σ H _ I h) fun us s1 h9=>?_) hs rfl));obtain⟨vs,H1,I1,r1,q1⟩:=h9;obtain⟨j,e,q1,q2,q⟩:=q1;subst e;cases r1 with
 | cons r rr=>
  cases rr;obtain⟨t,rfl⟩:=r;exact call_range_1 (EH I1 (by omega) (by omega) q1 q2 (by simpa using q))
def Tz(wi:TI)(g:TG)(tb:TS):TS:=fun D σ H=>wi σ H fun J H1=>∃W:Nat->Nat->St->Hp->Prop,(∃m,W 0 m σ H1)/\∀i m σ H,W i m σ H ->
 (J.stop i H/\D.nx σ H)\/(J.go i H/\∃N:St->Hp->Prop,(∀ σ' H',N σ' H'->∃m',m' < m/\W (i + 1) m' σ' H')/\∀x H',J.Pa i H x H'->g x σ H' fun σ2 H2=>tb { D with nx:=N,ct:=N,bk:=D.nx } σ2 H2)
noncomputable def qt(fp:List Addr)(h:Heap):List (Addr × Obj):=fp.filterMap fun b=>(h.get? b).map fun o=>(b,o)
theorem md{fp:List Addr}{h:Heap}{b:Addr}{o:Obj}(hb:b∈fp)(e:h.get? b=some o):(b,o)∈qt fp h:=kD.mpr ⟨b,hb,by rw[e];rfl⟩
theorem CU{fp:List Addr}{h:Heap}{p:Addr × Obj}(hp:p∈qt fp h):p.1∈fp/\h.get? p.1=some p.2:=by
 obtain⟨b,hb,e⟩:=kD.mp hp;cases q:h.get? b with
 | none=>rw[q] at e;cases e
 | some o=>
  rw[q] at e;have e':(b,o)=p:=aG e;subst e';exact⟨hb,q⟩
theorem Inv.pinned{pZ:List (Addr × Obj)}{σ:St}{H:Hp}{s:aj}{fp:List Addr}(I:Inv X pZ σ H s)(hf:∀b∈fp,oV X pZ H b)(ho:∀b∈fp,∃o,s.heap.get? b=some o/\∀v,o.data≠.cell v):Inv X (pZ ++ qt fp s.heap) σ H s:=
 I.BA fun p hp=>(aQ.mp hp).elim (fun z=>I.pin p (aT _ z)) fun z=>by
  obtain⟨hb,e⟩:=CU z;obtain⟨f0,f1,f2,_⟩:=hf p.1 hb;obtain⟨o,e',d⟩:=ho p.1 hb;rw[e] at e';cases e';exact⟨e,f0,f1,f2,d⟩
theorem Inv.pA{pZ pl:List (Addr × Obj)}{σ:St}{H:Hp}{s:aj}(I:Inv X (pZ ++ pl) σ H s):Inv X pZ σ H s:=I.BA fun p hp=>I.pin p (aT _ (bO _ hp))
theorem LF{iter:Expr}{body:List Stmt}{wi:TI}{g:TG}{tb:TS}{pos:Pos}(hp:DT (aP X.prog X.w) X.A X.env X.xe)(hc:X.calm=true)(hi:PI X tg iter wi)(hg:PG X tg g)(hb:rN X body tb)
  (hs:∀x,foldedSetIterable iter X.env x=pure x:=by intro _;rfl):PS X (.For tg iter body [] pos) (Tz wi g tb):=by
 intro pZ s σ H D I h;refine wpAny_For (eT (hi pZ s σ H _ I h) fun v s1 h1=>eT h1 fun itv s2 h2=>?_) hs;obtain⟨it,fp,tn,J,H2,e,I2,T,st2,f2,W,⟨m0,w0⟩,turn⟩:=h2;subst e;have stat:∀ {H':Hp},(∀b∈fp,H' b=none)->∀b∈fp,oV X pZ H' b:=fun hn b hb=>⟨hn b hb,(f2 b hb).2⟩
 refine codeAny_forLoop_any (fun n s'=>∃i σ' H',Inv X pZ σ' H' s'/\tn i s'.heap/\(∀b∈fp,H' b=none)/\W i n σ' H') ?_ m0 ⟨0,σ,H2,I2,st2,fun b hb=>(f2 b hb).1,w0⟩;rintro n s3 ⟨i,σ3,H3,I3,st3,fr3,w3⟩;rcases turn i n σ3 H3 w3 with⟨stop,qn⟩ | ⟨go,N,hN,step⟩
 ·refine gv hp (eT (T.done X rfl rfl rfl hc i pZ s3 σ3 H3 X.xe I3 (stat fr3) st3 stop) fun r s4 h9=>?_)
  obtain⟨hr,I4⟩:=h9;subst hr;exact lj ⟨σ3,H3,I4,qn⟩
 ·refine gv hp (eT (T.item X rfl rfl rfl hc i pZ s3 σ3 H3 X.xe I3 (stat fr3) st3 go) fun r s4 h9=>?_)
  obtain⟨u,hr,h4⟩:=h9;subst hr;refine gv hp (eT h4 fun _ s5 h9=>?_);obtain⟨x,H5,I5,r5,y5,st5,fr5⟩:=h9;have I5':=I5.pinned (stat fr5) (T.obj _ _ st5);refine gv hp (eT (hg _ s5 σ3 H5 x u _ I5' r5 (step x H5 y5)) fun _ s6 h9=>?_);obtain⟨σ6,H6,I6,q6⟩:=h9;refine gv hp (eT (hb _ s6 σ6 H6 _ I6 q6) fun f s7 q7=>?_);have again:∀ {σ7:St} {H7:Hp},Inv X (pZ ++ qt fp s5.heap) σ7 H7 s7->N σ7 H7->∃m,m < n/\∃i σ' H',Inv X pZ σ' H' s7/\tn i s7.heap/\(∀b∈fp,H' b=none)/\W i m σ' H':=fun {σ7 H7} I7 n7=>by
   obtain⟨m',hm,w7⟩:=hN σ7 H7 n7;refine⟨m',hm,i + 1,σ7,H7,I7.pA,T.keep _ _ _ st5 fun b hb o e=>(I7.pin (b,o) (aT _ (aT _ (md hb e)))).1,fun b hb=>?_,w7⟩;obtain⟨o,e,d⟩:=T.obj _ _ st5 b hb;exact(I7.pin (b,o) (aT _ (aT _ (md hb e)))).2.1
  cases f with
  | next=>obtain⟨σ7,H7,I7,n7⟩:=q7;exact again I7 n7
  | cont=>obtain⟨σ7,H7,I7,n7⟩:=q7;exact again I7 n7
  | brk=>obtain⟨σ7,H7,I7,q7⟩:=q7;exact⟨σ7,H7,I7.pA,q7⟩
  | ret v=>obtain⟨x7,σ7,H7,I7,r7,q7⟩:=q7;exact⟨x7,σ7,H7,I7.pA,r7,q7⟩
end
abbrev R2:=V->V->Hp->VK->Prop
def gu(X:Cx)(f:Value->Value->Sem Value)(r:R2):Prop:=
 ∀(pZ:List (Addr × Obj)) (s:aj) (σ:St) (H:Hp) (x y:V) (v u:Value) (Q:VK),Inv X pZ σ H s->RelV x v->RelV y u->r x y H Q ->
  wpAny (aP X.prog X.w) X.A (f v u) (EP X pZ σ Q) X.xe s
def TB(X:Cx)(f:Value->Sem Value)(r:V->Hp->VK->Prop):Prop:=
 ∀(pZ:List (Addr × Obj)) (s:aj) (σ:St) (H:Hp) (x:V) (v:Value) (Q:VK),Inv X pZ σ H s->RelV x v->r x H Q ->
  wpAny (aP X.prog X.w) X.A (f v) (EP X pZ σ Q) X.xe s
def iE(X:Cx)(f:Value)(r:List V->Hp->VK->Prop):Prop:=
 ∀(pZ:List (Addr × Obj)) (s:aj) (σ:St) (H:Hp) (xs:List V) (us:List Value) (Q:VK),Inv X pZ σ H s->Vals xs us->r xs H Q ->
  wpAny (aP X.prog X.w) X.A (call f us) (EP X pZ σ Q) X.xe s
def TC(X:Cx)(r:V->Hp->(Bool->Hp->Prop)->Prop):Prop:=
 ∀(pZ:List (Addr × Obj)) (s:aj) (σ:St) (H:Hp) (x:V) (v:Value) (Q:Bool->Hp->Prop),Inv X pZ σ H s->RelV x v->r x H Q ->
  wpAny (aP X.prog X.w) X.A (truthy v) (TP X pZ σ Q) X.xe s
def Si(r:R2)(ta tb:TE):TE:=fun σ H Q=>ta σ H fun x H1=>tb σ H1 fun y H2=>r x y H2 Q
def Wy(r:V->Hp->VK->Prop)(ta:TE):TE:=fun σ H Q=>ta σ H fun x H1=>r x H1 Q
noncomputable def rI(C:Int->Int->Prop)(g:Int->Int->V):R2:=fun x y H Q=>∃i j,x = .int i/\y = .int j/\C i j/\Q (g i j) H
noncomputable def CV(g:Int->Int->V):R2:=fun x y H Q=>∃i j,x = .int i/\y = .int j/\Q (g i j) H
def rU(g:Int->V):V->Hp->VK->Prop:=fun x H Q=>∃i,x = .int i/\Q (g i) H
section
variable {X:Cx} {a b c:Expr} {ta tb tc:TE} {pos:Pos}
theorem LG(ha:PE X a ta)(hb:PE X b tb){pZ:List (Addr × Obj)}{s:aj}{σ:St}{H:Hp}{R:V->V->Hp->Prop}(I:Inv X pZ σ H s)
  (h:ta σ H fun x H1=>tb σ H1 fun y H2=>R x y H2) {Q:Value->aj->Prop} {f:Value->Value->Sem Value}
  (hf:∀v u s2 x y H2,Inv X pZ σ H2 s2->RelV x v->RelV y u->R x y H2->wpAny (aP X.prog X.w) X.A (f v u) Q X.xe s2):
  wpAny (aP X.prog X.w) X.A (eval a X.env) (fun v s₁=>wpAny (aP X.prog X.w) X.A (eval b X.env) (fun u s₂=>wpAny (aP X.prog X.w) X.A (f v u) Q X.xe s₂) X.xe s₁) X.xe s:=by
 refine eT (ha pZ s σ H _ I h) fun v s1 h9=>?_
 obtain⟨x,H1,I1,r1,q1⟩:=h9;refine eT (hb pZ s1 σ H1 _ I1 q1) fun u s2 h9=>?_
 obtain⟨y,H2,I2,r2,q2⟩:=h9;exact hf v u s2 x y H2 I2 r1 r2 q2
theorem Pc{op:lY}{r:R2}(ho:gu X (cw op) r)(ha:PE X a ta)(hb:PE X b tb):PE X (.BinOp a op b pos) (Si r ta tb):=by
 intro pZ s σ H Q I h;exact wpAny_BinOp (LG ha hb I h fun v u s2 x y H2 I2 rx ry q=>ho pZ s2 σ H2 x y v u Q I2 rx ry q)
theorem Pd{op:UnaryOp}{r:V->Hp->VK->Prop}(ho:TB X (unaryOp op) r)(ha:PE X a ta):PE X (.UnaryOp op a pos) (Wy r ta):=by
 intro pZ s σ H Q I h;refine UnaryOp_ (eT (ha pZ s σ H _ I h) fun v s1 h9=>?_);obtain⟨x,H1,I1,r1,q1⟩:=h9;exact ho pZ s1 σ H1 x v Q I1 r1 q1
theorem Pe{f:Value->Value->Sem Value}{C:Int->Int->Prop}{g:Int->Int->Int}
  (rule:∀(i j:Int) (t u:Tok) (s:aj) (Q:Value->aj->Prop) (E:Value->aj->Prop),C i j->Q (.int (g i j) s.toks) { s with toks:=s.toks + 1 }->wpAny (aP X.prog X.w) X.A (f (.int i t) (.int j u)) Q E s):
  gu X f (rI C fun i j=>.int (g i j)):=by
 intro pZ s σ H x y v u Q I rx ry h;obtain⟨i,j,rfl,rfl,hc,q⟩:=h;obtain⟨t,rfl⟩:=rx;obtain⟨t',rfl⟩:=ry;exact rule i j t t' s _ _ hc ⟨.int (g i j),H,I.tok _,⟨_,rfl⟩,q⟩
theorem Aj{f:Value->Value->Sem Value}{g:Int->Int->Int}
  (rule:∀(i j:Int) (t u:Tok) (s:aj) (Q:Value->aj->Prop) (E:Value->aj->Prop),Q (.int (g i j) s.toks) { s with toks:=s.toks + 1 }->wpAny (aP X.prog X.w) X.A (f (.int i t) (.int j u)) Q E s):
  gu X f (CV fun i j=>.int (g i j)):=by
 intro pZ s σ H x y v u Q I rx ry h;obtain⟨i,j,rfl,rfl,q⟩:=h;obtain⟨t,rfl⟩:=rx;obtain⟨t',rfl⟩:=ry;exact rule i j t t' s _ _ ⟨.int (g i j),H,I.tok _,⟨_,rfl⟩,q⟩
theorem Ig{f:Value->Value->Sem Value}{g:Int->Int->Bool}
  (rule:∀(i j:Int) (t u:Tok) (s:aj) (Q:Value->aj->Prop) (E:Value->aj->Prop),Q (.bool (g i j)) s->wpAny (aP X.prog X.w) X.A (f (.int i t) (.int j u)) Q E s):
  gu X f (CV fun i j=>.bl (g i j)):=by
 intro pZ s σ H x y v u Q I rx ry h;obtain⟨i,j,rfl,rfl,q⟩:=h;obtain⟨t,rfl⟩:=rx;obtain⟨t',rfl⟩:=ry;exact rule i j t t' s _ _ ⟨.bl (g i j),H,I,rfl,q⟩
def TF(i j:Int):Prop:=0 < j/\j < 1073741824
def TH(i j:Int):Prop:=0<=j/\j<=1000000/\i.natAbs < 2 ^ 64
def LH(i j:Int):Prop:=(-(2 ^ 64) < i/\i < 2 ^ 64)\/(-(2 ^ 64) < j/\j < 2 ^ 64)
theorem LH.ok{i j:Int}(h:LH i j):IntMulOk i j:=by
 rcases h with⟨h1,h2⟩ | ⟨h1,h2⟩
 ·exact .of_left (intBits_le_64 h1 h2)
 ·exact .of_right (intBits_le_64 h1 h2)
theorem two_pow_nn(k:Nat):(0:Int)<=2 ^ k:=by
 rw[two_pow_cast]
 exact Int.natCast_nonneg _
theorem LI:gu X (cw .Add) (CV fun i j=>.int (i + j)):=Aj fun _ _ _ _ _ _ _ q=>add_int q
theorem LJ:gu X (cw .Sub) (CV fun i j=>.int (i - j)):=Aj fun _ _ _ _ _ _ _ q=>sub_int q
theorem LK:gu X (cw .Mult) (rI LH fun i j=>.int (i * j)):=Pe fun _ _ _ _ _ _ _ hc q=>mul_int q hc.ok
theorem Ih:gu X (cw .FloorDiv) (rI TF fun i j=>.int (i / j)):=Pe fun i j _ _ _ _ _ hc q=>by
 have h1:(0:Int) < j:=hc.1;have h2:j < 1073741824:=hc.2;exact floordiv_int (by omega) (by rw[wy i (by omega)];exact q) (.inl (PyProof.noPylong_small (by omega)))
theorem LL:gu X (cw .Mod) (rI (fun _ j=>0 < j) fun i j=>.int (i % j)):=Pe fun i j _ _ _ _ _ hc q=>by
 have h1:(0:Int) < j:=hc;exact mod_int' (by omega) (by rw[Int.fmod_eq_emod_of_nonneg i (by omega)];exact q)
theorem LM:gu X (cw .LShift) (rI TH fun i j=>.int (i * 2 ^ j.toNat)):=Pe fun _ _ _ _ _ _ _ hc q=>lshift_int_small hc.1 hc.2.1 hc.2.2 q
theorem LN:gu X (cw .RShift) (rI (fun _ j=>0<=j) fun i j=>.int (i / 2 ^ j.toNat)):=Pe fun i j _ _ _ _ _ hc q=>
 rshift_int hc (by rw[wy i (two_pow_nn _)];exact q)
theorem LO:gu X (cw .BitAnd) (CV fun i j=>.int (Builtin.bitAnd i j)):=Aj fun _ _ _ _ _ _ _ q=>and_int q
theorem Pf:gu X (cw .BitOr) (CV fun i j=>.int (Builtin.bitOr i j)):=Aj fun _ _ _ _ _ _ _ q=>or_int q
theorem Ii:gu X (gJ .Add) (CV fun i j=>.int (i + j)):=Aj fun _ _ _ _ _ _ _ q=>iadd_int q
theorem Ij:gu X (gJ .Sub) (CV fun i j=>.int (i - j)):=Aj fun _ _ _ _ _ _ _ q=>isub_int q
theorem LP:gu X (gJ .BitOr) (CV fun i j=>.int (Builtin.bitOr i j)):=Aj fun _ _ _ _ _ _ _ q=>ior_int q
theorem Wz{f:Value->Sem Value}{g:Int->Int}
  (rule:∀(i:Int) (t:Tok) (s:aj) (Q:Value->aj->Prop) (E:Value->aj->Prop),Q (.int (g i) s.toks) { s with toks:=s.toks + 1 }->wpAny (aP X.prog X.w) X.A (f (.int i t)) Q E s):
  TB X f (rU fun i=>.int (g i)):=by
 intro pZ s σ H x v Q I rx h;obtain⟨i,rfl,q⟩:=h;obtain⟨t,rfl⟩:=rx;exact rule i t s _ _ ⟨.int (g i),H,I.tok _,⟨_,rfl⟩,q⟩
theorem LQ:TB X (unaryOp .USub) (rU fun i=>.int (-i)):=Wz fun _ _ _ _ _ q=>neg_int q
end
noncomputable def LR:V->V->Bool
 | .bQ,.bQ=>true | .bQ,.int _=>true | .int _,.bQ=>true | .bQ,.bl _=>true | .bl _,.bQ=>true | .bQ,.str _=>true | .str _,.bQ=>true
 | .int _,.int _=>true | .bl _,.bl _=>true | .str _,.str _=>true | .zY _,.zY _=>true
 | .int _,.str _=>true | .str _,.int _=>true | .bl _,.str _=>true | .str _,.bl _=>true
 | _,_=>false
noncomputable def WA:R2:=fun x y H Q=>LR x y=true/\Q (.bl (decide (x=y))) H
noncomputable def WB:R2:=fun x y H Q=>LR x y=true/\Q (.bl (!decide (x=y))) H
theorem wZ{i j:Int}:decide (V.int i=V.int j)=(i == j):=by
 rw[de]
 simp
theorem Ak{i j:Bool}:decide (V.bl i=V.bl j)=(i == j):=by
 rw[de]
 simp
theorem BF{i j:Str}:decide (V.str i=V.str j)=(i == j):=by
 rw[de]
 simp
theorem BG{i j:Array UInt8}:decide (V.zY i=V.zY j)=(i.toList == j.toList):=by
 rw[de]
 cases i;cases j;simp
section
variable {X:Cx} {a b c:Expr} {ta tb tc:TE} {pos:Pos}
theorem cH{pZ:List (Addr × Obj)}{σ:St}{H:Hp}{s:aj}{Q:VK}{k k':Bool}(I:Inv X pZ σ H s)(q:Q (.bl k) H)(e:k=k'):EP X pZ σ Q (.bool k') s:=by
 subst e;exact⟨.bl k,H,I,rfl,q⟩
theorem Pg:gu X (bF .Eq) WA:=by
 intro pZ s σ H x y v u Q I rx ry h;obtain⟨hs,q⟩:=h;cases x with
 | bQ=>
  cases rx;cases y with
  | bQ=>cases ry;exact PySem.EqNone.eq_none_none (cH I q (by simp))
  | bl j=>cases ry;exact PySem.EqNone.eq_none_bool (cH I q (by simp))
  | int j=>obtain⟨t',rfl⟩:=ry;exact PySem.EqNone.eq_none_int (cH I q (by simp))
  | str j=>obtain⟨t',rfl⟩:=ry;exact PySem.EqNone.eq_none_str (cH I q (by simp))
  | _=>exact absurd (show false=true from hs) aU
 | bl i=>
  cases rx;cases y with
  | bQ=>cases ry;exact PySem.EqNone.eq_bool_none (cH I q (by simp))
  | bl j=>cases ry;exact eq_bool (cH I q Ak)
  | str j=>obtain⟨t',rfl⟩:=ry;exact PySem.EqMixed.eq_bool_str (cH I q (by simp))
  | _=>exact absurd (show false=true from hs) aU
 | int i=>
  obtain⟨t,rfl⟩:=rx;cases y with
  | bQ=>cases ry;exact PySem.EqNone.eq_int_none (cH I q (by simp))
  | int j=>obtain⟨t',rfl⟩:=ry;exact eq_int (cH I q wZ)
  | str j=>obtain⟨t',rfl⟩:=ry;exact PySem.EqMixed.eq_int_str (cH I q (by simp))
  | _=>exact absurd (show false=true from hs) aU
 | str i=>
  obtain⟨t,rfl⟩:=rx;cases y with
  | bQ=>cases ry;exact PySem.EqNone.eq_str_none (cH I q (by simp))
  | bl j=>cases ry;exact PySem.EqMixed.eq_str_bool (cH I q (by simp))
  | int j=>obtain⟨t',rfl⟩:=ry;exact PySem.EqMixed.eq_str_int (cH I q (by simp))
  | str j=>obtain⟨t',rfl⟩:=ry;exact eq_str (cH I q BF)
  | _=>exact absurd (show false=true from hs) aU
 | zY i=>
  obtain⟨t,rfl⟩:=rx;cases y with
  | zY j=>obtain⟨t',rfl⟩:=ry;exact PySem.W.eq_bytes (cH I q BG)
  | _=>exact absurd (show false=true from hs) aU
 | _=>cases y<;>exact absurd (show false=true from hs) aU
theorem Ph:gu X (bF .NotEq) WB:=by
 intro pZ s σ H x y v u Q I rx ry h;obtain⟨hs,q⟩:=h;cases x with
 | bQ=>
  cases rx;cases y with
  | bQ=>cases ry;exact PySem.EqNone.ne_none_none (cH I q (by simp))
  | bl j=>cases ry;exact PySem.EqNone.ne_none_bool (cH I q (by simp))
  | int j=>obtain⟨t',rfl⟩:=ry;exact PySem.EqNone.ne_none_int (cH I q (by simp))
  | str j=>obtain⟨t',rfl⟩:=ry;exact PySem.EqNone.ne_none_str (cH I q (by simp))
  | _=>exact absurd (show false=true from hs) aU
 | bl i=>
  cases rx;cases y with
  | bQ=>cases ry;exact PySem.EqNone.ne_bool_none (cH I q (by simp))
  | bl j=>cases ry;exact ne_bool (cH I q (congrArg not Ak))
  | str j=>obtain⟨t',rfl⟩:=ry;exact PySem.EqMixed.ne_bool_str (cH I q (by simp))
  | _=>exact absurd (show false=true from hs) aU
 | int i=>
  obtain⟨t,rfl⟩:=rx;cases y with
  | bQ=>cases ry;exact PySem.EqNone.ne_int_none (cH I q (by simp))
  | int j=>obtain⟨t',rfl⟩:=ry;exact ne_int (cH I q (congrArg not wZ))
  | str j=>obtain⟨t',rfl⟩:=ry;exact PySem.EqMixed.ne_int_str (cH I q (by simp))
  | _=>exact absurd (show false=true from hs) aU
 | str i=>
  obtain⟨t,rfl⟩:=rx;cases y with
  | bQ=>cases ry;exact PySem.EqNone.ne_str_none (cH I q (by simp))
  | bl j=>cases ry;exact PySem.EqMixed.ne_str_bool (cH I q (by simp))
  | int j=>obtain⟨t',rfl⟩:=ry;exact PySem.EqMixed.ne_str_int (cH I q (by simp))
  | str j=>obtain⟨t',rfl⟩:=ry;exact ne_str (cH I q (congrArg not BF))
  | _=>exact absurd (show false=true from hs) aU
 | zY i=>
  obtain⟨t,rfl⟩:=rx;cases y with
  | zY j=>obtain⟨t',rfl⟩:=ry;exact PySem.W.ne_bytes (cH I q (congrArg not BG))
  | _=>exact absurd (show false=true from hs) aU
 | _=>cases y<;>exact absurd (show false=true from hs) aU
theorem Pj:gu X (bF .Lt) (CV fun i j=>.bl (decide (i < j))):=Ig fun _ _ _ _ _ _ _ q=>lt_int q
theorem Pk:gu X (bF .LtE) (CV fun i j=>.bl (decide (i<=j))):=Ig fun _ _ _ _ _ _ _ q=>le_int q
theorem Pl:gu X (bF .Gt) (CV fun i j=>.bl (decide (j < i))):=Ig fun _ _ _ _ _ _ _ q=>gt_int q
theorem Pm:gu X (bF .GtE) (CV fun i j=>.bl (decide (j<=i))):=Ig fun _ _ _ _ _ _ _ q=>ge_int q
theorem CW:gu X (bF .In) (fun x y H Q=>∃i j,x = .str i/\y = .str j/\Q (.bl (!(Builtin.Str.occurrences j i 0 j.length 1).isEmpty)) H):=by
 intro pZ s σ H x y v u Q I rx ry h;obtain⟨i,j,rfl,rfl,q⟩:=h;obtain⟨t,rfl⟩:=rx;obtain⟨t',rfl⟩:=ry;exact in_str (cH I q rfl)
theorem LS:gu X (bF .Is) (fun x y H Q=>y = .bQ/\Q (.bl (decide (x = .bQ))) H):=by
 intro pZ s σ H x y v u Q I rx ry h;obtain⟨rfl,q⟩:=h;cases ry;refine is_none_gen (cH I q ?_);cases x<;>first
  | (cases rx;rfl)
  | (obtain⟨t,rfl⟩:=rx;rfl)
theorem Ik:gu X (bF .IsNot) (fun x y H Q=>y = .bQ/\Q (.bl (!decide (x = .bQ))) H):=by
 intro pZ s σ H x y v u Q I rx ry h;obtain⟨rfl,q⟩:=h;cases ry;refine isnot_none_gen (cH I q ?_);cases x<;>first
  | (cases rx;rfl)
  | (obtain⟨t,rfl⟩:=rx;rfl)
theorem Il{op:CmpOp}{r:R2}(ho:gu X (bF op) r)(ha:PE X a ta)(hb:PE X b tb)(hm:behindInMarks op b=false):PE X (.Compare a [op] [b] pos) (Si r ta tb):=by
 intro pZ s σ H Q I h;exact wpAny_Compare1 (LG ha hb I h fun v u s2 x y H2 I2 rx ry q=>ho pZ s2 σ H2 x y v u Q I2 rx ry q) hm
def Pn(t:TE):TT:=fun σ H Q=>t σ H fun x H'=>∃k,x = .bl k/\Q k H'
theorem Im{op:CmpOp}{r:R2}(ho:gu X (bF op) r)(ha:PE X a ta)(hb:PE X b tb)(hm:behindInMarks op b=false):PT X (.Compare a [op] [b] pos) (Pn (Si r ta tb)):=by
 intro pZ s σ H Q I h;refine wpAny_isTrue_Compare1 (eT (ha pZ s σ H _ I h) fun v s1 ⟨x,H1,I1,r1,q1⟩=>eT (hb pZ s1 σ H1 _ I1 q1) fun u s2 ⟨y,H2,I2,r2,q2⟩=>
  eT (ho pZ s2 σ H2 x y v u _ I2 r1 r2 q2) fun c s3 ⟨z,H3,I3,r3,k,e,q3⟩=>?_) hm
 subst e;cases r3;exact eV ⟨H3,I3,q3⟩
def LU(K:aD)(x:V)(H:Hp)(k:Bool):Prop:=
 match x with
 | .bQ=>k=false
 | .bl b=>k=b
 | .int i=>k=(i != 0)
 | .str y=>y.length<=sizeLine/\k=((y.length:Int) != 0)
 | .zY y=>y.size<=sizeLine/\k=((y.size:Int) != 0)
 | .ref p=>(∃xs,gV K H p xs/\k = !xs.isEmpty)\/(∃xs,lD K H p xs/\k = !xs.isEmpty)\/∃kvs,H p=some (.dK kvs)/\k = !kvs.isEmpty
 | _=>False
theorem Al{κ:Type}{kvs:List (κ × V)}{vs:List (κ × Value)}(r:KV kvs vs):(!vs.isEmpty)= !kvs.isEmpty:=by
 cases r<;>rfl
theorem sO{xs:List V}{its:List Value}(r:Vals xs its):(!its.toArray.isEmpty)= !xs.isEmpty:=by
 cases r<;>simp
theorem nh:(sizeLine:Nat) < 2 ^ 63:=by rw[iX];decide
theorem LV:TC X (fun x H Q=>∃k,LU X.K x H k/\Q k H):=by
 intro pZ s σ H x v Q I rx h;obtain⟨k,e,q⟩:=h;have hl:=nh;have hs:sizeLine=16777216:=iX;cases x with
 | bQ=>
  cases rx;have e':k=false:=e;subst e';exact truthy_none ⟨H,I,q⟩
 | bl b=>
  cases rx;have e':k=b:=e;subst e';exact eV ⟨H,I,q⟩
 | int i=>
  obtain⟨t,rfl⟩:=rx;have e':k=(i != 0):=e;subst e';exact PySem.P.truthy_int ⟨H,I,q⟩
 | str y=>
  obtain⟨t,rfl⟩:=rx;obtain⟨hy,e'⟩:y.length<=sizeLine/\k=((y.length:Int) != 0):=e;subst e';exact PySem.P.truthy_str (by omega) ⟨H,I.tok _,q⟩
 | zY y=>
  obtain⟨t,rfl⟩:=rx;obtain⟨hy,e'⟩:y.size<=sizeLine/\k=((y.size:Int) != 0):=e;subst e';exact PySem.W.truthy_bytes (by omega) ⟨H,I.tok _,q⟩
 | ref p=>
  cases rx;have e':(∃xs,gV X.K H p xs/\k = !xs.isEmpty)\/(∃xs,lD X.K H p xs/\k = !xs.isEmpty)\/∃kvs,H p=some (.dK kvs)/\k = !kvs.isEmpty:=e;rcases e' with⟨xs,hx,e'⟩ | ⟨xs,hx,e'⟩ | ⟨kvs,hx,e'⟩
  ·subst e'
   obtain⟨its,r,pl,hz⟩:=I.list hx;have hlen:=r.length;exact wpAny_truthy_list pl.isList (by simp only[aA];omega) ⟨H,I.tok _,by rw[sO r];exact q⟩
  ·subst e'
   obtain⟨its,r,pl,hz⟩:=I.tuple hx;have hlen:=r.length;exact truthy_tuple pl (by simp only[aA];omega) ⟨H,I.tok _,by rw[sO r];exact q⟩
  ·subst e'
   obtain⟨hz,hS,vs,r,m⟩:kvs.length<=sizeLine/\(p == dE)=false/\∃vs,KV kvs vs/\s.heap.DictOf (eH X.prog X.w) p vs:=I.dj p _ hx;have hlen:kvs.length=vs.length:=Paired.length r;exact wpAny_truthy_dict hS m (by omega) ⟨H,I.tok _,by rw[Al r];exact q⟩
 | _=>exact(show False from e).elim
theorem EI(ha:PE X a ta)(he:∀whole,isTrue a X.env whole=(do let v <-whole;standAt a.pos;holding [v] (truthy v))):
  PT X a (fun σ H Q=>ta σ H fun x H'=>∃k,LU X.K x H' k/\Q k H'):=by
 intro pZ s σ H Q I h;refine isTrue_plain (eT (ha pZ s σ H _ I h) fun v s1 h9=>?_) (he _);obtain⟨x,H1,I1,r1,q1⟩:=h9;exact LV pZ s1 σ H1 x v Q I1 r1 q1
theorem Am:gu X (cw .Add) (fun x y H Q=>∃i j,x = .str i/\y = .str j/\i.length + j.length<=sizeLine/\Q (.str (i ++ j)) H):=by
 intro pZ s σ H x y v u Q I rx ry h;obtain⟨i,j,rfl,rfl,hz,q⟩:=h;obtain⟨t,rfl⟩:=rx;obtain⟨t',rfl⟩:=ry;exact add_str (fun t' tk=>⟨.str (i ++ j),H,I.tok _,⟨_,rfl⟩,q⟩) hz
theorem yL:gu X (gJ .Add) (fun x y H Q=>∃i j,x = .str i/\y = .str j/\i.length + j.length<=sizeLine/\Q (.str (i ++ j)) H):=by
 intro pZ s σ H x y v u Q I rx ry h;obtain⟨i,j,rfl,rfl,hz,q⟩:=h;obtain⟨t,rfl⟩:=rx;obtain⟨t',rfl⟩:=ry;exact iadd_str (fun t' tk=>⟨.str (i ++ j),H,I.tok _,⟨_,rfl⟩,q⟩) hz
theorem vals1{x:V}{us:List Value}(r:Vals [x] us):∃u,us = [u]/\RelV x u:=by
 cases r with
 | cons r1 r2=>cases r2;exact⟨_,rfl,r1⟩
def Po(K:aD)(x:V)(H:Hp)(n:Nat):Prop:=
 match x with
 | .str y=>y.length<=sizeLine/\n=y.length
 | .zY y=>y.size<=sizeLine/\n=y.size
 | .ref p=>(∃xs,gV K H p xs/\n=xs.length)\/∃xs,lD K H p xs/\n=xs.length
 | _=>False
theorem EJ:iE X (.builtin "len") (fun xs H Q=>∃x n,xs = [x]/\Po X.K x H n/\Q (.int n) H):=by
 intro pZ s σ H xs us Q I r h;obtain⟨x,n,rfl,e,q⟩:=h;obtain⟨u,rfl,rx⟩:=vals1 r;have hl:=nh;have hs:sizeLine=16777216:=iX;cases x with
 | str y=>
  obtain⟨t,rfl⟩:=rx;obtain⟨hy,e'⟩:y.length<=sizeLine/\n=y.length:=e;subst e';exact len_str (by omega) ⟨.int _,H,I.tok _,⟨_,rfl⟩,q⟩
 | zY y=>
  obtain⟨t,rfl⟩:=rx;obtain⟨hy,e'⟩:y.size<=sizeLine/\n=y.size:=e;subst e';exact PySem.W.len_bytes (by omega) ⟨.int _,H,I.tok _,⟨_,rfl⟩,q⟩
 | ref p=>
  cases rx;have e':(∃xs,gV X.K H p xs/\n=xs.length)\/∃xs,lD X.K H p xs/\n=xs.length:=e;rcases e' with⟨xs,hx,e'⟩ | ⟨xs,hx,e'⟩
  ·subst e'
   obtain⟨its,r',pl,hz⟩:=I.list hx;have hlen:=r'.length;exact Calls.call_len_list pl.isList (by simp only[aA];omega) ⟨.int xs.length,H,I.tok _,⟨_,by simp only[aA];rw[hlen]⟩,q⟩
  ·subst e'
   obtain⟨its,r',pl,hz⟩:=I.tuple hx;have hlen:=r'.length;exact len_tuple pl (by simp only[aA];omega) ⟨.int xs.length,H,I.tok _,⟨_,by simp only[aA];rw[hlen]⟩,q⟩
 | _=>exact(show False from e).elim
end
structure An (h:Heap) (x dx C:Addr) (mA:Str->Option Value):Prop where
 obj:h.get? x=some (dv C dx)
 ns:h.Ns1 dx mA
 ne:dx≠x
theorem vt{h:Heap}{dx:Addr}{mA:Str->Option Value}(n:h.Ns1 dx mA):∃od,h.get? dx=some od/\∀name,m7 name od=some (mA name):=by
 obtain⟨o,es,ep,ho,hd,hk,_,hm⟩:=n;refine⟨o,ho,fun name=>?_⟩;have e:=hm name;unfold nsFind findBy at e;rw[<-Array.find?_toList] at e;unfold m7;rw[hd]
 dsimp only;split
 ·rename_i y q
  rw[q] at e;exact congrArg some e
 ·rename_i q
  rw[q] at e;have a:es.toList.any (·.refKey)=false:=by
   rw[List.any_eq_false]
   intro y hy;obtain⟨z,t,hkey⟩:=hk y (Array.mem_toList_iff.mp hy);simp[DictEntry.refKey,hkey]
  have a':¬es.toList.any (·.refKey)=true:=by rw[a];exact aU
  rw[if_neg a']
  exact congrArg some e
theorem An.look{h:Heap}{x dx C:Addr}{mA:Str->Option Value}(I:An h x dx C mA):∃od,fY h x (dv C dx) C (some od)/\∀name,m7 name od=some (mA name):=
 let ⟨od,ho,hl⟩:=vt I.ns
 ⟨od,⟨I.obj,rfl,rfl,ho⟩,hl⟩
section
variable {prog:bx} {w:bU} {A:cy} {E:Value->aj->Prop} {s:aj} {K:aD} {x dx C f:Addr} {mA:Str->Option Value} {name:Str} {v:Value}
theorem get_map{expr:Bool}{Q:Value->aj->Prop}(X:K.In s.heap)(I:An s.heap x dx C mA)(hg:lE K C name=true)(hh:ph K C=true)
  (ha:dq K (.ref C) name=some none) (hv:mA name=some v) (hv':Ct v=true) (h:Q v { s with toks:=s.toks + 1 }):
  wpAny (aP prog w) A (Eg (.ref x) name expr) Q E s:=by
 obtain⟨od,J,hl⟩:=I.look;exact PySem.W.get_value X J (oy hg).1 (PySem.W.findObj_own hh ha rfl (by rw[hl,hv])) hv' h
theorem EK{pl:Sem Bool}{Q:Value × List Value->aj->Prop}(X:K.In s.heap)(I:An s.heap x dx C mA)(hg:lE K C name=true)
  (hf:dq K (.ref C) name=some (some (.ref f))) (ht:wz K (.ref f)=true) (hv:mA name=none) (h:Q (.ref f,[.ref x]) s):
  wpAny (aP prog w) A (getMethod (.ref x) name pl) Q E s:=by
 obtain⟨od,J,hl⟩:=I.look;exact PySem.W.method_fn X J (oy hg).1 (oy hg).2 hf (beq_iff_eq.mp ht) (by show(m7 name od).map (·.isSome)=some false;rw[hl,hv];rfl) h
theorem Io{ns:List Str}{Q:Unit->aj->Prop}(X:K.In s.heap)(I:An s.heap x dx C mA)
  (hs:dq K (.ref C) "__setattr__" = some (some (.builtin "object.__setattr__"))) (hp:Bv K C=true) (ht:rK K C name=some none) (hh:ph K C=true)
  (hw:jQ mA ns) (hsz:ns.length<=sizeLine)
  (h:∀h',An h' x dx C (fun y=>if y=name then some v else mA y)->qX dx s.heap h'->Q () { s with heap:=h',toks:=s.toks + 2 }):
  wpAny (aP prog w) A (Eh (.ref x) name v) Q E s:=by
 obtain⟨od,J,hl⟩:=I.look;refine PySem.W.set_plain X J hs (PySem.W.osa_open (s:={ s with toks:=s.toks + 1 }) (r:=none) X J hp ht fun b=>?_);obtain⟨cd,hc,hd'⟩:=PySem.W.any_some hh;have hx:s.heap.get? x=some ⟨.ref C,some dx,.plain,#[]⟩:=I.obj;refine ah (aJ (ah (ah (qj hx (ah (PySem.W.Looks.here (s:={ s with toks:=s.toks + 1 }) (PySem.W.looks_clsIn X hc) ?_))))));rw[hd']
 refine aJ (a:=some dx) (ah (aJ (ah ?_)));refine wpAny_nsSet1 (s:={ s with toks:=s.toks + 1 }) I.ns fun h' hn2 hs2=>?_
 obtain⟨oD,esD,epD,hoD,hdD,hcD⟩:=hn2.count (wA name v hw);refine ah (wpAny_lookBehind hoD (by rw[hdD];exact pastItsLine_dict (aR hcD (by rw[aN];omega))) ?_);exact aJ (h _ ⟨(hs2.2 _ (dJ I.ne)).trans I.obj,hn2,I.ne⟩ hs2)
theorem EL{R:Result->aj->Prop}{vs:List Value}{kw:List (Str × Value)}(X:K.In s.heap)(hm:DV K C=true)
  (hi:dq K (.ref C) "__init__" = some (some (.ref f))) (hf:PySem.W.typeIn K (.ref f)=some (.type "function"))
  (h:mW (aP prog w) (A.under (.builtin "type.__call__" ⟨.ref C::vs,kw⟩)) (.call (.ref f) ⟨.ref (s.heap.objs.size + 1)::vs,kw⟩) (PySem.W.InitBack (s.heap.objs.size + 1) R)
   { s with heap:=(s.heap.push cJ).push (dv C s.heap.objs.size) }):
  mW (aP prog w) A (.call (.ref C) ⟨vs,kw⟩) R s:=by
 obtain⟨hh,g,d,t,os⟩:=s;exact PySem.W.make_core (PySem.W.makes_of X hm) (PySem.W.looks_findIn X hi) (fun self=>PySem.W.bind_fn X self hf) (.inl rfl) h
end
noncomputable def f9(f:Str)(v:V):List (Str × V)->List (Str × V)
 | []=>[(f,v)]
 | (g,x)::r=>if g=f then(g,v)::r else(g,x)::f9 f v r
theorem nj(f g:Str)(v:V):∀fs:List (Str × V),(f9 f v fs).lookup g=if g=f then some v else fs.lookup g
 | []=>by
  show fA g [(f,v)] = _
  by_cases h:g=f
  ·have hb:(g == f)=true:=beq_iff_eq.mpr h
   simp only[fA,hb,if_pos h]
  ·have hb:(g == f)=false:=beq_eq_false_iff_ne.mpr h
   simp only[fA,hb,if_neg h]
 | (k,x)::r=>by
  have ih:=nj f g v r;rw[show f9 f v ((k,x)::r)=(if k=f then(k,v)::r else(k,x)::f9 f v r) from rfl]
  by_cases hk:k=f
  ·rw[if_pos hk]
   by_cases h:g=k
   ·have hb:(g == k)=true:=beq_iff_eq.mpr h
    simp only[fA,hb,if_pos (h.trans hk)]
   ·have hb:(g == k)=false:=beq_eq_false_iff_ne.mpr h
    simp only[fA,hb,if_neg (fun e:g=f=>h (e.trans hk.symm))]
  ·rw[if_neg hk]
   by_cases h:g=k
   ·have hb:(g == k)=true:=beq_iff_eq.mpr h
    simp only[fA,hb,if_neg (fun e:g=f=>hk (h.symm.trans e))]
   ·have hb:(g == k)=false:=beq_eq_false_iff_ne.mpr h
    simp only[fA,hb];exact ih
theorem lM(f:Str)(v:V):∀fs:List (Str × V),f∈(f9 f v fs).map (·.1)/\∀g,g∈fs.map (·.1)->g∈(f9 f v fs).map (·.1)
 | []=>⟨by simp[f9],fun g h=>by simp at h⟩
 | (k,x)::r=>by
  obtain⟨i1,i2⟩:=lM f v r;rw[show f9 f v ((k,x)::r)=(if k=f then(k,v)::r else(k,x)::f9 f v r) from rfl]
  by_cases hk:k=f
  ·rw[if_pos hk]
   subst hk;exact⟨by simp,fun g h=>by simpa using h⟩
  ·rw[if_neg hk]
   refine⟨?_,fun g h=>?_⟩
   ·rw[aE]
    exact aS _ i1
   ·rw[aE] at h ⊢
    rcases aX.mp h with e | e
    ·exact aX.mpr (.inl e)
    ·exact aS _ (i2 g e)
theorem rh(f:Str)(v:V):∀fs:List (Str × V),(f9 f v fs).length<=fs.length + 1
 | []=>by simp[f9]
 | (k,x)::r=>by
  have ih:=rh f v r;rw[show f9 f v ((k,x)::r)=(if k=f then(k,v)::r else(k,x)::f9 f v r) from rfl]
  by_cases hk:k=f
  ·rw[if_pos hk,aN,aN];omega
  ·rw[if_neg hk,aN,aN];omega
theorem mO.some_of{v:V}{o:Option Value}(r:mO (some v) o):∃u,o=some u/\RelV v u:=by
 cases o with
 | none=>exact(show False from r).elim
 | some u=>exact⟨u,rfl,r⟩
theorem mO.none_of{o:Option Value}(r:mO none o):o=none:=by
 cases o with
 | none=>rfl
 | some u=>exact(show False from r).elim
theorem vv{v:V}{u:Value}(r:RelV v u):Ct u=true:=by
 cases v with
 | bQ=>cases (show u=dm from r);rfl
 | bl b=>cases (show u=iw b from r);rfl
 | int i=>obtain⟨t,e⟩:=(show ∃t,u=lX i t from r);cases e;rfl
 | str x=>obtain⟨t,e⟩:=(show ∃t,u=je x t from r);cases e;rfl
 | zY b=>obtain⟨t,e⟩:=(show ∃t,u=Value.bytes b t from r);cases e;rfl
 | Ln b=>obtain⟨t,e⟩:=(show ∃t,u=z3 b t from r);cases e;rfl
 | ref a=>cases (show u=aO a from r);rfl
 | ty n=>cases (show u=uA n from r);rfl
section
variable {P:bx} {w:bU} {H H':Hp} {h h':Heap} {a C dx:Addr} {fs fs':List (Str × V)}
theorem r8(dj:ng P w H h)(e:H a=some (.ins C dx fs)):∃mA,An h a dx C mA/\(∀f,mO (fs.lookup f) (mA f))/\jQ mA (fs.map (·.1))/\fs.length<=1000/\H dx=some (.own a):=by
 obtain⟨d,z,ne,ob,mA,n,r,q⟩:=(show dZ P w H h a (.ins C dx fs) from dj a _ e)
 exact⟨mA,⟨ob,n,ne⟩,r,q,z,d⟩
end
structure BH (K:aD) (C:Addr):Prop where
 pg:lE K C Str.empty=true
 hd:ph K C=true
 po:Bv K C=true
 sa:dq K (.ref C) "__setattr__" = some (some (.builtin "object.__setattr__"))
theorem BH.get{K:aD}{C:Addr}(c:BH K C)(f:Str):lE K C f=true:=c.pg
def fm(K:aD)(C:Addr)(f:Str):Prop:=dq K (.ref C) f=some none
theorem fm.EM{K:aD}{C:Addr}{f:Str}(n:fm K C f):rK K C f=some none:=by
 unfold rK;rw[show dq K (.ref C) f=some none from n]
 rfl
structure Meth (K:aD) (C:Addr) (m:Str) (f:Addr):Prop where
 at_:dq K (.ref C) m=some (some (.ref f))
 fn:wz K (.ref f)=true
 kp:m8 K (.ref f)=true
section
variable {X:Cx} {pZ:List (Addr × Obj)} {σ:St} {H:Hp} {s:aj} {a C dx:Addr} {fs:List (Str × V)} {f:Str} {v:V} {A:cy} {E:Value->aj->Prop}
theorem sP{b:Bool}{Q:Value->aj->Prop}(I:Inv X pZ σ H s)(e:H a=some (.ins C dx fs))(c:BH X.K C)(n:fm X.K C f)(l:fs.lookup f=some v)
  (h:∀u s',Inv X pZ σ H s'->RelV v u->Q u s'):wpAny (aP X.prog X.w) A (Eg (.ref a) f b) Q E s:=by
 obtain⟨mA,O,r,_,_,_⟩:=r8 I.dj e;obtain⟨u,hu,ru⟩:=mO.some_of (v:=v) (o:=mA f) (by rw[<-l];exact r f);exact get_map I.kA O (c.get f) c.hd n hu (vv ru) (h u _ (I.tok _) ru)
theorem sQ{m:Str}{g:Addr}{pl:Sem Bool}{Q:Value × List Value->aj->Prop}(I:Inv X pZ σ H s)(e:H a=some (.ins C dx fs))(c:BH X.K C)(k:Meth X.K C m g)(l:fs.lookup m=none)
  (h:Q (.ref g,[.ref a]) s):wpAny (aP X.prog X.w) A (getMethod (.ref a) m pl) Q E s:=by
 obtain⟨mA,O,r,_,_,_⟩:=r8 I.dj e;have hn:mA m=none:=mO.none_of (by rw[<-l];exact r m);exact EK I.kA O (c.get m) k.at_ k.fn hn h
theorem sR{y:V}{u:Value}{Q:Unit->aj->Prop}(I:Inv X pZ σ H s)(e:H a=some (.ins C dx fs))(c:BH X.K C)(n:fm X.K C f)(hl:fs.length < 1000)(ry:RelV y u)
  (h:∀s',Inv X pZ σ (upd H a (.ins C dx (f9 f y fs))) s'->Q () s'):wpAny (aP X.prog X.w) A (Eh (.ref a) f u) Q E s:=by
 obtain⟨mA,O,r,wi,_,ho⟩:=r8 I.dj e;have hz:(fs.map (·.1)).length<=sizeLine:=by rw[ar,iX];omega
 refine Io I.kA O c.sa c.po n.EM c.hd wi hz fun h' O' sb=>h _ ?_
 have hd:∃o,h'.get? dx=some o:=let ⟨o,_,_,e',_⟩:=O'.ns;⟨o,e'⟩;refine I.write (x:=a) (e:=dx) (by rw[e];exact dS) (.inr ho) (fun b q hb z=>(sb.2 b hb).trans z) hd ?_;refine⟨by rw[bq O.ne];exact ho,?_,O.ne,O'.obj,_,O'.ns,fun g=>?_,fun g hg=>?_⟩
 ·have:=rh f y fs;omega
 ·show mO ((f9 f y fs).lookup g) (if g=f then some u else mA g)
  rw[nj]
  by_cases q:g=f
  ·rw[if_pos q,if_pos q];exact ry
  ·rw[if_neg q,if_neg q];exact r g
 ·by_cases q:g=f
  ·rw[q];exact(lM f y fs).1
  ·refine(lM f y fs).2 g (wi g fun z=>hg ?_)
   show(if g=f then some u else mA g)=none
   rw[if_neg q];exact z
theorem Inv.made(I:Inv X pZ σ H s):Inv X pZ σ (upd (upd H s.heap.objs.size (.own (s.heap.objs.size + 1))) (s.heap.objs.size + 1) (.ins C s.heap.objs.size []))
  { s with heap:=(s.heap.push cJ).push (dv C s.heap.objs.size) }:=by
 have e1:(s.heap.push cJ).get? s.heap.objs.size=some cJ:=bu s.heap rfl;have e2:((s.heap.push cJ).push (dv C s.heap.objs.size)).get? (s.heap.objs.size + 1)=some (dv C s.heap.objs.size):=by
  have:=bu (s.heap.push cJ) (o:=dv C s.heap.objs.size) rfl
  rwa [va] at this
 have e3:(s.heap.push cJ).Ns s.heap.objs.size (fun _=>none):=⟨cJ,#[],_,e1,rfl,(fun e he=>absurd he (by simp)),fun _=>rfl⟩
 have I1:=I.laid (a:=s.heap.objs.size) (o:=.own (s.heap.objs.size + 1)) (h':=s.heap.push cJ) (t':=s.toks) (fun b u q=>ay _ q) (ax _) ⟨_,e1⟩;refine I1.laid (a:=s.heap.objs.size + 1) (o:=.ins C s.heap.objs.size []) (t':=s.toks) (fun b u q=>ay _ q) (z4 (va _ _)) ?_;have ne:s.heap.objs.size≠s.heap.objs.size + 1:=bV (sD _);refine⟨by rw[bq ne,bE],dM _,ne,e2,fun _=>none,(z5 e3).at fun o q=>ay _ q,fun _=>dS,fun y hy=>absurd rfl hy⟩
theorem Ip{prog:bx}{w:bU}{env:Env}{e:Expr}{f:Str}{pos:Pos}{s:aj}{Q:Value->aj->Prop}(hb:iO e f env (eval e env)=eval e env)
  (h:wpAny (aP prog w) A (eval e env) (fun o s₁=>wpAny (aP prog w) A (Eg o f true) Q E s₁) E s):wpAny (aP prog w) A (eval (.Attribute e f pos) env) Q E s:=
 Attribute_any_ h (by rw[arm_eval_Attribute,hb])
end
def TJ(K:aD)(ta tv:TE)(f:Str):TS:=fun D σ H=>tv σ H fun y H1=>ta σ H1 fun x H2=>∃a C dx fs,x = .ref a/\H2 a=some (.ins C dx fs)/\BH K C/\fm K C f/\fs.length < 1000 /\
 D.nx σ (upd H2 a (.ins C dx (f9 f y fs)))
def TK(X:Cx)(op:lY)(rd:V->V->Hp->VK->Prop):Prop:=
 ∀(pZ:List (Addr × Obj)) (s:aj) (σ:St) (H:Hp) (x y:V) (u v:Value) (Q:VK),Inv X pZ σ H s->RelV x u->RelV y v->rd x y H Q->wpAny (aP X.prog X.w) X.A (gJ op u v) (EP X pZ σ Q) X.xe s
def Iq(K:aD)(ta tv:TE)(rd:V->V->Hp->VK->Prop)(f:Str):TS:=fun D σ H=>ta σ H fun x H1=>∃a C dx fs v,x = .ref a/\H1 a=some (.ins C dx fs)/\BH K C/\fm K C f/\fs.lookup f=some v /\
 tv σ H1 fun y H2=>rd v y H2 fun z H3=>∃dx' fs',H3 a=some (.ins C dx' fs')/\fs'.length < 1000/\D.nx σ (upd H3 a (.ins C dx' (f9 f z fs')))
section
variable {X:Cx} {o e value:Expr} {f:Str} {pos pos' tpos:Pos} {ta tv:TE}
theorem LW(ha:PE X o ta)(hv:PE X value tv)(hs:iy value (some (.Attribute o f pos')) pos.line X.env=pure false):PS X (.Assign [.Attribute o f pos'] value pos) (TJ X.K ta tv f):=by
 intro pZ s σ H D I h;refine vb (eT (hv pZ s σ H _ I h) fun u s1 h9=>?_) hs;obtain⟨y,H1,I1,ry,q⟩:=h9;refine eT (ha pZ s1 σ H1 _ I1 q) fun ov s2 h9=>?_
 obtain⟨x,H2,I2,rx,a,C,dx,fs,ex,ea,c,n,l,q2⟩:=h9;subst ex;obtain rfl:ov=aO a:=rx;exact sR I2 ea c n l ry fun s3 I3=>⟨σ,_,I3,q2⟩
theorem CY{op:lY}{rd:V->V->Hp->VK->Prop}(ha:PE X o ta)(hv:PE X value tv)(hop:TK X op rd):PS X (.AugAssign (.Attribute o f tpos) op value pos) (Iq X.K ta tv rd f):=by
 intro pZ s σ H D I h;refine wpAny_AugAssign_AttributeAny (eT (ha pZ s σ H _ I h) fun ov s1 h9=>?_);obtain⟨x,H1,I1,rx,a,C,dx,fs,v,ex,ea,c,n,l,q⟩:=h9;subst ex;obtain rfl:ov=aO a:=rx;refine sP I1 ea c n l fun u s2 I2 ru=>eT (hv pZ s2 σ H1 _ I2 q) fun w3 s3 h9=>?_
 obtain⟨y,H2,I3,ry,q3⟩:=h9;refine eT (hop pZ s3 σ H2 v y u w3 _ I3 ru ry q3) fun w4 s4 h9=>?_
 obtain⟨z,H3,I4,rz,dx',fs',ea',l',q4⟩:=h9;exact sR I4 ea' c n l' rz fun s5 I5=>⟨σ,_,I5,q4⟩
end
section
variable {X:Cx} {pZ:List (Addr × Obj)} {σ:St} {H:Hp} {s:aj} {A:cy} {E:Value->aj->Prop} {Q:Value->aj->Prop} {c:Value} {b:Bool}
inductive qu (K:aD) (H:Hp):V->Value->Prop where
 | bQ:qu K H .bQ (.type "NoneType")
 | bl (x:Bool):qu K H (.bl x) (.type "bool")
 | int (i:Int):qu K H (.int i) (.type "int")
 | str (x:Str):qu K H (.str x) (.type "str")
 | Ln (x:UInt64):qu K H (.Ln x) (.type "float")
 | lst {a:Addr} {xs:List V} (e:H a=some (.lst xs)):qu K H (.ref a) (.type "list")
 | Af {a:Addr} {o:Obj} {xs:List V} (e:H a=some (.Af o (.lst xs))):qu K H (.ref a) (.type "list")
 | tup {a:Addr} {xs:List V} (e:H a=some (.tup xs)):qu K H (.ref a) (.type "tuple")
 | dK {a:Addr} {kvs:List (Key × V)} (e:H a=some (.dK kvs)):qu K H (.ref a) (.type "dict")
 | dT {a:Addr} {kvs:List (List Key × V)} (e:H a=some (.dT kvs)):qu K H (.ref a) (.type "dict")
 | ins {a C dx:Addr} {fs:List (Str × V)} (e:H a=some (.ins C dx fs)) (cl:BH K C) (ha:dq K (.ref C) "__class__" = some (some (.builtin "object.__class__")))
   (hn:PySem.W.specialIn K (.builtin "object.__class__") "__get__" = some (some (.builtin "getset_descriptor.__get__"))) (LX:PySem.W.takesIn K (.builtin "object.__class__")=some true)
   (hm:PySem.W.mroIn K C (.type "object")=some true):qu K H (.ref a) (.ref C)
theorem CZ{x:V}{u t:Value}(I:Inv X pZ σ H s)(rx:RelV x u)(ty:qu X.K H x t)(e:PySem.W.kitOne X.K t c=some b)(h:∀tk,Q (.bool b) { s with toks:=tk }):
  wpAny (aP X.prog X.w) A (call (.builtin "isinstance") [u,c]) Q E s:=by
 cases ty with
 | bQ=>cases (show u=dm from rx);exact cQ PySem.W.kitx_none I.kA dS e (fun z=>nomatch z) h
 | bl y=>cases (show u=iw y from rx);exact cQ PySem.W.kitx_bool I.kA dS e (fun z=>nomatch z) h
 | int i=>obtain⟨t,q⟩:=(show ∃t,u=lX i t from rx);cases q;exact cQ PySem.W.kitx_int I.kA dS e (fun z=>nomatch z) h
 | str y=>obtain⟨t,q⟩:=(show ∃t,u=je y t from rx);cases q;exact cQ PySem.W.kitx_str I.kA dS e (fun z=>nomatch z) h
 | Ln y=>obtain⟨t,q⟩:=(show ∃t,u=z3 y t from rx);cases q;exact cQ PySem.W.kitx_float I.kA dS e (fun z=>nomatch z) h
 | @lst a xs ea=>
  cases (show u=aO a from rx);obtain⟨_,_,n,_,h1⟩:=(show dZ X.prog X.w H s.heap a (.lst xs) from I.dj a _ ea)
  exact cQ Bw I.kA ⟨_,h1,rfl⟩ e (fun z=>nomatch z) h
 | @Af a ob xs ea=>
  cases (show u=aO a from rx);obtain⟨_,_,_,n,_,h1⟩:=(show dZ X.prog X.w H s.heap a (.Af ob (.lst xs)) from I.dj a _ ea)
  exact cQ Bw I.kA ⟨_,h1,rfl⟩ e (fun z=>nomatch z) h
 | @tup a xs ea=>
  cases (show u=aO a from rx);obtain⟨_,_,_,p⟩:=(show dZ X.prog X.w H s.heap a (.tup xs) from I.dj a _ ea)
  obtain⟨o,h1,h2,_⟩:=p;exact cQ PySem.W.kitx_tuple I.kA ⟨o,h1,h2⟩ e (fun z=>nomatch z) h
 | @dK a kvs ea=>
  cases (show u=aO a from rx);obtain⟨_,_,vs,_,p⟩:=(show dZ X.prog X.w H s.heap a (.dK kvs) from I.dj a _ ea)
  obtain⟨o,es,ep,h1,h2,_⟩:=p;exact cQ Bx I.kA ⟨o,h1,h2.1⟩ e (fun z=>nomatch z) h
 | @dT a kvs ea=>
  cases (show u=aO a from rx);obtain⟨_,_,xs,_,o,es,ep,h1,h2,_⟩:=(show dZ X.prog X.w H s.heap a (.dT kvs) from I.dj a _ ea)
  exact cQ Bx I.kA ⟨o,h1,h2.1⟩ e (fun z=>nomatch z) h
 | @ins a C dx fs ea cl ha hn LX hm=>
  cases (show u=aO a from rx);obtain⟨mA,O,_⟩:=r8 I.dj ea;obtain⟨od,J,_⟩:=O.look;exact cQ (PySem.W.kitx_own (cl.get _) cl.hd ha hn LX hm) I.kA J e (fun z=>nomatch z) h
end
structure jf (k:Nat) (A:cy):Prop where
 hd:A.handled=none
 dp:A.depth + 3 * k + 5 < recursionLimit
 un:A.units + 16 * k + 200 < kh
theorem jf.mono{j k:Nat}{A:cy}(r:jf k A)(h:j<=k):jf j A:=⟨r.hd,by have:=r.dp;omega,by have:=r.un;omega⟩
theorem jf.deeper{k:Nat}{A:cy}(r:jf (k + 1) A)(env:Env):jf k (A.deeper env):=
 ⟨r.hd,by have:=r.dp;show A.depth + 1 + 3 * k + 5 < _;omega,by have:=r.un;show A.units + 3 + 16 * k + 200 < _;omega⟩
theorem Ao{A:cy}{C:Addr}{us:List Value}{kw:List (Str × Value)}:(A.under (.builtin "type.__call__" ⟨.ref C::us,kw⟩)).depth=A.depth + 1:=by
 first | rfl | simp[yp,Code.weight,Code.isCreation,Code.isGuard,Code.isCaller,Code.frames,zQ,guardIds]
theorem Ap{A:cy}{C:Addr}{us:List Value}{kw:List (Str × Value)}:(A.under (.builtin "type.__call__" ⟨.ref C::us,kw⟩)).units=A.units + 1:=by
 first | rfl | simp[yp,Code.cUnits,Code.frames,zQ]
theorem jf.make{k:Nat}{A:cy}(r:jf (k + 1) A)(C:Addr)(us:List Value)(kw:List (Str × Value)):jf k (A.under (.builtin "type.__call__" ⟨.ref C::us,kw⟩)):=
 ⟨r.hd,by have:=r.dp;rw[Ao];omega,by have:=r.un;rw[Ap];omega⟩
theorem jf.depth{k:Nat}{A:cy}(r:jf k A):A.depth < recursionLimit:=by have:=r.dp;omega
def TL:TA:=fun _ H Q=>Q [] H
def Pp(ta:TE)(tr:TA):TA:=fun σ H Q=>ta σ H fun x H1=>tr σ H1 fun xs H2=>Q (x::xs) H2
section
variable {X:Cx} {e:Expr} {es:List Expr} {te:TE} {t:TA} {pos:Pos}
theorem qv:PA X [] TL:=fun _ _ _ _ H Q I h=>qk ⟨[],H,I,.nil,h⟩
theorem kG(ha:PE X e te)(hr:PA X es t)(hs:bN (e::es) X.env=(false,eval e X.env)::bN es X.env:=by rfl):PA X (e::es) (Pp te t):=by
 intro pos pZ s σ H Q I h;rw[hs]
 show wpAny _ _ (spliced ((false,eval e X.env)::iC pos (bN es X.env))) _ _ s
 refine ki (eT (ha pZ s σ H _ I h) fun u s1 h9=>?_);obtain⟨x,H1,I1,r1,q1⟩:=h9;refine eT (hr pos pZ s1 σ H1 _ I1 q1) fun us s2 h9=>?_
 obtain⟨xs,H2,I2,r2,q2⟩:=h9;exact⟨x::xs,H2,I2,.cons r1 r2,q2⟩
def TM(t:TA):TE:=fun σ H Q=>t σ H fun xs H1=>xs.length<=sizeLine/\∀p,H1 p=none->Q (.ref p) (upd H1 p (.tup xs))
def TN(t:TA):TE:=fun σ H Q=>t σ H fun xs H1=>xs.length<=sizeLine/\∀p,H1 p=none->Q (.ref p) (upd H1 p (.lst xs))
theorem EN{x1}(h:PA X es t):PE X (.Tuple es x1 pos) (TM t):=by
 intro pZ s σ H Q I hq;refine wpAny_Tuple_spliced (eT (h pos pZ s σ H _ I hq) fun us s1 h9=>?_);obtain⟨xs,H1,I1,r,z,q⟩:=h9;refine⟨by rw[<-r.length];exact z,?_⟩;have hf:H1 s1.heap.objs.size=none:=I1.dj.fresh (ax _);refine⟨.ref s1.heap.objs.size,upd H1 s1.heap.objs.size (.tup xs),I1.laid (t':=s1.toks) (fun b u e=>ay _ e) (ax _) ?_,rfl,q _ hf⟩;exact⟨z,us,r,⟨_,bu _ rfl,rfl,_,rfl⟩⟩
theorem LY(h:PA X es t):PE X (.List es pos) (TN t):=by
 intro pZ s σ H Q I hq;refine wpAny_List_spliced (eT (h pos pZ s σ H _ I hq) fun us s1 h9=>?_);obtain⟨xs,H1,I1,r,z,q⟩:=h9;refine⟨by rw[<-r.length];exact z,?_⟩;have hf:H1 s1.heap.objs.size=none:=I1.dj.fresh (ax _);refine⟨.ref s1.heap.objs.size,upd H1 s1.heap.objs.size (.lst xs),I1.laid (t':=s1.toks) (fun b u e=>ay _ e) (ax _) ?_,rfl,q _ hf⟩;exact⟨z,us,0,r,bu _ rfl⟩
end
abbrev Sp:=List V->Hp->VK->XK->Prop
abbrev EO:=List Env->Hp->aj->XK->Value->aj->Prop
structure Aq (P:bx) (w:bU) (K:aD) (mg:Str->Option Value) (base:Heap) (A:cy) (outer:List Env) (s:aj) (H:Hp):Prop where
 frames:A.frames=some outer
 mod:Mod K mg base
 bs:∀b o,base.get? b=some o->s.heap.get? b=some o/\H b=none
 D9:base.objs.size<=s.heap.objs.size
 oR:s.heap.FunFrames base outer
 HB:∀b∈uJ outer,H b=none
 dj:ng P w H s.heap
 bare:mV s.gens
def CE(outer:List Env)(P:bx)(w:bU)(H:Hp)(s:aj)(Q:VK)(u:Value)(s':aj):Prop:=
 ∃v H',s'.os=s.os/\mV s'.gens/\Un (uJ outer) [] H H' s.heap s'.heap/\ng P w H' s'.heap/\RelV v u/\Q v H'
def CR(CX:EO)(outer:List Env)(P:bx)(w:bU)(H:Hp)(s:aj)(Q:VK)(E:XK)(r:Result)(s':aj):Prop:=
 match r with
 | .ok (.ret u)=>CE outer P w H s Q u s'
 | .ok _=>False
 | .error e=>CX outer H s E e s'
structure iz (P:bx) (w:bU) (K:aD) (mg:Str->Option Value) (base:Heap) (CX:EO) (k:Nat) (f:Addr) (fd:dQ) (ps:List Str) (sp:Sp):Prop where
 len:∀vs H Q E,sp vs H Q E->vs.length=ps.length
 run:∀(A:cy) (outer:List Env) (s:aj) (H:Hp) (args:Args) (us:List Value) (vs:List V) (Q:VK) (E:XK),jf k A->Aq P w K mg base A outer s H->zR s fd args (ps.zip us)->Vals vs us->sp vs H Q E ->
  mW (aP P w) A (.call (.ref f) args) (CR CX outer P w H s Q E) s
theorem iz.mono{P:bx}{w:bU}{K:aD}{mg:Str->Option Value}{base:Heap}{CX:EO}{j k:Nat}{f:Addr}{fd:dQ}{ps:List Str}{sp:Sp}(F:iz P w K mg base CX j f fd ps sp)(h:j<=k):
  iz P w K mg base CX k f fd ps sp:=⟨F.len,fun A outer s H args us vs Q E hr=>F.run A outer s H args us vs Q E (hr.mono h)⟩
theorem iz.imp{P:bx}{w:bU}{K:aD}{mg:Str->Option Value}{base:Heap}{CX:EO}{k:Nat}{f:Addr}{fd:dQ}{ps:List Str}{sp sp':Sp}(F:iz P w K mg base CX k f fd ps sp)
  (h:∀vs H Q E,sp' vs H Q E->sp vs H Q E):iz P w K mg base CX k f fd ps sp':=
 ⟨fun vs H Q E q=>F.len vs H Q E (h _ _ _ _ q),fun A outer s H args us vs Q E hr he hb hv hs=>F.run A outer s H args us vs Q E hr he hb hv (h _ _ _ _ hs)⟩
theorem Aq.make{P:bx}{w:bU}{K:aD}{mg:Str->Option Value}{base:Heap}{A:cy}{outer:List Env}{s:aj}{H:Hp}(e:Aq P w K mg base A outer s H)(C:Addr)(us:List Value)(kw:List (Str × Value)):
  Aq P w K mg base (A.under (.builtin "type.__call__" ⟨.ref C::us,kw⟩)) outer s H:=⟨by first | exact e.frames | (simpa[yp,Code.envs,zQ,pushEnvs] using e.frames),e.mod,e.bs,e.D9,e.oR,e.HB,e.dj,e.bare⟩
section
variable {X:Cx} {pZ:List (Addr × Obj)} {σ:St} {H:Hp} {s s':aj}
theorem Inv.LZ(I:Inv X pZ σ H s):Aq X.prog X.w X.K X.mg X.base X.A X.stack s H:=
 ⟨I.ok.frames,I.ok.mod,I.bs,aR I.ok.D9 I.sz,I.stack,I.wX,I.dj,I.bare⟩
theorem Inv.after{Q:VK}{u:Value}(I:Inv X pZ σ H s)(h:CE X.stack X.prog X.w H s Q u s'):EP X pZ σ Q u s':=by
 obtain⟨v,H',os,bare,un,dj,r,q⟩:=h;obtain⟨hh,g,d,t,os'⟩:=s';obtain rfl:os'=s.os:=os;exact⟨v,H',I.call (h':=hh) (g':=g) (d':=d) (t':=t) (ch:=[]) un dj bare (fun b z=>absurd z (by simp)),r,q⟩
end
def Binds(K:aD)(fd:dQ)(ps:List Str)(ds:List Value):Prop:=
 ∀(s:aj) (us:List Value),K.In s.heap->(us ++ ds).length=ps.length->zR s fd ⟨us,[]⟩ (ps.zip (us ++ ds))
theorem Binds.all{K:aD}{fd:dQ}{ps:List Str}(h:∀us:List Value,us.length=ps.length->z6 fd ⟨us,[]⟩=pure (ps.zip us)):Binds K fd ps []:=fun s us _ hl=>by
 rw[aZ] at hl ⊢;exact .of_eq (h us hl)
section
variable {X:Cx} {CX:EO} {k:Nat} {f C:Addr} {fd:dQ} {ps:List Str} {sp:Sp} {dvs:List V} {ds:List Value} {E:XK} {x m:Str} {p pos apos:Pos} {e o:Expr} {es:List Expr} {ta:TE} {t:TA}
structure Mk (K:aD) (C f:Addr):Prop where
 makes:DV K C=true
 init:dq K (.ref C) "__init__" = some (some (.ref f))
 fn:wz K (.ref f)=true
 kp:m8 K (.ref C)=true
end
structure fO (N P:List Str) (sc:kf):Prop where
 kind:sc.kind = .function
 co:sc.isCoroutine=false
 gen:sc.isGenerator=false
 nd:N.Nodup
 pre:N.take P.length=P
 par:∀x∈P,sc.names.lookup x=some .local\/sc.names.lookup x=some .cell
 L4:∀y∈sc.names,y.2≠.free
theorem vw{kindOf:Str->Option NameKind}{x:Str}:∀ {binds:List (Str × Value)} {m:Str->Option Value},(∀v,(x,v) ∉ binds)->DW kindOf binds m x=m x
 | [],_,_=>rfl
 | (n,v)::r,m,h=>by
  unfold DW;rw[vw fun w hw=>h w (aS _ hw)]
  split
  ·have:x≠n:=by rintro rfl;exact h v ba
   simp[this]
  ·rfl
theorem vx{kindOf:Str->Option NameKind}{x:Str}:∀ {binds:List (Str × Value)} {m:Str->Option Value},(∀v,(x,v) ∉ binds)->DX kindOf binds m x=m x
 | [],_,_=>rfl
 | (n,v)::r,m,h=>by
  unfold DX;rw[vx fun w hw=>h w (aS _ hw)]
  split
  ·rfl
  ·have:x≠n:=by rintro rfl;exact h v ba
   simp[this]
theorem vy{kindOf:Str->Option NameKind}{x:Str}{v:Value}:∀ {P:List Str} {vs:List Value} {i:Nat} {m:Str->Option Value},P.Nodup->P[i]? = some x->vs[i]? = some v->kindOf x=some .local ->
  DW kindOf (P.zip vs) m x=some v
 | [],_,_,_,_,h,_,_=>by simp at h
 | _::_,[],_,_,_,_,h,_=>by simp at h
 | p::P,w::vs,0,m,nd,h1,h2,hk=>by
  simp at h1 h2;subst h1;subst h2;show DW kindOf ((p,w)::P.zip vs) m p=_;unfold DW;rw[vw fun v hv=>(jO.mp nd).1 (uo hv).1,if_pos hk]
  simp
 | p::P,w::vs,i + 1,m,nd,h1,h2,hk=>by
  show DW kindOf ((p,w)::P.zip vs) m x=_
  unfold DW;exact vy (i:=i) (jO.mp nd).2 (by simpa using h1) (by simpa using h2) hk
theorem vz{kindOf:Str->Option NameKind}{x:Str}{v:Value}:∀ {P:List Str} {vs:List Value} {i:Nat} {m:Str->Option Value},P.Nodup->P[i]? = some x->vs[i]? = some v->kindOf x≠some .local ->
  DX kindOf (P.zip vs) m x=some v
 | [],_,_,_,_,h,_,_=>by simp at h
 | _::_,[],_,_,_,_,h,_=>by simp at h
 | p::P,w::vs,0,m,nd,h1,h2,hk=>by
  simp at h1 h2;subst h1;subst h2;show DX kindOf ((p,w)::P.zip vs) m p=_;unfold DX;rw[vx fun v hv=>(jO.mp nd).1 (uo hv).1,if_neg hk]
  simp
 | p::P,w::vs,i + 1,m,nd,h1,h2,hk=>by
  show DX kindOf ((p,w)::P.zip vs) m x=_
  unfold DX;exact vz (i:=i) (jO.mp nd).2 (by simpa using h1) (by simpa using h2) hk
noncomputable def start(N:List Str)(vs:List V):St:=vs.map some ++ cB (N.length - vs.length) none
noncomputable def yM(CX:EO)(P:bx)(w:bU)(K:aD)(mg:Str->Option Value)(base:Heap)(N:List Str)(qual:Str)(scope:kf)(f:Addr)(cd:Value)(A:cy)(outer:List Env)(s:aj)(H:Hp)(E:XK):Cx where
 prog:=P
 w:=w
 K:=K
 mg:=mg
 base:=base
 A:=A.deeper (oO qual scope s.heap.objs.size f cd)
 N:=N
 s₀:=s
 H₀:=H
 env:=oO qual scope s.heap.objs.size f cd
 outer:=outer
 stack:=oO qual scope s.heap.objs.size f cd::outer
 ex:=[]
 calm:=true
 fn:=fun _=>true
 pn:=[]
 xe:=fun e s'=>wpAny (aP P w) (A.deeper (oO qual scope s.heap.objs.size f cd)) (leaving (oO qual scope s.heap.objs.size f cd) e) (fun _ s''=>CX outer H s E e s'') (fun e' s''=>CX outer H s E e' s'') s'
theorem yN{sc:kf}{n:Nat}{x:Str}(h:sc.names.lookup x=some .cell):∃c,(cellsFrom n sc.names []).lookup x=some c:=by
 have q:=wB sc.names n [] (.inl h);exact vc.mp q
theorem C0{CX:EO}{P:bx}{w:bU}{K:aD}{mg:Str->Option Value}{base:Heap}{N ps:List Str}{qual:Str}{scope:kf}{f:Addr}{cd:Value}{A:cy}{outer:List Env}{s s1:aj}{H:Hp}{E:XK}{us:List Value}{vs:List V}
  (S:fO N ps scope) (hd:A.handled=none) (e0:Aq P w K mg base A outer s H) (hl:vs.length=ps.length) (r:Vals vs us)
  (x:InCallC s s.heap.objs.size (DW (oO qual scope s.heap.objs.size f cd).kindOf (ps.zip us) fun _=>none) (cellsFrom (s.heap.objs.size + 1) scope.names []) (DX (oO qual scope s.heap.objs.size f cd).kindOf (ps.zip us) fun _=>none) s1):
  Inv (yM CX P w K mg base N qual scope f cd A outer s H E) [] (start N vs) H s1:=by
 have hpl:ps.length<=N.length:=by have:=congrArg cU S.pre;rw[jo] at this;omega
 obtain⟨h1,tk,rfl,hk⟩:=x.done;have noA:∀b:Addr,b ∉ (yM CX P w K mg base N qual scope f cd A outer s H E).ex:=fun b z=>absurd (show b∈([]:List Addr) from z) (by simp)
 refine⟨⟨e0.mod,S.kind,rfl,rfl,ax _,fun y z c h1 h2=>?_,fun y hy=>?_,fun y c _ h=>?_,fun _=>hd,Around.frames_deeper e0.frames,.inr ⟨rfl,rfl⟩,fun b z=>absurd z (noA b),e0.bs,e0.D9,fun b _ _=>noA b,fun b z=>absurd z (noA b),e0.oR,e0.HB⟩,
  rfl,e0.bare,Un.kept hk,⟨_,x.toInCall.ns,fun i y v h1 h2 h3=>?_⟩,fun y c h=>⟨_,x.cell y c h⟩,e0.dj.fresh (ax _),fun y c h=>?_,fun p hp=>absurd (show p∈([]:List (Addr × Obj)) from hp) (by simp),e0.dj.kept hk,?_⟩
 ·exact name_of_addr x.apart (eS h1) (eS h2)
 ·have hy:scope.names.lookup y=some .cell\/scope.names.lookup y=some .free:=hy
  rcases hy with hy | hy
  ·exact yN hy
  ·exact absurd rfl (S.L4 _ (eS hy))
 ·exact rJ (x.above y c (eS h))
 ·have hi:i < vs.length:=by
   unfold start at h2;by_cases hi:i < vs.length
   ·exact hi
   ·rw[av (by simpa using hi)] at h2
    rw[mG] at h2;split at h2<;>cases h2
  have ha:vs[i]? = some v:=by
   unfold start at h2;rw[ak (by simpa using hi),aw] at h2;cases e:vs[i]? with
   | none=>rw[e] at h2;cases h2
   | some a=>rw[e] at h2;cases h2;rfl
  obtain⟨u,hu,rv⟩:=r.get ha;have hp:ps[i]? = some y:=by
   rw[<-S.pre,List.getElem?_take_of_lt (by omega)];exact h1
  have ndP:ps.Nodup:=by rw[<-S.pre];exact S.nd.sublist (List.take_sublist _ _)
  refine⟨u,rv,?_⟩;rcases S.par y (aB hp) with k | k
  ·exact .inl ⟨k,vy ndP hp hu k⟩
  ·obtain⟨c,e⟩:=yN (n:=s.heap.objs.size + 1) k
   refine .inr ⟨.inl k,c,e,?_⟩;have q:=x.cell y c e;rw[vz ndP hp hu (by show scope.names.lookup y≠_;rw[k];decide)] at q;exact q
 ·exact e0.dj.fresh (rJ (x.above y c (eS h)))
 ·unfold start
  show _=N.length
  rw[aC,ar,List.length_replicate]
  omega
theorem Pq{CX:EO}{P:bx}{w:bU}{K:aD}{mg:Str->Option Value}{base:Heap}{k:Nat}{f:Addr}{name qual:Str}{params:Arguments}{body:List Stmt}{scope:kf}{dV kV doc pm cdv ct oc:Value}{an od:Option Addr}
  {osl:Array (Option Value)} {N ps:List Str} {sp:Sp} (lk:K.lookup f=some ⟨oc,od,.func (jC name qual params body scope dV kV doc pm an cdv ct),osl⟩) (hcd:sE K cdv qual=true) (S:fO N ps scope)
  (len:∀vs H Q E,sp vs H Q E->vs.length=ps.length)
  (hbody:∀(A:cy) (outer:List Env) (s:aj) (H:Hp) (vs:List V) (Q:VK) (E:XK),jf k (A.deeper (oO qual scope s.heap.objs.size f cdv))->sp vs H Q E ->
   ∃t,rN (yM CX P w K mg base N qual scope f cdv A outer s H E) body t/\t { nx:=fun _ H'=>Q .bQ H',rt:=Q } (start N vs) H):
  iz P w K mg base CX (k + 1) f (jC name qual params body scope dV kV doc pm an cdv ct) ps sp:=by
 refine⟨len,fun A outer s H args us vs Q E hr e0 hb r hsp=>?_⟩;have hl:=len _ _ _ _ hsp;have KX:K.In s.heap:=e0.mod.OF.keeps fun b o e=>(e0.bs b o e).1
 have lim:s.heap.NoLimit:=e0.mod.nolimit.keeps fun b o e=>(e0.bs b o e).1
 have hkind:∀y∈ps.zip us,scope.names.lookup y.1=some .local\/(scope.names.lookup y.1=some .cell/\((cellsFrom (s.heap.objs.size + 1) scope.names []).lookup y.1).isSome=true):=fun⟨n,v⟩ hy=>by
  rcases S.par n (uo hy).1 with q | q
  ·exact .inl q
  ·exact .inr ⟨q,wB _ _ _ (.inl q)⟩
 refine codeAny_call_function hr.depth (KX _ _ lk) rfl S.co S.gen rfl (PySem.W.codeRec_of KX hcd) (hb _ _ _ _ ?_);refine wpAny_newFunctionEnv_cells S.kind hkind fun env he s1 x=>?_
 subst he;refine⟨lim.keeps x.toInCall.keep,codeAny_func ?_⟩;obtain⟨t,ht,hq⟩:=hbody A outer s H vs Q E (hr.deeper _) hsp;have I:Inv (yM CX P w K mg base N qual scope f cdv A outer s H E) [] (start N vs) H s1:=C0 S hr.hd e0 hl r x;refine bH (ht [] s1 (start N vs) H _ I hq) (fun fl s' hs=>?_) fun e s' hs=>hs
 have fin:∀ {σ':St} {H':Hp} {v:V} {u:Value},Inv (yM CX P w K mg base N qual scope f cdv A outer s H E) [] σ' H' s'->RelV v u->Q v H'->CE outer P w H s Q u s':=
  fun {σ' H' v u} J rv q=>⟨v,H',J.os,J.bare,J.base,J.dj,rv,q⟩
 cases fl with
 | ret u=>
  obtain⟨v,σ',H',J,rv,q⟩:=hs;exact fin J rv q
 | next=>
  obtain⟨σ',H',J,q⟩:=hs;exact fin (v:=V.bQ) (u:=dm) J rfl q
 | brk=>
  obtain⟨_,_,_,q⟩:=hs;exact aI q
 | cont=>
  obtain⟨_,_,_,q⟩:=hs;exact aI q
section
variable {X:Cx} {x:Str} {p pos:Pos} {e:Expr} {es:List Expr} {t:TA} {id T:String} {r:List V->Hp->VK->Prop}
def TQ(r:List V->Hp->VK->Prop)(t:TA):TE:=fun σ H Q=>t σ H fun vs H1=>r vs H1 Q
theorem lN (hc:iE X (.builtin id) r) (hg:Gl X x) (hm:X.mg x=none) (hv:js x=some (.builtin id)) (ha:PA X (e::es) t) (hn:x≠"__name__":=by decide) (hdb:(x == ("__debug__":Str))=false:=by decide)
  (he:bN (e::es) X.env=(false,eval e X.env)::bN es X.env:=by rfl) (hpl:(iC pos (bN es X.env)).any (·.1)=false:=by rfl):PE X (.Call (.Name x p) (e::es) [] pos) (TQ r t):=by
 intro pZ s σ H Q I h;refine dw (oU I hg hm hv ?_ hn hdb);refine PyProof.Rows.callWith_builtin1 (eT (ha pos pZ s σ H _ I h) fun us s1 h9=>?_) he hpl;obtain⟨vs,H1,I1,r1,q1⟩:=h9;exact hc pZ s1 σ H1 vs us Q I1 r1 q1
theorem qw (hc:iE X (.type T) r) (hg:Gl X x) (hm:X.mg x=none) (hv:js x=some (.type T)) (ha:PA X (e::es) t) (hn:x≠"__name__":=by decide) (hdb:(x == ("__debug__":Str))=false:=by decide)
  (he:bN (e::es) X.env=(false,eval e X.env)::bN es X.env:=by rfl) (hpl:(iC pos (bN es X.env)).any (·.1)=false:=by rfl):PE X (.Call (.Name x p) (e::es) [] pos) (TQ r t):=by
 intro pZ s σ H Q I h;refine dw (oU I hg hm hv ?_ hn hdb);refine iW (eT (ha pos pZ s σ H _ I h) fun us s1 h9=>?_) he hpl;obtain⟨vs,H1,I1,r1,q1⟩:=h9;exact hc pZ s1 σ H1 vs us Q I1 r1 q1
end
end L2
namespace HT
open PySem PyProof.Rows
section
variable {prog:bx} {w:bU} {A:cy} {E:Value->aj->Prop} {s:aj}
theorem Ir{t b:Addr}{vs ws:List Value}{Q:Value->aj->Prop}(ht:IsTup s.heap t vs.toArray)(hb:IsTup s.heap b ws.toArray)(hv:vs≠[])
  (h1:ws = []->Q (.ref t) s) (h2:ws≠[]->Q (.ref s.heap.objs.size) { s with heap:=s.heap.push { cls:=.type "tuple",data:=.seq (vs ++ ws).toArray } })
  (hsz:vs.length + ws.length<=sizeLine):wpAny (aP prog w) A (cw .Add (.ref t) (.ref b)) Q E s:=by
 obtain⟨⟨cls,dd,data,sl⟩,ho,hc,n,hd⟩:=id ht;obtain⟨⟨cls2,dd2,data2,sl2⟩,ho2,hc2,n2,hd2⟩:=id hb;simp only at hc hd hc2 hd2;subst hc hd hc2 hd2;have e:vs.toArray ++ ws.toArray=(vs ++ ws).toArray:=by simp
 by_cases hw:ws = []
 ·exact Ei ⟨_,ho,rfl⟩ ⟨_,ho2,rfl⟩ wC Cu lZ lF (lu _ _)
   (tuple_addW1 t b vs.toArray ws.toArray n n2 dd dd2 sl sl2 (by simpa using hv) (by simp[hw])) ⟨ho,ho2,h1 hw⟩
 ·refine Ei ⟨_,ho,rfl⟩ ⟨_,ho2,rfl⟩ wC Cu lZ lF (lu _ _)
   (tuple_addW2 t b vs.toArray ws.toArray n n2 dd dd2 sl sl2 (by simpa using hv) (by simpa using hw) (by rw[aA,aA];exact hsz)) ⟨ho,ho2,?_⟩
  rw[e]
  exact h2 hw
noncomputable def iP(n d:Nat):Option Int->Nat
 | none=>d
 | some v=>if v < 0 then(v + (n:Int)).toNat else min v.toNat n
theorem L5(n d:Nat)(hd:d<=n)(o:Option Int):iP n d o<=n:=by
 cases o with
 | none=>exact hd
 | some v=>
  show(if v < 0 then(v + (n:Int)).toNat else min v.toNat n)<=n
  by_cases hv:v < 0
  ·rw[if_pos hv];omega
  ·rw[if_neg hv];exact Nat.min_le_right _ _
theorem BI(v:Int)(n d:Nat):(if v < 0 then max (v + (n:Int)) 0 else min v (n:Int))=((iP n d (some v):Nat):Int):=by
 show(if v < 0 then max (v + (n:Int)) 0 else min v (n:Int))=(((if v < 0 then(v + (n:Int)).toNat else min v.toNat n):Nat):Int)
 by_cases hv:v < 0
 ·simp only[if_pos hv];omega
 ·simp only[if_neg hv];omega
theorem Ar(lo hi:Option Int)(n:Nat):Builtin.Slice.sliceAdjust lo hi 1 (n:Int)=(((iP n 0 lo:Nat):Int),((iP n n hi:Nat):Int)):=by
 have h1:¬((1:Int) < 0):=by omega
 unfold Builtin.Slice.sliceAdjust;simp only[h1,if_false];refine Prod.ext ?_ ?_
 ·cases lo with
  | none=>rfl
  | some v=>exact BI v n 0
 ·cases hi with
  | none=>rfl
  | some v=>exact BI v n n
theorem As(i j:Nat):Builtin.Slice.slicePlaces (i:Int) (j:Int) 1=j - i:=by
 unfold Builtin.Slice.slicePlaces;have h1:(1:Int) > 0:=by omega
 simp only[h1,if_true,Int.ediv_one];split<;>omega
theorem sS{v:Value}{o:Option Int}{Q:Option Int->aj->Prop}(p:wD v o)(h:Q o s):wpAny (aP prog w) A (Builtin.Slice.slicePartIndex v) Q E s:=by
 cases p with
 | none=>exact slicePart_none h
 | int i t=>exact slicePart_int h
theorem qy{sl:Addr}{vl vu:Value}{lo hi:Option Int}{n:Nat}{Q:Int × Int × Nat->aj->Prop}(hs:s.heap.IsSliceOf sl vl vu .none)(pl:wD vl lo)(pu:wD vu hi)
  (h:Q (((iP n 0 lo:Nat):Int),1,iP n n hi - iP n 0 lo) s):wpAny (aP prog w) A (Builtin.Slice.sliceApplied (.ref sl) (pure (n:Int))) Q E s:=by
 obtain⟨os,hos,hcs,hds⟩:=id hs;unfold Builtin.Slice.sliceApplied Builtin.Slice.sliceFields;refine ah (ah (kj hos hds (x:=vl) rfl (ah (kj hos hds (x:=vu) rfl (ah (kj hos hds (x:=.none) rfl (aJ ?_)))))));refine ah (slicePart_none ?_);show wpAny _ _ (if ((1:Int)== 0)=true then _ else _) _ _ s;rw[if_neg (by decide)]
 refine ah (sS pl (ah (sS pu (ah (aJ ?_)))));show wpAny _ _ (match Builtin.Slice.sliceAdjust lo hi 1 (n:Int) with | (lo,hi)=>pure (lo,(1:Int),Builtin.Slice.slicePlaces lo hi 1)) _ _ s;rw[Ar lo hi n]
 show wpAny _ _ (pure (((iP n 0 lo:Nat):Int),(1:Int),Builtin.Slice.slicePlaces ((iP n 0 lo:Nat):Int) ((iP n n hi:Nat):Int) 1)) _ _ s
 rw[As]
 exact aJ h
theorem ER(xs:Array Value)(i k:Nat):((cv k).filterMap fun(m:Nat)=>xs[((i:Int) + (m:Int) * 1).toNat]?).toArray=((xs.toList.drop i).take k).toArray:=by
 have e:(fun(m:Nat)=>xs[((i:Int) + (m:Int) * 1).toNat]?)=fun m=>xs[i + m]?:=by
  funext m
  have:((i:Int) + (m:Int) * 1).toNat=i + m:=by omega
  rw[this]
 rw[e]
 have:=pick_run xs i k;rw[qg] at this;have e2:((fun x=>xs[x]?) ∘ fun x=>i + x)=fun m=>xs[i + m]?:=rfl
 rw[e2] at this;rw[this]
theorem pB{t sl:Addr}{items:Array Value}{vl vu:Value}{lo hi:Option Int}{Q:Value->aj->Prop}(ht:IsTup s.heap t items)(hs:s.heap.IsSliceOf sl vl vu .none)(pl:wD vl lo)(pu:wD vu hi)
  (hw:¬(iP items.size 0 lo=0/\iP items.size items.size hi=items.size))
  (h:Q (.ref s.heap.objs.size) { s with heap:=s.heap.push { cls:=.type "tuple",data:=.seq ((items.toList.drop (iP items.size 0 lo)).take (iP items.size items.size hi - iP items.size 0 lo)).toArray } })
  (hsz:items.size<=sizeLine):wpAny (aP prog w) A (uD (.ref t) (.ref sl)) Q E s:=by
 have htake:sizeOk (.seq ((items.toList.drop (iP items.size 0 lo)).take (iP items.size items.size hi - iP items.size 0 lo)).toArray):=by
  show((items.toList.drop (iP items.size 0 lo)).take (iP items.size items.size hi - iP items.size 0 lo)).toArray.size<=sizeLine
  rw[aA,jo,mH,oM]
  omega
 have hj:iP items.size items.size hi<=items.size:=L5 _ _ (ax _) hi;obtain⟨os,hos,hcs,hds⟩:=id hs;have hTs:s.TypeIs (.ref sl) "slice":=⟨os,hos,hcs⟩
 unfold uD;try with_reducible refine gK ?_
 first | refine ah (aJ ?_) | skip
 refine ah (wpAny_sequenceKey ht.typeIs (by decide) ?_);refine ah (wpAny_callSpecial?_slot (name:=bX "__getitem__") ht.typeIs iu
  (wpAny_call_entry iu ht.typeIs entry_tuple_getitem ?_ (args_tuple_getitem _ _)))
 show wpAny _ _ (Builtin.Tuple.tupleItemsOf (.ref t) >>= _) _ _ s
 refine ah (tupleItemsOf_ ht ?_);refine ah (Ej hTs ?_);rw[if_pos (by decide)]
 refine ah (qy hs pl pu ?_);have hno:¬((((iP items.size 0 lo:Nat):Int)== 0 && (1:Int)== 1 && (iP items.size items.size hi - iP items.size 0 lo)== items.size)=true):=by
  intro q;rw[ag,ag] at q;have q1:((iP items.size 0 lo:Nat):Int)=0:=eq_of_beq q.1.1;have q2:iP items.size items.size hi - iP items.size 0 lo=items.size:=eq_of_beq q.2;exact hw ⟨by omega,by omega⟩
 show wpAny _ _ (if (((iP items.size 0 lo:Nat):Int)== 0 && (1:Int)== 1 && (iP items.size items.size hi - iP items.size 0 lo)== items.size)=true then _ else _) _ _ s
 rw[if_neg hno,ER]
 first
  | exact ah (m:=Builtin.Tuple.tupleExact _) (gO (aJ ⟨_,rfl,aJ h⟩) htake)
  | exact ah (m:=Builtin.Tuple.tupleExact _) (gO (ah (aJ (aJ ⟨_,rfl,aJ h⟩))) htake)
  | exact ah (ah (m:=Builtin.Tuple.tupleExact _) (gO (aJ (aJ ⟨_,rfl,aJ h⟩)) htake))
  | exact ah (ah (m:=Builtin.Tuple.tupleExact _) (gO (aJ ⟨_,rfl,aJ h⟩) htake))
end
end HT
namespace L2
open PySem PySem.Spec PyProof.Rows
abbrev TO:=St->Hp->(Option Int->Hp->Prop)->Prop
def PO(X:Cx)(e:Option Expr)(t:TO):Prop:=
 ∀(pZ:List (Addr × Obj)) (s:aj) (σ:St) (H:Hp) (Q:Option Int->Hp->Prop),Inv X pZ σ H s->t σ H Q ->
  wpAny (aP X.prog X.w) X.A (evalPart e X.env) (fun u s'=>∃o H',Inv X pZ σ H' s'/\wD u o/\Q o H') X.xe s
noncomputable def Iu:TO:=fun _ H Q=>Q none H
noncomputable def Pr(t:TE):TO:=fun σ H Q=>t σ H fun x H1=>∃i,x = .int i/\Q (some i) H1
section
variable {X:Cx} {e:Expr} {te:TE} {lo hi:Option Expr} {tl th:TO} {pos p2:Pos}
theorem Iv:PO X none Iu:=by
 intro pZ s σ H Q I h;rw[evalPart_none]
 exact aJ ⟨none,H,I,.none,h⟩
theorem Iw(h:PE X e te):PO X (some e) (Pr te):=by
 intro pZ s σ H Q I hw;rw[evalPart_some]
 refine eT (h pZ s σ H _ I hw) fun u s1 h9=>?_
 obtain⟨x,H1,I1,r1,q1⟩:=h9;obtain⟨i,rfl,q⟩:=q1;obtain⟨t,rfl⟩:=r1;exact⟨some i,H1,I1,.int i t,q⟩
def Pt(X:Cx)(r:V->Option Int->Option Int->Hp->VK->Prop):Prop:=
 ∀(pZ:List (Addr × Obj)) (s:aj) (σ:St) (H:Hp) (x:V) (v vl vu:Value) (lo hi:Option Int) (sl:Addr) (Q:VK),Inv X pZ σ H s->RelV x v->s.heap.IsSliceOf sl vl vu .none->wD vl lo->wD vu hi->r x lo hi H Q ->
  ∃T id,sF (.type T) "__getitem__" = pure (some (.builtin id))/\s.TypeIs v T/\wpAny (aP X.prog X.w) X.A (uD v (.ref sl)) (EP X pZ σ Q) X.xe s
def WC(r:V->Option Int->Option Int->Hp->VK->Prop)(te:TE)(tl th:TO):TE:=fun σ H Q=>te σ H fun x H1=>tl σ H1 fun l H2=>th σ H2 fun u H3=>r x l u H3 Q
theorem ES{r:V->Option Int->Option Int->Hp->VK->Prop}(hr:Pt X r)(he:PE X e te)(hl:PO X lo tl)(hu:PO X hi th):PE X (.Subscript e (.Slice lo hi none p2) pos) (WC r te tl th):=by
 intro pZ s σ H Q I h;refine Subscript_ (eT (he pZ s σ H _ I h) fun v s1 h9=>?_);obtain⟨x,H1,I1,r1,q1⟩:=h9;refine wpAny_Slice (eT (hl pZ s1 σ H1 _ I1 q1) fun vl s2 h9=>?_);obtain⟨l,H2,I2,pl,q2⟩:=h9;refine eT (hu pZ s2 σ H2 _ I2 q2) fun vu s3 h9=>?_
 obtain⟨u,H3,I3,pu,q3⟩:=h9;rw[evalPart_none]
 refine aJ ?_;have I4:Inv X pZ σ H3 { s3 with heap:=s3.heap.push { cls:=.type "slice",data:=.fields #[vl,vu,.none] } }:=I3.kept (t':=s3.toks) fun b ob q=>ay _ q
 obtain⟨T,id,hT,ht,hg⟩:=hr pZ { s3 with heap:=s3.heap.push { cls:=.type "slice",data:=.fields #[vl,vu,.none] } } σ H3 x v vl vu l u s3.heap.objs.size Q I4 r1 (Heap.IsSliceOf.new ..) pl pu q3;show wpAny (aP X.prog X.w) X.A (subscriptTail e (.Slice lo hi none p2) v (.ref s3.heap.objs.size)) (EP X pZ σ Q) X.xe { s3 with heap:=s3.heap.push { cls:=.type "slice",data:=.fields #[vl,vu,.none] } };exact tail_any (ops:=[.ref s3.heap.objs.size,v]) ht hT hg (by with_unfolding_all rfl)
noncomputable def yO(xs:List V)(lo hi:Option Int):List V:=(xs.drop (HT.iP xs.length 0 lo)).take (HT.iP xs.length xs.length hi - HT.iP xs.length 0 lo)
theorem rj(xs:List V)(lo hi:Option Int):(yO xs lo hi).length<=xs.length:=by
 unfold yO;rw[jo,mH]
 omega
def TR(K:aD):V->Option Int->Option Int->Hp->VK->Prop:=fun x lo hi H Q=>∃a xs,x = .ref a/\lD K H a xs /\
 ¬(HT.iP xs.length 0 lo=0/\HT.iP xs.length xs.length hi=xs.length)/\∀p,H p=none->Q (.ref p) (upd H p (.tup (yO xs lo hi)))
theorem L6:Pt X (TR X.K):=by
 intro pZ s σ H x v vl vu lo hi sl Q I rx hs pl pu h;obtain⟨a,xs,rfl,hx,hw,q⟩:=h;cases rx;obtain⟨its,r,ht,hz⟩:=I.tuple hx;have hlen:its.toArray.size=xs.length:=by rw[aA];exact r.length.symm
 refine⟨"tuple",_,iu.lookup,ht.typeIs,?_⟩;refine HT.pB ht hs pl pu (by rw[hlen];exact hw) ?_ (by rw[hlen];exact hz);rw[hlen]
 refine⟨.ref s.heap.objs.size,_,I.laid (t':=s.toks) (o:=.tup (yO xs lo hi)) (fun b ob q=>ay _ q) (ax _) ?_,rfl,q _ (I.dj.fresh (ax _))⟩;exact⟨aR (rj xs lo hi) hz,_,(r.drop (HT.iP xs.length 0 lo)).take (HT.iP xs.length xs.length hi - HT.iP xs.length 0 lo),Ek _ _⟩
noncomputable def Pu(K:aD):R2:=fun x y H Q=>∃a b xs ys,x = .ref a/\y = .ref b/\lD K H a xs/\lD K H b ys/\xs≠[]/\xs.length + ys.length<=sizeLine /\
 (ys = []->Q (.ref a) H)/\(ys≠[]->∀p,H p=none->Q (.ref p) (upd H p (.tup (xs ++ ys))))
theorem Vals.xj{xs:List V}{us:List Value}(r:Vals xs us):us = []↔xs = []:=by
 cases r with
 | nil=>simp
 | cons _ _=>simp
theorem Iy:gu X (cw .Add) (Pu X.K):=by
 intro pZ s σ H x y v u Q I rx ry h;obtain⟨a,b,xs,ys,rfl,rfl,ha,hb,hx,hz,q1,q2⟩:=h;cases rx;cases ry;obtain⟨its,r1,p1,_⟩:=I.tuple ha;obtain⟨its2,r2,p2,_⟩:=I.tuple hb;refine HT.Ir p1 p2 (fun z=>hx (r1.xj.mp z)) (fun z=>⟨.ref a,H,I,rfl,q1 (r2.xj.mp z)⟩) (fun z=>?_) (by rw[<-r1.length,<-r2.length];exact hz);refine⟨.ref s.heap.objs.size,_,I.laid (t':=s.toks) (o:=.tup (xs ++ ys)) (fun b ob q=>ay _ q) (ax _) ?_,rfl,q2 (fun w=>z (r2.xj.mpr w)) _ (I.dj.fresh (ax _))⟩;exact⟨by rw[aC];exact hz,_,r1.append r2,Ek _ _⟩
end
noncomputable def L7(n:Nat)(i:Int):Option Nat:=if 0<=i then(if i < n then some i.toNat else none) else if -(n:Int)<=i then some (i + n).toNat else none
noncomputable def L8{α:Type}(xs:List α)(i:Int):Option α:=(L7 xs.length i).bind fun j=>xs[j]?
theorem BJ{n:Nat}{i:Int}{j:Nat}(h:L7 n i=some j):seqIndex? i n=some j/\j < n/\-(n:Int)<=i/\i < n:=by
 unfold L7 at h;by_cases h0:0<=i
 ·rw[if_pos h0] at h
  by_cases h1:i < n
  ·rw[if_pos h1] at h
   have e:i.toNat=j:=aG h;exact⟨by rw[HM h0 h1,e],by omega,by omega,h1⟩
  ·rw[if_neg h1] at h;cases h
 ·rw[if_neg h0] at h
  by_cases h1:-(n:Int)<=i
  ·rw[if_pos h1] at h
   have e:(i + n).toNat=j:=aG h;exact⟨by rw[El (by omega) h1,e],by omega,h1,by omega⟩
  ·rw[if_neg h1] at h;cases h
theorem xk{α:Type}{xs:List α}{i:Int}{v:α}(h:L8 xs i=some v):∃j,seqIndex? i xs.length=some j/\xs[j]? = some v/\j < xs.length/\-(xs.length:Int)<=i/\i < xs.length:=by
 unfold L8 at h;cases e:L7 xs.length i with
 | none=>rw[e] at h;cases h
 | some j=>
  rw[e] at h;obtain⟨h1,h2,h3,h4⟩:=BJ e;exact⟨j,h1,h,h2,h3,h4⟩
def BK(b:Expr):Prop:=∀o i,subscripted b false o i=operate [o,i] (uD o i)
def OG(X:Cx)(r:R2):Prop:=
 ∀(value slice:Expr) (pZ:List (Addr × Obj)) (s:aj) (σ:St) (H:Hp) (x y:V) (v u:Value) (Q:VK),Inv X pZ σ H s->RelV x v->RelV y u->r x y H Q ->
  subscripted slice false v u=operate [v,u] (uD v u)->wpAny (aP X.prog X.w) X.A (subscriptTail value slice v u) (EP X pZ σ Q) X.xe s
def Ea(X:Cx)(id:String)(r:V->List V->Hp->VK->Prop):Prop:=
 ∀(pZ:List (Addr × Obj)) (s:aj) (σ:St) (H:Hp) (x:V) (xs:List V) (v:Value) (us:List Value) (Q:VK),Inv X pZ σ H s->RelV x v->Vals xs us->r x xs H Q ->
  wpAny (aP X.prog X.w) X.A (call (.builtin id) (v::us)) (EP X pZ σ Q) X.xe s
section
variable {X:Cx} {a b:Expr} {ta tb:TE} {pos:Pos}
theorem Pw{r:R2}(hr:OG X r)(ha:PE X a ta)(hb:PE X b tb)(hs:BK b):PE X (.Subscript a b pos) (Si r ta tb):=by
 intro pZ s σ H Q I h;exact Subscript_ (LG ha hb I h fun v u s2 x y H2 I2 rx ry q=>hr a b pZ s2 σ H2 x y v u Q I2 rx ry q (hs _ _))
noncomputable def TU(K:aD):R2:=fun x y H Q=>∃p xs i v,x = .ref p/\y = .int i/\gV K H p xs/\L8 xs i=some v/\Q v H
noncomputable def TV(K:aD):R2:=fun x y H Q=>∃p xs i v,x = .ref p/\y = .int i/\lD K H p xs/\L8 xs i=some v/\Q v H
noncomputable def TX:R2:=fun x y H Q=>∃z i c,x = .str z/\y = .int i/\z.length<=sizeLine/\L8 z.cps.toList i=some c/\Q (.str ⟨#[c]⟩) H
theorem BL:OG X (TU X.K):=by
 intro value slice pZ s σ H x y v u Q I rx ry h hs;obtain⟨p,xs,i,z,rfl,rfl,hq,he,q⟩:=h;cases rx;obtain⟨t,rfl⟩:=ry;obtain⟨its,r,pl,hz⟩:=I.list hq;obtain⟨j,h1,h2,h3,h4,h5⟩:=xk he;obtain⟨w,ew,rw'⟩:=r.get h2;have hl:=r.length;have hn:=nh;have fin:EP X pZ σ Q w s:=⟨z,H,I,rw',q⟩
 by_cases h0:0<=i
 ·have hj:i.toNat=j:=by
   rw[HM h0 h5] at h1;exact aG h1
  exact item_listR pl.isList h0 (by omega) (by rw[hj];simpa using ew) fin hs
 ·have hj:(i + (its.toArray.size:Int)).toNat=j:=by
   rw[El (by omega) h4] at h1;rw[aA,<-hl]
   exact aG h1
  exact Em (x:=w) pl.isList.typeIs slot_list_getitem.lookup
   (wpAny_getItem_list_neg (Q:=fun r s'=>r=w/\EP X pZ σ Q r s') pl.isList (by omega) (by rw[aA]<;>omega) (by omega) (by rw[hj];simpa using ew) ⟨rfl,fin⟩) hs
theorem L9:OG X (TV X.K):=by
 intro value slice pZ s σ H x y v u Q I rx ry h hs;obtain⟨p,xs,i,z,rfl,rfl,hq,he,q⟩:=h;cases rx;obtain⟨t,rfl⟩:=ry;obtain⟨its,r,pl,hz⟩:=I.tuple hq;obtain⟨j,h1,h2,h3,h4,h5⟩:=xk he;obtain⟨w,ew,rw'⟩:=r.get h2;have hl:=r.length;have hn:=nh;have fin:EP X pZ σ Q w s:=⟨z,H,I,rw',q⟩
 exact Em (x:=w) pl.typeIs slot_tuple_getitem.lookup
  (getItem_tuple (j:=j) (Q:=fun r s'=>r=w/\EP X pZ σ Q r s') pl (by omega) (by omega) (by rw[aA,<-hl];exact h1) (by simpa using ew) ⟨rfl,fin⟩) hs
theorem Ma:OG X TX:=by
 intro value slice pZ s σ H x y v u Q I rx ry h hs;obtain⟨z,i,c,rfl,rfl,hz,he,q⟩:=h;obtain⟨t,rfl⟩:=rx;obtain⟨t',rfl⟩:=ry;obtain⟨j,h1,h2,h3,h4,h5⟩:=xk he;have hl:z.cps.toList.length=z.length:=by simp[Eo]
 rw[hl] at h1 h4 h5;have hn:=nh;exact tail_any (typeIs_str s z t) slot_str_getitem.lookup (getItem_str (c:=c) (by
  have e1:decide (i < -(2 ^ 63:Int))=false:=decide_eq_false (by omega);have e2:decide (i ≥ 2 ^ 63)=false:=decide_eq_false (by omega);rw[e1,e2,Bool.or_false]) (by rw[h1];simpa using h2) ⟨.str ⟨#[c]⟩,H,I.tok _,⟨_,rfl⟩,q⟩) hs
theorem Au(its:List Value)(n j:Nat)(u:Value):qm (·.setIfInBounds j u) { cls:=.type "list",data:=.seq its.toArray n }= { cls:=.type "list",data:=.seq (its.set j u).toArray n }:=by
 simp[qm]
theorem Inv.lst{pZ:List (Addr × Obj)}{σ:St}{H:Hp}{s:aj}{p:Addr}{xs:List V}(I:Inv X pZ σ H s)(h:H p=some (.lst xs)):
  ∃(its:List Value) (n:Nat),Vals xs its/\s.heap.get? p=some { cls:=.type "list",data:=.seq its.toArray n }/\xs.length<=sizeLine:=by
 obtain⟨z,its,n,r,e⟩:=I.dj p _ h;exact⟨its,n,r,e,z⟩
theorem Inv.Mb{pZ:List (Addr × Obj)}{σ:St}{H:Hp}{s:aj}{p:Addr}{xs ys:List V}{its its':List Value}{n n':Nat}{f:Obj->Obj}(I:Inv X pZ σ H s)(h:H p=some (.lst xs))
  (ho:s.heap.get? p=some { cls:=.type "list",data:=.seq its.toArray n }) (hf:f { cls:=.type "list",data:=.seq its.toArray n }= { cls:=.type "list",data:=.seq its'.toArray n' }) (r:Vals ys its') (hz:ys.length<=sizeLine) (t:Nat):
  Inv X pZ σ (upd H p (.lst ys)) { s with heap:=s.heap.update p f,toks:=t }:=by
 have e:(s.heap.update p f).get? p=some { cls:=.type "list",data:=.seq its'.toArray n' }:=by
  rw[dX f ho (by rw[hf]<;>rfl),hf]
 refine I.write (x:=p) (e:=p) (by rw[h];trivial) (.inl rfl) (fun b u hb q=>(mX _ _ (dJ hb)).trans q) ⟨_,e⟩ ?_;exact⟨hz,its',n',r,e⟩
def Px:V->V->V->Hp->(Hp->Prop)->Prop:=fun o i v H Q=>∃p xs k j,o = .ref p/\i = .int k/\H p=some (.lst xs)/\L7 xs.length k=some j/\Q (upd H p (.lst (xs.set j v)))
theorem set_list:O4 X Px:=by
 intro pZ s σ H o i v ov iv u Q I ro ri rv h;obtain⟨p,xs,k,j,rfl,rfl,hp,hj,q⟩:=h;cases ro;obtain⟨t,rfl⟩:=ri;obtain⟨its,n,r,ho,hz⟩:=I.lst hp;obtain⟨h1,h2,h3,h4⟩:=BJ hj;have hl:=r.length;have hn:=nh;have I':Inv X pZ σ (upd H p (.lst (xs.set j v))) { s with heap:=s.heap.update p (qm (·.setIfInBounds j u)) }:=
  I.Mb hp ho (Au its n j u) (r.set rv j) (by rw[df];exact hz) s.toks
 by_cases h0:0<=k
 ·have hk:k.toNat=j:=by
   rw[HM h0 h4] at h1;exact aG h1
  exact PySem.W.ki_setAt ho h0 (by omega) (by rw[aA,<-hl];exact h4) (by rw[hk];exact⟨_,I',q⟩)
 ·have hk:(k + (its.toArray.size:Int)).toNat=j:=by
   rw[El (by omega) h3] at h1;rw[aA,<-hl]
   exact aG h1
  exact PySem.W.ki_setBack ho (by omega) (by rw[aA,<-hl];exact h3) (by omega) (by rw[hk];exact⟨_,I',q⟩)
theorem xm(lo hi:Option Int)(n:Nat):(km lo hi none n).1=((HT.iP n 0 lo:Nat):Int)/\(km lo hi none n).2.1=((HT.iP n n hi:Nat):Int)/\(km lo hi none n).2.2=1:=by
 refine⟨?_,?_,rfl⟩
 ·cases lo with
  | none=>simp[km,HT.iP]
  | some i=>
   simp only[km,HT.iP,iY,show(1:Int) > 0 by decide,if_true];by_cases h:i < 0
   ·simp only[h,if_true]<;>omega
   ·simp only[h,if_false]<;>omega
 ·cases hi with
  | none=>simp[km,HT.iP]
  | some i=>
   simp only[km,HT.iP,iY,show(1:Int) > 0 by decide,if_true];by_cases h:i < 0
   ·simp only[h,if_true]<;>omega
   ·simp only[h,if_false]<;>omega
theorem uK(its:List Value)(lo hi:Option Int):slicePick its.toArray lo hi none=((its.drop (HT.iP its.length 0 lo)).take (HT.iP its.length its.length hi - HT.iP its.length 0 lo)).toArray:=by
 obtain⟨h1,h2,h3⟩:=xm lo hi its.toArray.size;unfold slicePick;rw[h1,h2,h3]
 simp only[sliceRange_one,pick_run,aA]<;>rfl
def TZ(K:aD):V->Option Int->Option Int->Hp->VK->Prop:=fun x lo hi H Q=>∃a xs,x = .ref a/\gV K H a xs/\∀p,H p=none->Q (.ref p) (upd H p (.lst (yO xs lo hi)))
theorem Iz:Pt X (TZ X.K):=by
 intro pZ s σ H x v vl vu lo hi sl Q I rx hs pl pu h;obtain⟨a,xs,rfl,hx,q⟩:=h;cases rx;obtain⟨its,r,ht,hz⟩:=I.list hx;have hlen:=r.length;refine⟨"list",_,slot_list_getitem.lookup,ht.isList.typeIs,?_⟩;refine wpAny_getItem_list_slice ht.isList hs pl pu .none (by simp) ?_ (by rw[aA]<;>omega);rw[uK,<-hlen]
 refine⟨.ref s.heap.objs.size,_,I.laid (t':=s.toks) (o:=.lst (yO xs lo hi)) (fun b ob q=>ay _ q) (ax _) ?_,rfl,q _ (I.dj.fresh (ax _))⟩;exact⟨aR (rj xs lo hi) hz,_,0,(r.drop (HT.iP xs.length 0 lo)).take (HT.iP xs.length xs.length hi - HT.iP xs.length 0 lo),bu _ rfl⟩
noncomputable def oC:V->Bool
 | .bQ=>true
 | .bl _=>true
 | .int _=>true
 | .str _=>true
 | _=>false
noncomputable def IA:V->V->Bool
 | .bQ,.bQ=>true
 | .bl a,.bl b=>a == b
 | .bl a,.int b=>(if a then 1 else 0)== b
 | .int a,.bl b=>a == (if b then 1 else 0)
 | .int a,.int b=>a == b
 | .str a,.str b=>a == b
 | _,_=>false
theorem Mc{A:cy}{s:aj}{y x:V}{u v:Value}(ry:RelV y u)(rx:RelV x v)(fy:oC y=true)(fx:oC x=true):uE A s u v (IA y x):=by
 cases y with
 | bQ=>
  cases ry;cases x with
  | bQ=>cases rx;exact lG _
  | bl b=>cases rx;exact vd b
  | int b=>obtain⟨t,rfl⟩:=rx;exact wF b t
  | str b=>obtain⟨t,rfl⟩:=rx;exact wG b t
  | _=>exact absurd (show false=true from fx) aU
 | bl a=>
  cases ry;cases x with
  | bQ=>cases rx;exact ve a
  | bl b=>cases rx;exact vf a b
  | int b=>obtain⟨t,rfl⟩:=rx;exact wH a b t
  | str b=>obtain⟨t,rfl⟩:=rx;exact wI a b t
  | _=>exact absurd (show false=true from fx) aU
 | int a=>
  obtain⟨t',rfl⟩:=ry;cases x with
  | bQ=>cases rx;exact wJ a t'
  | bl b=>cases rx;exact wK a t' b
  | int b=>obtain⟨t,rfl⟩:=rx;exact yq a t' b t
  | str b=>obtain⟨t,rfl⟩:=rx;exact nM a t' b t
  | _=>exact absurd (show false=true from fx) aU
 | str a=>
  obtain⟨t',rfl⟩:=ry;cases x with
  | bQ=>cases rx;exact wL a t'
  | bl b=>cases rx;exact wM a t' b
  | int b=>obtain⟨t,rfl⟩:=rx;exact nN a t' b t
  | str b=>obtain⟨t,rfl⟩:=rx;exact yr a t' b t
  | _=>exact absurd (show false=true from fx) aU
 | _=>exact absurd (show false=true from fy) aU
noncomputable def Av(x:V)(u:Value):Bool:=match u with
 | .none=>IA .bQ x
 | .bool b=>IA (.bl b) x
 | .int i _=>IA (.int i) x
 | .str z _=>IA (.str z) x
 | _=>false
theorem ET{x y:V}{u:Value}(r:RelV y u)(f:oC y=true):Av x u=IA y x:=by
 cases y with
 | bQ=>cases r;rfl
 | bl b=>cases r;rfl
 | int i=>obtain⟨t,rfl⟩:=r;rfl
 | str z=>obtain⟨t,rfl⟩:=r;rfl
 | _=>exact absurd (show false=true from f) aU
theorem pC{x:V}:∀ {xs:List V} {us:List Value},Vals xs us->xs.all oC=true->us.any (Av x)=xs.any fun y=>IA y x
 | _,_,.nil,_=>rfl
 | y::xs,u::us,.cons r t,f=>by
  rw[bD,ag] at f;rw[dG,dG,ET r f.1,pC t f.2]
theorem nk{A:cy}{s:aj}{x:V}{v:Value}(rx:RelV x v)(fx:oC x=true):∀ {xs:List V} {us:List Value},Vals xs us->xs.all oC=true->∀u∈us,uE A s u v (Av x u)
 | _,_,.nil,_=>fun u hu=>by cases hu
 | y::xs,u::us,.cons r t,f=>fun u' hu=>by
  rw[bD,ag] at f;rcases aX.mp hu with rfl | hu
  ·rw[ET r f.1];exact Mc r rx f.1 fx
  ·exact nk rx fx t f.2 u' hu
noncomputable def Sj(x:V)(xs:List V):Bool:=xs.any fun y=>IA y x
noncomputable def Vm(K:aD)(neg:Bool):R2:=fun x y H Q=>∃p xs,y = .ref p/\(gV K H p xs\/lD K H p xs)/\oC x=true/\xs.all oC=true/\Q (.bl (if neg then !Sj x xs else Sj x xs)) H
theorem vA:gu X (bF .In) (Vm X.K false):=by
 intro pZ s σ H x y v u Q I rx ry h;obtain⟨p,xs,rfl,hq,fx,fs,q⟩:=h;cases ry;rcases hq with hq | hq
 ·obtain⟨its,r,pl,hz⟩:=I.list hq
  refine SeqAt.in_listAt (Av x) pl.isList (fun w hw=>nk rx fx r fs w (by simpa using hw)) ⟨.bl _,H,I,rfl,?_⟩;rw[show its.toArray.any (Av x)=its.any (Av x) by simp,pC r fs]
  exact q
 ·obtain⟨its,r,pl,hz⟩:=I.tuple hq
  refine SeqAt.in_tupleAt (Av x) pl (fun w hw=>nk rx fx r fs w (by simpa using hw)) ⟨.bl _,H,I,rfl,?_⟩;rw[show its.toArray.any (Av x)=its.any (Av x) by simp,pC r fs]
  exact q
theorem pD:gu X (bF .NotIn) (Vm X.K true):=by
 intro pZ s σ H x y v u Q I rx ry h;obtain⟨p,xs,rfl,hq,fx,fs,q⟩:=h;cases ry;rcases hq with hq | hq
 ·obtain⟨its,r,pl,hz⟩:=I.list hq
  refine Cv (Av x) pl.isList (fun w hw=>nk rx fx r fs w (by simpa using hw)) ⟨.bl _,H,I,rfl,?_⟩;rw[show its.toArray.any (Av x)=its.any (Av x) by simp,pC r fs]
  exact q
 ·obtain⟨its,r,pl,hz⟩:=I.tuple hq
  refine SeqAt.notIn_tupleAt (Av x) pl (fun w hw=>nk rx fx r fs w (by simpa using hw)) ⟨.bl _,H,I,rfl,?_⟩;rw[show its.toArray.any (Av x)=its.any (Av x) by simp,pC r fs]
  exact q
theorem xn:gu X (bF .NotIn) (fun x y H Q=>∃i j,x = .str i/\y = .str j/\Q (.bl (!(!(Builtin.Str.occurrences j i 0 j.length 1).isEmpty))) H):=by
 intro pZ s σ H x y v u Q I rx ry h;obtain⟨i,j,rfl,rfl,q⟩:=h;obtain⟨t,rfl⟩:=rx;obtain⟨t',rfl⟩:=ry;exact notIn_str ⟨.bl _,H,I,rfl,q⟩
theorem pE:iE X (.type "list") (fun xs H Q=>∃p ys,xs = [.ref p]/\(gV X.K H p ys\/lD X.K H p ys)/\∀l,H l=none->Q (.ref l) (upd H l (.lst ys))):=by
 intro pZ s σ H xs us Q I r h;obtain⟨p,ys,rfl,hq,q⟩:=h;obtain⟨u,rfl,rx⟩:=vals1 r;cases rx;have fin:∀(its:List Value),Vals ys its->ys.length<=sizeLine->∀(h':Heap) (c':Nat),(∀b o',s.heap.get? b=some o'->h'.get? b=some o') ->
   h'.get? s.heap.objs.size=some { cls:=.type "list",dict:=none,data:=.seq its.toArray c',slots:=#[] }->EP X pZ σ Q (.ref s.heap.objs.size) { s with heap:=h' }:=fun its r' hz h' c' kp e=>
  ⟨.ref s.heap.objs.size,_,I.laid (t':=s.toks) kp (ax _) (show dZ X.prog X.w _ h' _ (.lst ys) from ⟨hz,its,c',r',e⟩),rfl,q _ (I.dj.fresh (ax _))⟩
 rcases hq with hq | hq
 ·obtain⟨its,r',pl,hz⟩:=I.list hq
  have hlen:=r'.length;obtain⟨o,ho,hc,n,hd⟩:=pl.isList;exact call_list_seq p (.inl rfl) ho hc hd (fun h' c' kp e=>fin its r' hz h' c' kp e) (by simp only[aA]<;>omega)
 ·obtain⟨its,r',pl,hz⟩:=I.tuple hq
  have hlen:=r'.length;obtain⟨o,ho,hc,n,hd⟩:=pl;exact call_list_seq p (.inr rfl) ho hc hd (fun h' c' kp e=>fin its r' hz h' c' kp e) (by simp only[aA]<;>omega)
theorem uL:iE X (.type "tuple") (fun xs H Q=>∃p ys,xs = [.ref p]/\((gV X.K H p ys/\∀l,H l=none->Q (.ref l) (upd H l (.tup ys)))\/(lD X.K H p ys/\Q (.ref p) H))):=by
 intro pZ s σ H xs us Q I r h;obtain⟨p,ys,rfl,h⟩:=h;obtain⟨u,rfl,rx⟩:=vals1 r;cases rx;rcases h with⟨hq,q⟩ | ⟨hq,q⟩
 ·obtain⟨its,r',pl,hz⟩:=I.list hq
  have hlen:=r'.length;refine call_tuple_list pl.isList (fun h' kp=>?_) (by simp only[aA]<;>omega);have I1:Inv X pZ σ H { s with heap:=h' }:=I.kept (t':=s.toks) kp;have I2:Inv X pZ σ (upd H h'.objs.size (.tup ys)) { s with heap:=h'.push { cls:=.type "tuple",data:=.seq its.toArray } }:=
   I1.laid (t':=s.toks) (fun b o e=>ay _ e) (ax _) (show dZ X.prog X.w _ _ _ (.tup ys) from ⟨hz,its,r',Ek _ _⟩)
  exact⟨.ref h'.objs.size,_,I2,rfl,q _ (I1.dj.fresh (ax _))⟩
 ·obtain⟨its,r',pl,hz⟩:=I.tuple hq
  exact call_tuple_same pl ⟨.ref p,H,I,rfl,q⟩
def Sk(K:aD)(T:String)(x:V)(H:Hp):Prop:=match x with
 | .str _=>T = "str"
 | .int _=>T = "int"
 | .ref p=>(T = "list"/\∃xs,gV K H p xs)\/(T = "tuple"/\∃o,K.lookup p=some o/\o.cls = .type "tuple"/\o.dict=none) \/
   (T = "dict"/\((∃kvs,H p=some (.dK kvs))\/∃kvs,H p=some (.dT kvs)))\/(T = "set"/\∃S n,H p=some (.set S n))
 | _=>False
theorem EV{pZ:List (Addr × Obj)}{σ:St}{H:Hp}{s:aj}{T:String}{x:V}{v:Value}(I:Inv X pZ σ H s)(r:RelV x v)(ty:Sk X.K T x H):
  s.TypeIs v T/\∀a,v = .ref a->∃ob,s.heap.get? a=some ob/\ob.dict=none:=by
 cases x with
 | str z=>
  obtain⟨t,rfl⟩:=r;cases (show T = "str" from ty);exact⟨typeIs_str s z t,fun _ e=>nomatch e⟩
 | int i=>
  obtain⟨t,rfl⟩:=r;cases (show T = "int" from ty);exact⟨typeIs_int s i t,fun _ e=>nomatch e⟩
 | ref p=>
  cases r;rcases ty with⟨rfl,xs,hq⟩ | ⟨rfl,o,hk,hc,hd⟩ | ⟨rfl,hk⟩ | ⟨rfl,S,n,hk⟩
  ·obtain⟨its,_,pl,_⟩:=I.list hq
   refine⟨pl.isList.typeIs,fun a e=>?_⟩;cases e;obtain⟨o,n,e,c,hd,_⟩:=pl;exact⟨o,e,hd⟩
  ·refine⟨⟨o,I.kA p o hk,hc⟩,fun a e=>?_⟩
   cases e;exact⟨o,I.kA _ o hk,hd⟩
  ·have z:∃o,s.heap.get? p=some o/\o.ExactDict:=by
    rcases hk with⟨kvs,hk⟩ | ⟨kvs,hk⟩
    ·obtain⟨_,_,_,_,o,_,_,e,ex,_⟩:=I.dj p _ hk
     exact⟨o,e,ex⟩
    ·obtain⟨_,_,_,_,o,_,_,e,ex,_⟩:=I.dj p _ hk
     exact⟨o,e,ex⟩
   obtain⟨o,e,ex⟩:=z;refine⟨⟨o,e,ex.1⟩,fun a e2=>?_⟩;cases e2;exact⟨o,e,ex.2.1⟩
  ·obtain⟨o,_,_,_,e,ex,_⟩:=I.dj p _ hk
   refine⟨⟨o,e,ex.1⟩,fun a e2=>?_⟩;cases e2;exact⟨o,e,ex.2.1⟩
 | _=>exact aI ty
def T1(K:aD)(T:String)(r:V->List V->Hp->VK->Prop)(to:TE):TE:=fun σ H Q=>to σ H fun x H1=>Sk K T x H1/\r x [] H1 Q
def Vn(K:aD)(T:String)(r:V->List V->Hp->VK->Prop)(to:TE)(t:TA):TE:=fun σ H Q=>to σ H fun x H1=>Sk K T x H1/\t σ H1 fun xs H2=>r x xs H2 Q
variable {o e:Expr} {es:List Expr} {to:TE} {t:TA} {name:Str} {apos cpos:Pos} {T id:String} {r:V->List V->Hp->VK->Prop}
theorem Md (pa:PlainAttrs T) (slot:Slot T name id) (hty:typeOf (.builtin id)=pure (.type "method_descriptor")) (hm:Ea X id r) (ho:PE X o to)
  (hbase:iO o name X.env (eval o X.env)=eval o X.env:=by rfl) (hline:(apos.endLine == cpos.line)=true:=by rfl):PE X (.Call (.Attribute o name apos) [] [] cpos) (T1 X.K T r to):=by
 intro pZ s σ H Q I h;refine wpAny_Call_method0_late hbase hline (eT (ho pZ s σ H _ I h) fun v s1 h9=>?_);obtain⟨x,H1,I1,r1,ty,q1⟩:=h9;obtain⟨h1,h2⟩:=EV I1 r1 ty;exact⟨T,id,pa,slot,hty,h1,h2,mL rfl (PySem.evalArgs_none (hm pZ s1 σ H1 x [] v [] Q I1 r1 .nil q1))⟩
theorem yP (pa:PlainAttrs T) (slot:Slot T name id) (hty:typeOf (.builtin id)=pure (.type "method_descriptor")) (hm:Ea X id r) (ho:PE X o to) (ha:PA X (e::es) t)
  (hbase:iO o name X.env (eval o X.env)=eval o X.env:=by rfl)
  (hfew:((iC cpos (bN (e::es) X.env)).all (fun x=>!x.1) && (backToKw cpos (kn [] X.env)).all (fun x=>x.1.isSome)
   && decide ((e::es).length + ([]:List qY).length + (if ([]:List qY).isEmpty then 0 else 1) < 30))=true:=by rfl)
  (hline:(apos.endLine == cpos.line)=true:=by rfl) (hs:bN (e::es) X.env=(false,eval e X.env)::bN es X.env:=by rfl) (hplain:(iC cpos (bN es X.env)).any (·.1)=false:=by rfl):
  PE X (.Call (.Attribute o name apos) (e::es) [] cpos) (Vn X.K T r to t):=by
 intro pZ s σ H Q I h;refine wpAny_Call_method_late hbase hfew hline rfl (eT (ho pZ s σ H _ I h) fun v s1 h9=>?_);obtain⟨x,H1,I1,r1,ty,q1⟩:=h9;obtain⟨h1,h2⟩:=EV I1 r1 ty;refine⟨T,id,pa,slot,hty,h1,h2,?_⟩;have hA:=ha cpos pZ s1 σ H1 _ I1 q1;rw[hs] at hA ⊢;refine mL (by show(false || (iC cpos (bN es X.env)).any (·.1))=false;rw[hplain]<;>rfl) (z7 ?_);refine eT hA fun us s2 h9=>?_
 obtain⟨vs,H2,I2,r2,q2⟩:=h9;exact hm pZ s2 σ H2 x vs v us Q I2 r1 r2 q2
end
def Vo(X:Cx)(id:String)(r:V->List V->Hp->VK->Prop):Prop:=
 ∀(pZ:List (Addr × Obj)) (s:aj) (σ:St) (H:Hp) (x:V) (xs:List V) (v:Value) (us:List Value) (Q:VK),Inv X pZ σ H s->RelV x v->Vals xs us->r x xs H Q ->
  wpAny (aP X.prog X.w) X.A (call (.builtin id) (v::us)) (EP X pZ σ Q) X.xe s
theorem Vals.one:∀ {x:V} {us:List Value},Vals [x] us->∃u,us = [u]/\RelV x u
 := by
 intro _ _ h;cases h with | cons r q=>cases q;exact⟨_,rfl,r⟩
theorem Vals.two:∀ {x y:V} {us:List Value},Vals [x,y] us->∃u v,us = [u,v]/\RelV x u/\RelV y v
 := by
 intro _ _ _ h;cases h with | cons r q=>cases q with | cons q q'=>cases q';exact⟨_,_,rfl,r,q⟩
section
variable {X:Cx} {pZ:List (Addr × Obj)} {σ:St} {H:Hp} {s:aj} {l b:Addr} {xs ys zs:List V}
theorem Inv.Py{its its':List Value}{n:Nat}{f:Array Value->Array Value}{t':Nat}(I:Inv X pZ σ H s)(hH:H l=some (.lst xs))
  (e:s.heap.get? l=some { cls:=.type "list",data:=.seq its.toArray n }) (hf:f its.toArray=its'.toArray) (hv:Vals ys its') (hz:ys.length<=sizeLine):
  Inv X pZ σ (upd H l (.lst ys)) { s with heap:=s.heap.update l (qm f),toks:=t' }:=by
 have q:=PySem.IsL.update e f;rw[hf] at q;refine I.write (x:=l) (e:=l) (by rw[hH];exact trivial) (.inl rfl) (fun b' u hb hu=>(mX s.heap (qm f) (dJ hb)).trans hu) ⟨_,q⟩ ?_;exact⟨hz,its',_,hv,q⟩
theorem Inv.Pz{its:List Value}{t':Nat}(I:Inv X pZ σ H s)(hv:Vals ys its)(hz:ys.length<=sizeLine):
  Inv X pZ σ (upd H s.heap.objs.size (.lst ys)) { s with heap:=s.heap.push { cls:=.type "list",data:=.seq its.toArray },toks:=t' }:=
 I.laid (fun _ _ q=>ay _ q) (ax _) ⟨hz,its,0,hv,bu _ rfl⟩
theorem Inv.fresh(I:Inv X pZ σ H s):H s.heap.objs.size=none:=I.dj.fresh (ax _)
theorem Inv.C1(I:Inv X pZ σ H s)(hH:H l=some (.lst xs)):xs.length<=sizeLine/\∃(its:List Value) (n:Nat),Vals xs its/\xs.length=its.length/\s.heap.get? l=some { cls:=.type "list",data:=.seq its.toArray n }:=by
 obtain⟨z,its,n,r,e⟩:=I.dj l _ hH;exact⟨z,its,n,r,r.length,e⟩
theorem EW{n:Nat}(h:n<=sizeLine):Builtin.List.listTooLong n=false:=by
 unfold Builtin.List.listTooLong;exact decide_eq_false (by omega)
end
section
variable {X:Cx}
def IB:V->List V->Hp->VK->Prop:=fun x vs H Q=>∃l xs y,x = .ref l/\vs = [y]/\H l=some (.lst xs)/\xs.length < sizeLine/\Q .bQ (upd H l (.lst (xs ++ [y])))
theorem qz:Vo X "list.append" IB:=by
 intro pZ s σ H x vs v us Q I rx rv h;obtain⟨l,xs,y,rfl,rfl,hH,hz,q⟩:=h;cases rx;obtain⟨u,rfl,ru⟩:=rv.one;obtain⟨z,its,n,r,hl,e⟩:=I.C1 hH;refine call_meets F.slot_list_append ⟨_,e,rfl⟩ F.entry_list_append (F.args_list_append_2 _ _) (PySem.list_append l its.toArray n u (by rw[aA];omega)) ⟨e,?_⟩;refine⟨.bQ,_,I.Py (its':=its ++ [u]) hH e (by simp) (r.append (.cons ru .nil)) ?_,rfl,q⟩;rw[aC,fV]
 omega
def IC:V->List V->Hp->VK->Prop:=fun x vs H Q=>∃l b xs zs,x = .ref l/\vs = [.ref b]/\H l=some (.lst xs)/\H b=some (.lst zs)/\xs.length + zs.length<=sizeLine/\Q .bQ (upd H l (.lst (xs ++ zs)))
theorem vB:Vo X "list.extend" IC:=by
 intro pZ s σ H x vs v us Q I rx rv h;obtain⟨l,b,xs,zs,rfl,rfl,hH,hB,hz,q⟩:=h;cases rx;obtain⟨u,rfl,ru⟩:=rv.one;cases ru;obtain⟨z,its,n,r,hl,e⟩:=I.C1 hH;obtain⟨z2,its2,n2,r2,hl2,e2⟩:=I.C1 hB;have hsz:its.toArray.size + its2.toArray.size<=sizeLine:=by rw[aA,aA];omega
 have hlong:¬(!its.toArray.isEmpty && Builtin.List.listTooLong (its.toArray.size + its2.toArray.size))=true:=by
  rw[EW hsz,vg]
  exact aU
 refine call_meets F.slot_list_extend ⟨_,e,rfl⟩ F.entry_list_extend (F.args_list_extend_2 _ _)
  (AutoSeq1.list_extend_list_list_0 l its.toArray n b its2.toArray n2 hlong (by rw[aA];omega) (by omega)) ⟨e,e2,?_⟩
 refine⟨.bQ,_,I.Py (its':=its ++ its2) hH e (by simp) (r.append r2) ?_,rfl,q⟩;rw[aC]
 omega
noncomputable def T3:R2:=fun x y H Q=>∃l b xs zs,x = .ref l/\y = .ref b/\H l=some (.lst xs)/\H b=some (.lst zs)/\xs.length + zs.length<=sizeLine/\∀p,H p=none->Q (.ref p) (upd H p (.lst (xs ++ zs)))
theorem Me:gu X (cw .Add) T3:=by
 intro pZ s σ H x y v u Q I rx ry h;obtain⟨l,b,xs,zs,rfl,rfl,hH,hB,hz,q⟩:=h;cases rx;cases ry;obtain⟨z,its,n,r,hl,e⟩:=I.C1 hH;obtain⟨z2,its2,n2,r2,hl2,e2⟩:=I.C1 hB;refine PySem.P.add_list e e2 ?_ (by rw[aA,aA];omega);have ea:its.toArray ++ its2.toArray=(its ++ its2).toArray:=by simp
 rw[ea]
 exact⟨.ref _,_,I.Pz (t':=s.toks) (r.append r2) (by rw[aC];omega),rfl,q _ I.fresh⟩
end
end L2
namespace Vp
open PySem PySem.W PySem.Calls PyProof.Rows
theorem rO{P:Ep}{h:Heap}:∀(ns:List Int) (vs:List Value),WellAll P h vs (ns.map WData.int)->Er vs ns:=by
 intro ns;induction ns with
 | nil=>
  intro vs w;rw[List.map_nil] at w;cases w;exact .nil
 | cons n ns ih=>
  intro vs w;rw[aE] at w;cases w with
  | cons a b=>
   cases a;exact .cons _ _ (ih _ b)
theorem C2{l:Es}{n:Nat}(hn:l.most=some n){P:Ep}{h:Heap}{args:List WData}{vals:List Value}
  (hpre:l.row.toRowW.claim.pre args=true) (hwl:WellAll P h vals args):
  ∃a vs ns,vals = [aO a]/\args = [WData.list (ns.map WData.int)]/\h.get? a=some { cls:=.type "list",data:=.seq vs.toArray }/\Er vs ns/\ns.length<=n:=by
 have hsh:WShape.hasAll [] args [.list .int] = true:=(pre_splitW hpre).1;have hc:l.pre.holds [] { args:=args }= true:=(pre_splitW hpre).2;obtain⟨d,r,rfl,h1,h2⟩:=hasAllW_cons hsh;obtain rfl:=hasAllW_nil h2;obtain⟨xs,rfl,h3⟩:=hasW_list h1;obtain⟨ns,rfl⟩:=items_int h3;have hlen:ns.length<=n:=by
  unfold OpenLaw.pre at hc;have h4:(WTm.not (.lt (.lit (.int (n:Int))) (.len (.arg 0)))).holds [] { args:=[.list (ns.map .int)] }= true:=by
   have h4:=(holds_andW hc).1;rw[hn] at h4;exact h4
  have h5:=condW_of h4 (w_not (w_lt w_lit (w_len_list (w_arg rfl))));rw[ar] at h5;refine HN fun q=>?_
  have q':(n:Int) < ((ns.length:Nat):Int):=by omega
  first
   | (rw[decide_eq_true q'] at h5;exact absurd h5 (by decide))
   | (simp at h5;omega)
 cases hwl with
 | cons w1 w2=>
  cases w2;cases w1 with
  | list ho hall=>exact⟨_,_,ns,rfl,rfl,ho,rO ns _ hall,hlen⟩
theorem C3(l:Es)(args:List WData):l.row.toRowW.claim.post args (.bool true) args=true:=
 postW_of (r:=l.row.toRowW) (X:=(true == true))
  (show WShape.has [] (.bool true) .bool=true by first | rfl | decide | simp[WShape.has,WShape.arms,WShape.armsAll])
  (show(WTm.eq .res (.lit (.bool true))).value [] { args:=args,res:=some (.bool true),after:=args }= some (.bool (true == true)) from w_eq_bool (w_res rfl) w_lit) rfl
theorem yQ{l:Es}{n:Nat}{q:bx}{loose:List Str}{XP:(Str->Option Value)->Heap->Prop}{YP:bU->Heap->Prop}{d:DefRec}
  (hn:l.most=some n) (hdf:d.params.defaults = [])
  (call:∀(w:bU) (s₀ s₁:aj) (mg mb:Str->Option Value) (fa:Addr) (o:Obj) (pm cd doc:Value) (a:Addr) (vs:List Value) (ns:List Int),
   Ground q loose [] XP w s₀ mg mb s₁.heap->YP w s₁.heap ->
   s₁.heap.get? fa=some o->o.data = .func (docDef d.name d.params d.body d.scope pm cd doc)->s₁.heap.CodeRec cd d.name->mg d.name=some (.ref fa) ->
   s₁.heap.get? a=some { cls:=.type "list",data:=.seq vs.toArray }->Er vs ns->ns.length<=n->s₁.gens = #[] ->
   mW (aP l.prog w) uG (.call (.ref fa) ⟨[.ref a],[]⟩) (fun r s'=>r = .ok (.ret (.bool true))/\OldK s₁.heap s'.heap/\s'.os=s₁.os/\mV s'.gens) s₁):
  WalkO q loose XP YP l.row.toRowW d [] (fun f vs=>Cw f vs):=by
 intro w s₀ s₁ mg mb G Y fa o pm cd doc dV kV ho hd hcd hD hmg hg args vals as hpre hlay hrd hwl hlo;obtain rfl:dV = .none:=Dflts.none hD hdf;obtain rfl:kV = .none:=Dflts.noKw hD;obtain⟨a,vs,ns,rfl,rfl,hobj,hints,hlen⟩:=C2 hn hpre hwl;refine enter_call (lH (call w s₀ s₁ mg mb fa o pm cd doc a vs ns G Y ho (fd_plain hd) hcd hmg hobj hints hlen hg) fun r s' hq=>?_);obtain⟨rfl,h2,h3,h4⟩:=hq;exact⟨.inl ⟨.bool true,.bool true,[],rfl,fun _=>rfl,.bool true,C3 l _,fun _=>⟨List.Pairwise.nil,fun _ hm=>(nomatch hm)⟩⟩,h2,h3,h4⟩
end Vp
namespace L2
open PySem PySem.Spec PyProof.Rows
theorem vC:∀ {vs:List Value} {ns:List Int},Er vs ns->Vals (ns.map V.int) vs
 | _,_,.nil=>.nil
 | _,_,.cons n t h=>.cons ⟨t,rfl⟩ (vC h)
def ID(H:Hp):Prop:=∀b,H b=none\/∃o xs,H b=some (.Af o (.lst xs))
theorem EX{P:bx}{w:bU}{K:aD}{mg mb:Str->Option Value}{CX:EO}{k:Nat}{fa a:Addr}{fd:dQ}{x:Str}{sp:Sp}{s₁:aj}{vs:List Value}{ns:List Int}
  (KX:K.In s₁.heap) (hns:s₁.heap.Ns bp mg) (hb:s₁.heap.Ns builtinsNs mb) (hbb:∀x:Str,x≠"__name__"->mb x=js x) (hlim:s₁.heap.NoLimit) (hg:s₁.gens = #[])
  (ha:s₁.heap.get? a=some { cls:=.type "list",data:=.seq vs.toArray }) (hi:Er vs ns) (hl:ns.length<=sizeLine) (hr:jf k uG)
  (F:∀base:Heap,K.In base->base.Ns bp mg->iz P w K mg base CX k fa fd [x] sp) (hbind:∀(s:aj) (u:Value),zR s fd ⟨[u],[]⟩ [(x,u)])
  (hsp:∀H:Hp,ID H->gV K H a (ns.map V.int)->sp [.ref a] H (fun v _=>v = .bl true) fun _ _ _=>False)
  (hCX:∀H e s',CX [] H s₁ (fun _ _ _=>False) e s'->False):
  mW (aP P w) uG (.call (.ref fa) ⟨[.ref a],[]⟩) (fun r s'=>r = .ok (.ret (.bool true))/\OldK s₁.heap s'.heap/\s'.os=s₁.os/\mV s'.gens) s₁:=by
 have rv:=vC hi;have lenV:=hi.length;have core:∀H:Hp,ID H->gV K H a (ns.map V.int)->ng P w H s₁.heap->(∀b,H b≠none->b=a)->(H a≠none->K.lookup a=none) ->
   mW (aP P w) uG (.call (.ref fa) ⟨[.ref a],[]⟩) (fun r s'=>r = .ok (.ret (.bool true))/\OldK s₁.heap s'.heap/\s'.os=s₁.os/\mV s'.gens) s₁:=by
  intro H hO hS dj hA hK;have gW:∀ {b:Addr} {o:Obj},s₁.heap.get? b=some o->H b=none->(wW s₁.heap H).get? b=some o:=fun e n=>EB e n
  have noA:∀ {b:Addr} {o:Obj} {es:Array DictEntry} {ep:Nat},s₁.heap.get? b=some o->o.data = .dict es ep->H b=none:=fun {b o es ep} e d=>by
   cases q:H b with
   | none=>rfl
   | some u=>
    have e':b=a:=hA b (by rw[q];simp);subst e';rw[ha] at e;cases e;have d':Data.seq vs.toArray _=Data.dict es ep:=d;cases d'
  have nsK:∀ {b:Addr} {m:Str->Option Value},s₁.heap.Ns b m->(wW s₁.heap H).Ns b m:=fun {b m} ⟨o,es,ep,e,d,r⟩=>⟨o,es,ep,gW e (noA e d),d,r⟩
  have hKb:K.In (wW s₁.heap H):=fun b o e=>gW (KX b o e) (by
   cases q:H b with
   | none=>rfl
   | some u=>
    have e':b=a:=hA b (by rw[q];simp);subst e';rw[hK (by rw[q];simp)] at e;cases e)
  have hM:Mod K mg (wW s₁.heap H):=⟨hKb,nsK hns,⟨mb,nsK hb,hbb⟩,let ⟨mc,h1,h2⟩:=hlim;⟨mc,nsK h1,h2⟩⟩
  have e0:Aq P w K mg (wW s₁.heap H) uG [] s₁ H:=⟨rfl,hM,fun b o e=>HZ e,z4 (CO _ _),trivial,fun b hb=>absurd (show b∈([]:List Addr) from hb) (by simp),dj,.of_eq hg⟩
  refine lH ((F _ hKb (nsK hns)).run uG [] s₁ H ⟨[.ref a],[]⟩ [.ref a] [.ref a] _ _ hr e0 (hbind s₁ (.ref a)) (.cons rfl .nil) (hsp H hO hS)) fun r s' h=>?_
  cases r with
  | error e=>exact(hCX H e s' h).elim
  | ok fl=>
   cases fl with
   | next=>exact aI h
   | brk=>exact aI h
   | cont=>exact aI h
   | ret u=>
    obtain⟨v,H',os,bare,un,hok',r',q⟩:=h;have q':v = .bl true:=q;subst q';obtain rfl:u=iw true:=r';refine⟨rfl,OldK.of_keep fun b o e=>?_,os,bare⟩;cases q:H b with
    | none=>exact un.keep b o e q (by intro z;exact absurd (show b∈([]:List Addr) from z) (by simp)) (by simp)
    | some u=>
     rcases hO b with z | ⟨ob,xs,z⟩
     ·rw[q] at z;cases z
     ·have z2:=un.uI b ob _ z
      obtain⟨e1,_⟩:=dj b _ z;obtain⟨e2,_⟩:=hok' b _ z2;rw[e] at e1;cases e1;exact e2
 cases hk:K.lookup a with
 | some o=>
  have e:=KX a o hk;rw[ha] at e;cases e;refine core (fun _=>none) (fun _=>.inl rfl) (.inr ⟨_,vs.toArray,_,hk,rfl,rfl,rfl,by rw[aA,lenV];exact hl,by simpa using rv⟩) (fun b u z=>by have z':(none:Option HO)=some u:=z;cases z') (fun b z=>absurd rfl z) fun z=>absurd rfl z
 | none=>
  refine core (fun b=>if b=a then some (.Af { cls:=.type "list",data:=.seq vs.toArray } (.lst (ns.map V.int))) else none) (fun b=>?_) (.inl (.inr ⟨{ cls:=.type "list",data:=.seq vs.toArray },if_pos rfl⟩)) (fun b u z=>?_) (fun b z=>?_) fun _=>hk
  ·by_cases hb:b=a
   ·exact .inr ⟨_,_,if_pos hb⟩
   ·exact .inl (if_neg hb)
  ·by_cases hb:b=a
   ·have z':=(if_pos hb).symm.trans z
    cases z';subst hb;exact⟨ha,by rw[ar];exact hl,vs,_,rv,ha⟩
   ·have z':=(if_neg hb).symm.trans z
    cases z'
  ·by_cases hb:b=a
   ·exact hb
   ·exact absurd (if_neg hb) z
theorem IE{l:PySem.W.OpenLaw}{n k:Nat}{q:bx}{loose:List Str}{XP:(Str->Option Value)->Heap->Prop}{YP:bU->Heap->Prop}{d:DefRec}{K:Ep->aD}{CX:bU->EO}{sp:bU->Sp}{x:Str}
  (hn:l.most=some n) (hn2:n<=sizeLine) (hdf:d.params.defaults = []) (hr:jf k uG)
  (hY:∀(w:bU) (h:Heap),YP w h->(K w.params).In h)
  (F:∀(w:bU) (mg:Str->Option Value) (fa:Addr) (h:Heap),(K w.params).In h->h.Ns bp mg->mg d.name=some (.ref fa) ->
   ∃fd:dQ,(∀(s:aj) (u:Value),zR s fd ⟨[u],[]⟩ [(x,u)]) /\
    ∀base:Heap,(K w.params).In base->base.Ns bp mg->iz l.prog w (K w.params) mg base (CX w) k fa fd [x] (sp w))
  (hsp:∀(w:bU) (H:Hp) (a:Addr) (ns:List Int),ns.length<=n->ID H->gV (K w.params) H a (ns.map V.int)->sp w [.ref a] H (fun v _=>v = .bl true) fun _ _ _=>False)
  (hCX:∀(w:bU) (H:Hp) (s:aj) (e:Value) (s':aj),CX w [] H s (fun _ _ _=>False) e s'->False):
  PySem.W.WalkO q loose XP YP l.row.toRowW d [] (fun f vs=>Cw f vs):=by
 refine Vp.yQ hn hdf fun w s₀ s₁ mg mb fa o pm cd doc a vs ns G Y ho hd hcd hmg hobj hints hlen hg=>?_
 have KX:=hY w _ Y;obtain⟨fd,hb,hF⟩:=F w mg fa _ KX G.T.g hmg;exact EX KX G.T.g G.T.b G.T.builtins G.T.nolimit hg hobj hints (aR hlen hn2) hr hF hb (fun H hO hS=>hsp w H a ns hlen hO hS) fun H e s'=>hCX w H s₁ e s'
noncomputable def inClass(s:Stmt)(j:Nat):Stmt:=match s with
 | .ClassDef _ _ _ body _ _ _ _ _ _ _=>body.getD j (.Pass ⟨0,0,0,0⟩)
 | _=>.Pass ⟨0,0,0,0⟩
noncomputable def jE(s:Stmt):Arguments:=match s with
 | .FunctionDef _ a _ _ _ _ _ _ _ _=>a
 | _=>{ posonlyargs:=[],args:=[],vararg:=none,kwonlyargs:=[],kw_defaults:=[],kwarg:=none,defaults:=[] }
noncomputable def dN(s:Stmt):List Stmt:=match s with
 | .FunctionDef _ _ b _ _ _ _ _ _ _=>b
 | _=>[]
noncomputable def a9(s:Stmt):kf:=match s with
 | .FunctionDef _ _ _ _ _ _ sc _ _ _=>sc
 | _=>{ kind:=.function,names:=[],isGenerator:=false,isCoroutine:=false }
structure Aw (K:aD) (x qual:Str) (st:Stmt) (f:Addr) (fd:dQ):Prop where
 ex:∃(oc:Value) (od:Option Addr) (kV doc pm:Value) (an:Option Addr) (cdv ct:Value) (osl:Array (Option Value)),
  fd=jC x qual (jE st) (dN st) (a9 st) .none kV doc pm an cdv ct/\K.lookup f=some ⟨oc,od,.func fd,osl⟩/\sE K cdv qual=true
 kp:m8 K (.ref f)=true
section
variable {P:bx} {w:bU} {K:aD} {mg:Str->Option Value} {base:Heap}
theorem Aw.binds{x qual:Str}{st:Stmt}{f:Addr}{fd:dQ}{ps:List Str}(F:Aw K x qual st f fd)
  (h:∀(kV doc pm:Value) (an:Option Addr) (cdv ct:Value) (us:List Value),us.length=ps.length->z6 (jC x qual (jE st) (dN st) (a9 st) .none kV doc pm an cdv ct) ⟨us,[]⟩=pure (ps.zip us)):Binds K fd ps []:=by
 obtain⟨oc,od,kV,doc,pm,an,cdv,ct,osl,rfl,lk,hcd⟩:=F.ex;exact .all (h kV doc pm an cdv ct)
theorem EY{x qual:Str}{st:Stmt}{f:Addr}{oc:Value}{od an:Option Addr}{osl:Array (Option Value)}{kV doc pm cdv ct:Value}(l:K.lookup f=some ⟨oc,od,.func (jC x qual (jE st) (dN st) (a9 st) .none kV doc pm an cdv ct),osl⟩)
  (c:sE K cdv qual=true) (k:m8 K (.ref f)=true):Aw K x qual st f (jC x qual (jE st) (dN st) (a9 st) .none kV doc pm an cdv ct):=⟨⟨oc,od,kV,doc,pm,an,cdv,ct,osl,rfl,l,c⟩,k⟩
end
end L2
end
section
namespace L2
open PySem PySem.Spec PyProof.Rows
section
variable {κ:Type} [DecidableEq κ]
noncomputable def rP(kvs:List (κ × V))(k:κ):Option V:=(kvs.find? fun kv=>decide (kv.1=k)).map (·.2)
theorem sT{p:κ × V}{r:List (κ × V)}{k:κ}(e:p.1=k):rP (p::r) k=some p.2:=by simp[rP,fM,e]
theorem sU{p:κ × V}{r:List (κ × V)}{k:κ}(e:¬p.1=k):rP (p::r) k=rP r k:=by simp[rP,fM,e]
theorem mO.getD{o:Option V}{u:Option Value}{d:V}{d':Value}(r:mO o u)(rd:RelV d d'):RelV (o.getD d) (u.getD d'):=by
 cases o with
 | none=>cases u with
  | none=>exact rd
  | some _=>exact(show False from r).elim
 | some _=>cases u with
  | none=>exact(show False from r).elim
  | some _=>exact r
theorem KV.val{kvs:List (κ × V)}{vs:List (κ × Value)}(r:KV kvs vs)(k:κ):mO (rP kvs k) (zS vs k):=by
 unfold KV at r;induction r with
 | nil=>exact dS
 | @cons p q ps qs h t ih=>
  obtain⟨h1,h2⟩:=h;by_cases e:p.1=k
  ·have e':q.1=k:=h1.symm.trans e
   have b:zS (q::qs) k=some q.2:=by simp[zS,fM,e']
   rw[sT e,b];exact h2
  ·have e':¬q.1=k:=fun z=>e (h1.trans z)
   have b:zS (q::qs) k=zS qs k:=by simp[zS,fM,e']
   rw[sU e,b];exact ih
theorem KV.keys{kvs:List (κ × V)}{vs:List (κ × Value)}(r:KV kvs vs):kvs.map (·.1)=vs.map (·.1):=by
 unfold KV at r;induction r with
 | nil=>rfl
 | cons h t ih=>rw[aE,aE,ih,h.1]
theorem KV.length{kvs:List (κ × V)}{vs:List (κ × Value)}(r:KV kvs vs):kvs.length=vs.length:=Paired.length r
end
theorem EZ{P:bx}{w:bU}{k:Key}{u:Value}(r:RelV (kV k) u):(eH P w).is k u=true:=by
 cases k with
 | inl i=>obtain⟨t,e⟩:=(show ∃t,u=lX i t from r);subst e;exact yG P w i t
 | inr x=>obtain⟨t,e⟩:=(show ∃t,u=je x t from r);subst e;exact yH P w x t
theorem Mf{a b:Key}(e:kV a=kV b):a=b:=by
 cases a with
 | inl i=>cases b with
  | inl j=>have e':V.int i=V.int j:=e;injection e' with e';rw[e']
  | inr y=>exact nomatch (show V.int i=V.str y from e)
 | inr x=>cases b with
  | inl j=>exact nomatch (show V.str x=V.int j from e)
  | inr y=>have e':V.str x=V.str y:=e;injection e' with e';rw[e']
theorem vD{P:bx}{w:bU}:∀ {ks:List Key} {us:List Value},Vals (ks.map kV) us->ItemsAre (eH P w) ks us
 | [],_,r=>by rw[List.map_nil] at r;cases r;exact .nil
 | k::ks,_,r=>by
  rw[aE] at r;cases r with
  | cons h t=>exact .cons (EZ h) (vD t)
abbrev KT(H:Hp):List (List Key × V)->List (List Key × Addr × Value)->Prop:=Paired fun p q=>p.1=q.1/\H q.2.1=some (.tup (p.1.map kV))/\RelV p.2 q.2.2
theorem KT.val{H:Hp}{kvs:List (List Key × V)}{xs:List (List Key × Addr × Value)}(r:KT H kvs xs)(k:List Key):mO (rP kvs k) ((atKey xs k).map (·.2)):=by
 induction r with
 | nil=>exact dS
 | @cons p q ps qs h t ih=>
  obtain⟨h1,_,h2⟩:=h;by_cases e:p.1=k
  ·have e':q.1=k:=h1.symm.trans e
   have b:atKey (q::qs) k=some q.2:=by simp[atKey,fM,e']
   rw[sT e,b];exact h2
  ·have e':¬q.1=k:=fun z=>e (h1.trans z)
   have b:atKey (q::qs) k=atKey qs k:=by simp[atKey,fM,e']
   rw[sU e,b];exact ih
section
variable {P:bx} {w:bU} {H:Hp} {h:Heap} {a:Addr}
theorem KG{u:HO}(ok:ng P w H h)(e:Rd H a u):dZ P w H h a u:=e.ok ok
theorem E0{kvs:List (Key × V)}(ok:ng P w H h)(e:Rd H a (.dK kvs)):kvs.length<=sizeLine/\(a == dE)=false/\∃vs,KV kvs vs/\h.DictOf (eH P w) a vs:=
 show dZ P w H h a (.dK kvs) from KG ok e
theorem E2{ks:List Key}(ok:ng P w H h)(e:H a=some (.tup (ks.map kV))):(wu (eH P w)).is h ks a:=by
 obtain⟨_,its,r,o,h1,h2,n,h3⟩:=(show dZ P w H h a (.tup (ks.map kV)) from ok a _ e)
 exact⟨o,its.toArray,n,h1,h2,h3,by simpa using vD r⟩
theorem KH{kvs:List (List Key × V)}(ok:ng P w H h)(e:Rd H a (.dT kvs)):kvs.length<=sizeLine/\(a == dE)=false /\
  ∃xs,KT H kvs xs/\h.DictOfH (wu (eH P w)) a xs:=by
 obtain⟨z,y,xs,r,o,es,ep,h1,h2,h3,h4,h5⟩:=(show dZ P w H h a (.dT kvs) from KG ok e)
 refine⟨z,y,xs,r,o,es,ep,h1,h2,h3,h4,fun x hx=>?_,h5⟩;have all:∀ {l:List (List Key × V)} {m:List (List Key × Addr × Value)},KT H l m->∀x∈m,(wu (eH P w)).is h x.1 x.2.1:=by
  intro l m q;induction q with
  | nil=>intro x hx;exact nomatch hx
  | @cons p q ps qs hq t ih=>
   intro x hx;rcases aX.mp hx with e | hx
   ·subst e
    exact E2 ok (by rw[<-hq.1];exact hq.2.1)
   ·exact ih x hx
 exact all r x hx
end
def E3(H:Hp)(a:Addr)(y:V)(r:Option V):Prop:=
 (∃kvs k,Rd H a (.dK kvs)/\y=kV k/\r=rP kvs k)\/∃kvs k b,Rd H a (.dT kvs)/\y = .ref b/\H b=some (.tup (k.map kV))/\r=rP kvs k
theorem E3.k{H:Hp}{a:Addr}{kvs:List (Key × V)}{k:Key}(e:H a=some (.dK kvs)):E3 H a (kV k) (rP kvs k):=.inl ⟨kvs,k,.inl e,rfl,rfl⟩
section
variable {X:Cx} {pZ:List (Addr × Obj)} {σ:St} {H:Hp} {s:aj} {a:Addr} {y v:V} {u r:Value} {o:Option V} {A:cy} {E:Value->aj->Prop}
theorem Inv.big(I:Inv X pZ σ H s):dE < s.heap.objs.size:=by
 have h:bp < s.heap.objs.size:=(I.mod.glob.keeps I.bk).lt;exact Nat.lt_trans (by decide) h
theorem Mg{P:bx}{w:bU}{H':Hp}{h':Heap}{kvs:List (Key × V)}{vs:List (Key × Value)}(z:kvs.length<=sizeLine)(hd:(a == dE)=false)(rel:KV kvs vs)(dd:h'.DictOf (eH P w) a vs):
  dZ P w H' h' a (.dK kvs):=⟨z,hd,vs,rel,dd⟩
end
section
variable {X:Cx} {pZ:List (Addr × Obj)} {σ:St} {H:Hp} {s:aj} {a:Addr} {kvs:List (Key × V)} {k:Key} {u:Value} {A:cy} {E:Value->aj->Prop}
theorem PB{Q:Value->aj->Prop}(I:Inv X pZ σ H s)(e:Rd H a (.dK kvs))(h:∀t s',Inv X pZ σ H s'->Q (.int kvs.length t) s'):wpAny (aP X.prog X.w) A (call (.builtin "len") [.ref a]) Q E s:=by
 obtain⟨z,hd,vs,rel,dd⟩:=E0 I.dj e;refine call_len_dict hd dd (by rw[<-rel.length];rw[iX] at z;omega) ?_;rw[<-rel.length]
 exact h _ _ (I.tok _)
end
structure M2 (X:Cx) (o:Expr) (m:Str) (apos:Pos) (e f:Expr) (cpos:Pos):Prop where
 base:iO o m X.env (eval o X.env)=eval o X.env
 WD:((iC cpos (bN [e,f] X.env)).all (fun x=>!x.1) && (backToKw cpos (kn [] X.env)).all (fun x=>x.1.isSome)
  && decide (([e,f]:List Expr).length + ([]:List qY).length + (if ([]:List qY).isEmpty then 0 else 1) < 30))=true
 line:(apos.endLine == cpos.line)=true
 trees:iC cpos (bN [e,f] X.env)= [(false,eval e X.env),(false,eval f X.env)]
def Vq(H:Hp)(a:Addr):Prop:=(∃kvs,Rd H a (.dK kvs))\/∃kvs,Rd H a (.dT kvs)
theorem Mh{X:Cx}{pZ:List (Addr × Obj)}{σ:St}{H:Hp}{s:aj}{a:Addr}(I:Inv X pZ σ H s)(d:Vq H a):
  s.TypeIs (.ref a) "dict"/\(∀b,aO a = .ref b->∃ob,s.heap.get? b=some ob/\ob.dict=none)/\(a == dE)=false:=by
 rcases d with⟨kvs,e⟩ | ⟨kvs,e⟩
 ·obtain⟨_,hd,vs,_,dd⟩:=E0 I.dj e
  refine⟨dd.typeIs,fun b q=>?_,hd⟩;cases q;obtain⟨ob,_,_,h1,h2,_⟩:=dd;exact⟨ob,h1,h2.2.1⟩
 ·obtain⟨_,hd,xs,_,dd⟩:=KH I.dj e
  refine⟨dd.typeIs,fun b q=>?_,hd⟩;cases q;obtain⟨ob,_,_,h1,h2,_⟩:=dd;exact⟨ob,h1,h2.2.1⟩
section
variable {X:Cx} {pZ:List (Addr × Obj)} {σ:St} {H:Hp} {s:aj} {a:Addr} {y d:V} {u r:Value} {o:Option V} {A:cy} {E:Value->aj->Prop}
theorem Mi{Q:Value->aj->Prop}(hu:A.units + 1 < kh)(I:Inv X pZ σ H s)(g:E3 H a y o)(ry:RelV y u)(rd:RelV d r)(h:∀w' s',Inv X pZ σ H s'->RelV (o.getD d) w'->Q w' s'):
  wpAny (aP X.prog X.w) A (call (.builtin "dict.get") [.ref a,u,r]) Q E s:=by
 rcases g with⟨kvs,k,e,ey,l⟩ | ⟨kvs,k,b,e,ey,eb,l⟩
 ·subst ey
  obtain⟨z,hd,vs,rel,dd⟩:=E0 I.dj e;refine call_meetsIn mM dd.typeIs wN (vh _ _ _) (meets_dict_get_default (eH X.prog X.w) a (EZ ry) hd r) ⟨_,dd.mapOf,h _ _ (I.tok _) ?_⟩;rw[l]
  exact(rel.val k).getD rd
 ·subst ey
  cases (show u=aO b from ry);obtain⟨z,hd,xs,rel,dd⟩:=KH I.dj e;refine call_meetsIn mM dd.typeIs wN (vh _ _ _) (meetsH_dict_get_default (wu (eH X.prog X.w)) a b hd r) ⟨tupleKind_room_in1 hu,k,xs,E2 I.dj eb,dd,h _ _ (I.tok _) ?_⟩;rw[l]
  exact(rel.val k).getD rd
end
def Mj(td ty tx:TE):TE:=fun σ H Q=>td σ H fun x H1=>∃a,x = .ref a/\Vq H1 a/\ty σ H1 fun y H2=>tx σ H2 fun z H3=>∃o,E3 H3 a y o/\Q (o.getD z) H3
section
variable {X:Cx} {o e f:Expr} {apos cpos:Pos} {td ty tx:TE}
theorem E4 (hu:X.A.units + 1 < kh) (ho:PE X o td) (he:PE X e ty) (hf:PE X f tx) (m:M2 X o "get" apos e f cpos):PE X (.Call (.Attribute o "get" apos) [e,f] [] cpos) (Mj td ty tx):=by
 intro pZ s σ H Q I h;refine wpAny_Call_method m.base m.WD m.line PySem.F.plainAttrs_dict mM PySem.F.type_dict_get (eT (ho pZ s σ H _ I h) fun u s1 h9=>?_);obtain⟨x,H1,I1,rx,a,ex,d,q1⟩:=h9;subst ex;obtain rfl:u=aO a:=rx;obtain⟨t1,t2,_⟩:=Mh I1 d;refine⟨t1,t2,?_⟩;rw[m.trees]
 refine mL rfl (z7 (ki (eT (he pZ s1 σ H1 _ I1 q1) fun iv s2 ⟨y,H2,I2,ry,q2⟩=>
  ki (eT (hf pZ s2 σ H2 _ I2 q2) fun fv s3 ⟨z,H3,I3,rz,ov,g,q3⟩=>qk ?_))))
 exact Mi hu I3 g ry rz fun w' s4 I4 rw'=>⟨_,H3,I4,rw',q3⟩
end
section
variable {X:Cx}
theorem C4:iE X (.builtin "len") (fun xs H Q=>∃a kvs,xs = [V.ref a]/\H a=some (.dK kvs)/\Q (.int kvs.length) H):=by
 intro pZ s σ H xs us Q I r h;obtain⟨a,kvs,rfl,ha,q⟩:=h;obtain⟨u,rfl,ru⟩:=vals1 r;cases ru;exact PB I (.inl ha) fun t s' I'=>⟨.int kvs.length,H,I',⟨t,rfl⟩,q⟩
end
end L2
end
section
namespace L2
open PySem PySem.Spec PyProof.Rows
def uw(h:Heap)(e:Addr)(c:Value)(dx:Option Addr):Option (Addr × Value)->Prop
 | none=>∃vs sl,h.get? e=some ⟨c,dx,.fields vs,sl⟩/\vs[1]? = some .none
 | some (T,fl)=>∃vs sl,h.get? e=some ⟨c,dx,.fields vs,sl⟩/\vs[1]? = some (.ref T)/\T≠e/\∃oT ts,h.get? T=some oT/\oT.data = .fields ts/\ts[3]? = some fl
theorem uw.obj{h:Heap}{e:Addr}{c:Value}{dx:Option Addr}{tb:Option (Addr × Value)}(x:uw h e c dx tb):∃vs sl,h.get? e=some ⟨c,dx,.fields vs,sl⟩:=by
 cases tb with
 | none=>obtain⟨vs,sl,a,_⟩:=x;exact⟨vs,sl,a⟩
 | some p=>obtain⟨vs,sl,a,_⟩:=x;exact⟨vs,sl,a⟩
structure jh (fs ch:List Addr) (h h':Heap):Prop where
 keep:∀b o,h.get? b=some o->b ∉ fs->b ∉ ch->h'.get? b=some o
 slot:∀b o,h.get? b=some o->b∈fs->b ∉ ch->∃sl,h'.get? b=some { o with slots:=sl }
 there:∀b o,h.get? b=some o->∃o',h'.get? b=some o'
theorem jh.trans{fs ch:List Addr}{h1 h2 h3:Heap}(x:jh fs ch h1 h2)(y:jh fs ch h2 h3):jh fs ch h1 h3:=
 ⟨fun b o e n m=>y.keep b o (x.keep b o e n m) n m,fun b o e n m=>by
  obtain⟨s1,q1⟩:=x.slot b o e n m;obtain⟨s2,q2⟩:=y.slot b _ q1 n m;exact⟨s2,q2⟩,fun b o e=>by
  obtain⟨o1,q1⟩:=x.there b o e;exact y.there b o1 q1⟩
theorem jh.mono{fs fs' ch ch':List Addr}{h h':Heap}(x:jh fs ch h h')(a:∀b∈fs,b∈fs')(c:∀b∈ch,b∈ch'):jh fs' ch' h h':=
 ⟨fun b o e n m=>x.keep b o e (fun z=>n (a b z)) fun z=>m (c b z),fun b o e n m=>by
  by_cases z:b∈fs
  ·exact x.slot b o e z fun y=>m (c b y)
  ·exact⟨o.slots,x.keep b o e z fun y=>m (c b y)⟩,x.there⟩
theorem gc{h:Heap}{a b:Addr}{f:Obj->Obj}{o:Obj}(e:h.get? b=some o)(n:b≠a):(h.update a f).get? b=some o:=by
 rw[mX h f (dJ n)]
 exact e
theorem me{fs:List Addr}{h:Heap}{a:Addr}{o:Obj}{f:Obj->Obj}(e:h.get? a=some o)(hf:(f o).isFreed=false):jh fs [a] h (h.update a f):=
 ⟨fun b o' q _ m=>gc q fun z=>m (by simp[z]),fun b o' q _ m=>⟨o'.slots,gc q fun z=>m (by simp[z])⟩,fun b o' q=>by
  by_cases z:b=a
  ·subst z;exact⟨_,dX f e hf⟩
  ·exact⟨o',gc q z⟩⟩
theorem Ax{fs ch:List Addr}{h:Heap}(o:Obj):jh fs ch h (h.push o):=
 ⟨fun b _ q _ _=>ay o q,fun b o' q _ _=>⟨o'.slots,ay o q⟩,fun b o' q=>⟨o',ay o q⟩⟩
section
variable {M:DS} {A:cy} {E:Value->aj->Prop} {s:aj} {base:Heap} {env:Env} {outer:List Env} {L e:Addr} {c:Value} {dx:Option Addr} {Q:Unit->aj->Prop}
theorem E5{vs:Array Value}{sl:Array (Option Value)}{head:Value}{b:Bool}(hfr:A.frames=some (env::outer))(hl:s.heap.FunFrames base (env::outer))(hf:env.frame=some L)
  (he:s.heap.get? e=some ⟨c,dx,.fields vs,sl⟩) (hsz:1 < vs.size)
  (q:∀h' T,jh (uJ (env::outer)) [e] s.heap h'->s.heap.objs.size<=T->uw h' e c dx (some (T,oN L))->Q () { s with heap:=h' }):
  wpAny M A (do let a <-frameOf env;let pl <-entryPlaceOf L b;let t <-wO head a .none (oN L) .none pl;setField (.ref e) 1 t) Q E s:=by
 have ne:e ∉ uJ (env::outer):=fun hm=>by
  obtain⟨_,o,ho,hnf⟩:=hl.mem hm;rw[he] at ho;cases ho;exact hnf vs rfl
 refine ah (wpAny_frameOf_fun hfr hl hf fun h1 k1=>ah (wpAny_entryPlaceOf fun pl hpl=>?_));unfold wO newFields;refine ah (gO ?_ (hpl.sizeOk5 _ _ _ _ _));have e1:h1.get? e=some ⟨c,dx,.fields vs,sl⟩:=(k1.2.1 e ne).trans he;have kk:jh (uJ (env::outer)) [e] s.heap h1:=⟨fun b o z n _=>(k1.2.1 b n).trans z,fun b o z _ _=>k1.2.2 b o z,fun b o z=>let ⟨_,z'⟩:=k1.2.2 b o z;⟨_,z'⟩⟩
 generalize htb:({ cls:=.type "traceback",dict:=none,data:=.fields ([head,.ref L,.none,oN L,.none] ++ (if pl.isEmpty then cB 6 dm else pl)).toArray }:Obj)=tb;have e2:(h1.push tb).get? e=some ⟨c,dx,.fields vs,sl⟩:=ay tb e1;refine z8 e2 rfl hsz (q _ h1.objs.size ((kk.trans (Ax tb)).trans (me e2 rfl)) ?_ ?_)
 ·rw[k1.1]
  exact ax _
 ·have nT:h1.objs.size≠e:=kg (aK e1)
  refine⟨_,_,dX _ e2 rfl,by simp[hsz],nT,tb,_,gc (bu h1 (by rw[<-htb];rfl)) nT,by rw[<-htb],?_⟩
  first | (simp;done) | (rcases hpl with rfl | ⟨_,_,_,_,_,_,_,rfl⟩<;>simp)
theorem KJ{tb:Option Addr}(hfr:A.frames=some (env::outer))(hl:s.heap.FunFrames base (env::outer))(hf:env.frame=some L)(x:uw s.heap e c dx (tb.map fun T=>(T,dm)))
  (q:∀h' T,jh (uJ (env::outer)) (e::tb.toList) s.heap h'->s.heap.objs.size<=T->uw h' e c dx (some (T,oN L))->Q () { s with heap:=h' }):
  wpAny M A (DY (.ref e) env) Q E s:=by
 unfold DY;simp only[hf];cases tb with
 | none=>
  obtain⟨vs,sl,he,h1⟩:=x;refine ah (kj he rfl h1 ?_);rw[if_neg (by decide)]
  exact E5 hfr hl hf he (gy.mp h1).1 q
 | some T=>
  obtain⟨vs,sl,he,h1,nT,oT,ts,hT,hd,h3⟩:=x;refine ah (kj he rfl h1 ?_);rw[if_pos (show(aO T != dm)=true by simp)]
  refine ah (kj hT hd h3 ?_);rw[if_neg (show ¬((dm == oN L)=true) by simp[oN])]
  refine ah (z8 hT hd (gy.mp h3).1 ?_);have kT:jh (uJ (env::outer)) [T] s.heap (s.heap.update T (Obj.mapFields (·.setIfInBounds 3 dm))):=me hT (By (qo hd _));have e2:=gc (f:=Obj.mapFields (·.setIfInBounds 3 dm)) he (dJ nT);refine E5 hfr (hl.of_keeps fun b o hb hnf=>?_) hf e2 (gy.mp h1).1 fun h' T' k n z=>?_
  ·have nb:b≠T:=fun z=>by rw[z,hT] at hb;cases hb;exact hnf ts hd
   exact⟨o,gc hb nb,rfl⟩
  ·refine q h' T' ((kT.mono (fun _ y=>y) (by simp)).trans (k.mono (fun _ y=>y) (by simp))) ?_ z
   rw[Heap.size_after_update] at n;exact n
theorem E6{T:Addr}{fl:Value}(x:uw s.heap e c dx (some (T,fl)))(q:∀h',jh [] [T] s.heap h'->uw h' e c dx (some (T,.none))->Q () { s with heap:=h' }):wpAny M A (setFlight (.ref e) none) Q E s:=by
 obtain⟨vs,sl,he,h1,nT,oT,ts,hT,hd,h3⟩:=x;have sz:=(gy.mp h3).1;unfold setFlight;refine ah (kj he rfl h1 ?_);rw[if_pos (show(aO T != dm)=true by simp)]
 have fr:=By (qo hd (·.setIfInBounds 3 dm));refine z8 hT hd sz (q _ (me hT fr) ⟨vs,sl,gc he (dJ nT),h1,nT,_,_,dX _ hT fr,qo hd _,by simp[sz]⟩)
theorem Ml{tb:Option Addr}(hfr:A.frames=some (env::outer))(hl:s.heap.FunFrames base (env::outer))(hf:env.frame=some L)(x:uw s.heap e c dx (tb.map fun T=>(T,dm)))
  (q:∀h' T,jh (uJ (env::outer)) (e::tb.toList) s.heap h'->s.heap.objs.size<=T->uw h' e c dx (some (T,.none))->Q () { s with heap:=h' }):
  wpAny M A (leaving env (.ref e)) Q E s:=by
 unfold leaving;refine ah (KJ hfr hl hf x fun h1 T k1 n1 x1=>?_);refine E6 (s:={ s with heap:=h1 }) x1 fun h2 k2 x2=>q h2 T ?_ n1 x2
 refine⟨fun b o z n m=>?_,fun b o z n m=>?_,fun b o z=>?_⟩
 ·exact k2.keep b o (k1.keep b o z n m) (by simp) fun y=>by
   have y':b=T:=by simpa using y
   rw[y'] at z;exact absurd (aK z) (wQ.mpr n1)
 ·obtain⟨sl,z1⟩:=k1.slot b o z n m
  refine⟨sl,k2.keep b _ z1 (by simp) fun y=>?_⟩;have y':b=T:=by simpa using y
  rw[y'] at z;exact absurd (aK z) (wQ.mpr n1)
 ·obtain⟨o1,z1⟩:=k1.there b o z
  exact k2.there b o1 z1
end
end L2
end
section
namespace L2
open PySem PySem.Spec PyProof.Rows
noncomputable def oW(P:bx)(w:bU):EO:=fun outer H s E e s'=>∃(a T:Addr) (c:Value) (dx:Option Addr) (H':Hp),e = .ref a/\s'.os=s.os/\mV s'.gens/\Un (uJ outer) [] H H' s.heap s'.heap/\ng P w H' s'.heap /\
 uw s'.heap a c dx (some (T,.none))/\(H' a=none/\H' T=none)/\(s.heap.objs.size<=a/\s.heap.objs.size<=T)/\E c dx H'
theorem ng.qA{P:bx}{w:bU}{H:Hp}{h h':Heap}{fs ch:List Addr}(x:ng P w H h)(k:jh fs ch h h')(hf:∀b∈fs,H b=none)(hc:∀b∈ch,H b=none):ng P w H h':=fun a o e=>by
 have nf:∀b u,H b=some u->b ∉ fs/\b ∉ ch:=fun b u q=>⟨fun z=>(by rw[hf b z] at q;cases q),fun z=>(by rw[hc b z] at q;cases q)⟩
 refine(x a o e).sH (fun b u hb q=>?_) (fun _ q=>q) fun _ _ q=>q
 rcases hb with rfl | hb
 ·exact k.keep b u q (nf b _ e).1 (nf b _ e).2
 ·exact k.keep b u q (nf b _ hb).1 (nf b _ hb).2
def Ay(X:Cx)(pZ:List (Addr × Obj))(H:Hp)(b:Addr):Prop:=H b=none/\X.s₀.heap.objs.size<=b/\b≠X.env.locals/\(∀x c,X.env.cells.lookup x=some c->c≠b)/\∀p∈X.pn ++ pZ,p.1≠b
theorem Inv.PC{X:Cx}{pZ:List (Addr × Obj)}{σ:St}{H:Hp}{s:aj}{b:Addr}(I:Inv X pZ σ H s)(hb:s.heap.objs.size<=b):Ay X pZ H b:=by
 have no:∀o,¬s.heap.get? b=some o:=fun o e=>absurd (aK e) (wQ.mpr hb)
 refine⟨I.dj.fresh hb,aR I.sz hb,fun e=>?_,fun x c e z=>?_,fun p hp z=>?_⟩
 ·exact absurd I.lt (wQ.mpr (e ▸ hb))
 ·obtain⟨v,o,ho,_⟩:=I.cell x c e
  rw[z] at ho;exact no o ho
 ·have:=(I.pin p hp).1
  rw[z] at this;exact no _ this
theorem Inv.qA{X:Cx}{pZ:List (Addr × Obj)}{σ:St}{H:Hp}{s:aj}{h':Heap}{ch:List Addr}(I:Inv X pZ σ H s)(k:jh (uJ X.stack) ch s.heap h')(hc:∀b∈ch,Ay X pZ H b):Inv X pZ σ H { s with heap:=h' }:=by
 have any:∀b o,b ∉ ch->s.heap.get? b=some o->∃sl,h'.get? b=some { o with slots:=sl }:=fun b o n e=>by
  by_cases z:b∈uJ X.stack
  ·exact k.slot b o e z n
  ·exact⟨o.slots,k.keep b o e z n⟩
 refine I.step (g':=s.gens) (t':=s.toks) (d':=s.drawn) (ch:=ch) (fun b m=>⟨.inr (hc b m).2.1,(hc b m).2.2.1,(hc b m).2.2.2.1,(hc b m).2.2.2.2⟩) (fun b o nl nf nc e _=>k.keep b o e (fun z=>?_) nc) (fun b o _ _ nc e _=>any b o nc e) (fun _ _ _ _ n=>n)
  (fun b o nc e=>let ⟨_,q⟩:=any b o nc e;⟨_,q⟩) (fun _ _ e=>e) (fun _ _ _ e=>e) (fun b ps e=>⟨#[],by rw[e];simp⟩) (fun m hm=>?_) (I.dj.qA k I.wX fun b m=>(hc b m).1) I.bare
 ·rcases aX.mp (I.sJ b z) with q | q
  ·exact nl q
  ·exact nf q
 ·obtain⟨o,es,ep,ho,r⟩:=hm
  obtain⟨sl,q⟩:=any _ o (fun z=>(hc _ z).2.2.1 rfl) ho;exact⟨_,es,ep,q,r⟩
def PD(X:Cx)(E:XK):Prop:=∀(pZ:List (Addr × Obj)) (σ:St) (H:Hp) (s:aj) (a:Addr) (tb:Option Addr) (c:Value) (dx:Option Addr),Inv X pZ σ H s->uw s.heap a c dx (tb.map fun T=>(T,dm)) ->
 (∀b∈a::tb.toList,Ay X pZ H b)->E c dx H->X.xe (.ref a) s
theorem oW.inv{X:Cx}{E:XK}{pZ:List (Addr × Obj)}{σ:St}{H:Hp}{s:aj}{e:Value}{s':aj}(I:Inv X pZ σ H s)(h:oW X.prog X.w X.stack H s E e s'):
  ∃a T c dx H',e = .ref a/\Inv X pZ σ H' s'/\uw s'.heap a c dx (some (T,.none))/\(∀b∈[a,T],Ay X pZ H' b)/\E c dx H':=by
 obtain⟨a,T,c,dx,H',rfl,os,bare,un,dj,x,⟨ha,hT⟩,⟨fa,fT⟩,q⟩:=h;have I':Inv X pZ σ H' s':=I.KD (ch:=[]) os un dj bare (fun b z=>absurd z (by simp));refine⟨a,T,c,dx,H',rfl,I',x,fun b m=>?_,q⟩;rcases aX.mp m with e | m
 ·subst e;exact⟨ha,(I.PC fa).2⟩
 ·have e:b=T:=by simpa using m
  subst e;exact⟨hT,(I.PC fT).2⟩
theorem E7{P:bx}{w:bU}{K:aD}{mg:Str->Option Value}{base:Heap}{N:List Str}{qual:Str}{scope:kf}{f:Addr}{cd:Value}{A:cy}{outer:List Env}{s:aj}{H:Hp}{E:XK}:
  PD (yM (oW P w) P w K mg base N qual scope f cd A outer s H E) E:=by
 intro pZ σ H1 s1 a tb c dx I x fr q;show wpAny _ _ (leaving _ (.ref a)) _ _ s1;have hL:(oO qual scope s.heap.objs.size f cd).frame=some s.heap.objs.size:=rfl;refine Ml (base:=base) (L:=s.heap.objs.size) I.ok.frames I.stack hL x fun h' T' k n x'=>?_
 have I':=I.qA k fr;have fa:s.heap.objs.size<=a:=(fr a ba).2.1;have sz:s.heap.objs.size<=s1.heap.objs.size:=I.sz;refine⟨a,T',c,dx,H1,rfl,I.os,I.bare,?_,I'.dj,x',⟨(fr a ba).1,I.dj.fresh n⟩,⟨fa,aR sz n⟩,q⟩;exact I'.base
theorem Aw.T4{P:bx}{w:bU}{K:aD}{mg:Str->Option Value}{base:Heap}{x qual:Str}{st:Stmt}{f:Addr}{fd:dQ}{N ps:List Str}{k:Nat}{sp:Sp}(F:Aw K x qual st f fd)(S:fO N ps (a9 st))(len:∀vs H Q E,sp vs H Q E->vs.length=ps.length)
  (hbody:∀(cdv:Value) (A:cy) (outer:List Env) (s:aj) (H:Hp) (vs:List V) (Q:VK) (E:XK),jf k (A.deeper (oO qual (a9 st) s.heap.objs.size f cdv))->sp vs H Q E ->
   ∃t,rN (yM (oW P w) P w K mg base N qual (a9 st) f cdv A outer s H E) (dN st) t/\t { nx:=fun _ H'=>Q .bQ H',rt:=Q } (start N vs) H):iz P w K mg base (oW P w) (k + 1) f fd ps sp:=by
 obtain⟨oc,od,kV,doc,pm,an,cdv,ct,osl,rfl,lk,hcd⟩:=F.ex;exact Pq lk hcd S len fun A outer s H vs Q E hr hsp=>hbody cdv A outer s H vs Q E hr hsp
end L2
end
section
namespace L2
open PySem PySem.Spec PyProof.Rows PySem.W
open Builtin Builtin.ObjectAttr
noncomputable abbrev vE:List Value:=[.type "ValueError",.type "Exception",.type "BaseException",.type "object"]
structure nq (K:Frag) (C:Addr) (bm:List Value):Prop where
 ob:∃nm q N bs sn sub ab col dd k0 k1 k2 k3 k5,K.lookup C=some (ko nm q C N bs bm true sn sub ab col dd k0 k1 k2 k3 k5 "ValueError.__new__")
 tl:tailIn K vE bm=true
theorem nq.tail{K:Frag}{C:Addr}{bm:List Value}{h:Heap}(x:nq K C bm)(X:K.In h):OwnTail h vE bm:=tail_of_in X x.tl
theorem nq.base{K:Frag}{C:Addr}{bm:List Value}{h:Heap}(x:nq K C bm)(X:K.In h):bm.contains (.type "BaseException")=true:=(x.tail X).hasType F.excBase_ValueError.hasBase
section
variable {prog:bx} {w:bU} {A:cy} {E:Value->aj->Prop} {h:Heap} {g:Array HK} {d:Drawn} {t:Nat} {os:OsState}
variable {nm q:Str} {C N:Addr} {bs bm bmB:List Value} {sn:List Str} {sub:List Value} {ab:Bool} {col:Option Bool} {dd:Option Addr} {k0 k1 k2 k3 k5:Option Value} {B newId initId:String}
theorem yR(F:ExcBaseFacts B newId initId bmB)(T:OwnTail h bmB bm){rest:List Value}{fI:Addr}{Q:Fin->aj->Prop}
  (hC:h.get? C=some (ko nm q C N bs bm true sn sub ab col dd k0 k1 k2 k3 k5 newId)) (hI:z9 (aP prog w) h (sF (.ref C) "__init__") (some (.ref fI)))
  (hB:∀self,z9 (aP prog w) h (bindSpecial (.ref fI) self) (.ref fI,[self]))
  (hq:∀h' e,Heap.MadeExcOf h h' e (.ref C) rest->h.objs.size<=e->wpAny (aP prog w) A (call (.ref fI) (.ref e::rest)) (fun r s'=>r = .none/\Q (.done (.ret (.ref e))) s') E ⟨h',g,d,t,os⟩) (hrest:rest.length<=sizeLine):
  wpAny (aP prog w) A (Builtin.«type.__call__» ⟨.ref C::rest,[]⟩) Q E ⟨h,g,d,t,os⟩:=by
 generalize e1:({ cls:=.type "tuple",data:=.seq rest.toArray }:Obj)=o1;generalize e2:({ cls:=.ref C,data:=.fields #[.ref h.objs.size,.none,.none,.none,.bool false,.none] }:Obj)=o2;have kp:∀b o,h.get? b=some o->((h.push o1).push o2).get? b=some o:=fun b o z=>ay o2 (ay o1 z)
 repeat (first | with_reducible refine eY hC ?_ | with_reducible refine wpAny_madeBy_exc hC ?_ | wp_step)
 refine codeAny_call_builtin_code (DZ _ F.quiet) (wpAny_check_new_subT F T hC (codeAny_exc_new_subT F T hC ?_ hrest));rw[e1,e2]
 show wpAny _ _ _ _ _ _
 have hC1:=kp C _ hC;have hget:((h.push o1).push o2).get? (h.objs.size + 1)=some o2:=by rw[<-e1,<-e2];heap_get
 have hcls:o2.cls = .ref C:=by rw[<-e2]
 have hcC:(aO C::bm).contains (.ref C)=true:=by simp
 unfold isInstance
 repeat (first | (with_reducible refine eY hget ?_;rw[hcls]) | (with_reducible refine lC hC1 ?_;rw[hcC]) | wp_step)
 show wpAny _ _ (sF (.ref C) _) _ _ _
 refine(hI.keeps kp).here ?_;refine gK (ah (((hB (.ref (h.objs.size + 1))).keeps kp).here ?_));refine ah (bH (hq _ (h.objs.size + 1) ⟨kp,oB (gN _),h.objs.size,by rw[hget,<-e2],oB (ax _),?_⟩ (gN _)) (fun r s' hr=>?_) fun _ _ x=>x)
 ·rw[e1]
  exact ay o2 (Heap.get?_push_at (by rfl) (by rw[<-e1];rfl))
 ·obtain⟨rfl,hQ⟩:=hr
  wp_walk
  exact hQ
theorem x_call(F:ExcBaseFacts B newId initId bmB)(T:OwnTail h bmB bm){rest:List Value}{fI:Addr}{Q:Value->aj->Prop}
  (hC:h.get? C=some (ko nm q C N bs bm true sn sub ab col dd k0 k1 k2 k3 k5 newId)) (hI:z9 (aP prog w) h (sF (.ref C) "__init__") (some (.ref fI)))
  (hB:∀self,z9 (aP prog w) h (bindSpecial (.ref fI) self) (.ref fI,[self]))
  (hq:∀h' e,Heap.MadeExcOf h h' e (.ref C) rest->h.objs.size<=e->wpAny (aP prog w) (A.under (.builtin "type.__call__" ⟨.ref C::rest,[]⟩)) (call (.ref fI) (.ref e::rest)) (fun r s'=>r = .none/\Q (.ref e) s') E ⟨h',g,d,t,os⟩) (hrest:rest.length<=sizeLine):
  wpAny (aP prog w) A (call (.ref C) rest) Q E ⟨h,g,d,t,os⟩:=by
 have f1:=tc_lookup;have f2:=tc_bind (.ref C);have hT:(⟨h,g,d,t,os⟩:aj).TypeIs (.ref C) "type":=⟨_,hC,rfl⟩
 refine oQ (codeAny_of_tree ?_);show wpAny _ _ (callAny (.ref C) _) _ _ _
 repeat (any_goals (first | assumption | with_reducible refine eY hC ?_ | wp_step))
 exact⟨rfl,codeAny_call_builtin_at (DZ _ (by decide +kernel)) entry_typeCall (wpAny_check_type_call_sub hC (yR F T hC hI hB (fun h' e hm hs=>hq h' e hm hs) hrest))⟩
theorem yS {env:Env} {M:DS} {s:aj} {x:Sem Value} {Q:Flow->aj->Prop} (hbase:bm.contains (.type "BaseException")=true) (hh:A.handled=none)
  (hx:wpAny M A x (fun v s₁=>∃e dx,v = .ref e/\s₁.heap.get? C=some (ko nm q C N bs bm true sn sub ab col dd k0 k1 k2 k3 k5 newId)/\uw s₁.heap e (.ref C) dx none/\E (.ref e) s₁) E s):
  wpAny M A (raiseStmt env (some x) none) Q E s:=by
 have hcB:(aO C::bm).contains (.type "BaseException")=true:=by rw[kE,hbase,zT]
 unfold raiseStmt;refine ah (bH hx (fun v s₁ h₁=>?_) fun _ _ x=>x);obtain⟨e,dx,rfl,hC,⟨vs,sl,he,h1⟩,hE⟩:=h₁;obtain⟨hp,g,d,tk,os⟩:=s₁
 repeat (first | with_reducible refine eY he ?_ | with_reducible refine eY hC ?_ | (with_reducible refine lC hC ?_;rw[hcB]) | wp_step)
 rw[h1]
 refine aJ ?_;rw[if_neg (by decide)]
 exact aJ (wpAny_raiseNew_none hh hE)
end
end L2
end
section
namespace L2
open PySem PySem.Spec PyProof.Rows PySem.W
open Builtin Builtin.ObjectAttr
structure XGet (K:Frag) (C:Addr):Prop where
 ga:ik K (.ref C) "__getattribute__" = some (some (.builtin "BaseException.__getattribute__"))
 gh:ik K (.ref C) "__getattr__" = some none
 hb:mroIn K C (.type "BaseException")=some true
 hd:hasDictIn K C=true
 sa:ik K (.ref C) "__setattr__" = some (some (.builtin "object.__setattr__"))
 mo:∃cd bm,clsIn K C=some cd/\cd.mro = .ref C::bm/\tailIn K vE bm=true
def WG(e C:Addr)(od:Option Addr):Heap->Prop:=fun h=>uw h e (.ref C) od none
def T5(d:Addr)(fs:List (Str × V)):Heap->Prop:=fun h=>∃mA,h.Ns1 d mA/\(∀f,mO (fs.lookup f) (mA f))/\jQ mA (fs.map (·.1))
noncomputable abbrev HO.xo(e C:Addr)(od:Option Addr):HO:=.ext (WG e C od)
noncomputable abbrev HO.xf(d:Addr)(fs:List (Str × V)):HO:=.ext (T5 d fs)
section
variable {P:bx} {w:bU} {H:Hp} {h:Heap} {e C d:Addr} {od:Option Addr} {fs:List (Str × V)}
theorem KL(x:uw h e (.ref C) od none):dZ P w H h e (.xo e C od):=by
 obtain⟨vs,sl,a,b⟩:=id x;exact⟨x,⟨_,a⟩,fun h1 h2 ⟨vs,sl,a,b⟩ k=>⟨vs,sl,k _ a,b⟩⟩
theorem KN(x:T5 d fs h):dZ P w H h d (.xf d fs):=by
 obtain⟨mA,⟨o,es,ep,e,c⟩,r⟩:=id x;exact⟨x,⟨_,e⟩,fun h1 h2 ⟨mA,⟨o,es,ep,e,c⟩,r⟩ k=>⟨mA,⟨o,es,ep,k _ e,c⟩,r⟩⟩
theorem BM(dj:ng P w H h)(q:H e=some (.xo e C od)):uw h e (.ref C) od none:=(dj e _ q).1
theorem BN(dj:ng P w H h)(q:H d=some (.xf d fs)):T5 d fs h:=(dj d _ q).1
end
theorem rk{K:Frag}(self:Value):∀ {l:List Value},tailIn K vE l=true->refuseLoop self "__setattr__" l=pure ()
 | [],e=>by simp[tailIn] at e
 | v::r,e=>by
  unfold tailIn at e;rcases Bool.or_eq_true_iff.mp e with q | q
  ·rw[beq_iff_eq.mp q]
   exact PySem.F.store_ValueError.passes self
  ·split at q
   ·split at q
    ·simp only[ag] at q
     rw[refuseLoop_ref]
     exact rk self q.2
    ·cases q
   ·cases q
section
variable {prog:bx} {w:bU} {A:cy} {E:Value->aj->Prop} {s:aj} {K:Frag} {x C:Addr} {name:Str} {v:Value} {Q:Unit->aj->Prop}
theorem sV{ox:Obj}{od:Option Obj}(X:K.In s.heap)(G:XGet K C)(I:fY s.heap x ox C od)(ht:takerIn K C name=some none)
  (h:∀(b:Bool) (t:Nat),wpAny (aP prog w) A.in1 (storeInOwnDict (.ref x) (.ref C) (.str name s.toks) name v b) (fun fin s'=>match fin with | .done (.ret _)=>Q () s' | _=>False) E { s with toks:=s.toks + 1 }):
  wpAny (aP prog w) A (Eh (.ref x) name v) Q E s:=by
 have SF:=PySem.F.store_object;obtain⟨cd,bm,hc,hm,tl⟩:=G.mo;have T:OwnTail s.heap vE bm:=tail_of_in X tl;have ne:¬cd.mro.isEmpty=true:=by rw[hm];simp
 have ho:cd.mro.contains (.type "object")=true:=by rw[hm,kE,T.hasType (X:="object") (b:=true) (by decide +kernel),zT]
 have sub:z9 (aP prog w) s.heap (isInstance (.ref x) (.type "object")) true:=I.type.andThen (looks_mroIn X (by unfold mroIn;rw[hc,D1,if_neg ne,ho]));refine set_plain X I G.sa ?_;refine HP SF.slot.plain SF.entry (@check_slot (aP prog w) _ _ { s with toks:=s.toks + 1 } "object.__setattr__" "object" "__setattr__" (.ref x) [.str name s.toks,v] [] _ SF.kind SF.split sub (SF.args (.ref x) (.str name s.toks) v) ?_);obtain⟨attr,ha,hr⟩:=ao.mp ht;have hmro:z9 (aP prog w) s.heap (mroOf (.ref C)) cd.mro:=(HQ X hc).andThen .now;have L3:z9 (aP prog w) s.heap (storeTaker? attr) none:=by
  cases attr with
  | none=>exact .now
  | some a=>
   obtain⟨b,hb,hb2⟩:=af.mp hr;cases b with
   | true=>cases hb2
   | false=>exact(looks_takesIn X hb).andThen .now
 rw[osa_eq,refuse_eq]
 have I':z9 (aP prog w) s.heap (typeOf (.ref x)) (.ref C):=I.type;refine ah (ah (kq (s:={ s with toks:=s.toks + 1 }) I' (ah (kq (s:={ s with toks:=s.toks + 1 }) hmro ?_))));rw[hm,refuseLoop_ref,rk _ tl]
 refine aJ (ah (kq (s:={ s with toks:=s.toks + 1 }) I' (ah (kq (s:={ s with toks:=s.toks + 1 }) (uH X ha) (ah (kq (s:={ s with toks:=s.toks + 1 }) L3 ?_))))));refine bH (h attr.isSome 0) (fun fin s' z=>?_) fun _ _ z=>z
 cases fin with
 | again c=>exact z.elim
 | done f=>
  cases f with
  | ret u=>exact z
  | next=>exact z.elim
  | brk=>exact z.elim
  | cont=>exact z.elim
end
end L2
end
section
namespace L2
open PySem PySem.Spec PyProof.Rows PySem.W
open Builtin Builtin.ObjectAttr
theorem Az{mA:Str->Option Value}{f:Str}{y:V}{u:Value}{fs:List (Str × V)}(wi:jQ mA (fs.map (·.1))):jQ (fun g=>if g=f then some u else mA g) ((f9 f y fs).map (·.1)):=fun g hg=>by
 by_cases q:g=f
 ·rw[q];exact(lM f y fs).1
 ·refine(lM f y fs).2 g (wi g fun z=>hg ?_)
  show(if g=f then some u else mA g)=none
  rw[if_neg q];exact z
theorem E8{mA:Str->Option Value}{f:Str}{y:V}{u:Value}{fs:List (Str × V)}(r:∀g,mO (fs.lookup g) (mA g))(ry:RelV y u)(g:Str):mO ((f9 f y fs).lookup g) (if g=f then some u else mA g):=by
 rw[nj]
 by_cases q:g=f
 ·rw[if_pos q,if_pos q];exact ry
 ·rw[if_neg q,if_neg q];exact r g
section
variable {X:Cx} {pZ:List (Addr × Obj)} {σ:St} {H:Hp} {s:aj} {a C d:Addr} {fs:List (Str × V)} {f:Str} {y:V} {u:Value} {A:cy} {E:Value->aj->Prop}
theorem pF{Q:Fin->aj->Prop}{tk:Tok}(I:Inv X pZ σ H s)(hd:H d=some (.xf d fs))(hl:fs.length < 1000)(ry:RelV y u)
  (h:∀s',Inv X pZ σ (upd H d (.xf d (f9 f y fs))) s'->Q (.done (.ret .none)) s'):
  wpAny (aP X.prog X.w) A (storeInDict d (.str f tk) f u) Q E s:=by
 obtain⟨mA,ns,r,wi⟩:=BN I.dj hd;unfold storeInDict newKeyGuard;refine ah (aJ (ah (wpAny_nsSet1 ns fun h' hn2 hs2=>?_)));obtain⟨oD,esD,epD,hoD,hdD,hcD⟩:=hn2.count (wA f u wi);refine ah (wpAny_lookBehind hoD (by rw[hdD];exact pastItsLine_dict (aR hcD (by rw[aN,ar,iX];omega))) ?_);refine aJ (h _ (I.write (x:=d) (e:=d) (by rw[hd];exact dS) (.inl rfl) (fun b q hb z=>(hs2.2 b hb).trans z) ⟨oD,hoD⟩ (KN ⟨_,hn2,E8 r ry,Az wi⟩)))
theorem Mm{od:Option Addr}(I:Inv X pZ σ H s)(e:H a=some (.xo a C od)):∃vs sl,s.heap.get? a=some ⟨.ref C,od,.fields vs,sl⟩:=by
 obtain⟨vs,sl,q,_⟩:=BM I.dj e;exact⟨vs,sl,q⟩
theorem AA{Q:Unit->aj->Prop}(I:Inv X pZ σ H s)(G:XGet X.K C)(n:fm X.K C f)(e:H a=some (.xo a C none))(ry:RelV y u)
  (h:∀d s',H d=none->d≠a->Inv X pZ σ (upd (upd H d (.xf d [(f,y)])) a (.xo a C (some d))) s'->Q () s'):wpAny (aP X.prog X.w) A (Eh (.ref a) f u) Q E s:=by
 obtain⟨vs,sl,q,q1⟩:=BM I.dj e;refine sV (ox:=⟨.ref C,none,.fields vs,sl⟩) (od:=none) I.kA G ⟨q,rfl,rfl,dS⟩ n.EM fun b t=>?_
 obtain⟨cd,hc,hd'⟩:=HR G.hd;refine ah (aJ (ah (ah (qj (s:={ s with toks:=s.toks + 1 }) q (ah (kq (s:={ s with toks:=s.toks + 1 }) (HQ I.kA hc) ?_))))));rw[hd']
 generalize eD:({ cls:=.type "dict",data:=.dict #[] }:Obj)=D0;have n0:H s.heap.objs.size=none:=I.dj.fresh (ax _);have na:s.heap.objs.size≠a:=kg (aK q);have e1:(s.heap.push D0).get? s.heap.objs.size=some D0:=bu s.heap (by rw[<-eD];rfl);have e3:(s.heap.push D0).Ns s.heap.objs.size (fun _=>none):=⟨D0,#[],_,e1,by rw[<-eD],(fun e he=>absurd he (by simp)),fun _=>rfl⟩
 have I1:=I.laid (a:=s.heap.objs.size) (o:=.xf s.heap.objs.size []) (h':=s.heap.push D0) (t':=s.toks + 1) (fun b u q=>ay _ q) (ax _) (KN ⟨_,z5 e3,fun _=>dS,fun y hy=>absurd rfl hy⟩);have qa:(s.heap.push D0).get? a=some ⟨.ref C,none,.fields vs,sl⟩:=ay _ q;have fr:(({ (⟨.ref C,none,.fields vs,sl⟩:Obj) with dict:=some s.heap.objs.size }):Obj).isFreed=false:=rfl;have I2:=I1.write (x:=a) (e:=a) (o:=.xo a C (some s.heap.objs.size)) (h':=(s.heap.push D0).update a fun o=>{ o with dict:=some s.heap.objs.size }) (t':=s.toks + 1) (by rw[bq (dJ na),e];exact dS) (.inl rfl) (fun b u hb z=>gc z hb)
  ⟨_,dX _ qa fr⟩ (KL ⟨vs,sl,dX _ qa fr,q1⟩)
 refine ah (wpAny_alloc (ah (wpAny_update (a:=a) (s:={ s with heap:=s.heap.push D0,toks:=s.toks + 1 }) qa (aJ ?_))));refine pF (fs:=[]) I2 (by rw[bq na,bE]) (by decide) ry fun s' I3=>h s.heap.objs.size s' n0 na ?_
 have hh:upd (upd (upd H s.heap.objs.size (.xf s.heap.objs.size [])) a (.xo a C (some s.heap.objs.size))) s.heap.objs.size (.xf s.heap.objs.size (f9 f y []))=upd (upd H s.heap.objs.size (.xf s.heap.objs.size [(f,y)])) a (.xo a C (some s.heap.objs.size)):=by
  funext b
  by_cases z:b=s.heap.objs.size
  ·rw[z,bE,bq na,bE];rfl
  ·rw[bq z]
   by_cases z2:b=a
   ·rw[z2,bE,bE]
   ·rw[bq z2,bq z2,bq z,bq z]
 rw[<-hh]
 exact I3
theorem AB{Q:Unit->aj->Prop}(I:Inv X pZ σ H s)(G:XGet X.K C)(n:fm X.K C f)(e:H a=some (.xo a C (some d)))(hd:H d=some (.xf d fs))(hl:fs.length < 1000)(ry:RelV y u)
  (h:∀s',Inv X pZ σ (upd H d (.xf d (f9 f y fs))) s'->Q () s'):wpAny (aP X.prog X.w) A (Eh (.ref a) f u) Q E s:=by
 obtain⟨vs,sl,q⟩:=Mm I e;obtain⟨mA,⟨oD,es,ep,eo,c⟩,r⟩:=BN I.dj hd;refine sV (ox:=⟨.ref C,some d,.fields vs,sl⟩) (od:=some oD) I.kA G ⟨q,rfl,rfl,eo⟩ n.EM fun b t=>?_
 obtain⟨cd,hc,hd'⟩:=HR G.hd;refine ah (aJ (ah (ah (qj (s:={ s with toks:=s.toks + 1 }) q (ah (kq (s:={ s with toks:=s.toks + 1 }) (HQ I.kA hc) ?_))))));rw[hd']
 refine aJ (a:=some d) ?_;exact pF (I.tok (s.toks + 1)) hd hl ry fun s' I'=>h s' I'
def PF(K:Frag)(ta tv:TE)(f:Str):TS:=fun D σ H=>tv σ H fun y H1=>ta σ H1 fun x H2=>∃a C,x = .ref a/\XGet K C/\fm K C f /\
  ((H2 a=some (.xo a C none)/\∀d,H2 d=none->d≠a->D.nx σ (upd (upd H2 d (.xf d [(f,y)])) a (.xo a C (some d)))) \/
   ∃d fs,H2 a=some (.xo a C (some d))/\H2 d=some (.xf d fs)/\fs.length < 1000/\D.nx σ (upd H2 d (.xf d (f9 f y fs))))
theorem xp{o value:Expr}{pos pos':Pos}{ta tv:TE}(ha:PE X o ta)(hv:PE X value tv)(hs:iy value (some (.Attribute o f pos')) pos.line X.env=pure false):PS X (.Assign [.Attribute o f pos'] value pos) (PF X.K ta tv f):=by
 intro pZ s σ H D I h;refine vb (eT (hv pZ s σ H _ I h) fun u s1 h9=>?_) hs;obtain⟨y,H1,I1,ry,q⟩:=h9;refine eT (ha pZ s1 σ H1 _ I1 q) fun ov s2 h9=>?_
 obtain⟨x,H2,I2,rx,a,C,ex,G,n,q2⟩:=h9;subst ex;obtain rfl:ov=aO a:=rx;rcases q2 with⟨e,k⟩ | ⟨d,fs,e,hd,hl,k⟩
 ·exact AA I2 G n e ry fun d s3 hn ne I3=>⟨σ,_,I3,k d hn ne⟩
 ·exact AB I2 G n e hd hl ry fun s3 I3=>⟨σ,_,I3,k⟩
end
noncomputable def rm(H:Hp)(a:Addr):Hp:=fun b=>if b=a then none else H b
theorem oX{H:Hp}{a:Addr}:rm H a a=none:=if_pos rfl
theorem jT{H:Hp}{a b:Addr}(n:b≠a):rm H a b=H b:=if_neg n
section
variable {X:Cx} {pZ:List (Addr × Obj)} {σ:St} {H:Hp} {s:aj} {a C:Addr} {od:Option Addr}
theorem Inv.PH(I:Inv X pZ σ H s)(e:H a=some (.xo a C od)):Inv X pZ σ (rm H a) s:=by
 have no:∀b u,H b=some u->(∀ φ,u≠.ext φ)->b≠a:=fun b u q k z=>by
  subst z;rw[e] at q;exact k _ (aG q).symm
 have J:=I.step (g':=s.gens) (t':=s.toks) (d':=s.drawn) (h':=s.heap) (H':=rm H a) (ch:=[]) (fun _ z=>absurd z (by simp)) (fun b o _ _ _ q _=>q) (fun b o _ _ _ q _=>⟨o.slots,q⟩) (fun b o _ _ n=>by
   by_cases z:b=a
   ·rw[z];exact oX
   ·rw[jT z];exact n) (fun b o _ q=>⟨o,q⟩) (fun b xs q=>by rw[jT (no b _ q (by intro φ z;cases z))];exact q) (fun b o u q=>by rw[jT (no b _ q (by intro φ z;cases z))];exact q)
  (fun b ps q=>⟨#[],by rw[jT (no b _ q (by intro φ z;cases z)),q];simp⟩) (fun m hm=>hm) (fun b u q=>?_) I.bare
 ·exact J
 ·by_cases z:b=a
  ·rw[z,oX] at q;cases q
  ·rw[jT z] at q
   exact(I.dj b u q).sH (fun _ _ _ q=>q) (fun c q=>by rw[jT (no c _ q (by intro φ z;cases z))];exact q) fun c xs q=>by rw[jT (no c _ q (by intro φ z;cases z))];exact q
end
end L2
end
section
namespace L2
open PySem PySem.Spec PyProof.Rows PySem.W
open Builtin Builtin.ObjectAttr
section
variable {M:DS} {A:cy} {E:Value->aj->Prop} {s:aj}
theorem xq{K:Frag}{C C' a:Addr}{bm bm':List Value}{dx:Option Addr}{tb:Option (Addr × Value)}{Q:Bool->aj->Prop}(X:K.In s.heap)(c:nq K C bm)(c':nq K C' bm')(x:uw s.heap a (.ref C) dx tb)
  (h:Q ((aO C::bm).contains (.ref C')) s):wpAny M A (excMatches (.ref a) (.ref C')) Q E s:=by
 obtain⟨nm,q,N,bs,sn,sub,ab,col,dd,k0,k1,k2,k3,k5,hC0⟩:=c.ob;obtain⟨nm',q',N',bs',sn',sub',ab',col',dd',k0',k1',k2',k3',k5',hC0'⟩:=c'.ob;have hb:=c'.base X;obtain⟨vs,sl,he⟩:=x.obj;have hC:=X _ _ hC0;have hC':=X _ _ hC0';obtain⟨hp,g,d,tk,os⟩:=s;have hcB:(aO C'::bm').contains (.type "BaseException")=true:=by rw[kE,hb,zT]
 have f:=tc_notTuple;unfold excMatches
 repeat (first | with_reducible refine eY he ?_ | with_reducible refine eY hC' ?_ | (with_reducible refine lC hC' ?_;rw[hcB]) | with_reducible refine lC hC ?_ | wp_step)
 cases hb2:(aO C::bm).contains (.ref C')<;>(rw[hb2] at h;wp_walk;exact h)
end
noncomputable abbrev Cx.hand(X:Cx)(a:Addr):Cx:={ X with A:=X.A.mark (some (.ref a)),calm:=false,xe:=fun _ _=>False }
section
variable {X:Cx} {pZ:List (Addr × Obj)} {σ:St} {H:Hp} {s:aj} {a:Addr}
theorem Cx.Ok.hand(ok:X.Ok)(a:Addr):(X.hand a).Ok:=
 ⟨ok.mod,ok.kind,ok.glob,ok.blt,ok.above,ok.inj,ok.has,ok.KC,fun z=>absurd (show false=true from z) (by decide),ok.frames,ok.CP,ok.OV,ok.bs,ok.D9,ok.yJ,ok.Ag,ok.oR,ok.HB⟩
theorem Inv.hand(I:Inv X pZ σ H s)(a:Addr):Inv (X.hand a) pZ σ H s:=⟨I.ok.hand a,I.os,I.bare,I.base,I.loc,I.cell,I.free,I.jS,I.pin,I.dj,I.len⟩
theorem Inv.xr(ok:X.Ok)(I:Inv (X.hand a) pZ σ H s):Inv X pZ σ H s:=⟨ok,I.os,I.bare,I.base,I.loc,I.cell,I.free,I.jS,I.pin,I.dj,I.len⟩
def WH(a:Addr)(c:Value)(dx:Option Addr):Heap->Prop:=fun h=>∃vs sl,h.get? a=some ⟨c,dx,.fields vs,sl⟩
noncomputable abbrev HO.xc(a:Addr)(c:Value)(dx:Option Addr):HO:=.ext (WH a c dx)
theorem Inv.PJ{c:Value}{dx:Option Addr}{tb:Option (Addr × Value)}(I:Inv X pZ σ H s)(f:Ay X pZ H a)(x:uw s.heap a c dx tb):Inv X pZ σ (upd H a (.xc a c dx)) s:=by
 have ne:∀b u,H b=some u->b≠a:=fun b u e z=>by rw[z,f.1] at e;cases e
 have J:=I.step (g':=s.gens) (t':=s.toks) (d':=s.drawn) (h':=s.heap) (H':=upd H a (.xc a c dx)) (ch:=[a]) (fun b m=>by
   have e:b=a:=by simpa using m
   subst e;exact⟨.inr f.2.1,f.2.2.1,f.2.2.2.1,f.2.2.2.2⟩) (fun b o _ _ _ q _=>q) (fun b o _ _ _ q _=>⟨o.slots,q⟩) (fun b o n _ z=>by rw[bq (fun e=>n (by simp[e]))];exact z) (fun b o _ q=>⟨o,q⟩)
  (fun b xs q=>by rw[bq (ne b _ q)];exact q) (fun b o u q=>by rw[bq (ne b _ q)];exact q) (fun b ps q=>⟨#[],by rw[bq (ne b _ q),q];simp⟩) (fun m hm=>hm) (fun b u q=>?_) I.bare
 ·exact J
 ·by_cases z:b=a
  ·subst z
   rw[bE] at q;cases q;obtain⟨vs,sl,e⟩:=x.obj;exact⟨⟨vs,sl,e⟩,⟨_,e⟩,fun h1 h2 ⟨vs,sl,e⟩ k=>⟨vs,sl,k _ e⟩⟩
  ·rw[bq z] at q
   exact(I.dj b u q).sH (fun _ _ _ q=>q) (fun c q=>by rw[bq (ne c _ q)];exact q) fun c xs q=>by rw[bq (ne c _ q)];exact q
theorem nR{A:cy}{E:Value->aj->Prop}{M:DS}{i:Nat}{n:Str}{pos:Pos}{Q:Unit->aj->Prop}(I:Inv X pZ σ H s)(hN:X.N.Nodup)(hi:X.N[i]? = some n)(hk:X.env.scope.names.lookup n=some .local)
  (h:∀s',Inv X pZ (σ.set i none) H s'->Q () s'):wpAny M A (do bindName X.env n .none;HS X.env n pos) Q E s:=by
 have hcls:(X.env.scope.kind == .class || (X.env.scope.kind == .module && X.env.locals != X.env.globals))=false:=by rw[I.ok.kind];rfl
 have hiσ:i < σ.length:=by rw[I.len];exact(ae.mp hi).1
 refine ah (wpAny_bindName (lL (v:=.bQ) I hN hi (.inl hk) rfl (fun s1 I1=>?_) (.inr hk)));unfold HS;refine wpAny_onRaise ?_;obtain⟨m,hn,hl⟩:=id I1.loc;obtain⟨u0,r0,l0⟩:=hl i n .bQ hi (by rw[bP hiσ]) (.inl hk);have hv:m n=some u0:=by
  rcases l0 with⟨_,q⟩ | ⟨k,_⟩
  ·exact q
  ·have k':X.env.scope.names.lookup n=some .cell\/X.env.scope.names.lookup n=some .free:=k
   rw[hk] at k';rcases k' with z | z<;>cases z
 refine wpAny_unbindName_local hk hn hv hcls fun h' u hn' hs=>h _ ?_
 obtain⟨oL,_,_,hoL,_⟩:=id hn;have tracked:ng X.prog X.w H h':=fun b ob e=>by
  refine(I1.dj b ob e).sH (fun c w' hc q=>(hs.2 c ?_).trans q) (fun _ q=>q) fun _ _ q=>q
  rintro rfl;rcases hc with rfl | hc
  ·rw[I1.free] at e;cases e
  ·rw[I1.free] at hc;cases hc
 have lt:∀b o,X.s₀.heap.get? b=some o->b≠X.env.locals:=fun b o e=>bV (aL (aK e) I1.ok.above)
 refine⟨I1.ok,I1.os,I1.bare,⟨fun b o e n hb hx=>(hs.2 b (lt b o e)).trans (I1.base.keep b o e n hb hx),fun b o e n hb hx=>?_,I1.base.free,fun b o e hx=>?_,I1.base.wU,I1.base.uI,I1.base.wV⟩,⟨_,hn',fun j y v' e1 e2 e3=>?_⟩,fun y c e=>?_,I1.free,I1.jS,fun p hp=>?_,tracked,?_⟩
 ·obtain⟨sl,e1⟩:=I1.base.slot b o e n hb hx
  exact⟨sl,(hs.2 b (lt b o e)).trans e1⟩
 ·obtain⟨o',e1⟩:=I1.base.there b o e hx
  exact⟨o',(hs.2 b (lt b o e)).trans e1⟩
 ·have hj:j≠i:=by
   rintro rfl;rw[bP hiσ] at e2;cases e2
  rw[au (dJ hj)] at e2;obtain⟨u',r',q⟩:=hl j y v' e1 (by rw[au (dJ hj)];exact e2) e3;refine⟨u',r',?_⟩;rcases q with⟨k,e⟩ | ⟨k,c,e,z⟩
  ·refine .inl ⟨k,?_⟩
   have:y≠n:=fun e=>hj (sM hN e1 (e ▸ hi))
   simp[this,e]
  ·exact .inr ⟨k,c,e,z.sameBut hs (I1.H0 y c e)⟩
 ·obtain⟨w',z⟩:=I1.cell y c e
  exact⟨w',z.sameBut hs (I1.H0 y c e)⟩
 ·obtain⟨e,n,ne,nf,d⟩:=I1.pin p hp
  exact⟨(hs.2 p.1 ne).trans e,n,ne,nf,d⟩
 ·rw[df];exact I.len
end
def XE(X:Cx)(pZ:List (Addr × Obj))(σ:St)(E:XK)(ex:Value)(s':aj):Prop:=
 ∃(a:Addr) (tb:Option Addr) (c:Value) (dx:Option Addr) (H':Hp),ex = .ref a/\Inv X pZ σ H' s'/\uw s'.heap a c dx (tb.map fun T=>(T,dm))/\(∀b∈a::tb.toList,Ay X pZ H' b)/\E c dx H'
def PK(X:Cx)(pZ:List (Addr × Obj))(E:St->XK)(ex:Value)(s':aj):Prop:=∃ σ',XE X pZ σ' (E σ') ex s'
def d7(X:Cx)(e:Expr)(t:XK->TE):Prop:=
 ∀(pZ:List (Addr × Obj)) (s:aj) (σ:St) (H:Hp) (Q:VK) (E:XK),Inv X pZ σ H s->t E σ H Q->wpAny (aP X.prog X.w) X.A (eval e X.env) (EP X pZ σ Q) (XE X pZ σ E) s
section
variable {X:Cx} {st:Stmt} {rest:List Stmt} {e:Expr} {es:List Expr} {pos p apos:Pos}
section
variable {k:Nat} {f C:Addr} {fd:dQ} {ps:List Str} {sp:Sp} {dvs:List V} {ds:List Value} {x m:Str} {o:Expr} {ta:TE} {t:TA}
theorem r9{pZ:List (Addr × Obj)}{σ:St}{H:Hp}{s:aj}{Q:VK}{E:XK}{us:List Value}{vs:List V}(F:iz X.prog X.w X.K X.mg X.base (oW X.prog X.w) k f fd ps sp)(hr:jf k X.A)(hb:Binds X.K fd ps ds)(hd:Vals dvs ds)
  (I:Inv X pZ σ H s) (r:Vals vs us) (h:sp (vs ++ dvs) H Q E):wpAny (aP X.prog X.w) X.A (call (.ref f) us) (EP X pZ σ Q) (XE X pZ σ E) s:=by
 have r2:Vals (vs ++ dvs) (us ++ ds):=r.append hd;have hl:(us ++ ds).length=ps.length:=by rw[<-r2.length];exact F.len _ _ _ _ h
 refine oQ (lH (F.run X.A X.stack s H ⟨us,[]⟩ (us ++ ds) (vs ++ dvs) Q E hr I.LZ (hb s us I.kA hl) r2 h) fun r s' hq=>?_);cases r with
 | error e=>
  obtain⟨a,T,c,dx,H',e1,I',x,fr,q⟩:=oW.inv I hq;exact⟨a,some T,c,dx,H',e1,I',x,fr,q⟩
 | ok fl=>
  cases fl with
  | ret u=>exact I.after hq
  | next=>exact aI hq
  | brk=>exact aI hq
  | cont=>exact aI hq
end
def T6(K:Frag)(C':Addr)(i:Nat)(tb:(St->XK)->TS)(th:TS):TS:=fun D σ H=>tb (fun σ' c dx H'=>∃C bm,c = .ref C/\nq K C bm/\(aO C::bm).contains (.ref C')=true/\∀a,H' a=none ->
 th { nx:=fun σ2 H2=>D.nx (σ2.set i none) H2,rt:=D.rt,bk:=fun σ2 H2=>D.bk (σ2.set i none) H2,ct:=fun σ2 H2=>D.ct (σ2.set i none) H2 } (σ'.set i (some (.ref a))) (upd H' a (.xc a c dx))) D σ H
end
end L2
end
section
namespace L2
open PySem PySem.Spec PyProof.Rows PySem.W
noncomputable def rQ(env:Env):List (Str × NameKind)->List (Str × Addr)->List (Str × Addr)
 | [],acc=>acc
 | (n,k)::r,acc=>rQ env r (if k = .free then(n,(env.cells.lookup n).getD 0)::acc else acc)
theorem sW{env:Env}{scope:kf}(h:∀n,(n,bM)∈scope.names->∃c,env.cells.lookup n=some c):closureFor scope env=pure (rQ env scope.names []):=by
 have all:∀(l:List (Str × NameKind)) (acc:List (Str × Addr)),(∀n,(n,bM)∈l->∃c,env.cells.lookup n=some c) ->
   (forIn (m:=Sem) l acc fun(x:Str × NameKind) (cs:List (Str × Addr))=>if (x.2 == .free)=true then do let c <-cellOf env x.1;pure (dU ((x.1,c)::cs)) else pure (dU cs))=pure (rQ env l acc):=by
  intro l;induction l with
  | nil=>intro acc _;rfl
  | cons p r ih=>
   intro acc hl;obtain⟨n,k⟩:=p;rw[List.forIn_cons]
   have hr:∀m,(m,bM)∈r->∃c,env.cells.lookup m=some c:=fun m hm=>hl m (aS _ hm)
   by_cases hk:k = .free
   ·subst hk
    obtain⟨c,hc⟩:=hl n ba;have e:cellOf env n=pure c:=by unfold cellOf;rw[hc]
    show(do let x <-(if (bM == bM)=true then do let c <-cellOf env n;pure (dU ((n,c)::acc)) else pure (dU acc));_)=_
    rw[if_pos (by decide),e]
    show(forIn (m:=Sem) r ((n,c)::acc) _)=_
    rw[ih _ hr]
    show _=pure (rQ env r (if bM=bM then(n,(env.cells.lookup n).getD 0)::acc else acc))
    rw[if_pos rfl,hc]
    rfl
   ·have hb:(k == bM)=false:=by simpa using hk
    show(do let x <-(if (k == bM)=true then do let c <-cellOf env n;pure (dU ((n,c)::acc)) else pure (dU acc));_)=_
    rw[hb,if_neg (by decide)]
    show(forIn (m:=Sem) r acc _)=_
    rw[ih _ hr]
    show _=pure (rQ env r (if k=bM then(n,(env.cells.lookup n).getD 0)::acc else acc))
    rw[if_neg hk]
 have:=all scope.names [] h;unfold closureFor;simpa using this
theorem rn{env:Env}:∀(l:List (Str × NameKind)) (acc:List (Str × Addr)) (y:Str) (c:Addr),(rQ env l acc).lookup y=some c->(c=(env.cells.lookup y).getD 0/\(y,bM)∈l)\/acc.lookup y=some c
 | [],acc,y,c,h=>.inr h
 | (n,k)::r,acc,y,c,h=>by
  rcases rn r _ y c h with⟨e,m⟩ | q
  ·exact .inl ⟨e,aS _ m⟩
  ·by_cases hk:k = .free
   ·rw[if_pos hk] at q
    by_cases e:y=n
    ·subst e
     subst hk;rw[nO] at q;cases q;exact .inl ⟨rfl,ba⟩
    ·rw[aY,show(y == n)=false by simpa using e] at q
     exact .inr q
   ·rw[if_neg hk] at q
    exact .inr q
theorem yT{env:Env}:∀(l:List (Str × NameKind)) (acc:List (Str × Addr)) (y:Str),(∃c,acc.lookup y=some c)->∃c,(rQ env l acc).lookup y=some c
 | [],_,_,h=>h
 | (n,k)::r,acc,y,h=>by
  refine yT r _ y ?_;by_cases hk:k = .free
  ·rw[if_pos hk]
   by_cases e:y=n
   ·subst e;exact⟨_,nO⟩
   ·rw[aY,show(y == n)=false by simpa using e];exact h
  ·rw[if_neg hk];exact h
theorem sX{env:Env}:∀(l:List (Str × NameKind)) (acc:List (Str × Addr)) (y:Str),(y,bM)∈l->∃c,(rQ env l acc).lookup y=some c
 | (n,k)::r,acc,y,h=>by
  rcases aX.mp h with e | m
  ·have e1:y=n:=congrArg Prod.fst e
   have e2:bM=k:=congrArg Prod.snd e;subst e1;refine yT r _ y ?_;rw[if_pos e2.symm]
   exact⟨_,nO⟩
  ·exact sX r _ y m
noncomputable def Cx.uM(X:Cx)(scope:kf)(C:Addr)(N:List Str)(s₀:aj)(H₀:Hp)(ex:List Addr):Cx:=
 { X with N:=N,s₀:=s₀,H₀:=H₀,env:=compEnvC scope (rQ X.env scope.names []) C X.env,outer:=X.stack,stack:=X.stack,ex:=ex,fn:=fun _=>false,pn:=[],xe:=fun _ _=>False }
structure C5 (X:Cx) (scope:kf) (x:List Str):Prop where
 kind:scope.kind = .function
 nc:∀y∈scope.names,y.2≠.cell
 lo:∀y∈scope.names,y.2 = .local->scope.names.lookup y.1=some .local
 fr:∀y∈scope.names,y.2 = .free->X.env.scope.names.lookup y.1=some .cell
 nm:∀y∈x,scope.names.lookup y=some .local
 nd:x.Nodup
 lk:∀y,scope.names.lookup y=some .free->(y,bM)∈scope.names
theorem gd {env : Env} : ∀ (names : List (Str × NameKind)) (x : Str) (k : NameKind),
    (names.map fun (n, k) => if (k == bM && env.scope.kind == .function && env.kindOf n == some .cell) then (n, NameKind.cell) else (n, k)).lookup x = some k -> names.lookup x = some k \/ (k = .cell /\ names.lookup x = some .free)
  | [], _, _, h => by cases h
  | (n, k0) :: r, x, k, h => by
    rw [aE] at h;dsimp only at h;by_cases hc : (k0 == bM && env.scope.kind == .function && env.kindOf n == some .cell) = true
    · rw [if_pos hc] at h
      simp only [ag, beq_iff_eq] at hc;by_cases e : (x == n) = true
      · rw [aY, e] at h
        cases h;refine .inr ⟨rfl, ?_⟩;rw [aY, e, hc.1.1]
      · have e' : (x == n) = false := by simpa using e
        rw [aY, e'] at h;rw [aY, e'];exact gd r x k h
    · rw [if_neg hc] at h
      by_cases e : (x == n) = true
      · rw [aY, e] at h
        cases h;refine .inl ?_;rw [aY, e]
      · have e' : (x == n) = false := by simpa using e
        rw [aY, e'] at h;rw [aY, e'];exact gd r x k h
section
variable {X:Cx} {pZ:List (Addr × Obj)} {σ:St} {H:Hp} {s:aj} {scope:kf} {x:List Str}
theorem C5.cells(B:C5 X scope x)(ok:X.Ok):∀n,(n,bM)∈scope.names->∃c,X.env.cells.lookup n=some c:=fun n hn=>ok.has n (.inl (B.fr _ hn rfl))
theorem C5.cl(B:C5 X scope x)(ok:X.Ok){y:Str}{c:Addr}(h:(rQ X.env scope.names []).lookup y=some c):X.env.cells.lookup y=some c/\X.env.scope.names.lookup y=some .cell:=by
 rcases rn _ _ _ _ h with⟨e,m⟩ | q
 ·obtain⟨c',hc'⟩:=B.cells ok y m
  rw[hc'] at e;rw[e]
  exact⟨hc',B.fr _ m rfl⟩
 ·cases q
theorem Inv.block{C:Addr}{h':Heap}{t':Nat}{ex:List Addr}{N:List Str}{τ:St}(I:Inv X pZ σ H s)(B:C5 X scope x)(hC:C=s.heap.objs.size)(hns:h'.Ns C fun _=>none)
  (kp:∀b o,s.heap.get? b=some o->h'.get? b=some o) (hex:∀b∈ex,oV X pZ H b/\b < s.heap.objs.size) (hl:τ.length=N.length)
  (hτ:∀(i:Nat) (y:Str) (v:V),N[i]? = some y->τ[i]? = some (some v)->scope.names.lookup y=some .free/\∃j:Nat,X.N[j]? = some y/\σ[j]? = some (some v)):
  Inv (X.uM scope C N s H ex) [] τ H { s with heap:=h',toks:=t' }:=by
 have ok:=I.ok;have cleq:∀y c,(X.uM scope C N s H ex).env.cells.lookup y=some c->X.env.cells.lookup y=some c/\X.env.scope.names.lookup y=some .cell:=fun y c e=>B.cl ok e
 have hfr:H C=none:=by rw[hC];exact I.dj.fresh (ax _)
 refine⟨⟨ok.mod,B.kind,ok.glob,ok.blt,z4 hC.symm,fun y z c h1 h2=>ok.inj y z c (cleq y c h1).1 (cleq z c h2).1,fun y hy=>?_,fun y c z=>absurd (show false=true from z) (by decide),ok.hd,ok.frames,.inl rfl,fun b hb=>?_,fun b o e=>I.bs b o e,aR ok.D9 I.sz,fun b o e hb=>?_,fun b hb=>?_,I.stack,I.wX⟩,
  rfl,I.bare,Un.kept kp,⟨_,hns,fun i y v e1 e2 e3=>?_⟩,fun y c e=>?_,hfr,fun y c e=>I.jS y c (cleq y c e).1,fun p hp=>absurd (show p∈([]:List (Addr × Obj)) from hp) (by simp),I.dj.kept kp,hl⟩
 ·have hy':scope.names.lookup y=some .free:=by
   rcases hy with h | h
   ·rcases gd (env:=X.env) scope.names y .cell h with q | q
    ·exact absurd rfl (B.nc _ (eS q))
    ·exact q.2
   ·rcases gd (env:=X.env) scope.names y .free h with q | q
    ·exact q
    ·exact absurd q.1 (by decide)
  exact sX _ _ _ (B.lk y hy')
 ·refine⟨fun z=>?_,fun y c e z=>(hex b hb).1.2.2.2.2.1 y c (cleq y c e).1 z⟩
  have:=(hex b hb).2;rw[z,show(X.uM scope C N s H ex).env.locals=C from rfl,hC] at this;exact absurd this (dI _)
 ·obtain⟨f0,f1,f2,f3,f4,f5⟩:=(hex b hb).1
  rcases f3 with z | z
  ·exact ok.yJ b o e z
  ·exact absurd (aL (aK (ok.bs b o e).1) z) (dI _)
 ·obtain⟨f0,f1,f2,_⟩:=(hex b hb).1
  intro z;rcases aX.mp (I.sJ b z) with q | q
  ·exact f1 q
  ·exact f2 q
 ·obtain⟨hf,j,hj,hv⟩:=hτ i y v e1 e2
  obtain⟨m,_,hlk⟩:=I.loc;have hcell:=B.fr _ (B.lk y hf) rfl;obtain⟨u,r,l⟩:=hlk j y v hj hv (.inr (.inl hcell));refine⟨u,r,.inr ⟨?_,?_⟩⟩
  ·show(Et scope X.env).names.lookup y=some .cell\/(Et scope X.env).names.lookup y=some .free
   have:=e3;rcases this with q | q | q
   ·rcases gd (env:=X.env) scope.names y .local q with z | z
    ·rw[hf] at z;cases z
    ·exact absurd z.1 (by decide)
   ·exact .inl q
   ·exact .inr q
  ·rcases l with⟨k,_⟩ | ⟨_,c,hc,z⟩
   ·have k':X.env.scope.names.lookup y=some .local:=k
    rw[hcell] at k';cases k'
   ·obtain⟨c',hc'⟩:=sX (env:=X.env) scope.names [] y (B.lk y hf)
    have hc2:=(B.cl ok hc').1;rw[hc] at hc2;cases hc2;obtain⟨o,ho,hd⟩:=z;exact⟨c,hc',⟨o,kp _ _ ho,hd⟩⟩
 ·obtain⟨v,o,ho,hd⟩:=I.cell y c (cleq y c e).1
  exact⟨v,o,kp _ _ ho,hd⟩
theorem Inv.IF{C:Addr}{ex:List Addr}{N:List Str}{τ:St}{H':Hp}{s':aj}(I:Inv X pZ σ H s)(J:Inv (X.uM scope C N s H ex) [] τ H' s')(hex:∀b∈ex,oV X pZ H b):Inv X pZ σ H' s':=
 I.KD (ch:=ex) J.os J.base J.dj J.bare fun b hb=>⟨(hex b hb).2.2.2.1,(hex b hb).2.1,(hex b hb).2.2.2.2.1,(hex b hb).2.2.2.2.2⟩
end
end L2
end
section
namespace L2
open PySem PySem.Spec PyProof.Rows PySem.W
def IG(X:Cx)(ifs:List Expr)(t:TT):Prop:=
 ∀(pZ:List (Addr × Obj)) (s:aj) (σ:St) (H:Hp) (Q:Bool->Hp->Prop),Inv X pZ σ H s->t σ H Q ->
  wpAny (aP X.prog X.w) X.A (forIn ifs true fun c r=>if r=true then do let ok <-isTrue c X.env (eval c X.env);pure (dU ok) else pure (dU r)) (TP X pZ σ Q) X.xe s
def PM:TT:=fun _ H Q=>Q true H
theorem II{X:Cx}:IG X [] PM:=fun _ _ _ H _ I q=>wpAny_tests_nil ⟨H,I,q⟩
theorem IJ{X:Cx}{c:Expr}{t:TT}(h:PT X c t):IG X [c] t:=fun pZ s σ H Q I q=>wpAny_tests_one (h pZ s σ H Q I q)
noncomputable def gf(σ:St)(ci:List Nat):St:=ci.map fun j=>(σ[j]?).join
def PN(K:Frag)(pr:Bool)(y:V)(H:Hp)(k:St->Prop):Prop:=match pr with
 | false=>k [some y]
 | true=>∃p a b,y = .ref p/\lD K H p [a,b]/\k [some a,some b]
abbrev KO(bd:V->Hp->(St->Prop)->Prop)(J:It)(D:Addr)(tc:TT)(te:TE)(caps:St)(R:Hp->Prop)(H1:Hp):Prop:=
 ∃W:Nat->Nat->List V->Hp->Prop,(∃m,W 0 m [] (upd H1 D (.lst [])))/\∀i m acc H2,W i m acc H2->H2 D=some (.lst acc)/\acc.length < sizeLine /\
  ((J.stop i H2/\R H2)\/(J.go i H2/\∀y H3,J.Pa i H2 y H3->bd y H3 fun τ=>tc (τ ++ caps) H3 fun b H4=>
   if b=true then te (τ ++ caps) H4 fun z H5=>H5 D=some (.lst acc)/\∃m',m' < m/\W (i + 1) m' (acc ++ [z]) (upd H5 D (.lst (acc ++ [z]))) else ∃m',m' < m/\W (i + 1) m' acc H4))
def E9(bd:V->Hp->(St->Prop)->Prop)(wi:TI)(ci:List Nat)(tc:TT)(te:TE):TE:=fun σ H Q=>wi σ H fun J H1=>∀D,H1 D=none->KO bd J D tc te (gf σ ci) (fun H2=>Q (.ref D) H2) H1
structure xt (X:Cx) (scope:kf) (cn:List Str) (ci:List Nat):Prop where
 len:ci.length=cn.length
 at_:∀(k:Nat) (y:Str),cn[k]? = some y->∃j:Nat,ci[k]? = some j/\X.N[j]? = some y
 fr:∀y∈cn,scope.names.lookup y=some .free
section
variable {X:Cx} {pZ:List (Addr × Obj)} {σ:St} {H:Hp} {s:aj} {scope:kf} {x:List Str}
theorem qB{cn:List Str}{X:Cx}{scope:kf}{ci:List Nat}(cp:xt X scope cn ci)(B:C5 X scope x)(hn:cn.Nodup):(x ++ cn).Nodup:=
 lI.mpr ⟨B.nd,hn,fun y hy z hz e=>(by
  subst e;have q:=cp.fr y hz;rw[B.nm y hy] at q;cases q)⟩
def OH(X:Cx)(tg:Expr)(scope:kf)(x cn:List Str)(bd:V->Hp->(St->Prop)->Prop):Prop:=
 ∀(C:Addr) (s₀:aj) (H₀:Hp) (ex:List Addr) (pZ:List (Addr × Obj)) (s:aj) (τ caps:St) (H:Hp) (v:V) (u:Value) (k:St->Prop),Inv (X.uM scope C (x ++ cn) s₀ H₀ ex) pZ (τ ++ caps) H s->τ.length=x.length->RelV v u->bd v H k ->
  wpAny (aP X.prog X.w) X.A (wx tg (X.uM scope C (x ++ cn) s₀ H₀ ex).env u) (fun _ s'=>∃ τ',τ'.length=x.length/\Inv (X.uM scope C (x ++ cn) s₀ H₀ ex) pZ (τ' ++ caps) H s'/\k τ') (fun _ _=>False) s
theorem PQ{α:Type}{l:List α}(h:l.length=2):∃a b,l = [a,b]:=by
 cases l with
 | nil=>cases h
 | cons a t=>obtain⟨b,e⟩:=iR.mp (Hr h);exact⟨a,b,by rw[e]⟩
theorem Fc{y:Str}{py:Pos}{cn:List Str}{ci:List Nat}(B:C5 X scope [y])(cp:xt X scope cn ci)(hnd:cn.Nodup):OH X (.Name y py) scope [y] cn (PN X.K false):=by
 intro C s₀ H₀ ex pZ s τ caps H v u k I hl r h;have hx:(X.uM scope C ([y] ++ cn) s₀ H₀ ex).env.scope.names.lookup y=some .local:=qp (B.nm y (by simp));obtain⟨o,rfl⟩:=iR.mp hl;exact uC (lL I (qB cp B hnd) (i:=0) rfl (.inl hx) r (fun s8 J8=>⟨[some v],rfl,J8,h⟩) (.inr hx))
theorem Fd{y z:Str}{py pz pt:Pos}{n:Nat}{cn:List Str}{ci:List Nat}(B:C5 X scope [y,z])(cp:xt X scope cn ci)(hnd:cn.Nodup)(hc:X.calm=true):OH X (.Tuple [.Name y py,.Name z pz] n pt) scope [y,z] cn (PN X.K true):=by
 intro C s₀ H₀ ex pZ s τ caps H v u k I hl r h;have hy:(X.uM scope C ([y,z] ++ cn) s₀ H₀ ex).env.scope.names.lookup y=some .local:=qp (B.nm y (by simp));have hz:(X.uM scope C ([y,z] ++ cn) s₀ H₀ ex).env.scope.names.lookup z=some .local:=qp (B.nm z (by simp));have nd:=qB cp B hnd;obtain⟨p,a,b,e,hq,q⟩:=h;obtain⟨o,o',rfl⟩:=PQ hl;refine bH (EE (X:=X.uM scope C ([y,z] ++ cn) s₀ H₀ ex) (pos:=pt) (k:=n) hc (pq (pj (i:=0) (pos:=py) nd rfl (.inl hy) (.inr hy)) (pq (pj (i:=1) (pos:=pz) nd rfl (.inl hz) (.inr hz)) BD)) rfl rfl pZ s _ H v u (fun σ' H'=>H'=H/\σ' = [some a,some b] ++ caps) I r ?_) (fun _ s' ⟨σ',H',I',e1,e2⟩=>?_) fun _ _ z=>z
 ·exact⟨p,[a,b],e,hq,rfl,a,[b],rfl,b,[],rfl,rfl,rfl,rfl⟩
 ·subst e1 e2
  exact⟨[some a,some b],rfl,I',q⟩
theorem yU{elt iter tg:Expr}{bd:V->Hp->(St->Prop)->Prop}{pos:Pos}{ifs:List Expr}{it:Addr}{fp:List Addr}{tn:Nat->Heap->Prop}{J:It}{tc:TT}{te:TE}{cn:List Str}{ci:List Nat}{RR:Value->Addr->Result->aj->Prop}{Rq:Addr->Hp->Prop}{E:Value->aj->Prop}
  (I:Inv X pZ σ H s) (B:C5 X scope x) (cp:xt X scope cn ci) (hnd:cn.Nodup) (hcalm:X.calm=true) (ht:OH X tg scope x cn bd) (T:Turn X.prog X.w X.K tg J fp it tn) (t0:tn 0 s.heap) (hf:∀b∈fp,oV X pZ H b)
  (hc:∀C s₀ H₀ ex,IG (X.uM scope C (x ++ cn) s₀ H₀ ex) ifs tc) (he:∀C s₀ H₀ ex,PE (X.uM scope C (x ++ cn) s₀ H₀ ex) elt te)
  (h:∀D,H D=none->KO bd J D tc te (gf σ ci) (Rq D) H)
  (fin:∀C D H5 s5,Inv X pZ σ H5 s5->Rq D H5->(∃m,s5.heap.Ns C m)->Ay X pZ H5 C->RR (.ref D) C (.ok .next) s5):
  wpAny (aP X.prog X.w) X.A (newList []) (fun acc s₃=>wpAny (aP X.prog X.w) X.A (newFunctionEnv scope X.env.globals (rQ X.env scope.names []) [] X.env.qual none .none (some X.env)) (fun cenv s₄=>
   mW (aP X.prog X.w) X.A (.compStart (.ListComp elt [⟨tg,iter,ifs,0⟩] scope pos) 0 (.ref it) acc { cenv with scope:=Et scope X.env }) (RR acc cenv.locals) s₄) E s₃) E s:=by
 have ok:=I.ok;obtain⟨W,⟨m0,w0⟩,turn⟩:=h s.heap.objs.size (I.dj.fresh (ax _));generalize hD:s.heap.objs.size=D at turn w0;refine gO ?_;have I2:Inv X pZ σ (upd H D (.lst [])) { s with heap:=s.heap.push { cls:=.type "list",dict:=none,data:=.seq ([]:List Value).toArray } }:=by
  have:=I.Pz (its:=[]) (ys:=[]) (t':=s.toks) .nil (dM _);rw[hD] at this;exact this
 generalize hH2:s.heap.push { cls:=.type "list",dict:=none,data:=.seq ([]:List Value).toArray }= h2 at I2 ⊢;have k2:∀b o,s.heap.get? b=some o->h2.get? b=some o:=fun b o e=>by rw[<-hH2];exact ay _ e
 have sz2:h2.objs.size=s.heap.objs.size + 1:=by rw[<-hH2,va]
 have fpl:∀b∈fp,b < s.heap.objs.size:=fun b hb=>by
  obtain⟨o,e,_⟩:=T.obj _ _ t0 b hb;exact aK e
 have nD:∀b∈fp,b≠D:=fun b hb=>by rw[<-hD];exact bV (fpl b hb)
 have hf2:∀b∈fp,oV X pZ (upd H D (.lst [])) b:=fun b hb=>⟨by rw[bq (nD b hb)];exact(hf b hb).1,(hf b hb).2⟩
 have t2:tn 0 h2:=T.keep _ _ _ t0 fun b _ o e=>k2 b o e
 show wpAny _ _ _ _ _ { s with heap:=h2 }
 refine wpAny_newFunctionEnv B.nc (by intro y hy;simp at hy) (fun h3 ns3 sb3=>?_) B.kind;have kp3:∀b o,h2.get? b=some o->h3.get? b=some o:=fun b o e=>(sb3.2 b (bV (aK e))).trans (ay _ e)
 have hl:((x.map fun _=>none) ++ gf σ ci:St).length=(x ++ cn).length:=by
  rw[aC,aC,ar,gf,ar,cp.len]
 have J3:Inv (X.uM scope h2.objs.size (x ++ cn) { s with heap:=h2 } (upd H D (.lst [])) fp) [] ((x.map fun _=>none) ++ gf σ ci) (upd H D (.lst [])) { s with heap:=h3,toks:=s.toks + 0 }:=
  I2.block (s:={ s with heap:=h2 }) (h':=h3) (t':=s.toks + 0) (N:=x ++ cn) B rfl ns3 kp3 (fun b hb=>⟨hf2 b hb,by rw[sz2];exact cP (fpl b hb)⟩) hl (fun i y v e1 e2=>by
   by_cases lt:i < x.length
   ·rw[ak (by simpa using lt),aw,aa lt] at e2
    cases e2
   ·have e1':cn[i - x.length]? = some y:=by rw[av (by omega)] at e1;exact e1
    have e2':(gf σ ci)[i - x.length]? = some (some v):=by rw[av (by simpa using lt),ar] at e2;exact e2
    refine⟨cp.fr y (aB e1'),?_⟩;obtain⟨j,hj,hy⟩:=cp.at_ _ y e1';refine⟨j,hy,?_⟩;rw[gf,aw,hj] at e2';have e3:(σ[j]?).join=some v:=aG e2';cases q:σ[j]? with
    | none=>rw[q] at e3;cases e3
    | some w=>rw[q] at e3;exact congrArg some e3)
 generalize hY:X.uM scope h2.objs.size (x ++ cn) { s with heap:=h2 } (upd H D (.lst [])) fp=Y at J3;have ePr:Y.prog=X.prog:=by rw[<-hY];rfl
 have eW:Y.w=X.w:=by rw[<-hY];rfl
 have eK:Y.K=X.K:=by rw[<-hY];rfl
 have eC:Y.calm=true:=by rw[<-hY];exact hcalm
 have eA:Y.A=X.A:=by rw[<-hY];rfl
 have eE:Y.env=compEnvC scope (rQ X.env scope.names []) h2.objs.size X.env:=by rw[<-hY];rfl
 have hPc:IG Y ifs tc:=by rw[<-hY];exact hc _ _ _ _
 have hPe:PE Y elt te:=by rw[<-hY];exact he _ _ _ _
 have eN:Y.N=x ++ cn:=by rw[<-hY];rfl
 have eX:Y.xe=fun _ _=>False:=by rw[<-hY];rfl
 have TY:Turn Y.prog Y.w Y.K tg J fp it tn:=by rw[ePr,eW,eK];exact T
 have fpY:∀ {H':Hp},(∀b∈fp,H' b=none)->∀b∈fp,oV Y [] H' b:=fun hn b hb=>by
  obtain⟨f0,f1,f2,f3,f4,f5⟩:=hf2 b hb;have lt2:b < h2.objs.size:=by rw[sz2];exact cP (fpl b hb)
  refine⟨hn b hb,fun z=>?_,fun z=>?_,.inl (by rw[<-hY];exact hb),fun y c e=>?_,fun p hp=>?_⟩
  ·have z':b=h2.objs.size:=by rw[eE] at z;exact z
   exact absurd lt2 (by rw[z'];exact dI _)
  ·have z':b∈uJ X.stack:=by rw[<-hY] at z;exact z
   rcases aX.mp (I.sJ b z') with q | q
   ·exact f1 q
   ·exact f2 q
  ·rw[eE] at e
   exact f4 y c (B.cl ok e).1
  ·have:p∈([]:List (Addr × Obj)):=by rw[<-hY] at hp;exact hp
   exact absurd this (by simp)
 have loop:∀s4:aj,s4 = { s with heap:=h3,toks:=s.toks + 0 }->mW (aP X.prog X.w) X.A (.compLoop (.ListComp elt [⟨tg,iter,ifs,0⟩] scope pos) 0 (.ref it) (.ref D) Y.env) (RR (.ref D) h2.objs.size) s4:=by
  rintro s4 rfl;refine codeAny_loop rfl (fun n s'=>∃i acc τ H',τ.length=x.length/\Inv Y [] (τ ++ gf σ ci) H' s'/\tn i s'.heap/\(∀b∈fp,H' b=none)/\W i n acc H') ?_ m0 ⟨0,[],x.map fun _=>none,_,by simp,J3,T.keep _ _ _ t2 fun b _ o e=>kp3 b o e,fun b hb=>(hf2 b hb).1,w0⟩;rintro n s5 ⟨i,acc,τ,H5,hτ,J5,t5,f5,w5⟩;obtain⟨hD5,hz5,alt⟩:=turn i n acc H5 w5;show wpAny _ X.A ((compTurn (.ListComp elt [⟨tg,iter,ifs,0⟩] scope pos) 0 (.ref it) (.ref D) Y.env).onRaise (fun x=>do DY x Y.env;theTreesLotGoes x)) _ _ s5;refine wpAny_noted ?_;rw[compTurn_list,<-eA]
  rcases alt with⟨stop,q5⟩ | ⟨go,step⟩
  ·refine ah (m9 (ah ?_))
   rw[<-ePr,<-eW]
   refine eT (TY.done Y rfl rfl rfl eC i [] s5 _ H5 _ J5 (fpY f5) t5 stop) fun r s6 h9=>?_
   obtain⟨hr,J6⟩:=h9;subst hr;refine aJ ?_;have J6':Inv (X.uM scope h2.objs.size (x ++ cn) { s with heap:=h2 } (upd H D (.lst [])) fp) [] (τ ++ gf σ ci) H5 s6:=by rw[hY];exact J6
   have I6:=I2.IF J6' hf2;obtain⟨m6,ns6,_⟩:=J6'.loc;have fC:=I2.PC (b:=h2.objs.size) (ax _);exact fin h2.objs.size D H5 s6 I6 q5 ⟨m6,ns6⟩ ⟨J6'.free,fC.2⟩
  ·refine ah (m9 (ah ?_))
   rw[<-ePr,<-eW]
   refine eT (TY.item Y rfl rfl rfl eC i [] s5 _ H5 _ J5 (fpY f5) t5 go) fun r s6 h9=>?_
   obtain⟨u,hr,h6⟩:=h9;subst hr;refine ah ?_;rw[eA,<-eA]
   refine eT h6 fun _ s7 h9=>?_
   obtain⟨y,H7,J7,r7,y7,t7,f7⟩:=h9;have J7':=J7.pinned (fpY f7) (T.obj _ _ t7);have noE:∀ {α:Type} {t:Sem α} {Q:α->aj->Prop} {E:Value->aj->Prop} {s:aj},wpAny (aP Y.prog Y.w) Y.A t Q Y.xe s->wpAny (aP Y.prog Y.w) Y.A t Q E s:=fun h=>bH h (fun _ _ z=>z) fun _ _ z=>by rw[eX] at z;exact z.elim
   have ht':wpAny (aP Y.prog Y.w) Y.A (wx tg Y.env u) (fun _ s8=>∃ τ',τ'.length=x.length/\Inv Y ([] ++ qt fp s7.heap) (τ' ++ gf σ ci) H7 s8/\tc (τ' ++ gf σ ci) H7 fun b H4=>
     if b=true then te (τ' ++ gf σ ci) H4 fun z H5=>H5 D=some (.lst acc)/\∃m',m' < n/\W (i + 1) m' (acc ++ [z]) (upd H5 D (.lst (acc ++ [z]))) else ∃m',m' < n/\W (i + 1) m' acc H4) (fun _ _=>False) s7:=by
    have st:=step y H7 y7;subst hY;exact ht _ _ _ _ _ s7 τ _ H7 y u _ J7' hτ r7 st
   refine ah (bH ht' (fun _ s8 h9=>?_) fun _ _ z=>z.elim);obtain⟨τ',hτ',J8',q8⟩:=h9;refine ah (noE (eT (hPc _ s8 _ H7 _ J8' q8) fun b s9 h9=>?_));obtain⟨H9,J9,q9⟩:=h9;have again:∀ {acc':List V} {H':Hp} {s':aj},Inv Y ([] ++ qt fp s7.heap) (τ' ++ gf σ ci) H' s'->(∃m',m' < n/\W (i + 1) m' acc' H')->∃m,m < n/\∃i acc τ H',τ.length=x.length/\Inv Y [] (τ ++ gf σ ci) H' s'/\tn i s'.heap/\(∀b∈fp,H' b=none)/\W i m acc H':=fun {acc' H' s'} J' ⟨m',lt,w'⟩=>by
    refine⟨m',lt,i + 1,acc',τ',H',hτ',J'.pA,T.keep _ _ _ t7 fun b hb o e=>(J'.pin (b,o) (aT _ (aT _ (md hb e)))).1,fun b hb=>?_,w'⟩;obtain⟨o,e,d⟩:=T.obj _ _ t7 b hb;exact(J'.pin (b,o) (aT _ (aT _ (md hb e)))).2.1
   cases b with
   | false=>exact aJ ⟨rfl,again J9 q9⟩
   | true=>
    refine ah (ah (noE (eT (hPe _ s9 _ H9 _ J9 q9) fun v s10 h9=>?_)));obtain⟨z,H10,J10,r10,hD10,q10⟩:=h9;refine ah (noE (eT (qz _ s10 _ H10 (.ref D) [z] (.ref D) [v] (fun _ H11=>H11=upd H10 D (.lst (acc ++ [z]))) J10 rfl (.cons r10 .nil) ⟨D,acc,z,rfl,rfl,hD10,hz5,rfl⟩) fun v11 s11 h9=>?_));obtain⟨z11,H11,J11,_,e11⟩:=h9;subst e11;exact aJ (aJ ⟨rfl,again J11 q10⟩)
 rw[eE] at loop;subst hD;exact codeAny_compStart_list (loop _ rfl) (T.self _ 0 _ _ _ (T.keep _ _ _ t2 fun b _ o e=>kp3 b o e) (loop _ rfl))
theorem IK{elt iter tg:Expr}{bd:V->Hp->(St->Prop)->Prop}{pos:Pos}{ifs:List Expr}{wi:TI}{tc:TT}{te:TE}{cn:List Str}{ci:List Nat}(B:C5 X scope x)(cp:xt X scope cn ci)(hnd:cn.Nodup)(hcalm:X.calm=true)(ht:OH X tg scope x cn bd)(hi:PI X tg iter wi)
  (hc:∀C s₀ H₀ ex,IG (X.uM scope C (x ++ cn) s₀ H₀ ex) ifs tc) (he:∀C s₀ H₀ ex,PE (X.uM scope C (x ++ cn) s₀ H₀ ex) elt te) (hs:∀x,foldedSetIterable iter X.env x=pure x:=by intro _;rfl):
  PE X (.ListComp elt [⟨tg,iter,ifs,0⟩] scope pos) (E9 bd wi ci tc te):=by
 intro pZ s σ H Q I h;rw[eval_ListComp]
 refine Cy (use:=none) rfl hs (sW (B.cells I.ok)) B.kind B.lo (eT (hi pZ s σ H _ I h) fun v s1 h1=>eT h1 fun itv s2 h2=>?_);obtain⟨it,fp,tn,J,H2,e,I2,T,t2,f2,q⟩:=h2;subst e;refine yU (RR:=fun acc C=>compPost (aP X.prog X.w) X.A X.xe none (EP X pZ σ Q) acc C) (Rq:=fun D H2=>Q (.ref D) H2) I2 B cp hnd hcalm ht T t2 f2 hc he q fun C D H5 s5 I5 q5 hn fC=>?_
 obtain⟨m,hm⟩:=hn;refine⟨m,hm,fun h' sb=>⟨.ref D,H5,?_,rfl,q5⟩⟩;exact I5.turned (it:=C) (t':=s5.toks) (fun b o hb e=>(sb.2 b hb).trans e) fC.1 fC.2.2.1 (.inr fC.2.1) fC.2.2.2.1 fC.2.2.2.2
theorem AD{elt iter tg:Expr}{bd:V->Hp->(St->Prop)->Prop}{py pos spos:Pos}{ifs:List Expr}{wi:TI}{tc:TT}{te:TE}{cn:List Str}{ci:List Nat}{i:Nat}{y:Str}(B:C5 X scope x)(cp:xt X scope cn ci)(hnd:cn.Nodup)(hcalm:X.calm=true)(ht:OH X tg scope x cn bd)(hi:PI X tg iter wi)
  (hc:∀C s₀ H₀ ex,IG (X.uM scope C (x ++ cn) s₀ H₀ ex) ifs tc) (he:∀C s₀ H₀ ex,PE (X.uM scope C (x ++ cn) s₀ H₀ ex) elt te) (hN:X.N.Nodup) (hy:X.N[i]? = some y) (hk:X.env.scope.names.lookup y=some .local)
  (hsw:iy (.ListComp elt [⟨tg,iter,ifs,0⟩] scope pos) (some (.Name y py)) spos.line X.env=pure true) (hs:∀x,foldedSetIterable iter X.env x=pure x:=by intro _;rfl):
  PS X (.Assign [.Name y py] (.ListComp elt [⟨tg,iter,ifs,0⟩] scope pos) spos) (O7 (E9 bd wi ci tc te) (vq i)):=by
 intro pZ s σ H D I h;rw[exec_Assign_Name_used _ _ _ _ hsw]
 refine ah (m9 (ah ?_));show wpAny _ X.A (do let _ <-comprehension (.ListComp elt [⟨tg,iter,ifs,0⟩] scope pos) scope X.env _ (newList []) false (eval iter X.env) (some (wx (.Name y py) X.env))) _ _ s;refine ah (bH (Cy (use:=some (wx (.Name y py) X.env)) (Q:=fun _ s'=>SP X pZ D .next s') rfl hs (sW (B.cells I.ok)) B.kind B.lo (eT (hi pZ s σ H _ I h) fun v s1 h1=>eT h1 fun itv s2 h2=>?_))
  (fun _ s' hq=>aJ (aJ hq)) fun _ _ e=>e)
 obtain⟨it,fp,tn,J,H2,e,I2,T,t2,f2,q⟩:=h2;subst e;refine yU (RR:=fun acc C=>compPost (aP X.prog X.w) X.A X.xe (some (wx (.Name y py) X.env)) (fun _ s'=>SP X pZ D .next s') acc C) (Rq:=fun D' H2=>(vq i) (.ref D') σ H2 D.nx) I2 B cp hnd hcalm ht T t2 f2 hc he q fun C D' H5 s5 I5 q5 hn fC=>?_
 obtain⟨m,hm⟩:=hn;show wpAny _ X.A (wx (.Name y py) X.env (.ref D')) _ _ _;refine uC (vo (v:=.ref D') I5 hN hy (.inl hk) rfl (fun s6 I6 sb6=>?_) (.inr hk));obtain⟨a,sb,ha⟩:=sb6;have nC:C≠a:=by
  rcases ha with z | z
  ·rw[z];exact fC.2.2.1
  ·intro w;exact fC.2.2.2.1 y a z w.symm
 refine⟨m,hm.sameBut sb nC,fun h' sb'=>⟨_,H5,?_,q5⟩⟩;exact I6.turned (it:=C) (t':=s6.toks) (fun b o hb e=>(sb'.2 b hb).trans e) fC.1 fC.2.2.1 (.inr fC.2.1) fC.2.2.2.1 fC.2.2.2.2
def PU(z:Str):It:=⟨fun i _=>i < z.cps.size,fun i H x H'=>H'=H/\∃c,z.cps[i]? = some c/\x = .str ⟨#[c]⟩,fun i _=>z.cps.size<=i⟩
theorem Fe{P:bx}{w:bU}{K:Frag}{tg:Expr}(it:Addr)(z:Str)(t:Tok)(b:Bool):Turn P w K tg (PU z) [it] it (fun i h=>h.IsStrIter it (if b then "str_ascii_iterator" else "str_iterator") z t i) where
 mem:=by simp
 obj:=fun i h st c hc=>by
  have e:c=it:=by simpa using hc
  subst e;obtain⟨o,e,_,d⟩:=st;exact⟨o,e,fun v q=>by rw[d] at q;cases q⟩
 keep:=fun i h h' st k=>by
  obtain⟨o,e,c,d⟩:=st;exact⟨o,k it (by simp) o e,c,d⟩
 item:=by
  intro X hP hw hK hc i pZ s σ H E I hf st hg;subst hP hw hK;obtain⟨f0,f1,f2,f3,f4,f5⟩:=hf it (by simp);have hx:z.cps[i]? = some (z.cps[i]'hg):=Array.getElem?_eq_getElem hg;have done:∀h',h'.IsStrIter it (if b then "str_ascii_iterator" else "str_iterator") z t (i + 1)->qX it s.heap h' ->
    ∃u,(some (je ⟨#[z.cps[i]'hg]⟩ s.toks):Option Value)=some u/\wpAny (aP X.prog X.w) X.A (pd tg (.ref it) u) (fun _ s2=>∃x H',Inv X pZ σ H' s2/\RelV x u/\(PU z).Pa i H x H'/\s2.heap.IsStrIter it (if b then "str_ascii_iterator" else "str_iterator") z t (i + 1)/\∀b∈[it],H' b=none) E { s with heap:=h',toks:=s.toks + 1 }:=fun h' st' sb=>by
   have I1:Inv X pZ σ H { s with heap:=h',toks:=s.toks + 1 }:=I.turned (t':=s.toks + 1) (fun b o hb e=>(sb.2 b hb).trans e) f0 f1 f3 f4 f5;obtain⟨o,e,c,d⟩:=id st';exact⟨_,rfl,BE (s:={ s with heap:=h',toks:=s.toks + 1 }) e c d (by cases b<;>decide) ⟨.str ⟨#[z.cps[i]'hg]⟩,H,I1,⟨_,rfl⟩,⟨rfl,_,hx,rfl⟩,st',fun b hb=>(hf b hb).1⟩⟩
  cases b with
  | true=>exact wpAny_pyNext_ascii_item st hx fun h' st' sb=>done h' st' sb
  | false=>exact wpAny_pyNext_wide_item st hx fun h' st' sb=>done h' st' sb
 done:=by
  intro X hP hw hK hc i pZ s σ H E I hf st hg;subst hP hw hK;obtain⟨f0,f1,f2,f3,f4,f5⟩:=hf it (by simp);have hx:z.cps[i]? = none:=Array.getElem?_eq_none hg;cases b with
  | true=>exact wpAny_pyNext_ascii_end (I.ok.hd hc) st hx fun h' eb=>⟨rfl,I.turned (t':=s.toks) (fun b o hb e=>eb b o hb e) f0 f1 f3 f4 f5⟩
  | false=>exact wpAny_pyNext_wide_end (I.ok.hd hc) st hx fun h' eb=>⟨rfl,I.turned (t':=s.toks) (fun b o hb e=>eb b o hb e) f0 f1 f3 f4 f5⟩
 self:=fun A i s Q E st h=>by
  cases b with
  | true=>exact wpAny_pyIter_striter_ascii st h
  | false=>exact wpAny_pyIter_striter_wide st h
end
end L2
end
section
namespace L2
open PySem PySem.Spec PyProof.Rows PySem.W
noncomputable abbrev tx(l:List Nat):Str:=⟨l.toArray⟩
theorem PV(z:Str):z=tx z.cps.toList:=by
 obtain⟨a⟩:=z;simp
theorem xv(a b:List Nat):tx a ++ tx b=tx (a ++ b):=by
 show Str.mk (a.toArray ++ b.toArray)=Str.mk (a ++ b).toArray
 simp
theorem cZ(a:List Nat):(tx a).length=a.length:=by simp[Eo]
theorem qC{a b:List Nat}(h:tx a=tx b):a=b:=by
 have:=congrArg (fun z:Str=>z.cps.toList) h;simpa using this
theorem KP{a b:List Nat}:(tx a=tx b)↔a=b:=⟨qC,fun h=>by rw[h]⟩
theorem BO{a b:List Nat}:(V.str (tx a)=V.str (tx b))↔a=b:=⟨fun h=>qC (V.str.inj h),fun h=>by rw[h]⟩
section
variable {X:Cx}
theorem C6:gu X (cw .Add) (fun x y H Q=>∃a b,x = .str (tx a)/\y = .str (tx b)/\a.length + b.length<=sizeLine/\Q (.str (tx (a ++ b))) H):=by
 intro pZ s σ H x y v u Q I rx ry h;obtain⟨a,b,rfl,rfl,hz,q⟩:=h;refine Am pZ s σ H _ _ v u Q I rx ry ⟨tx a,tx b,rfl,rfl,by rw[cZ,cZ];exact hz,?_⟩;rw[xv]
 exact q
theorem AE:gu X (gJ .Add) (fun x y H Q=>∃a b,x = .str (tx a)/\y = .str (tx b)/\a.length + b.length<=sizeLine/\Q (.str (tx (a ++ b))) H):=by
 intro pZ s σ H x y v u Q I rx ry h;obtain⟨a,b,rfl,rfl,hz,q⟩:=h;refine yL pZ s σ H _ _ v u Q I rx ry ⟨tx a,tx b,rfl,rfl,by rw[cZ,cZ];exact hz,?_⟩;rw[xv]
 exact q
theorem IL{l:List Nat}{c:Nat}(h:c∈l):Txt.find (tx l) (tx [c])=((l.idxOf c:Nat):Int)/\(Builtin.Str.occurrences (tx l) (tx [c]) 0 (tx l).length 1).isEmpty=false:=by
 have h2:(!(Builtin.Str.occurrences (tx l) ⟨#[c]⟩ 0 (tx l).length 1).isEmpty)=true:=by rw[StrLaws.found_one];simpa using h
 refine⟨?_,by simpa using h2⟩;have at_iff:∀i,StrLaws.At (tx l) (tx [c]) (tx l).length i↔l[i]? = some c:=fun i=>by
  have:=StrLaws.subAt_one (tx l) c i;simpa[StrLaws.At] using this
 rcases find_whole (tx l) (tx [c]) with⟨_,no⟩ | ⟨i,e,hi,lo⟩
 ·obtain⟨j,hj,ej⟩:=Cz h
  exact absurd ((at_iff j).mpr (by rw[aa hj,ej])) (no j)
 ·rw[e]
  have hi':=(at_iff i).mp hi;obtain⟨hlt,ei⟩:=ae.mp hi';have e1:l.idxOf c=i:=by
   have hk:=List.idxOf_lt_length_of_mem h;rcases Nat.lt_trichotomy (l.idxOf c) i with q | q | q
   ·exact absurd ((at_iff _).mpr (by rw[aa hk,List.getElem_idxOf])) (lo _ q)
   ·exact q
   ·have:=List.not_of_lt_findIdx (p:=(· == c)) (xs:=l) (i:=i) q
    simp[ei] at this
  rw[e1]
def Mn:V->List V->Hp->VK->Prop:=fun x xs H Q=>∃l c,x = .str (tx l)/\xs = [.str (tx [c])]/\c∈l/\Q (.int ((l.idxOf c:Nat):Int)) H
theorem yV(hA:X.A.handled=none):Ea X "str.index" Mn:=by
 intro pZ s σ H x xs v us Q I rx rs h;obtain⟨l,c,rfl,rfl,hc,q⟩:=h;obtain⟨t,rfl⟩:=rx;obtain⟨u,rfl,t',rfl⟩:=vals1 rs;obtain⟨e,ne⟩:=IL hc;refine index_or hA (fun z w=>?_) fun _ _=>⟨.int _,H,I.tok _,⟨_,rfl⟩,by rw[e];exact q⟩
 rw[ne] at w;cases w
end
noncomputable def sY(sep:List Nat):List (List Nat)->List Nat
 | []=>[]
 | [x]=>x
 | x::r=>x ++ sep ++ sY sep r
theorem IM(sep:List Nat):∀ts:List (List Nat),Txt.join (tx sep) (ts.map tx)=tx (sY sep ts):=by
 intro ts;show Builtin.Str.glued (tx sep) (ts.map tx)=_;rw[StrLaws.glued_eq_join]
 induction ts with
 | nil=>rfl
 | cons a r ih=>
  cases r with
  | nil=>rfl
  | cons b r=>
   show tx a ++ tx sep ++ Str.join (tx sep) ((b::r).map tx)=tx (a ++ sep ++ sY sep (b::r))
   rw[ih,xv,xv]
theorem sZ:∀ {ts:List (List Nat)} {us:List Value},Vals (ts.map fun t=>V.str (tx t)) us->StrsAre us (ts.map tx)
 | [],_,.nil=>.nil
 | a::ts,_,.cons (b:=u) r h=>by
  obtain⟨t,e⟩:=(show ∃t,u=je (tx a) t from r)
  subst e;exact .cons _ _ (sZ h)
section
variable {X:Cx}
def rJoin(K:Frag):V->List V->Hp->VK->Prop:=fun x xs H Q=>∃sep ts p,x = .str (tx sep)/\xs = [.ref p]/\gV K H p (ts.map fun t=>V.str (tx t))/\(ts.map cU).sum + ts.length * sep.length<=1000000/\Q (.str (tx (sY sep ts))) H
theorem BP:Ea X "str.join" (rJoin X.K):=by
 intro pZ s σ H x xs v us Q I rx rs h;obtain⟨sep,ts,p,rfl,rfl,hl,hz,q⟩:=h;obtain⟨t,rfl⟩:=rx;obtain⟨u,rfl,ru⟩:=vals1 rs;cases ru;obtain⟨its,r,pl,_⟩:=I.list hl;refine join_list pl.isList (ys:=ts.map tx) (by simpa using sZ r) ?_ fun t' k=>⟨.str (tx (sY sep ts)),H,I.tok k,⟨t',by rw[IM]⟩,q⟩
 have e:((ts.map tx).map (·.length)).sum=(ts.map cU).sum:=by
  congr 1
  rw[bI]
  exact CB fun a _=>cZ a
 rw[e,ar,cZ]
 omega
theorem tf{f g:Nat->Option Nat}:∀ {l:List Nat},(∀k∈l,f k=g k)->l.filterMap f=l.filterMap g
 | [],_=>rfl
 | a::l,h=>by
  rw[eU,eU,h a ba,tf fun k hk=>h k (aS _ hk)]
theorem lO(l:List Nat):∀(n i:Nat),i + n<=l.length->(cv n).filterMap (fun k=>l[i + k]?)=(l.drop i).take n
 | 0,i,_=>by simp
 | n + 1,i,h=>by
  rw[zU,eU,qg]
  have hi:i < l.length:=by omega
  have e:l[i + 0]? = some l[i]:=by simp[hi]
  rw[e,d6 hi,CC]
  have:=lO l n (i + 1) (by omega);rw[<-this]
  show l[i]::_=l[i]::_
  congr 1
  refine tf fun k _=>?_
  show l[i + (k + 1)]? = l[i + 1 + k]?
  rw[show i + (k + 1)=i + 1 + k by omega]
noncomputable def AF(l:List Nat)(i j:Nat):List Nat:=(l.drop i).take (j - i)
theorem Ff(l:List Nat)(lo hi:Option Int)(i j:Nat)(hlo:lo=none/\i=0\/∃a:Int,lo=some a/\0<=a/\i=min a.toNat l.length)(hhi:hi=none/\j=l.length\/∃b:Int,hi=some b/\0<=b/\j=min b.toNat l.length):
  Txt.slice (tx l) lo hi=tx (AF l i j):=by
 have hi':i<=l.length:=by rcases hlo with⟨_,e⟩ | ⟨a,_,_,e⟩<;>omega
 have hj':j<=l.length:=by rcases hhi with⟨_,e⟩ | ⟨b,_,_,e⟩<;>omega
 have key:Builtin.Str.strSliceIndices lo hi 1 l.length=(cv (j - i)).map fun k=>i + k:=by
  have e0:Builtin.Str.strSliceIndices lo hi 1 l.length=sliceRange (i:Int) (j:Int) 1:=by
   unfold Builtin.Str.strSliceIndices;rcases hlo with⟨rfl,rfl⟩ | ⟨a,rfl,h0,rfl⟩<;>rcases hhi with⟨rfl,rfl⟩ | ⟨b,rfl,h1,rfl⟩
   ·rfl
   ·simp only[show ¬b < 0 by omega,if_false,show(1:Int) > 0 by decide,if_true]
    congr 1
    omega
   ·simp only[show ¬a < 0 by omega,if_false,show(1:Int) > 0 by decide,if_true]
    congr 1
    omega
   ·simp only[show ¬a < 0 by omega,show ¬b < 0 by omega,if_false,show(1:Int) > 0 by decide,if_true]
    congr 1<;>omega
  rw[e0]
  unfold sliceRange;simp only[show(1:Int) > 0 by decide,if_true,Int.ediv_one];have e3:(if (i:Int) < (j:Int) then(j:Int) - i + 1 - 1 else 0).toNat=j - i:=by split<;>omega
  rw[e3]
  refine CB fun k _=>?_
  omega
 have len:(tx l).length=l.length:=cZ l;unfold Txt.slice;rw[len,key]
 have e4:((cv (j - i)).map fun k=>i + k).length=j - i:=by simp
 rw[e4]
 by_cases hw:j - i=l.length
 ·rw[if_pos (by simp[hw])]
  have:AF l i j=l:=by
   unfold AF;have:i=0:=by omega
   subst this;rw[hw,kF,cF]
  rw[this]
 ·rw[if_neg (by simp[hw])]
  show tx _=tx _
  congr 1
  rw[qg]
  by_cases hij:i<=j
  ·have:=lO l (j - i) i (by omega)
   unfold AF;rw[<-this]
   refine tf fun k _=>?_
   simp
  ·have:j - i=0:=by omega
   unfold AF;rw[this]
   simp
def T7:V->Option Int->Option Int->Hp->VK->Prop:=fun x lo hi H Q=>∃l i j,x = .str (tx l)/\l.length<=sizeLine/\(lo=none/\i=0\/∃a:Int,lo=some a/\0<=a/\i=min a.toNat l.length)/\(hi=none/\j=l.length\/∃b:Int,hi=some b/\0<=b/\j=min b.toNat l.length)/\Q (.str (tx (AF l i j))) H
theorem PX:Pt X T7:=by
 intro pZ s σ H x v vl vu lo hi sl Q I rx hs pl pu h;obtain⟨l,i,j,rfl,hz,h1,h2,q⟩:=h;obtain⟨t,rfl⟩:=rx;refine⟨"str",_,F.slot_str_getitem.lookup,typeIs_str _ _ _,?_⟩;have fin:∀(a b:Option (Int × Tok)),vl=partValue a->vu=partValue b->lo=a.map (·.1)->hi=b.map (·.1)->wpAny (aP X.prog X.w) X.A (uD (.str (tx l) t) (.ref sl)) (EP X pZ σ Q) X.xe s:=fun a b e1 e2 e3 e4=>by
  refine wpAny_getItem_str_slice (l:=a) (u:=b) (st:=none) (by rw[e1,e2] at hs;exact hs) rfl ?_;refine post_val_or_str ⟨aR (Txt.slice_le (tx l) _ _) (by rw[cZ];exact hz),fun t' k=>⟨.str (tx (AF l i j)),H,I.tok k,⟨t',?_⟩,q⟩⟩;have:=Ff l lo hi i j h1 h2;rw[e3,e4] at this;rw[<-this]
  rfl
 cases pl with
 | none=>
  cases pu with
  | none=>exact fin none none rfl rfl rfl rfl
  | int b u=>exact fin none (some (b,u)) rfl rfl rfl rfl
 | int a u=>
  cases pu with
  | none=>exact fin (some (a,u)) none rfl rfl rfl rfl
  | int b u2=>exact fin (some (a,u)) (some (b,u2)) rfl rfl rfl rfl
theorem Mo(c:Nat)(n:Nat):Txt.mul (tx [c]) (n:Int)=tx (cB n c):=by
 unfold Txt.mul;by_cases h:(n:Int) < 1
 ·rw[if_pos h]
  have:n=0:=by omega
  subst this
  rfl
 ·rw[if_neg h]
  by_cases h1:n=1
  ·subst h1
   rfl
  ·rw[if_neg (by simp[Eo];omega)]
   show Str.mk _=Str.mk _
   congr 1
   have all:∀(m:Nat) (acc:List Nat),List.foldl (fun x1 x2=>x1 ++ x2) acc.toArray (cB m (#[c]:Array Nat))=(acc ++ cB m c).toArray:=by
    intro m;induction m with
    | zero=>intro acc;simp
    | succ m ih=>
     intro acc;rw[CD,ur]
     have:acc.toArray ++ #[c] = (acc ++ [c]).toArray:=by simp
     rw[this,ih,CD]
     simp
   have:=all n [];simpa using this
noncomputable def PY:R2:=fun x y H Q=>∃c n:Nat,x = .str (tx [c])/\y = .int (n:Int)/\n<=1000/\Q (.str (tx (cB n c))) H
theorem C7:gu X (cw .Mult) PY:=by
 intro pZ s σ H x y v u Q I rx ry h;obtain⟨c,n,rfl,rfl,hn,q⟩:=h;obtain⟨t,rfl⟩:=rx;obtain⟨t',rfl⟩:=ry;refine SB.mul ⟨by simp;omega,fun h1 h2=>?_,fun h1 h2=>?_⟩ fun t' k=>⟨.str _,H,I.tok k,⟨t',by rw[Mo]⟩,q⟩
 ·rw[cZ]
  have:(n:Int)<=1000:=by omega
  have h3:(1:Int)<=(2 ^ 63 - 1) / (n:Int):=by
   rw[Int.le_ediv_iff_mul_le (by omega)]
   omega
  show ¬(1:Int) > _
  omega
 ·rw[cZ]
  show Builtin.Str.tooLong (1 * n)=false
  unfold Builtin.Str.tooLong;simp
  rw[iX]
  omega
end
end L2
end
section
namespace L2
open PySem PySem.Spec PyProof.Rows PySem.W
section
open Builtin Builtin.ObjectAttr
variable {prog:bx} {w:bU} {A:cy} {E:Value->aj->Prop} {hh:Heap} {g:Array HK} {d:Drawn} {t:Nat} {os:OsState} {K:Frag} {x C:Addr} {ox:Obj} {od:Option Obj} {name:Str}
theorem Fg{Q:Value->aj->Prop}{fill expr:Bool}{tk:Tok}(X:K.In hh)(I:fY hh x ox C od)(G:XGet K C)
  (h:wpAny (aP prog w) A.in1 («object.__getattribute__» ⟨[.ref x,.str name tk],[]⟩)
    (fun fin s'=>match fin with
     | .done (.ret v)=>wpAny (aP prog w) A (D3 v) Q E s'
     | .done _=>False
     | .again c'=>c'.quiet=true/\mW (aP prog w) A c' (fun r s'=>match r with | .ok (.ret v)=>wpAny (aP prog w) A (D3 v) Q E s' | _=>False) s') (fun _ _=>False) ⟨hh,g,d,t,os⟩):
  wpAny (aP prog w) A (getAttrBy (.ref x) (.str name tk) fill expr) Q E ⟨hh,g,d,t,os⟩:=by
 have L0:=I.type (M:=aP prog w);have L1:=uH (M:=aP prog w) X G.ga;have L2:=uH (M:=aP prog w) X G.gh;have fb:=vi.ga.bind (.ref x);have hx0:(expr && onTheHeap (pe "BaseException.__getattribute__"))=false:=by cases expr<;>rfl
 have hx2:(pe "BaseException.__getattribute__" == pe "object.__getattribute__")=false:=by decide +kernel
 unfold getAttrBy;refine gK (ah (L0.at (ah (L1.at ?_))));dsimp only;rw[hx2,vg,if_neg (by simp)]
 unfold getAttrByItsOwn hookBefore;rw[if_pos (by rfl)]
 refine ah (L2.at ?_);refine ah (wpAny_attempt (gK ?_));unfold callGetattribute;rw[hx0,if_neg (by simp)]
 unfold boundAndCalled;rw[fb]
 refine ah (aJ ?_);refine oQ (HP vi.ga.plain F.entry_bexc_ga ?_);have hk:builtinKind "BaseException.__getattribute__" = some .slot:=by decide +kernel
 have hsplit:splitId "BaseException.__getattribute__" = some ("BaseException","__getattribute__"):=by decide +kernel
 have sub:z9 (aP prog w) hh (isInstance (.ref x) (.type "BaseException")) true:=I.type.andThen (looks_mroIn X G.hb);refine @check_slot (aP prog w) _ _ ⟨hh,g,d,t,os⟩ "BaseException.__getattribute__" "BaseException" "__getattribute__" (.ref x) [.str name tk] [] _ hk hsplit sub (F.args_bexc_ga (.ref x) (.str name tk)) ?_;refine bH h (fun fin s' z=>?_) (fun _ _ z=>z.elim);cases fin with
 | done f=>cases f<;>first | exact z | exact z.elim
 | again c'=>
  refine⟨z.1,lH z.2 fun r s2 q=>?_⟩;rcases r with e | f
  ·exact q.elim
  ·cases f<;>first | exact q | exact q.elim
theorem IP{Q:Value->aj->Prop}{expr:Bool}{v:Value}{s:aj}(X:K.In s.heap)(I:fY s.heap x ox C od)(G:XGet K C)
  (hf:findObj K C od name=some (.value v)) (hh:handedIn v=true) (h:Q v { s with toks:=s.toks + 1 }):wpAny (aP prog w) A (Eg (.ref x) name expr) Q E s:=by
 obtain⟨hp,g,d,t,os⟩:=s;unfold Eg;refine ah (wpAny_mkText ?_);refine Fg X I G ?_;have L0:=I.type (M:=aP prog w);have L1:=looks_find (M:=aP prog w) X I hf;refine ah (aJ (ah (aJ (ah (L0.at (ah (L1.at ?_)))))));refine aJ ?_;show wpAny _ _ (D3 v) _ _ _;rw[handedOut_of hh];exact aJ h
structure Mp (K:Frag) (C:Addr):Prop extends XGet K C where
 ha:ik K (.ref C) "__class__" = some (some (.builtin "object.__class__"))
 hn:specialIn K (.builtin "object.__class__") "__get__" = some (some (.builtin "getset_descriptor.__get__"))
 LX:takesIn K (.builtin "object.__class__")=some true
 hm:mroIn K C (.type "object")=some true
theorem IQ{Q:Option Value->aj->Prop}{s:aj}{oD:Obj}(X:K.In s.heap)(I:fY s.heap x ox C (some oD))(G:Mp K C)
  (h:Q (some (.ref C)) { s with toks:=s.toks + 1 }):wpAny (aP prog w) A (HU (.ref x) "__class__") Q E s:=by
 have hf:findObj K C (some oD) "__class__" = some (.bind (.builtin "getset_descriptor.__get__") (.builtin "object.__class__")):=findObj_data (by obtain⟨_,e,_⟩:=HR G.hd;rw[e];rfl) G.ha G.hn G.LX;obtain⟨hp,g,d,t,os⟩:=s;unfold HU getAttrBy?;refine ah (wpAny_mkText (ah (wpAny_attempt ?_)));refine Fg X I G.toXGet ?_;have L0:=I.type (M:=aP prog w);have L1:=looks_find (M:=aP prog w) X I hf;refine ah (aJ (ah (aJ (ah (L0.at (ah (L1.at ?_)))))));show wpAny _ _ (holding [.builtin "object.__class__"] (call (.builtin "getset_descriptor.__get__") [.builtin "object.__class__",.ref x,.ref C]) >>= ret) _ _ _;refine ah (gK (oQ (class_get (s:=⟨hp,g,d,t + 1,os⟩) (ox:=ox) (od:=some oD) X I G.hm ?_)));refine aJ ?_;show wpAny _ _ (D3 (.ref C)) _ _ _;rw[handedOut_of rfl]
 exact aJ (aJ h)
theorem IS(h:hasDictIn K C=true):∃c0 d0 cd0 sl0,K.lookup C=some ⟨c0,d0,.cls cd0,sl0⟩:=by
 obtain⟨_,e,_⟩:=HR h;unfold clsIn at e;split at e
 ·exact⟨_,_,_,_,by assumption⟩
 ·cases e
theorem yW{oD:Obj}(G:Mp K C):KitX K (.ref x) (.ref C) (fun h=>fY h x ox C (some oD)):=by
 obtain⟨c0,d0,cd0,sl0,lk⟩:=IS G.hd;refine⟨fun _ _ _ J=>J.type,fun _ _ KI _=>?_,fun hp tp dd its n sl KI e=>?_,fun KI J k=>IQ KI J G k⟩
 ·intro A1 Q1 E1 s1 sub q
  unfold isType loadHead;exact ah (qj (sub _ _ (KI _ _ lk)) (aJ q))
 ·refine Bool.eq_false_iff.mpr fun z=>?_
  cases Value.ref.inj (beq_iff_eq.mp z);exact nomatch (KI _ _ lk).symm.trans e
end
section
variable {X:Cx} {pZ:List (Addr × Obj)} {σ:St} {H:Hp} {s:aj} {a C d:Addr} {fs:List (Str × V)} {f:Str} {v:V}
theorem BQ(I:Inv X pZ σ H s)(e:H a=some (.xc a (.ref C) (some d)))(hd:H d=some (.xf d fs)):∃vs sl oD,fY s.heap a ⟨.ref C,some d,.fields vs,sl⟩ C (some oD)/\s.heap.get? d=some oD:=by
 obtain⟨⟨vs,sl,q⟩,_⟩:=I.dj a _ e;obtain⟨mA,⟨oD,es,ep,eo,c⟩,r⟩:=BN I.dj hd;exact⟨vs,sl,oD,⟨q,rfl,rfl,eo⟩,eo⟩
inductive Sl (K:Frag) (H:Hp):V->Value->Prop where
 | of {x:V} {t:Value}:qu K H x t->Sl K H x t
 | exc {a C d:Addr} {fs:List (Str × V)} (e:H a=some (.xc a (.ref C) (some d))) (hd:H d=some (.xf d fs)) (cl:Mp K C):Sl K H (.ref a) (.ref C)
def Vr:V->Value->Prop
 | .ty n,u=>u = .type n
 | .ref C,u=>u = .ref C
 | _,_=>False
theorem Fh:iE X (.builtin "isinstance") (fun xs H Q=>∃x c t u b,xs = [x,c]/\Sl X.K H x t/\Vr c u/\qr X.K t u=some b/\Q (.bl b) H):=by
 intro pZ s σ H xs us Q I r h;obtain⟨x,c,t,u,b,rfl,ty,rc,e,q⟩:=h;obtain⟨ux,uc,rfl,rx,rc'⟩:=r.two;have eu:uc=u:=by
  cases c with
  | ref C=>exact Eq.trans (show uc=aO C from rc') (show u=aO C from rc).symm
  | ty n=>exact Eq.trans (show uc=uA n from rc') (show u=uA n from rc).symm
  | _=>exact aI rc
 subst eu;have fin:∀tk,EP X pZ σ Q (.bool b) { s with toks:=tk }:=fun tk=>⟨.bl b,H,I.tok tk,rfl,q⟩
 cases ty with
 | of ty=>exact CZ I rx ty e fin
 | @exc a C d fs ea hd cl=>
  cases (show ux=aO a from rx);obtain⟨vs,sl,oD,J,_⟩:=BQ I ea hd;exact kia_one (yW cl) I.kA J e (fun z=>nomatch z) fin
theorem vF:∀ {cs:List Addr} {us:List Value},Vals (cs.map V.ref) us->us=cs.map aO
 | [],_,.nil=>rfl
 | c::cs,_,.cons (b:=u) r h=>by
  cases (show u=aO c from r);rw[vF h]
  rfl
theorem C8:iE X (.builtin "isinstance") (fun xs H Q=>∃(a C d:Addr) (fs:List (Str × V)) (p:Addr) (cs:List Addr) (b:Bool),xs = [.ref a,.ref p]/\H a=some (.xc a (.ref C) (some d))/\H d=some (.xf d fs)/\Mp X.K C/\H p=some (.tup (cs.map V.ref))/\kitAny X.K (.ref C) (cs.map aO)=some b/\Q (.bl b) H):=by
 intro pZ s σ H xs us Q I r h;obtain⟨a,C,d,fs,p,cs,b,rfl,ea,hd,cl,hp,e,q⟩:=h;obtain⟨ux,uc,rfl,rx,rc⟩:=r.two;cases (show ux=aO a from rx);cases (show uc=aO p from rc);obtain⟨_,its,rv,⟨⟨oc,od,odt,osl⟩,ho,hc,n,hdt⟩⟩:=(show dZ X.prog X.w H s.heap p (.tup (cs.map V.ref)) from I.dj p _ hp)
 dsimp only at hc hdt;subst hc hdt;have eits:its=cs.map aO:=vF rv;subst eits;obtain⟨vs,sl,oD,J,_⟩:=BQ I ea hd;exact kia_tup (yW cl) I.kA J ho e (fun z=>nomatch z) fun tk=>⟨.bl b,H,I.tok tk,rfl,q⟩
structure Mq (K:Frag) (P:Ep) (a:Addr) (kvs:List (Str × V)):Prop where
 ex:∃es n,K.lookup a=some ⟨.type "dict",none,.dict es n,#[]⟩/\zV P es.toList
 at_:∀k v,kvs.lookup k=some v->∃u,RelV v u/\nsIn K a k=some (some u)
 no:∀k,kvs.lookup k=none->nsIn K a k=some none
 ns:(a == dE)=false
noncomputable def T8(K:Frag)(P:Ep):R2:=fun x y H Q=>∃a kvs k v,x = .ref a/\y = .str k/\Mq K P a kvs/\kvs.lookup k=some v/\Q v H
theorem xw:OG X (T8 X.K X.w.params):=by
 intro value slice pZ s σ H x y v u Q I rx ry h hs;obtain⟨a,kvs,k,z,rfl,rfl,T,e,q⟩:=h;cases rx;obtain⟨t,rfl⟩:=ry;obtain⟨es,n,lk,kl⟩:=T.ex;obtain⟨w,rw',ew⟩:=T.at_ k z e;have hm:=mapOf_K (prog:=X.prog) (w:=X.w) I.kA lk kl;exact tail_any hm.typeIs slot_dict_getitem.lookup (wpAny_getItem_of (strKind_is X.prog X.w k t) hm (find_K lk ew) ⟨z,H,I.tok _,rw',q⟩) hs
end
end L2
end
section
namespace L2
open PySem PySem.Spec PyProof.Rows PySem.W
inductive Dv where
 | bQ | bl (b:Bool) | int (i:Int) | str (l:List Nat) | tup (ds:List Dv) | lst (ds:List Dv)
mutual
noncomputable def Dv.depth:Dv->Nat
 | .tup ds=>Dv.iU ds + 1
 | .lst ds=>Dv.iU ds + 1
 | _=>0
noncomputable def Dv.iU:List Dv->Nat
 | []=>0
 | d::ds=>max d.depth (Dv.iU ds)
end
mutual
noncomputable def mZ:Dv->Dv->Bool
 | .bQ,.bQ=>true
 | .bl a,.bl b=>a == b
 | .bl a,.int b=>(if a then 1 else 0)== b
 | .int a,.bl b=>a == (if b then 1 else 0)
 | .int a,.int b=>a == b
 | .str a,.str b=>a == b
 | .tup xs,.tup ys=>nu xs ys
 | .lst xs,.lst ys=>nu xs ys
 | _,_=>false
noncomputable def nu:List Dv->List Dv->Bool
 | [],[]=>true
 | x::xs,y::ys=>mZ x y && nu xs ys
 | _,_=>false
end
mutual
noncomputable def fU(K:Frag)(H:Hp):V->Dv->Prop
 | v,.bQ=>v = .bQ
 | v,.bl b=>v = .bl b
 | v,.int i=>v = .int i
 | v,.str l=>v = .str (tx l)
 | v,.tup ds=>∃a vs,v = .ref a/\lD K H a vs/\gQ K H vs ds
 | v,.lst ds=>∃a vs,v = .ref a/\gV K H a vs/\gQ K H vs ds
noncomputable def gQ(K:Frag)(H:Hp):List V->List Dv->Prop
 | [],[]=>True
 | v::vs,d::ds=>fU K H v d/\gQ K H vs ds
 | _,_=>False
end
theorem gQ.len{K:Frag}{H:Hp}:∀ {vs:List V} {ds:List Dv},gQ K H vs ds->vs.length=ds.length
 | [],[],_=>rfl
 | _::vs,_::ds,h=>by
  unfold gQ at h;rw[aN,aN,gQ.len h.2]
 | [],_::_,h=>by unfold gQ at h;exact h.elim
 | _::_,[],h=>by unfold gQ at h;exact h.elim
theorem gQ.get{K:Frag}{H:Hp}:∀ {vs:List V} {ds:List Dv} {i:Nat} {v:V} {d:Dv},gQ K H vs ds->vs[i]? = some v->ds[i]? = some d->fU K H v d
 | v::vs,d::ds,0,_,_,h,e1,e2=>by
  unfold gQ at h;simp at e1 e2;subst e1 e2;exact h.1
 | v::vs,d::ds,i + 1,_,_,h,e1,e2=>by
  unfold gQ at h;exact gQ.get (i:=i) h.2 (by simpa using e1) (by simpa using e2)
 | [],_,_,_,_,_,e1,_=>by simp at e1
 | _,[],_,_,_,_,_,e2=>by simp at e2
mutual
theorem tj:∀d:Dv,mZ d d=true
 | .bQ=>by unfold mZ;rfl
 | .bl b=>by unfold mZ;simp
 | .int i=>by unfold mZ;simp
 | .str l=>by unfold mZ;simp
 | .tup ds=>by unfold mZ;exact qD ds
 | .lst ds=>by unfold mZ;exact qD ds
theorem qD:∀ds:List Dv,nu ds ds=true
 | []=>by unfold nu;rfl
 | d::ds=>by unfold nu;rw[tj d,qD ds];rfl
end
theorem mf:∀(xs ys:List Dv) (e:Nat->Bool),(∀i x y,xs[i]? = some x->ys[i]? = some y->e i=mZ x y)->((cv (min xs.length ys.length)).all e && xs.length == ys.length)=nu xs ys
 | [],[],e,_=>by unfold nu;simp
 | [],y::ys,e,_=>by unfold nu;simp
 | x::xs,[],e,_=>by unfold nu;simp
 | x::xs,y::ys,e,h=>by
  have ih:=mf xs ys (fun i=>e (i + 1)) fun i a b h1 h2=>h (i + 1) a b (by simpa using h1) (by simpa using h2)
  unfold nu;rw[<-ih,<-h 0 x y rfl rfl]
  rw[aN,aN,Nat.succ_min_succ,zU,bD,zW]
  have:(xs.length + 1 == ys.length + 1)=(xs.length == ys.length):=by simp
  rw[this,Bool.and_assoc]
  rfl
section
variable {X:Cx} {pZ:List (Addr × Obj)} {σ:St} {H:Hp} {s:aj}
mutual
theorem fU.inj(I:Inv X pZ σ H s):∀ {d d':Dv} {v:V},fU X.K H v d->fU X.K H v d'->d=d'
 | .bQ,d',v,h,h'=>by
  unfold fU at h;subst h;cases d'<;>unfold fU at h'<;>first | rfl | (cases h';done) | (obtain⟨_,_,z,_⟩:=h';cases z)
 | .bl b,d',v,h,h'=>by
  unfold fU at h;subst h;cases d'<;>unfold fU at h'<;>first | (cases h';rfl) | (cases h';done) | (obtain⟨_,_,z,_⟩:=h';cases z)
 | .int b,d',v,h,h'=>by
  unfold fU at h;subst h;cases d'<;>unfold fU at h'<;>first | (cases h';rfl) | (cases h';done) | (obtain⟨_,_,z,_⟩:=h';cases z)
 | .str l,d',v,h,h'=>by
  unfold fU at h;subst h;cases d'<;>unfold fU at h'<;>first | (rw[BO.mp h']) | (cases h';done) | (obtain⟨_,_,z,_⟩:=h';cases z)
 | .tup ds,d',v,h,h'=>by
  unfold fU at h;obtain⟨a,vs,rfl,hq,hd⟩:=h;cases d' with
  | tup ds'=>
   unfold fU at h';obtain⟨a',vs',e,hq',hd'⟩:=h';cases e;rw[I.vp hq' hq] at hd';rw[gQ.inj I hd hd']
  | lst ds'=>
   unfold fU at h';obtain⟨a',vs',e,hq',hd'⟩:=h';cases e;exfalso;obtain⟨its,_,⟨o,e1,c1,_⟩,_⟩:=I.tuple hq;obtain⟨its',_,⟨o',n',e2,c2,_,_⟩,_⟩:=I.list hq';rw[e1] at e2;cases e2;rw[c1] at c2;injection c2 with c2
   exact absurd c2 (by decide)
  | _=>unfold fU at h';cases h'
 | .lst ds,d',v,h,h'=>by
  unfold fU at h;obtain⟨a,vs,rfl,hq,hd⟩:=h;cases d' with
  | lst ds'=>
   unfold fU at h';obtain⟨a',vs',e,hq',hd'⟩:=h';cases e;rw[I.sN hq' hq] at hd';rw[gQ.inj I hd hd']
  | tup ds'=>
   unfold fU at h';obtain⟨a',vs',e,hq',hd'⟩:=h';cases e;exfalso;obtain⟨its,_,⟨o,e1,c1,_⟩,_⟩:=I.tuple hq';obtain⟨its',_,⟨o',n',e2,c2,_,_⟩,_⟩:=I.list hq;rw[e1] at e2;cases e2;rw[c1] at c2;injection c2 with c2
   exact absurd c2 (by decide)
  | _=>unfold fU at h';cases h'
theorem gQ.inj(I:Inv X pZ σ H s):∀ {ds ds':List Dv} {vs:List V},gQ X.K H vs ds->gQ X.K H vs ds'->ds=ds'
 | [],[],_,_,_=>rfl
 | [],_::_,[],_,h'=>by unfold gQ at h';exact h'.elim
 | [],_::_,_::_,h,_=>by unfold gQ at h;exact h.elim
 | _::_,[],[],h,_=>by unfold gQ at h;exact h.elim
 | _::_,[],_::_,_,h'=>by unfold gQ at h';exact h'.elim
 | d::ds,d'::ds',[],h,_=>by unfold gQ at h;exact h.elim
 | d::ds,d'::ds',v::vs,h,h'=>by
  unfold gQ at h h';rw[fU.inj I h.1 h'.1,gQ.inj I h.2 h'.2]
end
theorem lP:∀ {ds:List Dv} {i:Nat} {d:Dv},ds[i]? = some d->d.depth<=Dv.iU ds
 | d::ds,0,_,h=>by
  simp at h;subst h;unfold Dv.iU;exact Nat.le_max_left _ _
 | d::ds,i + 1,_,h=>by
  have:=lP (ds:=ds) (i:=i) (by simpa using h);unfold Dv.iU;exact aR this (Nat.le_max_right _ _)
 | [],_,_,h=>by simp at h
theorem AG(I:Inv X pZ σ H s):∀(n:Nat) {A:cy} {d d':Dv} {x y:V} {u v:Value},d.depth<=n->A.units + n < kh->fU X.K H x d->fU X.K H y d'->RelV x u->RelV y v->uE A s u v (mZ d d'):=by
 intro n;induction n with
 | zero=>
  intro A d d' x y u v hn hu hx hy rx ry;cases d with
  | tup ds=>unfold Dv.depth at hn;omega
  | lst ds=>unfold Dv.depth at hn;omega
  | bQ=>
   unfold fU at hx;subst hx;cases rx;cases d'<;>unfold fU at hy
   ·subst hy;cases ry;exact lG _
   ·subst hy;cases ry;exact vd _
   ·subst hy;obtain⟨t,rfl⟩:=ry;exact wF _ _
   ·subst hy;obtain⟨t,rfl⟩:=ry;exact wG _ _
   ·obtain⟨a,vs,rfl,hq,_⟩:=hy;cases ry;obtain⟨its,_,p,_⟩:=I.tuple hq;exact SeqAt.EqAt.none_tuple p (by omega)
   ·obtain⟨a,vs,rfl,hq,_⟩:=hy;cases ry;obtain⟨its,_,p,_⟩:=I.list hq;exact SeqAt.EqAt.none_list p.isList (by omega)
  | bl b=>
   unfold fU at hx;subst hx;cases rx;cases d'<;>unfold fU at hy
   ·subst hy;cases ry;exact ve _
   ·subst hy;cases ry;exact vf _ _
   ·subst hy;obtain⟨t,rfl⟩:=ry;exact wH _ _ _
   ·subst hy;obtain⟨t,rfl⟩:=ry;exact wI _ _ _
   ·obtain⟨a,vs,rfl,hq,_⟩:=hy;cases ry;obtain⟨its,_,p,_⟩:=I.tuple hq;exact SeqAt.EqAt.bool_tuple _ p (by omega)
   ·obtain⟨a,vs,rfl,hq,_⟩:=hy;cases ry;obtain⟨its,_,p,_⟩:=I.list hq;exact SeqAt.EqAt.bool_list _ p.isList (by omega)
  | int i=>
   unfold fU at hx;subst hx;obtain⟨t0,rfl⟩:=rx;cases d'<;>unfold fU at hy
   ·subst hy;cases ry;exact wJ _ _
   ·subst hy;cases ry;exact wK _ _ _
   ·subst hy;obtain⟨t,rfl⟩:=ry;exact yq _ _ _ _
   ·subst hy;obtain⟨t,rfl⟩:=ry;exact nM _ _ _ _
   ·obtain⟨a,vs,rfl,hq,_⟩:=hy;cases ry;obtain⟨its,_,p,_⟩:=I.tuple hq;exact SeqAt.EqAt.int_tuple _ _ p (by omega)
   ·obtain⟨a,vs,rfl,hq,_⟩:=hy;cases ry;obtain⟨its,_,p,_⟩:=I.list hq;exact SeqAt.EqAt.int_list _ _ p.isList (by omega)
  | str l=>
   unfold fU at hx;subst hx;obtain⟨t0,rfl⟩:=rx;cases d' with
   | bQ=>unfold fU at hy;subst hy;cases ry;exact wL _ _
   | bl b=>unfold fU at hy;subst hy;cases ry;exact wM _ _ _
   | int i=>unfold fU at hy;subst hy;obtain⟨t,rfl⟩:=ry;exact nN _ _ _ _
   | str l'=>
    unfold fU at hy;subst hy;obtain⟨t,rfl⟩:=ry;have e:(tx l == tx l')=mZ (.str l) (.str l'):=by
     unfold mZ;rw[de,beq_iff_eq,beq_iff_eq]
     exact KP
    rw[<-e]
    exact yr _ _ _ _
   | tup ds=>unfold fU at hy;obtain⟨a,vs,rfl,hq,_⟩:=hy;cases ry;obtain⟨its,_,p,_⟩:=I.tuple hq;exact SeqAt.EqAt.str_tuple _ _ p (by omega)
   | lst ds=>unfold fU at hy;obtain⟨a,vs,rfl,hq,_⟩:=hy;cases ry;obtain⟨its,_,p,_⟩:=I.list hq;exact SeqAt.EqAt.str_list _ _ p.isList (by omega)
 | succ n ih=>
  intro A d d' x y u v hn hu hx hy rx ry;have items:∀ {vs vs':List V} {ds ds':List Dv} {its its':List Value},Dv.iU ds<=n->gQ X.K H vs ds->gQ X.K H vs' ds'->Vals vs its->Vals vs' its' ->
    ∃e:Nat->Bool,(∀j (h1:j < its.toArray.size) (h2:j < its'.toArray.size),uE A.in1 s its.toArray[j] its'.toArray[j] (e j))/\((cv (min its.toArray.size its'.toArray.size)).all e && its.toArray.size == its'.toArray.size)=nu ds ds':=by
   intro vs vs' ds ds' its its' hd h1 h2 r1 r2;have l1:=h1.len;have l2:=h2.len;have m1:=r1.length;have m2:=r2.length;refine⟨fun j=>match ds[j]?,ds'[j]? with | some a,some b=>mZ a b | _,_=>true,fun j k1 k2=>?_,?_⟩
   ·rw[aA] at k1 k2
    have j1:j < ds.length:=by omega
    have j2:j < ds'.length:=by omega
    have i1:j < vs.length:=by omega
    have i2:j < vs'.length:=by omega
    have e1:ds[j]? = some ds[j]:=aa j1;have e2:ds'[j]? = some ds'[j]:=aa j2;have f1:vs[j]? = some vs[j]:=aa i1;have f2:vs'[j]? = some vs'[j]:=aa i2;obtain⟨w1,g1,q1⟩:=r1.get f1;obtain⟨w2,g2,q2⟩:=r2.get f2;have a1:its.toArray[j] = w1:=by
     obtain⟨_,z⟩:=ae.mp g1;simpa using z
    have a2:its'.toArray[j] = w2:=by
     obtain⟨_,z⟩:=ae.mp g2;simpa using z
    rw[a1,a2]
    dsimp only;rw[e1,e2]
    exact ih (aR (lP e1) hd) (by show A.units + 1 + n < kh;omega) (h1.get f1 e1) (h2.get f2 e2) q1 q2
   ·rw[aA,aA,<-m1,<-m2,l1,l2]
    refine mf ds ds' _ fun i a b h1 h2=>?_
    rw[h1,h2]
  by_cases hz:d.depth<=n
  ·exact ih hz (by omega) hx hy rx ry
  ·cases d with
   | bQ=>unfold Dv.depth at hz;omega
   | bl b=>unfold Dv.depth at hz;omega
   | int b=>unfold Dv.depth at hz;omega
   | str b=>unfold Dv.depth at hz;omega
   | tup ds=>
    have hx0:=hx;unfold fU at hx;obtain⟨a,vs,rfl,hq,hd⟩:=hx;cases rx;obtain⟨its,r1,p,_⟩:=I.tuple hq;unfold Dv.depth at hn;cases d' with
    | bQ=>unfold fU at hy;subst hy;cases ry;exact SeqAt.EqAt.tuple_none p (by omega)
    | bl b=>unfold fU at hy;subst hy;cases ry;exact SeqAt.EqAt.tuple_bool _ p (by omega)
    | int i=>unfold fU at hy;subst hy;obtain⟨t,rfl⟩:=ry;exact SeqAt.EqAt.tuple_int _ _ p (by omega)
    | str l'=>unfold fU at hy;subst hy;obtain⟨t,rfl⟩:=ry;exact SeqAt.EqAt.tuple_str _ _ p (by omega)
    | lst ds'=>unfold fU at hy;obtain⟨a',vs',rfl,hq',_⟩:=hy;cases ry;obtain⟨its',_,p',_⟩:=I.list hq';exact SeqAt.EqAt.tuple_list p p'.isList (by omega)
    | tup ds'=>
     have hy0:=hy;unfold fU at hy;obtain⟨a',vs',rfl,hq',hd'⟩:=hy;cases ry;obtain⟨its',r2,p',_⟩:=I.tuple hq';by_cases e:a=a'
     ·subst e
      rw[fU.inj I hx0 hy0,tj]
      exact lG _
     ·obtain⟨f,hf,ef⟩:=items (by omega) hd hd' r1 r2
      unfold mZ;rw[<-ef]
      exact yt e (yE p p' (by omega) hf)
   | lst ds=>
    have hx0:=hx;unfold fU at hx;obtain⟨a,vs,rfl,hq,hd⟩:=hx;cases rx;obtain⟨its,r1,p,_⟩:=I.list hq;unfold Dv.depth at hn;cases d' with
    | bQ=>unfold fU at hy;subst hy;cases ry;exact SeqAt.EqAt.list_none p.isList (by omega)
    | bl b=>unfold fU at hy;subst hy;cases ry;exact SeqAt.EqAt.list_bool _ p.isList (by omega)
    | int i=>unfold fU at hy;subst hy;obtain⟨t,rfl⟩:=ry;exact SeqAt.EqAt.list_int _ _ p.isList (by omega)
    | str l'=>unfold fU at hy;subst hy;obtain⟨t,rfl⟩:=ry;exact SeqAt.EqAt.list_str _ _ p.isList (by omega)
    | tup ds'=>unfold fU at hy;obtain⟨a',vs',rfl,hq',_⟩:=hy;cases ry;obtain⟨its',_,p',_⟩:=I.tuple hq';exact SeqAt.EqAt.list_tuple p.isList p' (by omega)
    | lst ds'=>
     have hy0:=hy;unfold fU at hy;obtain⟨a',vs',rfl,hq',hd'⟩:=hy;cases ry;obtain⟨its',r2,p',_⟩:=I.list hq';by_cases e:a=a'
     ·subst e
      rw[fU.inj I hx0 hy0,tj]
      exact lG _
     ·obtain⟨f,hf,ef⟩:=items (by omega) hd hd' r1 r2
      unfold mZ;rw[<-ef]
      refine yt e ?_;by_cases el:its.toArray.size=its'.toArray.size
      ·have:((cv (min its.toArray.size its'.toArray.size)).all f && its.toArray.size == its'.toArray.size)=(cv its.toArray.size).all f:=by
        rw[el,Aa]
        simp
       rw[this]
       exact SeqAt.RcAt.lists p.isList p'.isList el (by omega) hf
      ·have:((cv (min its.toArray.size its'.toArray.size)).all f && its.toArray.size == its'.toArray.size)=false:=by
        have:(its.toArray.size == its'.toArray.size)=false:=by simpa using el
        rw[this,vg]
       rw[this]
       exact SeqAt.RcAt.lists_lengths p.isList p'.isList (by simpa using el) (by omega)
noncomputable def T9(K:Frag):R2:=fun x y H Q=>∃ds d',fU K H x (.tup ds)/\fU K H y d'/\Dv.iU ds<=100/\Q (.bl (mZ (.tup ds) d')) H
theorem Mr(hu:X.A.units + 200 < kh):gu X (bF .Eq) (T9 X.K):=by
 intro pZ s σ H x y u v Q I rx ry h;obtain⟨ds,d',hx,hy,hz,q⟩:=h;have fin:∀b,b=mZ (.tup ds) d'->EP X pZ σ Q (.bool b) s:=fun b e=>by rw[e];exact⟨.bl _,H,I,rfl,q⟩
 have hx0:=hx;unfold fU at hx;obtain⟨a,vs,rfl,hq,hd⟩:=hx;cases rx;obtain⟨its,r1,p,_⟩:=I.tuple hq;cases d' with
 | bQ=>unfold fU at hy;subst hy;cases ry;exact SeqAt.RcAt.tuple_none p (by omega) _ _ _ _ (fin _ (by unfold mZ;rfl))
 | bl b=>unfold fU at hy;subst hy;cases ry;exact SeqAt.RcAt.tuple_bool _ p (by omega) _ _ _ _ (fin _ (by unfold mZ;rfl))
 | int i=>unfold fU at hy;subst hy;obtain⟨t,rfl⟩:=ry;exact SeqAt.RcAt.tuple_int _ _ p (by omega) _ _ _ _ (fin _ (by unfold mZ;rfl))
 | str l'=>unfold fU at hy;subst hy;obtain⟨t,rfl⟩:=ry;exact SeqAt.RcAt.tuple_str _ _ p (by omega) _ _ _ _ (fin _ (by unfold mZ;rfl))
 | lst ds'=>unfold fU at hy;obtain⟨a',vs',rfl,hq',_⟩:=hy;cases ry;obtain⟨its',_,p',_⟩:=I.list hq';exact SeqAt.RcAt.tuple_list p p'.isList (by omega) _ _ _ _ (fin _ (by unfold mZ;rfl))
 | tup ds'=>
  unfold fU at hy;obtain⟨a',vs',rfl,hq',hd'⟩:=hy;cases ry;obtain⟨its',r2,p',_⟩:=I.tuple hq';have l1:=hd.len;have l2:=hd'.len;have m1:=r1.length;have m2:=r2.length;refine yE (e:=fun j=>match ds[j]?,ds'[j]? with | some a,some b=>mZ a b | _,_=>true) p p' (by omega) (fun j k1 k2=>?_) _ _ _ _ (fin _ ?_)
  ·rw[aA] at k1 k2
   have e1:ds[j]? = some (ds[j]'(by omega)):=aa _;have e2:ds'[j]? = some (ds'[j]'(by omega)):=aa _;have f1:vs[j]? = some (vs[j]'(by omega)):=aa _;have f2:vs'[j]? = some (vs'[j]'(by omega)):=aa _;obtain⟨w1,g1,q1⟩:=r1.get f1;obtain⟨w2,g2,q2⟩:=r2.get f2;have a1:its.toArray[j] = w1:=by
    obtain⟨_,z⟩:=ae.mp g1;simpa using z
   have a2:its'.toArray[j] = w2:=by
    obtain⟨_,z⟩:=ae.mp g2;simpa using z
   rw[a1,a2,e1,e2]
   exact AG I 100 (aR (lP e1) hz) (by show X.A.units + 1 + 100 < kh;omega) (hd.get f1 e1) (hd'.get f2 e2) q1 q2
  ·rw[aA,aA,<-m1,<-m2,l1,l2]
   rw[show mZ (.tup ds) (.tup ds')=nu ds ds' from by unfold mZ;rfl]
   refine mf ds ds' _ fun i a b h1 h2=>?_
   rw[h1,h2]
end
end L2
end
section
namespace PL
theorem _root_.L2.ff{P:Prop}(h:false=true):P:=by cases h
theorem _root_.L2.nn{α:Type}{x:α}{P:Prop}(h:(none:Option α)=some x):P:=by cases h
inductive U where
 | bQ | bl (b:Bool) | int (i:Int) | str (l:List Nat) | tup (us:List U) | loc (n:Nat)
 | pG (ns:List Int) | tab (kvs:List (List Nat × List Nat)) | exc (c:String) (us:List U)
instance:Inhabited U:=⟨.bQ⟩
inductive SO where
 | lst (us:List U) | uz (kvs:List (U × U)) | ins (c:String) (fs:List (String × U))
structure Xn where
 c:String
 us:List U
abbrev Env:=List (Option U)
abbrev bR:=List SO
abbrev KU:=U->bR->Prop
abbrev KX:=Xn->bR->Prop
abbrev Spec:=List U->bR->KU->KX->Prop
abbrev b7:=String->Spec
inductive Eb where | add | sub | mul | fdiv | mod | band | bor | shl | shr
inductive Ms where | eq | ne | lt | le | gt | ge | isin | mJ | HC | xy
inductive PZ where | len | tuple | list | sum | all | any | int | dict | tm
inductive Mt where | join | index | startswith | append | extend | get | mh
inductive Ty where | int | bool | str | list | tuple | dict | AH | own (c:String)
mutual
inductive Ex where
 | var (i:Nat) | lit (u:U)
 | bin (o:Eb) (a b:Ex) | neg (a:Ex) | not (a:Ex) | and (a b:Ex) | or (a b:Ex)
 | cmp (o:Ms) (a b:Ex) | zZ (c:Tx) (a b:Ex)
 | call (f:String) (as:xC) | mk (c q:String) (as:xC) | cA (c m q:String) (o:Ex) (as:xC)
 | blt (f:PZ) (as:xC) | kH (m:Mt) (o:Ex) (as:xC)
 | fld (o:Ex) (f:String) | ix (o i:Ex) | sl (o:Ex) (lo hi:Ox)
 | tup (as:xC) | lst (as:xC) | uz (ks vs:xC)
 | comp (pr:Bool) (e:Ex) (it:It) (c:Tx) (ci:List Nat)
 | yX (a:Ex) (ts:List Ty)
inductive xC where | nil | cons (e:Ex) (es:xC)
inductive It where | val (e:Ex) | range (e:Ex) | enum (e:Ex) | rev (e:Ex)
inductive Ox where | no | e (a:Ex)
inductive Tx where | cG (e:Ex) | not (t:Tx) | and (a b:Tx) | or (a b:Tx)
end
inductive Tg where | name (i:Nat) | pair (i j:Nat)
mutual
inductive Sm where
 | set (i:Nat) (e:Ex) | jU (o:Ex) (f:String) (e:Ex) | Ua (o i e:Ex)
 | aug (i:Nat) (p:Eb) (e:Ex) | yY (o:Ex) (f:String) (p:Eb) (e:Ex) | C9 (o i:Ex) (p:Eb) (e:Ex)
 | ex (e:Ex) | ret (e:Ex) | ifs (c:Tx) (a b:du) | yZ (c:Tx) (b:du) | ji (t:Tg) (it:It) (b:du)
 | raise (c:String) (as:xC) | KQ (b:du) (c:String) (i:Nat) (h:du)
inductive du where | nil | cons (s:Sm) (ss:du)
end
section
variable {α:Type}
def opt(o:Option α)(Q:α->Prop):Prop:=match o with | some a=>Q a | none=>False
def xD(o:Option (Option U))(Q:U->Prop):Prop:=match o with | some (some u)=>Q u | _=>False
def getL(o:Option SO)(Q:List U->Prop):Prop:=match o with | some (.lst us)=>Q us | _=>False
def getD(o:Option SO)(Q:List (U × U)->Prop):Prop:=match o with | some (.uz kvs)=>Q kvs | _=>False
def mP(o:Option SO)(Q:String->List (String × U)->Prop):Prop:=match o with | some (.ins c fs)=>Q c fs | _=>False
def KR(x:U)(Q:Bool->Prop):Prop:=match x with | .bl b=>Q b | _=>False
def kI(x:U)(Q:Int->Prop):Prop:=match x with | .int i=>Q i | _=>False
def AI(x:U)(Q:Nat->Prop):Prop:=match x with | .loc n=>Q n | _=>False
def KS(x:U)(Q:U->U->Prop):Prop:=match x with | .tup [a,b]=>Q a b | _=>False
@[simp] theorem aW{a:α}{Q:α->Prop}:opt (some a) Q=Q a:=rfl
@[simp] theorem P0:opt none Q=False:=rfl
@[simp] theorem vG:xD (some (some u)) Q=Q u:=rfl
@[simp] theorem aF{us:List U}{Q:List U->Prop}:getL (some (.lst us)) Q=Q us:=rfl
@[simp] theorem getD_some:getD (some (.uz us)) Q=Q us:=rfl
@[simp] theorem bf:mP (some (.ins c fs)) Q=Q c fs:=rfl
@[simp] theorem Fi:KR (.bl b) Q=Q b:=rfl
@[simp] theorem IT:kI (.int i) Q=Q i:=rfl
@[simp] theorem Sn:AI (.loc n) Q=Q n:=rfl
@[simp] theorem So:KS (.tup [a,b]) Q=Q a b:=rfl
theorem gC:opt o Q↔∃a,o=some a/\Q a:=by cases o<;>simp[opt]
theorem y0:xD o Q↔∃a,o=some (some a)/\Q a:=by
 rcases o with _ | _ | a<;>simp[xD]
theorem cM:getL o Q↔∃a,o=some (.lst a)/\Q a:=
 ⟨fun w=>by rcases o with _ | a | a | a<;>first | exact⟨_,rfl,w⟩ | exact aI w,by rintro⟨b,rfl,w⟩;exact w⟩
theorem y3:getD o Q↔∃a,o=some (.uz a)/\Q a:=
 ⟨fun w=>by rcases o with _ | a | a | a<;>first | exact⟨_,rfl,w⟩ | exact aI w,by rintro⟨b,rfl,w⟩;exact w⟩
theorem lQ{o:Option SO}{Q:String->List (String × U)->Prop}:mP o Q↔∃c fs,o=some (.ins c fs)/\Q c fs:=
 ⟨fun w=>by rcases o with _ | a | a | a<;>first | exact⟨_,_,rfl,w⟩ | exact aI w,by rintro⟨b,c,rfl,w⟩;exact w⟩
theorem xE:KR x Q↔∃b,x = .bl b/\Q b:=⟨fun w=>by cases x<;>first | exact⟨_,rfl,w⟩ | exact aI w,by rintro⟨b,rfl,w⟩;exact w⟩
theorem eI:kI x Q↔∃b,x = .int b/\Q b:=⟨fun w=>by cases x<;>first | exact⟨_,rfl,w⟩ | exact aI w,by rintro⟨b,rfl,w⟩;exact w⟩
theorem mi:AI x Q↔∃b,x = .loc b/\Q b:=⟨fun w=>by cases x<;>first | exact⟨_,rfl,w⟩ | exact aI w,by rintro⟨b,rfl,w⟩;exact w⟩
theorem BR:KS x Q↔∃a b,x = .tup [a,b]/\Q a b:=by
 refine⟨fun w=>?_,by rintro⟨a,b,rfl,w⟩;exact w⟩;cases x<;>first | exact aI w | skip
 rename_i us;rcases us with _ | ⟨a,_ | ⟨b,_ | _⟩⟩<;>first | exact aI w | exact⟨_,_,rfl,w⟩
end
noncomputable def cL:String->List String
 | "BadRule"=>["rule","at"]
 | "TakesNothing"=>["rule"]
 | "TooMany"=>["rule"]
 | "NoToken"=>["at"]
 | _=>[]
noncomputable def lR:String->List String
 | "TokenError"=>["TokenError"]
 | "BadRule"=>["BadRule","TokenError"]
 | "TakesNothing"=>["TakesNothing","TokenError"]
 | "TooMany"=>["TooMany","TokenError"]
 | "NoToken"=>["NoToken","TokenError"]
 | _=>[]
mutual
noncomputable def tq:U->Bool
 | .bQ=>true | .bl _=>true | .int _=>true | .str _=>true
 | .tup us=>kB us
 | _=>false
noncomputable def kB:List U->Bool
 | []=>true
 | u::us=>tq u && kB us
end
mutual
noncomputable def dep:U->Nat
 | .tup us=>mQ us + 1
 | _=>0
noncomputable def mQ:List U->Nat
 | []=>0
 | u::us=>max (dep u) (mQ us)
end
mutual
noncomputable def nv:U->U->Bool
 | .bQ,.bQ=>true
 | .bl a,.bl b=>a == b
 | .bl a,.int b=>(if a then 1 else 0)== b
 | .int a,.bl b=>a == (if b then 1 else 0)
 | .int a,.int b=>a == b
 | .str a,.str b=>a == b
 | .tup as,.tup bs=>uO as bs
 | _,_=>false
noncomputable def uO:List U->List U->Bool
 | [],[]=>true
 | x::xs,y::ys=>nv x y && uO xs ys
 | _,_=>false
end
noncomputable def Fj:U->U->Bool
 | .tup _,_=>true
 | .bQ,.bQ=>true | .bQ,.int _=>true | .bQ,.bl _=>true | .bQ,.str _=>true
 | .int _,.bQ=>true | .int _,.int _=>true | .int _,.str _=>true
 | .bl _,.bQ=>true | .bl _,.bl _=>true | .bl _,.str _=>true
 | .str _,.bQ=>true | .str _,.int _=>true | .str _,.bl _=>true | .str _,.str _=>true
 | _,_=>false
def xF(x y:U)(Q:Bool->Prop):Prop:=(Fj x y=true/\tq x=true/\tq y=true/\dep x<=100)/\Q (nv x y)
noncomputable def Fl:U->Bool
 | .tup _=>false
 | _=>true
noncomputable def xG:U->U->Bool
 | .tup _,.tup _=>true
 | .tup _,_=>false
 | _,_=>true
noncomputable def flat:U->Bool
 | .bQ=>true | .bl _=>true | .int _=>true | .str _=>true
 | _=>false
def pH(x:U)(us:List U)(Q:Bool->Prop):Prop:=(flat x=true/\us.all flat=true)/\Q (us.any fun y=>nv y x)
noncomputable def iq:List Nat->List Nat->Bool
 | a,[]=>a.isEmpty
 | a,b::bs=>a.isPrefixOf (b::bs) || iq a bs
noncomputable def oY(S:bR):U->Option Nat
 | .str l=>some l.length
 | .tup us=>some us.length
 | .pG ns=>some ns.length
 | .loc n=>match S[n]? with
  | some (.lst us)=>some us.length
  | some (.uz kvs)=>some kvs.length
  | _=>none
 | _=>none
noncomputable def qE(S:bR):U->Option Bool
 | .bQ=>some false
 | .bl b=>some b
 | .int i=>some (i != 0)
 | .str _=>none
 | u=>(oY S u).map fun n=>n != 0
noncomputable def Mu(n:Nat)(i:Int):Option Nat:=if 0<=i then(if i < n then some i.toNat else none) else if -(n:Int)<=i then some (i + n).toNat else none
noncomputable def tw{α:Type}(xs:List α)(i:Int):Option α:=(Mu xs.length i).bind fun j=>xs[j]?
noncomputable def nA{α:Type}(xs:List α)(lo hi:Option Int):List α:=(xs.drop (min (lo.getD 0).toNat xs.length)).take (min (hi.getD xs.length).toNat xs.length - min (lo.getD 0).toNat xs.length)
def KW(x:U)(Q:List Nat->Prop):Prop:=match x with | .str a=>Q a | _=>False
def Sq(x:U)(Q:Prop):Prop:=match x with | .bQ=>Q | _=>False
def Vs(x:U)(Q:List U->Prop):Prop:=match x with | .tup a=>Q a | _=>False
theorem nU:KW x Q↔∃b,x = .str b/\Q b:=⟨fun w=>by cases x<;>first | exact⟨_,rfl,w⟩ | exact aI w,by rintro⟨b,rfl,w⟩;exact w⟩
theorem IU:Vs x Q↔∃b,x = .tup b/\Q b:=⟨fun w=>by cases x<;>first | exact⟨_,rfl,w⟩ | exact aI w,by rintro⟨b,rfl,w⟩;exact w⟩
theorem jV{x y:U}{P:Int->Int->Prop}(w:kI x fun i=>kI y (P i)):∃i j,x = .int i/\y = .int j/\P i j:=by
 obtain⟨i,e,w⟩:=eI.mp w;obtain⟨j,e',w⟩:=eI.mp w;exact⟨i,j,e,e',w⟩
def jt(o:Eb)(x y:U)(S:bR)(Q:KU):Prop:=
 match o with
 | .add=>match x with
  | .int i=>kI y fun j=>Q (.int (i + j)) S
  | .str a=>KW y fun b=>a.length + b.length<=1000000/\Q (.str (a ++ b)) S
  | .tup a=>Vs y fun b=>a.length + b.length<=1000000/\Q (.tup (a ++ b)) S
  | .loc m=>AI y fun n=>getL S[m]? fun a=>getL S[n]? fun b=>a.length + b.length<=1000000/\Q (.loc S.length) (S ++ [.lst (a ++ b)])
  | _=>False
 | .sub=>kI x fun i=>kI y fun j=>Q (.int (i - j)) S
 | .mul=>match x with
  | .int i=>kI y fun j=>((-(2 ^ 64) < i/\i < 2 ^ 64)\/(-(2 ^ 64) < j/\j < 2 ^ 64))/\Q (.int (i * j)) S
  | .str a=>kI y fun j=>∃c,a = [c]/\0<=j/\j<=1000/\Q (.str (cB j.toNat c)) S
  | _=>False
 | .fdiv=>kI x fun i=>kI y fun j=>(0 < j/\j < 1073741824)/\Q (.int (i / j)) S
 | .mod=>kI x fun i=>kI y fun j=>0 < j/\Q (.int (i % j)) S
 | .band=>kI x fun i=>kI y fun j=>(0<=i/\0<=j)/\Q (.int ((i.toNat &&& j.toNat:Nat):Int)) S
 | .bor=>kI x fun i=>kI y fun j=>(0<=i/\0<=j)/\Q (.int ((i.toNat ||| j.toNat:Nat):Int)) S
 | .shl=>kI x fun i=>kI y fun j=>(0<=i/\i < 1000/\0<=j/\j<=1000)/\Q (.int (i * 2 ^ j.toNat)) S
 | .shr=>kI x fun i=>kI y fun j=>(0<=i/\0<=j)/\Q (.int (i / 2 ^ j.toNat)) S
def uP(o:Eb)(x y:U)(S:bR)(Q:KU):Prop:=
 match x with
 | .int i=>jt o (.int i) y S Q
 | .str a=>jt o (.str a) y S Q
 | _=>False
noncomputable def oE(x:U):Bool:=match x with | .bQ=>true | _=>false
def Sr(x y:U)(Q:Bool->Prop):Prop:=xG x y=true/\xF x y fun b=>Q !b
def Ub(x:U)(us:List U)(Q:Bool->Prop):Prop:=match x with
 | .tup xs=>(kB xs=true/\kB us=true/\mQ us<=100)/\Q !(us.any fun y=>nv y (.tup xs))
 | x=>pH x us fun b=>Q !b
def ju(o:Ms)(x y:U)(S:bR)(Q:Bool->Prop):Prop:=
 match o with
 | .eq=>xF x y Q
 | .ne=>match x with
  | .loc m=>match y with
   | .loc n=>getL S[m]? fun us=>S[n]? = some (.lst [])/\Q (!us.isEmpty)
   | y=>Sr (.loc m) y Q
  | x=>Sr x y Q
 | .lt=>kI x fun i=>kI y fun j=>Q (decide (i < j))
 | .le=>kI x fun i=>kI y fun j=>Q (decide (i<=j))
 | .gt=>kI x fun i=>kI y fun j=>Q (decide (j < i))
 | .ge=>kI x fun i=>kI y fun j=>Q (decide (j<=i))
 | .isin=>match y with
  | .str b=>KW x fun a=>Q (iq a b)
  | .tab kvs=>KW x fun a=>Q (kvs.lookup a).isSome
  | .tup us=>pH x us Q
  | .loc n=>getL S[n]? fun us=>pH x us Q
  | _=>False
 | .mJ=>match y with
  | .str b=>KW x fun a=>Q !(iq a b)
  | .tup us=>pH x us fun b=>Q !b
  | .loc n=>getL S[n]? fun us=>Ub x us Q
  | _=>False
 | .HC=>Sq y (Q (oE x))
 | .xy=>Sq y (Q !(oE x))
def HD(x y:U)(S:bR)(Q:U->Prop):Prop:=
 match x with
 | .str l=>kI y fun i=>l.length<=1000000/\opt (tw l i) fun c=>Q (.str [c])
 | .tup us=>kI y fun i=>us.length<=1000000/\opt (tw us i) Q
 | .pG ns=>kI y fun i=>ns.length<=1000000/\opt (tw ns i) fun n=>Q (.int n)
 | .loc n=>kI y fun i=>getL S[n]? fun us=>opt (tw us i) Q
 | .tab kvs=>KW y fun k=>opt (kvs.lookup k) fun v=>Q (.str v)
 | _=>False
def IV(x:U)(lo hi:Option Int)(S:bR)(Q:KU):Prop:=
 ((∀i,lo=some i->0<=i)/\∀i,hi=some i->0<=i)/\match x with
 | .str l=>l.length<=1000000/\Q (.str (nA l lo hi)) S
 | .tup us=>(us.length<=1000000/\us≠[]/\0 < lo.getD 0)/\Q (.tup (nA us lo hi)) S
 | .loc n=>getL S[n]? fun us=>Q (.loc S.length) (S ++ [.lst (nA us lo hi)])
 | _=>False
noncomputable def kJ(sep:List Nat):List (List Nat)->List Nat
 | []=>[]
 | [x]=>x
 | x::r=>x ++ sep ++ kJ sep r
noncomputable def rq(n:Nat):Nat:=if n=0 then 0 else n.log2 + 1
def rR(f:PZ)(us:List U)(S:bR)(Q:KU):Prop:=
 match f,us with
 | .len,[x]=>opt (oY S x) fun n=>n<=1000000/\Q (.int n) S
 | .tuple,[.loc n]=>getL S[n]? fun us=>Q (.tup us) S
 | .list,[.loc n]=>getL S[n]? fun us=>Q (.loc S.length) (S ++ [.lst us])
 | .list,[.tup us]=>us.length<=1000000/\Q (.loc S.length) (S ++ [.lst us])
 | .all,[.loc n]=>∃bs:List Bool,S[n]? = some (.lst (bs.map .bl))/\Q (.bl (bs.all id)) S
 | .any,[.loc n]=>∃bs:List Bool,S[n]? = some (.lst (bs.map .bl))/\Q (.bl (bs.any id)) S
 | .sum,[.loc n]=>∃is:List Int,S[n]? = some (.lst (is.map .int))/\Q (.int is.sum) S
 | .dict,[.loc n]=>∃ps:List (List Nat × U),S[n]? = some (.lst (ps.map fun p=>.tup [.str p.1,p.2]))/\(ps.map (·.1)).Nodup/\Q (.loc S.length) (S ++ [.uz (ps.map fun p=>(.str p.1,p.2))])
 | .tm,[.loc n]=>∃t ts,S[n]? = some (.lst ((t::ts).map .str))/\(∀u∈t::ts,u.length<=1000000)/\Q (.str (ts.foldl (fun b x=>if x.length < b.length then x else b) t)) S
 | _,_=>False
def uQ(m:Mt)(x:U)(us:List U)(S:bR)(Q:KU):Prop:=
 match m,x,us with
 | .join,.str sep,[.loc n]=>∃ts:List (List Nat),S[n]? = some (.lst (ts.map .str))/\(ts.map cU).sum + ts.length * sep.length<=1000000/\Q (.str (kJ sep ts)) S
 | .index,.str l,[.str k]=>∃c,k = [c]/\c∈l/\Q (.int (l.idxOf c:Nat)) S
 | .startswith,.str l,[.str k]=>Q (.bl (k.isPrefixOf l)) S
 | .mh,.int i,[]=>0<=i/\Q (.int (rq i.toNat:Nat)) S
 | .get,.loc n,[.str k,d]=>getD S[n]? fun kvs=>∃ps:List (List Nat × U),kvs=(ps.map fun p=>(U.str p.1,p.2))/\Q ((ps.lookup k).getD d) S
 | .append,.loc n,[u]=>getL S[n]? fun us=>us.length < 1000000/\Q .bQ (S.set n (.lst (us ++ [u])))
 | .extend,.loc n,[.loc m]=>getL S[n]? fun us=>getL S[m]? fun ws=>us.length + ws.length<=1000000/\Q .bQ (S.set n (.lst (us ++ ws)))
 | _,_,_=>False
def uS(m:Mt)(x:U)(S:bR):Prop:=
 match m,x with
 | .join,.str _=>True | .index,.str _=>True | .startswith,.str _=>True
 | .append,.loc n=>getL S[n]? fun _=>True
 | .extend,.loc n=>getL S[n]? fun _=>True
 | .get,.loc n=>getD S[n]? fun _=>True
 | .mh,.int _=>True
 | _,_=>False
noncomputable def BS:Option SO->Ty->Option Bool
 | some (.lst _),.list=>some true
 | some (.uz _),.dict=>some true
 | some (.ins _ _),_=>none
 | some _,.own _=>none
 | some _,_=>some false
 | none,_=>none
noncomputable def IW(S:bR):U->Ty->Option Bool
 | .int _,.int=>some true | .bl _,.int=>some true | .bl _,.bool=>some true
 | .bQ,.own _=>none
 | .loc n,t=>BS S[n]? t
 | .str _,.str=>some true | .tup _,.tuple=>some true
 | .exc c _,.own d=>some ((lR c).contains d)
 | .exc _ _,.AH=>some true
 | .exc _ _,_=>none
 | .pG _,_=>none | .tab _,_=>none
 | _,.own _=>none
 | _,.AH=>none
 | _,_=>some false
noncomputable def jA(S:bR)(u:U):List Ty->Option Bool
 | []=>some false
 | t::ts=>match IW S u t,jA S u ts with
  | some a,some b=>some (a || b)
  | _,_=>none
noncomputable def fL(f:String)(v:U):List (String × U)->List (String × U)
 | []=>[(f,v)]
 | (g,x)::r=>if g=f then(g,v)::r else(g,x)::fL f v r
def kC(x:U)(f:String)(S:bR)(Q:U->Prop):Prop:=
 match x with
 | .loc n=>mP S[n]? fun _ fs=>opt (fs.lookup f) Q
 | .exc c us=>opt (((cL c).zip us).lookup f) Q
 | _=>False
def tB(g:bR->Prop)(turn:U->Env->bR->(Env->bR->Prop)->Prop)(fin:Env->bR->Prop):List U->Env->bR->Prop
 | [],env,S=>g S/\fin env S
 | u::us,env,S=>g S/\turn u env S (tB g turn fin us)
def nB(g:bR->Prop)(c:U->bR->(Bool->bR->Prop)->Prop)(e:U->bR->KU->Prop)(Q:List U->bR->Prop):List U->List U->bR->Prop
 | [],acc,S=>g S/\acc.length < 1000000/\Q acc S
 | u::us,acc,S=>g S/\acc.length < 1000000/\c u S fun b S1=>if b=true then e u S1 fun v S2=>nB g c e Q us (acc ++ [v]) S2 else nB g c e Q us acc S1
def xH(c:Env->bR->(Bool->bR->Prop)->Prop)(b:Env->bR->(Env->bR->Prop)->Prop)(fin:Env->bR->Prop):Nat->Env->bR->Prop
 | 0,_,_=>False
 | n + 1,env,S=>c env S fun t S1=>if t=true then b env S1 (xH c b fin n) else fin env S1
def Fm(x:U)(S:bR)(R:List U->(bR->Prop)->Prop):Prop:=
 match x with
 | .str l=>R (l.map fun c=>.str [c]) (fun _=>True)
 | .tup us=>us.length<=1000000/\R us (fun _=>True)
 | .loc n=>getL S[n]? fun us=>R us (fun S'=>S'[n]? = some (.lst us))
 | _=>False
noncomputable def lS(env:Env)(ci:List Nat):Env:=ci.map fun j=>(env[j]?).join
def oF(pr:Bool)(u:U)(caps:Env)(k:Env->Prop):Prop:=
 match pr with
 | false=>k (some u::caps)
 | true=>KS u fun a b=>k (some a::some b::caps)
mutual
noncomputable def WE(Γ:b7):Ex->Env->bR->KU->KX->Prop
 | .var i,env,S,Q,_=>xD env[i]? fun u=>Q u S
 | .lit u,_,S,Q,_=>Q u S
 | .bin o a b,env,S,Q,E=>WE Γ a env S (fun x S1=>WE Γ b env S1 (fun y S2=>jt o x y S2 Q) E) E
 | .neg a,env,S,Q,E=>WE Γ a env S (fun x S1=>kI x fun i=>Q (.int (-i)) S1) E
 | .not a,env,S,Q,E=>WE Γ a env S (fun x S1=>KR x fun b=>Q (.bl !b) S1) E
 | .and a b,env,S,Q,E=>WE Γ a env S (fun x S1=>KR x fun c=>if c=true then WE Γ b env S1 Q E else Q (.bl false) S1) E
 | .or a b,env,S,Q,E=>WE Γ a env S (fun x S1=>KR x fun c=>if c=true then Q (.bl true) S1 else WE Γ b env S1 Q E) E
 | .cmp o a b,env,S,Q,E=>WE Γ a env S (fun x S1=>WE Γ b env S1 (fun y S2=>ju o x y S2 fun r=>Q (.bl r) S2) E) E
 | .zZ c a b,env,S,Q,E=>WT Γ c env S (fun t S1=>if t=true then WE Γ a env S1 Q E else WE Γ b env S1 Q E) E
 | .call f as,env,S,Q,E=>tD Γ as env S (fun us S1=>Γ f us S1 Q E) E
 | .mk c q as,env,S,Q,E=>tD Γ as env S (fun us S1=>Γ q (.loc S1.length::us) (S1 ++ [.ins c []]) (fun v S2=>v = .bQ/\Q (.loc S1.length) S2) E) E
 | .cA c m q o as,env,S,Q,E=>WE Γ o env S (fun x S1=>AI x fun n=>mP S1[n]? fun c' fs=>(c'=c/\fs.lookup m=none)/\tD Γ as env S1 (fun us S2=>Γ q (x::us) S2 Q E) E) E
 | .blt f as,env,S,Q,E=>tD Γ as env S (fun us S1=>rR f us S1 Q) E
 | .kH m o as,env,S,Q,E=>WE Γ o env S (fun x S1=>uS m x S1/\tD Γ as env S1 (fun us S2=>uQ m x us S2 Q) E) E
 | .fld o f,env,S,Q,E=>WE Γ o env S (fun x S1=>kC x f S1 fun v=>Q v S1) E
 | .ix o i,env,S,Q,E=>WE Γ o env S (fun x S1=>WE Γ i env S1 (fun y S2=>HD x y S2 fun v=>Q v S2) E) E
 | .sl o lo hi,env,S,Q,E=>WE Γ o env S (fun x S1=>WO Γ lo env S1 (fun l S2=>WO Γ hi env S2 (fun h S3=>IV x l h S3 Q) E) E) E
 | .tup as,env,S,Q,E=>tD Γ as env S (fun us S1=>us.length<=1000000/\Q (.tup us) S1) E
 | .lst as,env,S,Q,E=>tD Γ as env S (fun us S1=>us.length<=1000000/\Q (.loc S1.length) (S1 ++ [.lst us])) E
 | .uz ks vs,env,S,Q,E=>tD Γ ks env S (fun us S1=>tD Γ vs env S1 (fun ws S2=>us.length<=100/\Q (.loc S2.length) (S2 ++ [.uz (us.zip ws)])) E) E
 | .comp pr e it c ci,env,S,Q,E=>WI Γ it env S (fun us g S1=>nB g (fun u S2 k=>oF pr u (lS env ci) fun en=>WT Γ c en S2 k fun _ _=>False)
   (fun u S2 k=>oF pr u (lS env ci) fun en=>WE Γ e en S2 k fun _ _=>False) (fun acc S3=>Q (.loc S3.length) (S3 ++ [.lst acc])) us [] S1) E
 | .yX a ts,env,S,Q,E=>WE Γ a env S (fun x S1=>opt (jA S1 x ts) fun b=>Q (.bl b) S1) E
noncomputable def tD(Γ:b7):xC->Env->bR->(List U->bR->Prop)->KX->Prop
 | .nil,_,S,Q,_=>Q [] S
 | .cons e es,env,S,Q,E=>WE Γ e env S (fun x S1=>tD Γ es env S1 (fun xs S2=>Q (x::xs) S2) E) E
noncomputable def WO(Γ:b7):Ox->Env->bR->(Option Int->bR->Prop)->KX->Prop
 | .no,_,S,Q,_=>Q none S
 | .e a,env,S,Q,E=>WE Γ a env S (fun x S1=>kI x fun j=>Q (some j) S1) E
noncomputable def WI(Γ:b7):It->Env->bR->(List U->(bR->Prop)->bR->Prop)->KX->Prop
 | .val e,env,S,R,E=>WE Γ e env S (fun x S1=>Fm x S1 fun us g=>R us g S1) E
 | .range e,env,S,R,E=>WE Γ e env S (fun x S1=>kI x fun n=>n<=1000000/\-(1000000:Int)<=n/\R ((cv n.toNat).map fun k=>.int (k:Nat)) (fun _=>True) S1) E
 | .enum e,env,S,R,E=>WE Γ e env S (fun x S1=>AI x fun n=>getL S1[n]? fun us=>R (us.mapIdx fun i u=>.tup [.int (i:Nat),u]) (fun S'=>S'[n]? = some (.lst us)) S1) E
 | .rev e,env,S,R,E=>WE Γ e env S (fun x S1=>AI x fun n=>getL S1[n]? fun us=>R us.reverse (fun S'=>S'[n]? = some (.lst us)) S1) E
noncomputable def WT(Γ:b7):Tx->Env->bR->(Bool->bR->Prop)->KX->Prop
 | .cG e,env,S,Q,E=>WE Γ e env S (fun x S1=>opt (qE S1 x) fun b=>Q b S1) E
 | .not t,env,S,Q,E=>WT Γ t env S (fun b S1=>Q (!b) S1) E
 | .and a b,env,S,Q,E=>WT Γ a env S (fun c S1=>if c=true then WT Γ b env S1 Q E else Q false S1) E
 | .or a b,env,S,Q,E=>WT Γ a env S (fun c S1=>if c=true then Q true S1 else WT Γ b env S1 Q E) E
end
structure Ends where
 nx:Env->bR->Prop
 rt:KU
 ex:Env->KX
mutual
noncomputable def WS(Γ:b7):Sm->Ends->Env->bR->Prop
 | .set i e,D,env,S=>WE Γ e env S (fun u S1=>D.nx (env.set i (some u)) S1) (D.ex env)
 | .jU o f e,D,env,S=>WE Γ e env S (fun u S1=>WE Γ o env S1 (fun x S2=>AI x fun n=>mP S2[n]? fun c fs=>fs.length < 100/\D.nx env (S2.set n (.ins c (fL f u fs)))) (D.ex env)) (D.ex env)
 | .Ua o i e,D,env,S=>WE Γ e env S (fun u S1=>WE Γ o env S1 (fun x S2=>WE Γ i env S2 (fun y S3=>AI x fun n=>kI y fun k=>getL S3[n]? fun us=>opt (Mu us.length k) fun j=>D.nx env (S3.set n (.lst (us.set j u)))) (D.ex env)) (D.ex env)) (D.ex env)
 | .aug i p e,D,env,S=>xD env[i]? fun x=>WE Γ e env S (fun y S1=>uP p x y S1 fun z S2=>D.nx (env.set i (some z)) S2) (D.ex env)
 | .yY o f p e,D,env,S=>WE Γ o env S (fun x S1=>AI x fun n=>mP S1[n]? fun c fs=>opt (fs.lookup f) fun v=>
   WE Γ e env S1 (fun y S2=>uP p v y S2 fun z S3=>mP S3[n]? fun c' fs'=>c'=c/\fs'.length < 100/\D.nx env (S3.set n (.ins c (fL f z fs')))) (D.ex env)) (D.ex env)
 | .C9 o i p e,D,env,S=>WE Γ o env S (fun x S1=>WE Γ i env S1 (fun y S2=>AI x fun n=>kI y fun k=>getL S2[n]? fun us=>0<=k/\opt (us[k.toNat]?) fun v=>
   WE Γ e env S2 (fun z S3=>uP p v z S3 fun r S4=>getL S4[n]? fun us'=>k.toNat < us'.length/\D.nx env (S4.set n (.lst (us'.set k.toNat r)))) (D.ex env)) (D.ex env)) (D.ex env)
 | .ex e,D,env,S=>WE Γ e env S (fun _ S1=>D.nx env S1) (D.ex env)
 | .ret e,D,env,S=>WE Γ e env S D.rt (D.ex env)
 | .ifs c a b,D,env,S=>WT Γ c env S (fun t S1=>if t=true then qF Γ a D env S1 else qF Γ b D env S1) (D.ex env)
 | .yZ c b,D,env,S=>∃n,xH (fun en S1 k=>WT Γ c en S1 k (D.ex en)) (fun en S1 k=>qF Γ b { D with nx:=k } en S1) D.nx n env S
 | .ji t it b,D,env,S=>WI Γ it env S (fun us g S1=>tB g (fun u en S2 k=>match t with
   | .name i=>qF Γ b { D with nx:=k } (en.set i (some u)) S2
   | .pair i j=>KS u fun x y=>qF Γ b { D with nx:=k } ((en.set i (some x)).set j (some y)) S2) D.nx us env S1) (D.ex env)
 | .raise c as,D,env,S=>tD Γ as env S (fun us S1=>us.length=(cL c).length/\D.ex env ⟨c,us⟩ S1) (D.ex env)
 | .KQ b c i h,D,env,S=>qF Γ b { D with ex:=fun en x S1=>(lR x.c).contains c=true/\qF Γ h { nx:=fun en2 S2=>D.nx (en2.set i none) S2,rt:=D.rt,ex:=fun _ _ _=>False } (en.set i (some (.exc x.c x.us))) S1 } env S
noncomputable def qF(Γ:b7):du->Ends->Env->bR->Prop
 | .nil,D,env,S=>D.nx env S
 | .cons s ss,D,env,S=>WS Γ s { D with nx:=fun en S1=>qF Γ ss D en S1 } env S
end
end PL
end
section
namespace L2
open PySem PySem.Spec PyProof.Rows PySem.W
open Builtin Builtin.Str
theorem BU{a:List Nat}:∀ {b:List Nat},PL.iq a b=true↔∃i,i + a.length<=b.length/\(b.drop i).take a.length=a
 | []=>by
  unfold PL.iq;rw[List.isEmpty_iff]
  constructor
  ·rintro rfl;exact⟨0,ax _,rfl⟩
  ·rintro⟨i,h,_⟩
   exact fB (by have h:i + a.length<=0:=h;omega)
 | x::b=>by
  unfold PL.iq;rw[bb,BU (b:=b),vj]
  constructor
  ·rintro(h | ⟨i,h1,h2⟩)
   ·refine⟨0,by have:=h.length_le;omega,?_⟩
    rw[kF];exact(mI.mp h).symm
   ·exact⟨i + 1,by simp;omega,by rw[CH];exact h2⟩
  ·rintro⟨i,h1,h2⟩
   cases i with
   | zero=>rw[kF] at h2;exact .inl (mI.mpr h2.symm)
   | succ i=>rw[CH] at h2;exact .inr ⟨i,by simp at h1;omega,h2⟩
theorem y4(a b:List Nat):(!(occurrences (tx b) (tx a) 0 (tx b).length 1).isEmpty)=PL.iq a b:=by
 rw[de,StrLaws.found_iff,BU]
 refine exists_congr fun i=>?_
 rw[cZ,cZ]
 refine and_congr_right fun h=>?_
 rw[StrLaws.subAt_eq,beq_iff_eq]
 simp[cZ]
section
variable {X:Cx}
theorem Dc:gu X (bF .In) (fun x y H Q=>∃a b,x = .str (tx a)/\y = .str (tx b)/\Q (.bl (PL.iq a b)) H):=by
 intro pZ s σ H x y v u Q I rx ry h;obtain⟨a,b,rfl,rfl,q⟩:=h;refine CW pZ s σ H _ _ v u Q I rx ry ⟨tx a,tx b,rfl,rfl,?_⟩;rw[y4]
 exact q
theorem xI:gu X (bF .NotIn) (fun x y H Q=>∃a b,x = .str (tx a)/\y = .str (tx b)/\Q (.bl (!PL.iq a b)) H):=by
 intro pZ s σ H x y v u Q I rx ry h;obtain⟨a,b,rfl,rfl,q⟩:=h;refine xn pZ s σ H _ _ v u Q I rx ry ⟨tx a,tx b,rfl,rfl,?_⟩;rw[y4]
 exact q
theorem vH:Ea X "str.startswith" (fun x xs H Q=>∃a b,x = .str (tx a)/\xs = [.str (tx b)]/\Q (.bl (b.isPrefixOf a)) H):=by
 intro pZ s σ H x xs v us Q I rx rs h;obtain⟨a,b,rfl,rfl,q⟩:=h;obtain⟨t,rfl⟩:=rx;obtain⟨u,rfl,t',rfl⟩:=vals1 rs;refine SC.startswith ⟨.bl _,H,I,?_,q⟩;show iw (Txt.startswith (tx a) (tx b))=iw (b.isPrefixOf a)
 congr 1
 unfold Txt.startswith;rw[de,ag,decide_eq_true_eq,StrLaws.subAt_eq,beq_iff_eq,vj,mI,cZ,cZ]
 simp only[kF,cZ,Nat.zero_add];constructor
 ·rintro⟨_,h⟩;exact h.symm
 ·intro h
  refine⟨?_,h.symm⟩;have:=congrArg cU h;simp at this;omega
theorem tF:∀ {bs:List Bool} {us:List Value},Vals (bs.map V.bl) us->us=bs.map iw
 | [],_,.nil=>rfl
 | b::bs,_,.cons r h=>by
  cases r;rw[tF h];rfl
theorem AJ(hc:X.calm=true):iE X (.builtin "all") (fun xs H Q=>∃p,∃bs:List Bool,xs = [.ref p]/\gV X.K H p (bs.map V.bl)/\Q (.bl (bs.all id)) H):=by
 intro pZ s σ H xs us Q I r h;obtain⟨p,bs,rfl,hl,q⟩:=h;obtain⟨u,rfl,ru⟩:=vals1 r;cases ru;obtain⟨its,r,pl,_⟩:=I.list hl;have hl:=pl.isList;have hits:=tF r;have hlt:p < s.heap.objs.size:=by obtain⟨_,e,_⟩:=hl;exact aK e
 refine call_all_walk (mY hl ?_);refine⟨s.heap.objs.size,[s.heap.objs.size,p],[s.heap.objs.size],its.toArray.size,_,_,fun i=>(bs[i]?).getD true,rfl,Walks.list (A:=X.A.in1) (I.ok.hd hc) _ p (bV hlt) its.toArray,
  ⟨⟨_,bu _ rfl,rfl,rfl⟩,hl.push _⟩,fun i v s' Q' E' hP hQ=>?_,fun h' tk hk=>?_⟩
 ·have hP:its[i]? = some v:=by simpa using hP
  rw[hits,aw] at hP;cases e:bs[i]? with
  | none=>rw[e] at hP;cases hP
  | some b=>
   rw[e] at hP;have hQ:Q' ((bs[i]?).getD true) s':=hQ;rw[e] at hQ;cases hP;exact eV hQ
 ·have e:((cv its.toArray.size).all fun i=>(bs[i]?).getD true)=bs.all id:=by
   rw[aA,hits,ar];exact LSm.range_all bs
  rw[e]
  exact⟨.bl _,H,I.kept (LSm.kept_iter hk),rfl,q⟩
theorem BV:∀ {is:List Int} {us:List Value},Vals (is.map V.int) us->∃ps:List (Int × Tok),us=ps.map (fun p=>lX p.1 p.2)/\ps.map (·.1)=is
 | [],_,.nil=>⟨[],rfl,rfl⟩
 | i::is,_,.cons (b:=u) r h=>by
  obtain⟨t,e⟩:=(show ∃t,u=lX i t from r)
  subst e;obtain⟨ps,e1,e2⟩:=BV h;exact⟨(i,t)::ps,by rw[e1];rfl,by rw[aE,e2]⟩
theorem AK(hc:X.calm=true):iE X (.builtin "sum") (fun xs H Q=>∃p,∃is:List Int,xs = [.ref p]/\gV X.K H p (is.map V.int)/\Q (.int is.sum) H):=by
 intro pZ s σ H xs us Q I r h;obtain⟨p,is,rfl,hl,q⟩:=h;obtain⟨u,rfl,ru⟩:=vals1 r;cases ru;obtain⟨its,r,pl,_⟩:=I.list hl;obtain⟨ps,e1,e2⟩:=BV r;have hl:s.heap.IsList p (intItems ps.toArray):=by
  have:=pl.isList;rw[e1] at this;simpa[intItems] using this
 refine sum_intListG (I.ok.hd hc) hl fun h' tk t' hk=>⟨.int is.sum,H,I.kept hk,⟨t',?_⟩,q⟩
 rw[preSum_eq,dD (by simp)]
 simp[e2]
theorem Mv(hu:X.A.units + 200 < kh):gu X (bF .NotEq) (fun x y H Q=>∃ds ds',fU X.K H x (.tup ds)/\fU X.K H y (.tup ds')/\Dv.iU ds<=100/\Q (.bl (!nu ds ds')) H):=by
 intro pZ s σ H x y u v Q I rx ry h;obtain⟨ds,ds',hx,hy,hz,q⟩:=h;unfold fU at hx hy;obtain⟨a,vs,rfl,hq,hd⟩:=hx;obtain⟨a',vs',rfl,hq',hd'⟩:=hy;cases rx;cases ry;obtain⟨its,r1,p,_⟩:=I.tuple hq;obtain⟨its',r2,p',_⟩:=I.tuple hq';have l1:=hd.len;have l2:=hd'.len;have m1:=r1.length;have m2:=r2.length;refine SeqAt.RcNeAt.tuples (e:=fun j=>match ds[j]?,ds'[j]? with | some a,some b=>mZ a b | _,_=>true) p p' (by omega) (fun j k1 k2=>?_) _ _ _ _ ⟨.bl _,H,I,?_,q⟩
 ·rw[aA] at k1 k2
  have e1:ds[j]? = some (ds[j]'(by omega)):=aa _;have e2:ds'[j]? = some (ds'[j]'(by omega)):=aa _;have f1:vs[j]? = some (vs[j]'(by omega)):=aa _;have f2:vs'[j]? = some (vs'[j]'(by omega)):=aa _;obtain⟨w1,g1,q1⟩:=r1.get f1;obtain⟨w2,g2,q2⟩:=r2.get f2;have a1:its.toArray[j] = w1:=by
   obtain⟨_,z⟩:=ae.mp g1;simpa using z
  have a2:its'.toArray[j] = w2:=by
   obtain⟨_,z⟩:=ae.mp g2;simpa using z
  rw[a1,a2,e1,e2]
  exact AG I 100 (aR (lP e1) hz) (by show X.A.units + 1 + 100 < kh;omega) (hd.get f1 e1) (hd'.get f2 e2) q1 q2
 ·show iw _=iw _
  congr 2
  rw[aA,aA,<-m1,<-m2,l1,l2]
  refine mf ds ds' _ fun i a b h1 h2=>?_
  rw[h1,h2]
theorem Fn:gu X (bF .In) (fun x y H Q=>∃a k r,x = .str k/\y = .ref a/\(∃es n,X.K.lookup a=some ⟨.type "dict",none,.dict es n,#[]⟩/\zV X.w.params es.toList)/\(a == dE)=false/\nsIn X.K a k=some r/\Q (.bl r.isSome) H):=by
 intro pZ s σ H x y v u Q I rx ry h;obtain⟨a,k,r,rfl,rfl,⟨es,n,lk,kl⟩,lo,e,q⟩:=h;obtain⟨t,rfl⟩:=rx;cases ry;exact wpAny_in_of (strKind_is X.prog X.w k t) lo (mapOf_K (prog:=X.prog) (w:=X.w) I.kA lk kl) (by rw[find_K lk e];exact⟨.bl _,H,I.tok _,rfl,q⟩)
end
end L2
end
section
namespace L2
open PySem PySem.Spec PyProof.Rows PySem.W
section
variable {X:Cx} {pZ:List (Addr × Obj)} {σ:List (Option V)} {H:Hp} {s:aj} {h':Heap}
theorem Inv.Mw{t':Nat}{m:Str->Option Value}(I:Inv X pZ σ H s)(k:∀b o,b≠X.env.locals->s.heap.get? b=some o->h'.get? b=some o)(h1:s.heap.Ns X.env.locals m)(h2:h'.Ns X.env.locals m):Inv X pZ σ H { s with heap:=h',toks:=t' }:=by
 have nL:∀b u,H b=some u->b≠X.env.locals:=fun b u e z=>by rw[z,I.free] at e;cases e
 refine I.step (g':=s.gens) (d':=s.drawn) (ch:=[]) (fun _ z=>nomatch z) (fun b o hL _ _ e _=>k b o hL e) (fun b o hL _ _ e _=>⟨o.slots,k b o hL e⟩) (fun _ _ _ _ n=>n)
  (fun b o _ e=>?_) (fun _ _ e=>e) (fun _ _ _ e=>e) (fun b ps e=>⟨#[],by rw[e];simp⟩) (fun m' hm=>?_) (fun b u e=>?_) I.bare
 ·by_cases z:b=X.env.locals
  ·obtain⟨o',_,_,ho,_⟩:=h2
   exact⟨o',by rw[z];exact ho⟩
  ·exact⟨o,k b o z e⟩
 ·rw[hm.eq_nsMap,<-h1.eq_nsMap];exact h2
 ·refine(I.dj b u e).sH (fun c v hc q=>k c v ?_ q) (fun _ q=>q) fun _ _ q=>q
  rcases hc with z | z
  ·rw[z];exact nL b u e
  ·exact nL c _ z
end
section
variable {X:Cx}
noncomputable def y9(t:List Nat)(ts:List (List Nat)):List Nat:=ts.foldl (fun b x=>if x.length < b.length then x else b) t
theorem BW:∀ {ts:List (List Nat)} {us:List Value},Vals (ts.map fun t=>V.str (tx t)) us->us.length=ts.length/\∀(i:Nat) v,us[i]? = some v->∃t k,ts[i]? = some t/\v=je (tx t) k
 | [],_,.nil=>⟨rfl,fun i v h=>by simp at h⟩
 | t::ts,_,.cons (b:=u) r h=>by
  obtain⟨k,e⟩:=(show ∃k,u=je (tx t) k from r)
  subst e;obtain⟨e1,e2⟩:=BW h;refine⟨by simp[e1],fun i v q=>?_⟩;cases i with
  | zero=>simp at q;exact⟨t,k,rfl,q.symm⟩
  | succ i=>exact e2 i v (by simpa using q)
theorem sd(b:List Nat):∀(ts:List (List Nat)) (i:Nat) (t:List Nat),(b::ts)[i]? = some t->(∀j u,(b::ts)[j]? = some u->t.length<=u.length/\(j < i->t.length < u.length))->y9 b ts=t
 | [],i,t,h,_=>by
  cases i with
  | zero=>simp at h;exact h
  | succ i=>simp at h
 | x::ts,i,t,h,m=>by
  show y9 (if x.length < b.length then x else b) ts=t
  have mb:=m 0 b rfl;have mx:=m 1 x rfl;by_cases z:x.length < b.length
  ·rw[if_pos z]
   cases i with
   | zero=>simp at h;subst h;omega
   | succ i=>
    refine sd x ts i t (by simpa using h) fun j u hj=>?_
    have:=m (j + 1) u (by simpa using hj);exact⟨this.1,fun q=>this.2 (by omega)⟩
  ·rw[if_neg z]
   cases i with
   | zero=>
    simp at h;subst h;refine sd b ts 0 b rfl fun j u hj=>⟨?_,fun q=>by omega⟩
    cases j with
    | zero=>simp at hj;subst hj;exact ax _
    | succ j=>exact(m (j + 2) u (by simpa using hj)).1
   | succ i=>
    cases i with
    | zero=>simp at h;subst h;have:=mb.2 (by omega);omega
    | succ i=>
     refine sd b ts (i + 1) t (by simpa using h) fun j u hj=>?_
     cases j with
     | zero=>simp at hj;subst hj;exact⟨mb.1,fun _=>mb.2 (by omega)⟩
     | succ j=>
      have:=m (j + 2) u (by simpa using hj);exact⟨this.1,fun q=>this.2 (by omega)⟩
theorem za{pZ:List (Addr × Obj)}{s:aj}{σ:St}{H:Hp}{Q:VK}{p:Addr}{t:List Nat}{ts:List (List Nat)}(hc:X.calm=true)(I:Inv X pZ σ H s)(hl:gV X.K H p ((t::ts).map fun t=>V.str (tx t)))
  (hz:∀u∈t::ts,u.length<=1000000) (q:Q (.str (tx (y9 t ts))) H) {E:Value->aj->Prop}:
  wpAny (aP X.prog X.w) X.A (call (.builtin "min") [.ref p] [(bX "key",.builtin "len")]) (EP X pZ σ Q) E s:=by
 obtain⟨its,r,pl,_⟩:=I.list hl;obtain⟨e1,e2⟩:=BW r;obtain⟨m,F⟩:=I.fr;have kp:∀h,Fr X.base X.env.locals h m->News X.base X.env.locals h (nQ X.base s.heap X.env.locals)->∀b o,b≠X.env.locals->s.heap.get? b=some o->h.get? b=some o:=fun h F' N' b o hb e=>by
  cases z:X.base.get? b with
  | some o'=>have:=I.bk b o' z;rw[e] at this;cases this;exact F'.keep b _ z
  | none=>exact(N' (b,o) (yI hb z e)).1
 obtain⟨ol,hol,hc1,n1,hd1⟩:=pl.isList;have pL:p≠X.env.locals:=fun e=>by
  obtain⟨o',es,ep,ho',hd',_⟩:=F.ns;rw[<-e,hol] at ho';cases ho';rw[hd1] at hd';cases hd'
 refine kmb_min (kid:="len") (vs:=its) (news:=nQ X.base s.heap X.env.locals) (fun i=>(((t::ts)[i]?).getD []).length) (I.ok.hd hc) F EC (fun h F' N'=>?_) (by rw[e1];simp) (fun i v hv h tk own F' N'=>?_) (fun i v h' tk' hv hb F' N'=>?_)
 ·exact⟨ol,kp h F' N' p ol pL hol,hc1,n1,hd1⟩
 ·obtain⟨u,k,hu,rfl⟩:=e2 i v hv
  have hn:=nh;have hu':=hz u (aB hu);refine len_str (by rw[cZ];omega) ?_;rw[hu,dh,cZ]
  exact KskEnd.intro F' N' fun p hp=>hp
 ·obtain⟨u,k,hu,rfl⟩:=e2 i v hv
  have eb:y9 t ts=u:=sd t ts i u hu fun j w hj=>by
   have hj':j < its.length:=by rw[e1];exact(ae.mp hj).1
   have:=hb j hj';rw[hu,hj] at this;simp only[dh] at this;exact⟨by omega,fun q=>by have:=this.2 q;omega⟩
  rw[eb] at q;refine⟨.str (tx u),H,?_,⟨k,rfl⟩,q⟩;refine I.Mw (fun b o hb e=>?_) F.ns F'.ns;exact kp h' F' N' b o hb e
theorem Dd {e:Expr} {p pl kp pos:Pos} {te:TE} (hc:X.calm=true) (hg:Gl X "min") (hm:X.mg "min" = none) (hg2:Gl X "len") (hm2:X.mg "len" = none) (ha:PE X e te) (hs:bN [e] X.env = [(false,eval e X.env)]:=by rfl):
  PE X (.Call (.Name "min" p) [e] [⟨some "key",.Name "len" pl,kp⟩] pos) (fun σ H Q=>te σ H fun v H1=>∃a t ts,v = .ref a/\gV X.K H1 a ((t::ts).map fun t=>V.str (tx t))/\(∀u∈t::ts,u.length<=1000000)/\Q (.str (tx (y9 t ts))) H1):=by
 intro pZ s σ H Q I h;refine dw (oU I hg hm boot_min ?_);refine callWith_kw (e:=e) (rest:=[]) ?_ (by rw[hs];rfl) (by rw[hs];rfl);rw[hs]
 refine ki (eT (ha pZ s σ H _ I h) fun u s1 h9=>?_);obtain⟨x,H1,I1,r1,a,t,ts,e2,hl,hz,q⟩:=h9;refine qk ?_;subst e2;cases r1;refine kws_cons (oU I1 hg2 hm2 HV (kws_nil ?_));exact za hc I1 hl hz q
end
end L2
end
section
namespace L2
open PySem PySem.Spec PyProof.Rows PySem.W
section
variable {X:Cx} {pZ:List (Addr × Obj)} {σ:St} {H:Hp} {s:aj}
theorem Inv.IX{ch:List Addr}{h':Heap}{t':Nat}{a:Addr}{o:HO}(I:Inv X pZ σ H s)(k:∀b u,b ∉ ch->s.heap.get? b=some u->h'.get? b=some u)(hf:∀b∈ch,oV X pZ H b)(hp:s.heap.objs.size<=a)
  (new:dZ X.prog X.w (upd H a o) h' a o):Inv X pZ σ (upd H a o) { s with heap:=h',toks:=t' }:=by
 have hn:=I.dj.fresh hp;have na:∀b u,s.heap.get? b=some u->b≠a:=fun b u e z=>absurd (aL (aK e) hp) (by rw[z];exact dI _)
 have nt:∀b u,H b=some u->b ∉ ch:=fun b u e z=>by rw[(hf b z).1] at e;cases e
 have tr:∀b u,H b=some u->upd H a o b=some u:=fun b u e=>by rw[bq (fk e hn)];exact e
 refine I.step (g':=s.gens) (d':=s.drawn) (ch:=ch) (fun b hb=>?_) (fun b u _ _ hc e _=>k b u hc e) (fun b u _ _ hc e _=>⟨u.slots,k b u hc e⟩) (fun b u _ e n=>by rw[bq (na b u e)];exact n)
  (fun b u hc e=>⟨u,k b u hc e⟩) (fun b _ e=>tr b _ e) (fun b _ _ e=>tr b _ e) (fun b ps e=>⟨#[],by rw[tr b _ e];simp⟩) (fun m hm=>?_) (fun b u e=>?_) I.bare
 ·obtain⟨f0,f1,f2,f3,f4,f5⟩:=hf b hb
  exact⟨f3,f1,f4,f5⟩
 ·obtain⟨q,es,ep,ho,r⟩:=hm
  exact⟨q,es,ep,k _ q (fun z=>(hf _ z).2.1 rfl) ho,r⟩
 ·by_cases hb:b=a
  ·subst hb;rw[bE] at e;cases e;exact new
  ·rw[bq hb] at e
   refine(I.dj b u e).sH (fun c v hc q=>k c v ?_ q) (fun c q=>tr c _ q) fun c xs q=>tr c _ q
   rcases hc with z | z
   ·rw[z];exact nt b u e
   ·exact nt c _ z
def Ss(K:aD)(a:Addr):It:=
 ⟨fun i H=>∃xs x,gV K H a xs/\xs[i]? = some x,fun i H y H'=>∃p x,H p=none/\y = .ref p/\H'=upd H p (.tup [.int i,x])/\∀xs,gV K H a xs->xs[i]? = some x,fun i H=>∃xs,gV K H a xs/\xs.length<=i⟩
theorem De{P:bx}{w:bU}{K:aD}{es:List Expr}{k:Nat}{pos:Pos}(a e it:Addr)(hne:e≠it):
  Turn P w K (.Tuple es k pos) (Ss K a) [e,it] e (fun i h=>(∃old,IsEnum h e it i old)/\h.IsListIter it a i) where
 mem:=by simp
 obj:=fun i h st b hb=>by
  obtain⟨⟨old,h1⟩,o,h2,c,d⟩:=st;rcases aX.mp hb with rfl | hb
  ·exact⟨_,h1,fun v z=>by cases z⟩
  ·have e:b=it:=by simpa using hb
   subst e;exact⟨o,h2,fun v z=>by rw[d] at z;cases z⟩
 keep:=fun i h h' st k=>by
  obtain⟨⟨old,h1⟩,h2⟩:=st;exact⟨⟨old,k e (by simp) _ h1⟩,h2.at fun o q=>k it (by simp) o q⟩
 item:=by
  intro X hP hw hK hc i pZ s σ H E I hf st hg;subst hP hw hK;obtain⟨xs,x,hq,hx⟩:=hg;obtain⟨its,rv,p,hz⟩:=I.list hq;obtain⟨u,hu,ru⟩:=rv.get hx;obtain⟨⟨old,h1⟩,h2⟩:=st;refine wpAny_pyNext_enum_item h1 h2 p.isList (x:=u) (by simpa using hu) hne fun h' ho hit' hT hsz hk=>?_
  refine⟨_,rfl,wpAny_letOwnedTupleGo_enum ho fun h'' he'' sb=>?_⟩;have hel:e < s.heap.objs.size:=aK h1;have nT:s.heap.objs.size≠e:=kg hel;have k2:∀b v,b ∉ [e,it]->s.heap.get? b=some v->h''.get? b=some v:=fun b v hb q=>by
   simp only[aX,bK,or_false,not_or] at hb;exact(sb.2 b hb.1).trans (hk b v hb.1 hb.2 q)
  have hfr:=I.fresh;refine⟨.ref s.heap.objs.size,upd H s.heap.objs.size (.tup [.int i,x]),I.IX (t':=s.toks + 1) (h':=h'') k2 hf (ax _) ?_,rfl,⟨_,x,hfr,rfl,rfl,fun ys hy=>by rw[I.sN hy hq];exact hx⟩,?_,fun b hb=>?_⟩
  ·exact⟨show 2<=sizeLine by decide,[.int i s.toks,u],.cons ⟨_,rfl⟩ (.cons ru .nil),_,(sb.2 _ nT).trans hT,rfl,_,rfl⟩
  ·exact⟨⟨u,by simpa using he''⟩,hit'.at fun o q=>(sb.2 it hne.symm).trans q⟩
  ·rw[bq]
   ·exact(hf b hb).1
   ·intro z
    obtain⟨f0,_⟩:=hf b hb;rcases aX.mp hb with q | hb
    ·exact nT (z ▸ q.symm ▸ rfl)
    ·have q:b=it:=by simpa using hb
     obtain⟨o,h3,_⟩:=h2;have:=aK h3;rw[<-q,z] at this;exact dI _ this
 done:=by
  intro X hP hw hK hc i pZ s σ H E I hf st hg;subst hP hw hK;obtain⟨xs,hq,hx⟩:=hg;obtain⟨its,rv,p,hz⟩:=I.list hq;obtain⟨⟨old,h1⟩,h2⟩:=st;have hl:=rv.length;obtain⟨f0,f1,f2,f3,f4,f5⟩:=hf it (by simp);exact wpAny_pyNext_enum_end (I.ok.hd hc) h1 h2 p.isList (by simp;omega) fun h' eb=>⟨rfl,I.turned (t':=s.toks) (fun b o hb e=>eb b o hb e) f0 f1 f3 f4 f5⟩
 self:=fun _ _ _ _ _ st h=>by
  obtain⟨⟨old,h1⟩,h2⟩:=st;exact wpAny_pyIter_enum h1 h
noncomputable def P1(K:aD)(ta:TA):TI:=fun σ H R=>ta σ H fun vs H1=>∃a,vs = [.ref a]/\(∃xs,gV K H1 a xs)/\R (Ss K a) H1
theorem IY {X:Cx} {a:Expr} {ta:TA} {p pos:Pos} {es:List Expr} {k:Nat} {tp:Pos} (hg:Gl X "enumerate") (hm:X.mg "enumerate" = none) (ha:PA X [a] ta) (hs:bN [a] X.env = [(false,eval a X.env)]:=by rfl):
  PI X (.Tuple es k tp) (.Call (.Name "enumerate" p) [a] [] pos) (P1 X.K ta):=by
 intro pZ s σ H R I h;refine Call_ (oU I hg hm boot_enumerate (iW (eT (ha pos pZ s σ H _ I h) fun us s1 h9=>?_) hs rfl));obtain⟨vs,H1,I1,r1,q1⟩:=h9;obtain⟨l,e,⟨xs,hq⟩,q⟩:=q1;subst e;cases r1 with
 | cons r rr=>
  cases rr;cases r;obtain⟨its,rv,p,hz⟩:=I1.list hq;refine call_enumerate_list p.isList fun h' hE hI hsz hk=>wpAny_pyIter_enum hE ?_
  have I2:Inv X pZ σ H1 { s1 with heap:=h' }:=I1.kept (t':=s1.toks) fun b o e=>hk b o e
  refine⟨_,[s1.heap.objs.size + 1,s1.heap.objs.size],_,Ss X.K l,H1,rfl,I2,De l _ _ (Nat.succ_ne_self _),⟨⟨_,hE⟩,hI⟩,fun b hb=>?_,q⟩;rcases aX.mp hb with e | hb
  ·subst e
   exact I1.CQ (gN _) (I1.dj.fresh (gN _))
  ·have e:b=s1.heap.objs.size:=by simpa using hb
   subst e;exact I1.CQ (ax _) (I1.dj.fresh (ax _))
end
end L2
end
section
namespace L2
open PySem PySem.Spec PyProof.Rows PySem.W
theorem xJ:sF (.type "list") "keys" = pure none:=by rw[typeLookup_type,builtinLookup_eq_fast];kernel_rfl
theorem nV:plainId "dict.update.loop" = true:=by decide +kernel
theorem vI:entryFor table "dict.update.loop" = some Builtin.«dict.update.loop»:=entryFor_of_tree (by kernel_rfl)
section
variable {prog:bx} {w:bU} {A:cy} {E:Value->aj->Prop} {s:aj} {a l it D:Addr} {its:Array Value} {n:Nat} {K:Type} [DecidableEq K] {knd:KeyKind prog w K}
theorem Dg {Q:Option Value->aj->Prop} (hx:s.heap.get? a=some { cls:=.type "list",data:=.seq its n }) (hA:A.handled=none)
  (hq:∀h' t',(∀b o,s.heap.get? b=some o->h'.get? b=some o)->Q none { s with heap:=h',toks:=t' }):wpAny (aP prog w) A (HU (.ref a) "keys") Q E s:=by
 obtain⟨h,g,d,t,os⟩:=s;have hT:(⟨h,g,d,t,os⟩:aj).TypeIs (.ref a) "list":=⟨_,hx,rfl⟩
 have f1:=sub_AttributeError;have f3:=mN.lookup;have f4:=mN.bind (.ref a);have f5:=am_list_getattr_none;unfold HU getAttrBy? getAttrBy
 repeat (any_goals (first | assumption | ((with_reducible show wpAny _ _ (call (pe "list.__getattribute__") _ _) _ _ _);refine call_meets mN (show Shared.TypeIs _ _ "list" from ⟨_,hx,rfl⟩) am_entry_list_getattribute (F.args_list_getattribute_2 _ _) (meets_getattribute_miss_list a its n #[] "keys" _ xJ (by decide +kernel)) ⟨hx,hA,fun h' tk' e hx'=>?_⟩) | wp_step))
 obtain⟨t',u',he⟩:=hx'.there;show wpAny _ _ (getattributeRaised _ _ _ _ _ _ _) _ _ _;unfold getattributeRaised
 repeat (any_goals (first | assumption | wp_step))
 exact hq _ _ hx'.keeps
theorem qG{h:Heap}{a b:Addr}{o u:Obj}(ha:h.get? a=some o)(hb:h.get? b=some u)(n:o.cls≠u.cls):a≠b:=fun e=>by
 rw[e,hb] at ha;cases ha;exact n rfl
theorem Dh{R:Result->aj->Prop}{more:List (K × Value)}{res:Value}(hh:A.handled=none)(hz:its.size=more.length):∀(k i:Nat) (s:aj) (acc:List (K × Value)),more.length - i=k->i<=more.length->s.heap.IsListIter it l i->s.heap.IsList l its ->
  (∀(j:Nat) (kk:K) (v:Value),more[j]? = some (kk,v)->∃T key,its[j]? = some (.ref T)/\s.heap.IsTuple T #[key,v]/\knd.is kk key=true)->s.heap.DictOf knd D acc->acc.length + k<=sizeLine ->
  (∀h' t',h'.DictOf knd D (merged acc (more.drop i))->(∀b o,b≠D->b≠it->s.heap.get? b=some o->h'.get? b=some o)->R (.ok (.ret res)) { s with heap:=h',toks:=t' }) ->
  mW (aP prog w) A (.builtin "dict.update.loop" ⟨[aO D,aO it,oN i,res],[]⟩) R s:=by
 intro k;induction k with
 | zero=>
  intro i s acc hk hi hit hl hp hd hs hR;have hin:i=more.length:=by omega
  refine codeAny_builtin vI ?_;rw[zX nV _]
  show wpAny _ A.in1 (pyNext (.ref it) >>= _) _ _ s
  obtain⟨oi,hoi,ci,di⟩:=id hit;obtain⟨od,es,ep,hod,hcd,r⟩:=id hd;have nd:D≠it:=qG hod hoi (by rw[hcd.1,ci];decide);refine ah (Hq hh hit hl (by rw[hin,<-hz];simp) fun h' eb=>?_);refine ah (aJ (aJ ?_));refine hR h' s.toks ?_ fun b o _ hb e=>eb b o hb e
  rw[hin,rW]
  exact⟨od,es,ep,eb D od nd hod,hcd,r⟩
 | succ k ih=>
  intro i s acc hk hi hit hl hp hd hs hR;have lt:i < more.length:=by omega
  obtain⟨⟨kk,v⟩,hkv⟩:∃p,more[i]? = some p:=⟨_,aa lt⟩
  obtain⟨T,key,hT,ht,hk'⟩:=hp i kk v hkv;refine codeAny_builtin vI ?_;rw[zX nV _]
  show wpAny _ A.in1 (pyNext (.ref it) >>= _) _ _ s
  obtain⟨oi,hoi,ci,di⟩:=id hit;obtain⟨od,es,ep,hod,hcd,r⟩:=id hd;obtain⟨ol,hol,cl,dl⟩:=id hl;have nd:D≠it:=qG hod hoi (by rw[hcd.1,ci];decide);have nl:l≠it:=qG hol hoi (by rw[cl,ci];decide);have nld:l≠D:=qG hol hod (by rw[cl,hcd.1];decide);have nt:∀ {T:Addr} {vs:Array Value},s.heap.IsTuple T vs->T≠it/\T≠D:=fun⟨ot,hot,ct,_⟩=>⟨qG hot hoi (by rw[ct,ci];decide),qG hot hod (by rw[ct,hcd.1];decide)⟩
  refine ah (Ef hit hl hT fun h1 hit1 sb1=>?_);obtain⟨ot,hot,ct,nn,dt⟩:=id ht;have hot1:h1.get? T=some ot:=(sb1.2 T (nt ht).1).trans hot;refine ah (gK (ah (wpAny_tryCatch ?_)));unfold Builtin.Dict.pairItems;refine ah (Ej (T:="tuple") ⟨ot,hot1,ct⟩ ?_);rw[if_pos (by decide)]
  refine ah (wpAny_seqItems hot1 dt (aJ ?_));show wpAny _ A.in1 (holding [key,v] (dictSet D key v)) _ _ _;refine gK (gK (ah (knd.pyHash hk' ?_)));have hd1:h1.DictOf knd D acc:=⟨od,es,ep,(sb1.2 D nd).trans hod,hcd,r⟩
  refine wpAny_dictSetHashed_pairs hk' hd1 (fun h2 hd2 sb2=>aJ ⟨plainId_quiet nV _,?_⟩) (by omega);have kp:∀b o,b≠D->b≠it->s.heap.get? b=some o->h2.get? b=some o:=fun b o n1 n2 e=>(sb2.2 b n1).trans ((sb1.2 b n2).trans e)
  have e1:(oN ((i:Int) + 1))=oN ((i + 1:Nat):Int):=by push_cast;rfl
  rw[e1]
  refine ih (i + 1) _ (stored acc kk v) (by omega) lt (hit1.at fun o e=>(sb2.2 it nd.symm).trans e) ⟨ol,kp l ol nld nl hol,cl,dl⟩ (fun j kk v e=>?_) hd2 ?_ fun h' t' hd' kp'=>?_
  ·obtain⟨T,key,q1,⟨ot,hot,r⟩,q3⟩:=hp j kk v e
   exact⟨T,key,q1,⟨ot,kp T ot (nt ⟨ot,hot,r⟩).2 (nt ⟨ot,hot,r⟩).1 hot,r⟩,q3⟩
  ·have:(stored acc kk v).length<=acc.length + 1:=by
    unfold stored;split
    ·rw[ar];omega
    ·rw[aC];simp
   omega
  ·refine hR h' t' ?_ fun b o n1 n2 e=>kp' b o n1 n2 (kp b o n1 n2 e)
   rw[d6 lt]
   have:more[i] = (kk,v):=by rw[aa lt] at hkv;exact aG hkv
   rw[this]
   exact hd'
theorem AL {more:List (K × Value)} {Q:Value->aj->Prop} (hh:A.handled=none) (hl:s.heap.get? l=some { cls:=.type "list",data:=.seq its n }) (hz:its.size=more.length) (hm:more.length<=sizeLine)
  (hp:∀(j:Nat) (kk:K) (v:Value),more[j]? = some (kk,v)->∃T key,its[j]? = some (.ref T)/\s.heap.IsTuple T #[key,v]/\knd.is kk key=true)
  (h:∀h' t',h'.DictOf knd s.heap.objs.size (merged [] more)->(∀b o,s.heap.get? b=some o->h'.get? b=some o)->Q (.ref s.heap.objs.size) { s with heap:=h',toks:=t' }):
  wpAny (aP prog w) A (call (.type "dict") [.ref l]) Q E s:=by
 refine callType_codes (Q₁:=fun obj s₁=>obj = .ref s.heap.objs.size/\s₁ = { s with heap:=s.heap.push { cls:=.type "dict",data:=.dict #[] } }) F.kt_called_dict (F.kt_typeCall_dict_1 _) F.entry_dict_init (kt_code_dict_new _ ⟨rfl,rfl⟩) ?_;rintro obj s₁ ⟨rfl,rfl⟩;have hnew:(s.heap.push { cls:=.type "dict",data:=.dict #[] }).DictOf knd s.heap.objs.size []:=Heap.DictOf.new s.heap;have kp:∀b o,s.heap.get? b=some o->(s.heap.push { cls:=.type "dict",data:=.dict #[] }).get? b=some o:=fun b o e=>ay _ e
 generalize s.heap.push { cls:=.type "dict",data:=.dict #[] }= h1 at hnew kp;refine⟨hnew.typeIs,F.args_dict_init_2 _ _,?_⟩;unfold Builtin.«dict.__init__»;refine ah ?_;unfold Builtin.Dict.selfAndRest;refine ah (wpAny_notOrdered_dict hnew.typeIs ?_);show wpAny _ _ (pure (s.heap.objs.size,[aO l])) _ _ _;refine aJ ?_;show wpAny _ _ (Builtin.Dict.updateFrom "dict.__init__" s.heap.objs.size (.ref l) [] .none) _ _ _;unfold Builtin.Dict.updateFrom;refine ah (Ej (T:="list") ⟨_,kp l _ hl,rfl⟩ ?_);rw[if_pos (by decide)]
 refine ah (Dg (kp l _ hl) hh fun h2 t2 k2=>?_);rw[if_pos (by rfl)]
 refine ah (wpAny_rule ?_);have hl2:=k2 l _ (kp l _ hl);refine ah (mY ⟨_,hl2,rfl,_,rfl⟩ (aJ ⟨plainId_quiet nV _,?_⟩));have nD:s.heap.objs.size < h2.objs.size:=by
  obtain⟨od,_,_,hod,_⟩:=hnew;exact aK (k2 _ _ hod)
 have kp3:∀b o,s.heap.get? b=some o->(h2.push { cls:=.type "list_iterator",data:=.fields #[.ref l,.int 0 0] }).get? b=some o:=fun b o e=>ay _ (k2 b o (kp b o e))
 refine Dh (A:=A.in1) (knd:=knd) (its:=its) (l:=l) hh hz more.length 0 _ [] (by omega) (dM _) ?_ ?_ (fun j kk v e=>?_) ?_ (by simpa using hm) fun h' t' hd' kp'=>?_
 ·exact⟨_,bu _ rfl,rfl,rfl⟩
 ·exact⟨{ cls:=.type "list",data:=.seq its n },ay _ hl2,rfl,n,rfl⟩
 ·obtain⟨T,key,q1,⟨ot,hot,r⟩,q3⟩:=hp j kk v e
  exact⟨T,key,q1,⟨ot,kp3 T ot hot,r⟩,q3⟩
 ·obtain⟨od,es,ep,hod,r⟩:=hnew
  exact⟨od,es,ep,ay _ (k2 _ _ hod),r⟩
 ·refine⟨rfl,h h' t' hd' fun b o e=>kp' b o ?_ ?_ (kp3 b o e)⟩
  ·exact bV (aK e)
  ·exact bV (aK (k2 b o (kp b o e)))
end
end L2
end
section
namespace L2
open PySem PySem.Spec PyProof.Rows PySem.W
section
variable {X:Cx} {pZ:List (Addr × Obj)} {σ:St} {H:Hp} {s:aj}
abbrev Mx(H:Hp)(v:V)(kv:Key × V):Prop:=∃T,v = .ref T/\H T=some (.tup [kV kv.1,kv.2])
theorem IZ(I:Inv X pZ σ H s):∀ {vs:List V} {kvs:List (Key × V)} {its:List Value},Paired (Mx H) vs kvs->Vals vs its->∃more,KV kvs more/\its.length=more.length /\
  ∀(j:Nat) (kk:Key) (v:Value),more[j]? = some (kk,v)->∃T key,its[j]? = some (.ref T)/\s.heap.IsTuple T #[key,v]/\(eH X.prog X.w).is kk key=true
 := by
 intro vs kvs its hp hv;induction hp generalizing its with
 | nil=>cases hv;exact⟨[],.nil,rfl,fun j kk v e=>by cases e⟩
 | cons ha hr ih=>
  rename_i b _ _;obtain⟨k,x⟩:=b;obtain⟨T,e,hT⟩:=ha;cases hv with | cons r rr=>?_
  subst e;cases r;obtain⟨more,h1,h2,h3⟩:=ih rr;obtain⟨z,its',rv,p⟩:=I.dj T _ hT;cases rv with
  | cons r1 rr1=>
   rename_i ku us';cases rr1 with
   | cons r2 rr2=>
    rename_i xu _;cases rr2;refine⟨(k,xu)::more,.cons ⟨rfl,r2⟩ h1,by simp[h2],fun j kk v e=>?_⟩;cases j with
    | zero=>
     simp at e;obtain⟨rfl,rfl⟩:=e;exact⟨T,ku,rfl,p,EZ r1⟩
    | succ j=>simpa using h3 j kk v (by simpa using e)
theorem AM(hA:X.A.handled=none):iE X (.type "dict") (fun xs H Q=>∃a vs kvs,xs = [.ref a]/\H a=some (.lst vs)/\Paired (Mx H) vs kvs/\(kvs.map (·.1)).Nodup/\∀p,H p=none->Q (.ref p) (upd H p (.dK kvs))):=by
 intro pZ s σ H xs us Q I rv h;obtain⟨a,vs,kvs,rfl,hH,hp,hn,q⟩:=h;obtain⟨u,rfl,ru⟩:=rv.one;cases ru;obtain⟨z,its,n,r,hl,e⟩:=I.C1 hH;obtain⟨more,h1,h2,h3⟩:=IZ I hp r;have hk:=h1.keys;refine AL (knd:=eH X.prog X.w) (more:=more) hA e (by simpa using h2) (by rw[<-h2,<-hl];exact z) (fun j kk v ej=>?_) fun h' t' hd kp=>?_
 ·obtain⟨T,key,q1,q2,q3⟩:=h3 j kk v ej
  exact⟨T,key,by simpa using q1,q2,q3⟩
 ·rw[merged_nil_of_nodup more (by rw[<-hk];exact hn)] at hd
  have hf:=I.fresh;refine⟨.ref s.heap.objs.size,_,I.laid (t':=t') kp (ax _) (Mg (kvs:=kvs) (by rw[h1.length,<-h2,<-hl];exact z) ?_ h1 hd),rfl,q _ hf⟩;have:=I.big;exact beq_eq_false_iff_ne.mpr (kg this)
end
end L2
end
section
namespace L2
open PySem PySem.Spec PyProof.Rows PySem.W
section
variable {X:Cx}
theorem xK{i j:Int}(hi:0<=i)(hj:0<=j):Builtin.bitAnd i j=((i.toNat &&& j.toNat:Nat):Int):=by
 unfold Builtin.bitAnd;rw[decide_eq_true hi,decide_eq_true hj]
theorem AN{i j:Int}(hi:0<=i)(hj:0<=j):Builtin.bitOr i j=((i.toNat ||| j.toNat:Nat):Int):=by
 unfold Builtin.bitOr Builtin.bitAnd Builtin.bitNot;rw[decide_eq_false (by omega),decide_eq_false (by omega),show -(-i - 1) - 1=i by omega,show -(-j - 1) - 1=j by omega]
 dsimp only;omega
theorem Di:Ea X "int.bit_length" (fun x xs H Q=>∃i:Nat,x = .int i/\xs = []/\Q (.int (if i=0 then 0 else i.log2 + 1:Nat)) H):=by
 intro pZ s σ H x xs v us Q I rx rs h;obtain⟨i,rfl,rfl,q⟩:=h;obtain⟨t,rfl⟩:=rx;cases rs;refine call_int_bit_length ⟨.int _,H,I.tok _,⟨_,rfl⟩,?_⟩;have:Builtin.Int.intBits i=if i=0 then 0 else i.log2 + 1:=by
  unfold Builtin.Int.intBits;by_cases e:i=0
  ·subst e;rfl
  ·rw[if_neg e,if_neg (by simpa using e)];rfl
 rw[this]
 exact q
theorem Fo:gu X (cw .Add) (fun x y H Q=>∃a b ys,x = .ref a/\y = .ref b/\lD X.K H a []/\lD X.K H b ys/\Q (.ref b) H):=by
 intro pZ s σ H x y v u Q I rx ry h;obtain⟨a,b,ys,rfl,rfl,ha,hb,q⟩:=h;cases rx;cases ry;obtain⟨its,r1,p1,_⟩:=I.tuple ha;obtain⟨its2,r2,p2,_⟩:=I.tuple hb;cases r1;obtain⟨⟨cls,dd,data,sl⟩,ho,hc,n,hd⟩:=id p1;obtain⟨⟨cls2,dd2,data2,sl2⟩,ho2,hc2,n2,hd2⟩:=id p2;simp only at hc hd hc2 hd2;subst hc hd hc2 hd2;exact Ei ⟨_,ho,rfl⟩ ⟨_,ho2,rfl⟩ wC Cu lZ lF (lu _ _)
  (tuple_addW0 a b _ _ n n2 dd dd2 sl sl2 (by simp)) ⟨ho,ho2,⟨.ref b,H,I,rfl,q⟩⟩
theorem Fp(hu:X.A.units + 200 < kh):gu X (bF .NotEq) (fun x y H Q=>∃a b xs,x = .ref a/\y = .ref b/\gV X.K H a xs/\gV X.K H b []/\Q (.bl (!xs.isEmpty)) H):=by
 intro pZ s σ H x y v u Q I rx ry h;obtain⟨a,b,xs,rfl,rfl,ha,hb,q⟩:=h;cases rx;cases ry;obtain⟨its,r1,p1,_⟩:=I.list ha;obtain⟨its2,r2,p2,_⟩:=I.list hb;cases r2;cases r1 with
 | nil=>exact SeqAt.RcNeAt.lists (e:=fun _=>true) p1.isList p2.isList rfl (by omega) (fun j h1 _=>by simp at h1) _ _ _ _ ⟨.bl _,H,I,rfl,by simpa using q⟩
 | cons r rr=>exact SeqAt.RcNeAt.lists_lengths p1.isList p2.isList (by simp) (by omega) _ _ _ _ ⟨.bl _,H,I,rfl,by simpa using q⟩
theorem AO(hc:X.calm=true):iE X (.builtin "any") (fun xs H Q=>∃p,∃bs:List Bool,xs = [.ref p]/\gV X.K H p (bs.map V.bl)/\Q (.bl (bs.any id)) H):=by
 intro pZ s σ H xs us Q I r h;obtain⟨p,bs,rfl,hl,q⟩:=h;obtain⟨u,rfl,ru⟩:=vals1 r;cases ru;obtain⟨its,r,pl,_⟩:=I.list hl;have hl:=pl.isList;have hits:=tF r;have hlt:p < s.heap.objs.size:=by obtain⟨_,e,_⟩:=hl;exact aK e
 refine call_any_walk (mY hl ?_);refine⟨s.heap.objs.size,[s.heap.objs.size,p],[s.heap.objs.size],its.toArray.size,_,_,fun i=>(bs[i]?).getD false,rfl,Walks.list (A:=X.A.in1) (I.ok.hd hc) _ p (bV hlt) its.toArray,
  ⟨⟨_,bu _ rfl,rfl,rfl⟩,hl.push _⟩,fun i v s' Q' E' hP hQ=>?_,fun h' tk hk=>?_⟩
 ·have hP:its[i]? = some v:=by simpa using hP
  rw[hits,aw] at hP;cases e:bs[i]? with
  | none=>rw[e] at hP;cases hP
  | some b=>
   rw[e] at hP;have hQ:Q' ((bs[i]?).getD false) s':=hQ;rw[e] at hQ;cases hP;exact eV hQ
 ·have e:((cv its.toArray.size).any fun i=>(bs[i]?).getD false)=bs.any id:=by
   rw[aA,hits,ar];exact LSm.range_any bs
  rw[e]
  exact⟨.bl _,H,I.kept (LSm.kept_iter hk),rfl,q⟩
theorem Dj(hu:X.A.units + 200 < kh):gu X (bF .NotIn) (fun x y H Q=>∃p xs ds d,y = .ref p/\gV X.K H p xs/\gQ X.K H xs ds/\fU X.K H x d/\Dv.iU ds<=100/\Q (.bl (!ds.any fun e=>mZ e d)) H):=by
 intro pZ s σ H x y v u Q I rx ry h;obtain⟨p,xs,ds,d,rfl,hq,hd,hx,hz,q⟩:=h;cases ry;obtain⟨its,r,pl,_⟩:=I.list hq
 classical
 have l1:=hd.len;have m1:=r.length
 let e:Value->Bool:=fun u=>decide (∃(j:Nat) (d':Dv),its[j]? = some u/\ds[j]? = some d'/\mZ d' d=true)
 have key:∀(j:Nat) (w:Value) (d':Dv),its[j]? = some w->ds[j]? = some d'->e w=mZ d' d:=fun j w d' h1 h2=>by
  have f:∃z,xs[j]? = some z:=⟨_,aa (by have:=(ae.mp h2).1;omega)⟩
  obtain⟨z,hz'⟩:=f;obtain⟨w',g1,q1⟩:=r.get hz';rw[h1] at g1;cases g1;cases q:mZ d' d with
  | true=>exact decide_eq_true ⟨j,d',h1,h2,q⟩
  | false=>
   refine decide_eq_false ?_;rintro⟨j2,d2,k1,k2,k3⟩;have f2:∃z,xs[j2]? = some z:=⟨_,aa (by have:=(ae.mp k2).1;omega)⟩
   obtain⟨z2,hz2⟩:=f2;obtain⟨w2,g2,q2⟩:=r.get hz2;rw[k1] at g2;cases g2;have ez:=RelV.inj q1 q2;subst ez;have:=fU.inj I (hd.get hz' h2) (hd.get hz2 k2);rw[this,k3] at q;cases q
 refine Cv e pl.isList (fun w hw=>?_) ⟨.bl _,H,I,rfl,?_⟩
 ·obtain⟨j,hj⟩:=cC (show w∈its by simpa using hw)
  have hjl:=(ae.mp hj).1;have e1:ds[j]? = some (ds[j]'(by omega)):=aa _;have e2:xs[j]? = some (xs[j]'(by omega)):=aa _;obtain⟨w',g1,q1⟩:=r.get e2;rw[hj] at g1;cases g1;rw[key j w _ hj e1]
  exact AG I 100 (aR (lP e1) hz) (by show X.A.units + 1 + 100 < kh;omega) (hd.get e2 e1) hx q1 rx
 ·have:its.toArray.any e=ds.any fun e=>mZ e d:=by
   rw[List.any_toArray,de,jq,jq]
   constructor
   ·rintro⟨w,hw,h1⟩
    obtain⟨j,d',_,k2,k3⟩:=of_decide_eq_true h1;exact⟨d',aB k2,k3⟩
   ·rintro⟨d',hd',h1⟩
    obtain⟨j,hj⟩:=cC hd';have hjl:=(ae.mp hj).1;have e1:its[j]? = some (its[j]'(by omega)):=aa _;exact⟨_,aB e1,by rw[key j _ d' e1 hj];exact h1⟩
  rw[this]
  exact q
end
end L2
end
section
namespace PL
section
variable {S:bR} {Q:KU} {q:Bool->Prop} {r:U->Prop} {i j:Int} {a b:List Nat} {x y:U} {us vs:List U} {m n:Nat}
theorem My:jt .add (.int i) (.int j) S Q=Q (.int (i + j)) S:=rfl
theorem Mz:jt .add (.str a) (.str b) S Q=(a.length + b.length<=1000000/\Q (.str (a ++ b)) S):=rfl
theorem MA:jt .add (.tup us) (.tup vs) S Q=(us.length + vs.length<=1000000/\Q (.tup (us ++ vs)) S):=rfl
theorem Uc:jt .add (.loc m) (.loc n) S Q=getL S[m]? fun a=>getL S[n]? fun b=>a.length + b.length<=1000000/\Q (.loc S.length) (S ++ [.lst (a ++ b)]):=rfl
theorem MB:jt .sub (.int i) (.int j) S Q=Q (.int (i - j)) S:=rfl
theorem Ud:jt .mul (.int i) (.int j) S Q=(((-(2 ^ 64) < i/\i < 2 ^ 64)\/(-(2 ^ 64) < j/\j < 2 ^ 64))/\Q (.int (i * j)) S):=rfl
theorem Ue:jt .mul (.str a) (.int j) S Q=(∃c,a = [c]/\0<=j/\j<=1000/\Q (.str (cB j.toNat c)) S):=rfl
theorem Su:jt .fdiv (.int i) (.int j) S Q=((0 < j/\j < 1073741824)/\Q (.int (i / j)) S):=rfl
theorem Ug:jt .mod (.int i) (.int j) S Q=(0 < j/\Q (.int (i % j)) S):=rfl
theorem I0:jt .band (.int i) (.int j) S Q=((0<=i/\0<=j)/\Q (.int ((i.toNat &&& j.toNat:Nat):Int)) S):=rfl
theorem MC:jt .bor (.int i) (.int j) S Q=((0<=i/\0<=j)/\Q (.int ((i.toNat ||| j.toNat:Nat):Int)) S):=rfl
theorem MD:jt .shl (.int i) (.int j) S Q=((0<=i/\i < 1000/\0<=j/\j<=1000)/\Q (.int (i * 2 ^ j.toNat)) S):=rfl
theorem ME:jt .shr (.int i) (.int j) S Q=((0<=i/\0<=j)/\Q (.int (i / 2 ^ j.toNat)) S):=rfl
theorem Vt:uP o (.int i) y S Q=jt o (.int i) y S Q:=rfl
theorem Vu:uP o (.str a) y S Q=jt o (.str a) y S Q:=rfl
theorem WJ:ju .eq x y S q=xF x y q:=rfl
theorem Vv:ju .ne (.int i) y S q=(xG (.int i) y=true/\xF (.int i) y fun b=>q !b):=rfl
theorem Vw:ju .ne (.str a) y S q=(xG (.str a) y=true/\xF (.str a) y fun b=>q !b):=rfl
theorem Vx:ju .ne .bQ y S q=(xG .bQ y=true/\xF .bQ y fun b=>q !b):=rfl
theorem Vy:ju .ne (.tup us) y S q=(xG (.tup us) y=true/\xF (.tup us) y fun b=>q !b):=rfl
theorem Vz:ju .ne (.loc m) (.loc n) S q=getL S[m]? fun us=>S[n]? = some (.lst [])/\q (!us.isEmpty):=rfl
theorem WK:(xG (.int i) y=true)=True:=eq_true rfl
theorem WL:(xG (.str a) y=true)=True:=eq_true rfl
theorem WM:(xG .bQ y=true)=True:=eq_true rfl
theorem WN:ju .lt (.int i) (.int j) S q=q (decide (i < j)):=rfl
theorem WQ:ju .le (.int i) (.int j) S q=q (decide (i<=j)):=rfl
theorem WR:ju .gt (.int i) (.int j) S q=q (decide (j < i)):=rfl
theorem WU:ju .ge (.int i) (.int j) S q=q (decide (j<=i)):=rfl
theorem MF:∀ {b:List Nat},iq [c] b=b.contains c
 | []=>rfl
 | x::xs=>by
  rw[iq,MF (b:=xs),kE]
  simp[List.isPrefixOf]
theorem I9:ju .isin (.str [k]) (.str b) S q=q (b.contains k):=by
 rw[<-MF];rfl
theorem Ja:ju .mJ (.str [k]) (.str b) S q=q !(b.contains k):=by
 rw[<-MF];rfl
theorem zb:ju .isin (.str a) (.tab kvs) S q=q (kvs.lookup a).isSome:=rfl
theorem MG:ju .isin x (.tup us) S q=pH x us q:=rfl
theorem MH:ju .mJ x (.tup us) S q=pH x us fun b=>q !b:=rfl
theorem MI:ju .isin x (.loc n) S q=getL S[n]? fun us=>pH x us q:=rfl
theorem Uh:ju .mJ (.str a) (.loc n) S q=getL S[n]? fun us=>pH (.str a) us fun b=>q !b:=rfl
theorem Jb:ju .mJ (.tup vs) (.loc n) S q=getL S[n]? fun us=>(kB vs=true/\kB us=true/\mQ us<=100)/\q !(us.any fun y=>nv y (.tup vs)):=rfl
theorem Ui:ju .HC x .bQ S q=q (oE x):=rfl
theorem MJ:ju .xy x .bQ S q=q (!oE x):=rfl
theorem ew(h1:Fj x y=true)(h2:tq x=true)(h3:tq y=true)(h4:dep x<=100)(h:nv x y=v):xF x y q=q v:=by
 rw[<-h];exact propext ⟨fun z=>z.2,fun z=>⟨⟨h1,h2,h3,h4⟩,z⟩⟩
theorem WV:xF (.int i) (.int j) q=q (i == j):=ew rfl rfl rfl (dM _) rfl
theorem P2:xF (.str a) (.str b) q=q (a == b):=ew rfl rfl rfl (dM _) rfl
theorem WW:xF .bQ .bQ q=q true:=ew rfl rfl rfl (dM _) rfl
theorem WX{a b:Bool}:xF (.bl a) (.bl b) q=q (a == b):=ew rfl rfl rfl (dM _) rfl
theorem WY:xF (.int i) .bQ q=q false:=ew rfl rfl rfl (dM _) rfl
theorem WZ:xF .bQ (.int i) q=q false:=ew rfl rfl rfl (dM _) rfl
theorem W0:xF (.int i) (.str a) q=q false:=ew rfl rfl rfl (dM _) rfl
theorem W2:xF (.str a) (.int i) q=q false:=ew rfl rfl rfl (dM _) rfl
theorem P4(l:List (List Nat)):(l.map U.str).all flat=true:=by simp[flat]
theorem anyS{l:List (List Nat)}:pH (.str a) (l.map .str) q=q (l.any (· == a)):=by
 refine propext ⟨fun z=>?_,fun z=>⟨⟨rfl,P4 l⟩,?_⟩⟩
 ·have:=z.2;rw[List.any_map] at this;exact this
 ·rw[List.any_map];exact z
theorem P5:HD (.str a) (.int i) S r=(a.length<=1000000/\opt (tw a i) fun c=>r (.str [c])):=rfl
theorem BX:HD (.tup us) (.int i) S r=(us.length<=1000000/\opt (tw us i) r):=rfl
theorem VA:HD (.pG ns) (.int i) S r=(ns.length<=1000000/\opt (tw ns i) fun n=>r (.int n)):=rfl
theorem VB:HD (.loc n) (.int i) S r=getL S[n]? fun us=>opt (tw us i) r:=rfl
theorem xw:HD (.tab kvs) (.str a) S r=opt (kvs.lookup a) fun v=>r (.str v):=rfl
theorem fP{f:String}:kC (.loc n) f S r=mP S[n]? fun _ fs=>opt (fs.lookup f) r:=rfl
theorem VC:kC (.exc c us) f S r=opt (((cL c).zip us).lookup f) r:=rfl
theorem VD:oY S (.str a)=some a.length:=rfl
theorem VE:oY S (.tup us)=some us.length:=rfl
theorem VF:oY S (.pG ns)=some ns.length:=rfl
theorem oG(h:S[n]? = some (.lst us)):oY S (.loc n)=some us.length:=by simp only[oY,h]
theorem VG:qE S (.bl c)=some c:=rfl
theorem VH:qE S .bQ=some false:=rfl
theorem VI:qE S (.int i)=some (i != 0):=rfl
theorem VJ:qE S (.pG ns)=some (ns.length != 0):=rfl
theorem P6(h:S[n]? = some (.lst us)):qE S (.loc n)=some (us.length != 0):=by simp only[qE,oG h,jw]
theorem VL:rR .len [x] S Q=opt (oY S x) fun n=>n<=1000000/\Q (.int n) S:=rfl
theorem Sv:rR .tuple [.loc n] S Q=getL S[n]? fun us=>Q (.tup us) S:=rfl
theorem Uj:rR .list [.loc n] S Q=getL S[n]? fun us=>Q (.loc S.length) (S ++ [.lst us]):=rfl
theorem Sw:rR .list [.tup us] S Q=(us.length<=1000000/\Q (.loc S.length) (S ++ [.lst us])):=rfl
theorem VM:rR .all [.loc n] S Q=(∃bs:List Bool,S[n]? = some (.lst (bs.map .bl))/\Q (.bl (bs.all id)) S):=rfl
theorem VN:rR .any [.loc n] S Q=(∃bs:List Bool,S[n]? = some (.lst (bs.map .bl))/\Q (.bl (bs.any id)) S):=rfl
theorem Uk:rR .dict [.loc n] S Q=(∃ps:List (List Nat × U),S[n]? = some (.lst (ps.map fun p=>.tup [.str p.1,p.2]))/\(ps.map (·.1)).Nodup/\Q (.loc S.length) (S ++ [.uz (ps.map fun p=>(.str p.1,p.2))])):=rfl
theorem Ul:uQ .mh (.int i) [] S Q=(0<=i/\Q (.int (rq i.toNat:Nat)) S):=rfl
theorem VO:uQ .get (.loc n) [.str a,x] S Q=getD S[n]? fun kvs=>∃ps:List (List Nat × U),kvs=(ps.map fun p=>(U.str p.1,p.2))/\Q ((ps.lookup a).getD x) S:=rfl
theorem Sx:uS .mh (.int i) S=True:=rfl
theorem Um:uS .get (.loc n) S=getD S[n]? fun _=>True:=rfl
theorem BP:uS .join (.str a) S=True:=rfl
theorem yV:uS .index (.str a) S=True:=rfl
theorem vH:uS .startswith (.str a) S=True:=rfl
theorem qz:uS .append (.loc n) S=getL S[n]? fun _=>True:=rfl
theorem vB:uS .extend (.loc n) S=getL S[n]? fun _=>True:=rfl
theorem Uo:uQ .join (.str a) [.loc n] S Q=(∃ts:List (List Nat),S[n]? = some (.lst (ts.map .str))/\(ts.map cU).sum + ts.length * a.length<=1000000/\Q (.str (kJ a ts)) S):=rfl
theorem Sy:uQ .index (.str a) [.str b] S Q=(∃c,b = [c]/\c∈a/\Q (.int (a.idxOf c:Nat)) S):=rfl
theorem P7:uQ .startswith (.str a) [.str b] S Q=Q (.bl (b.isPrefixOf a)) S:=rfl
theorem P8:uQ .append (.loc n) [x] S Q=getL S[n]? fun us=>us.length < 1000000/\Q .bQ (S.set n (.lst (us ++ [x]))):=rfl
theorem P9:uQ .extend (.loc n) [.loc m] S Q=getL S[n]? fun us=>getL S[m]? fun ws=>us.length + ws.length<=1000000/\Q .bQ (S.set n (.lst (us ++ ws))):=rfl
theorem Xj:Fm (.str a) S R=R (a.map fun c=>.str [c]) (fun _=>True):=rfl
theorem W3:Fm (.tup us) S R=(us.length<=1000000/\R us (fun _=>True)):=rfl
theorem Xk:Fm (.loc n) S R=getL S[n]? fun us=>R us (fun S'=>S'[n]? = some (.lst us)):=rfl
theorem bind_f:oF false x caps k=k (some x::caps):=rfl
theorem Up:oF true x caps k=KS x fun a b=>k (some a::some b::caps):=rfl
theorem gZ{α:Type}{xs:List α}{k:Nat}:tw xs (k:Int)=xs[k]?:=by
 unfold tw Mu;rw[if_pos (by omega)]
 split
 ·simp
 ·rename_i h
  rw[nP (by omega)]
  rfl
theorem lT{α:Type}{x:α}{xs:List α}:tw (x::xs) 0=some x:=by
 have:=gZ (xs:=x::xs) (k:=0);simpa using this
theorem jj{α:Type}{x y:α}{xs:List α}:tw (x::y::xs) 1=some y:=by
 have:=gZ (xs:=x::y::xs) (k:=1);simpa using this
end
theorem tG{α:Type}{o:Option α}{Q Q':α->Prop}(h:∀a,Q a->Q' a)(w:opt o Q):opt o Q':=by
 cases o with
 | none=>exact w
 | some a=>exact h a w
theorem nW{o:Option SO}{Q Q':List U->Prop}(h:∀a,Q a->Q' a)(w:getL o Q):getL o Q':=by
 obtain⟨a,e,z⟩:=cM.mp w;exact cM.mpr ⟨a,e,h a z⟩
theorem zc(h:∀b,Q b->Q' b)(w:xF x y Q):xF x y Q':=⟨w.1,h _ w.2⟩
theorem nX(h:∀b,Q b->Q' b)(w:pH x us Q):pH x us Q':=⟨w.1,h _ w.2⟩
theorem pI{x:U}{Q Q':Int->Prop}(h:∀b,Q b->Q' b)(w:kI x Q):kI x Q':=by
 cases x<;>first | exact h _ w | exact w
theorem tH{x:U}{Q Q':List Nat->Prop}(h:∀b,Q b->Q' b)(w:KW x Q):KW x Q':=by
 cases x<;>first | exact h _ w | exact w
theorem zd(h:Q->Q')(w:Sq x Q):Sq x Q':=by
 cases x<;>first | exact h w | exact w
theorem ze(h:∀b,Q b->Q' b)(w:Sr x y Q):Sr x y Q':=⟨w.1,zc (fun b z=>h _ z) w.2⟩
theorem Fq(h:∀b,Q b->Q' b)(w:Ub x us Q):Ub x us Q':=by
 cases x<;>first | exact⟨w.1,h _ w.2⟩ | exact nX (fun b z=>h _ z) w
theorem vJ(h:∀b,Q b->Q' b)(w:ju o x y S Q):ju o x y S Q':=by
 cases o with
 | eq=>exact zc h w
 | ne=>
  cases x with
  | loc m=>cases y<;>first | exact nW (fun _ z=>⟨z.1,h _ z.2⟩) w | exact ze h w
  | _=>exact ze h w
 | isin=>cases y<;>first | exact tH (fun _ z=>h _ z) w | exact nX h w | exact nW (fun _ z=>nX h z) w | exact w
 | mJ=>cases y<;>first | exact tH (fun _ z=>h _ z) w | exact nX (fun b z=>h _ z) w | exact nW (fun _ z=>Fq h z) w | exact w
 | HC=>exact zd (h _) w
 | xy=>exact zd (h _) w
 | _=>exact pI (fun _ z=>pI (fun _ z=>h _ z) z) w
theorem Fs{x y:U}{S:bR}{Q Q':U->Prop}(h:∀b,Q b->Q' b)(w:HD x y S Q):HD x y S Q':=by
 cases x<;>first | exact pI (fun _ z=>⟨z.1,tG (fun _ z=>h _ z) z.2⟩) w | exact pI (fun _ z=>nW (fun _ z=>tG (fun _ z=>h _ z) z) z) w | exact tH (fun _ z=>tG (fun _ z=>h _ z) z) w | exact w
def Keeps(Γ:b7)(b:du)(k:Nat)(sp:Spec):Prop:=∀us S Q E,sp us S Q E->qF Γ b ⟨fun _ S1=>Q .bQ S1,Q,fun _=>E⟩ (us.map some ++ cB k none) S
end PL
end
section
namespace PL
section
variable {Γ:b7} {D:Ends} {env:Env} {S:bR} {i:Nat} {e o:Ex} {c:Tx} {a b ss:du} {s:Sm} {f:String}
def Rest(Γ:b7)(ss:du)(D:Ends)(env:Env)(S:bR):Prop:=qF Γ ss D env S
theorem Rest.go(h:qF Γ ss D env S):Rest Γ ss D env S:=h
theorem VP:qF Γ .nil D env S=D.nx env S:=rfl
theorem Uq:qF Γ (.cons s ss) D env S=WS Γ s ⟨fun en S1=>qF Γ ss D en S1,D.rt,D.ex⟩ env S:=rfl
theorem VQ:WS Γ (.ifs c a b) D env S=WT Γ c env S (fun t S1=>if t=true then qF Γ a D env S1 else qF Γ b D env S1) (D.ex env):=rfl
theorem VR:WS Γ (.yZ c b) D env S = ∃n,xH (fun en S1 k=>WT Γ c en S1 k (D.ex en)) (fun en S1 k=>qF Γ b ⟨k,D.rt,D.ex⟩ en S1) D.nx n env S:=rfl
theorem VS:WS Γ (.KQ a f i b) D env S=qF Γ a ⟨D.nx,D.rt,fun en x S1=>(lR x.c).contains f=true/\qF Γ b ⟨fun en2 S2=>D.nx (en2.set i none) S2,D.rt,fun _ _ _=>False⟩ (en.set i (some (.exc x.c x.us))) S1⟩ env S:=rfl
variable {Q:KU} {E:KX} {e1 e2:Ex} {es ks:xC} {P:List U->bR->Prop} {B:Bool->bR->Prop} {q m:String} {t1 t2:Tx} {O:Option Int->bR->Prop} {R:List U->(bR->Prop)->bR->Prop}
theorem w_var:WE Γ (.var i) env S Q E=xD env[i]? fun u=>Q u S:=rfl
theorem w_lit:WE Γ (.lit u) env S Q E=Q u S:=rfl
theorem VT{o:Eb}:WE Γ (.bin o e1 e2) env S Q E=WE Γ e1 env S (fun x S1=>WE Γ e2 env S1 (fun y S2=>jt o x y S2 Q) E) E:=rfl
theorem VU:WE Γ (.neg e1) env S Q E=WE Γ e1 env S (fun x S1=>kI x fun i=>Q (.int (-i)) S1) E:=rfl
theorem w_not:WE Γ (.not e1) env S Q E=WE Γ e1 env S (fun x S1=>KR x fun b=>Q (.bl !b) S1) E:=rfl
theorem w_and:WE Γ (.and e1 e2) env S Q E=WE Γ e1 env S (fun x S1=>KR x fun c=>if c=true then WE Γ e2 env S1 Q E else Q (.bl false) S1) E:=rfl
theorem w_or:WE Γ (.or e1 e2) env S Q E=WE Γ e1 env S (fun x S1=>KR x fun c=>if c=true then Q (.bl true) S1 else WE Γ e2 env S1 Q E) E:=rfl
theorem VV{o:Ms}:WE Γ (.cmp o e1 e2) env S Q E=WE Γ e1 env S (fun x S1=>WE Γ e2 env S1 (fun y S2=>ju o x y S2 fun r=>Q (.bl r) S2) E) E:=rfl
theorem VW:WE Γ (.zZ c e1 e2) env S Q E=WT Γ c env S (fun t S1=>if t=true then WE Γ e1 env S1 Q E else WE Γ e2 env S1 Q E) E:=rfl
theorem Ur:WE Γ (.call f es) env S Q E=tD Γ es env S (fun us S1=>Γ f us S1 Q E) E:=rfl
theorem w_mk:WE Γ (.mk f q es) env S Q E=tD Γ es env S (fun us S1=>Γ q (.loc S1.length::us) (S1 ++ [.ins f []]) (fun v S2=>v = .bQ/\Q (.loc S1.length) S2) E) E:=rfl
theorem Us:WE Γ (.cA f m q o es) env S Q E=WE Γ o env S (fun x S1=>AI x fun n=>mP S1[n]? fun c' fs=>(c'=f/\fs.lookup m=none)/\tD Γ es env S1 (fun us S2=>Γ q (x::us) S2 Q E) E) E:=rfl
theorem VX{b:PZ}:WE Γ (.blt b es) env S Q E=tD Γ es env S (fun us S1=>rR b us S1 Q) E:=rfl
theorem VY{b:Mt}:WE Γ (.kH b o es) env S Q E=WE Γ o env S (fun x S1=>uS b x S1/\tD Γ es env S1 (fun us S2=>uQ b x us S2 Q) E) E:=rfl
theorem w_fld:WE Γ (.fld o f) env S Q E=WE Γ o env S (fun x S1=>kC x f S1 fun v=>Q v S1) E:=rfl
theorem W4:WE Γ (.ix e1 e2) env S Q E=WE Γ e1 env S (fun x S1=>WE Γ e2 env S1 (fun y S2=>HD x y S2 fun v=>Q v S2) E) E:=rfl
theorem W5:WE Γ (.sl o lo hi) env S Q E=WE Γ o env S (fun x S1=>WO Γ lo env S1 (fun l S2=>WO Γ hi env S2 (fun h S3=>IV x l h S3 Q) E) E) E:=rfl
theorem VZ:WE Γ (.tup es) env S Q E=tD Γ es env S (fun us S1=>us.length<=1000000/\Q (.tup us) S1) E:=rfl
theorem V0:WE Γ (.lst es) env S Q E=tD Γ es env S (fun us S1=>us.length<=1000000/\Q (.loc S1.length) (S1 ++ [.lst us])) E:=rfl
theorem Ut:WE Γ (.comp pr e it c ci) env S Q E=WI Γ it env S (fun us g S1=>nB g (fun u S2 k=>oF pr u (lS env ci) fun en=>WT Γ c en S2 k fun _ _=>False)
   (fun u S2 k=>oF pr u (lS env ci) fun en=>WE Γ e en S2 k fun _ _=>False) (fun acc S3=>Q (.loc S3.length) (S3 ++ [.lst acc])) us [] S1) E:=rfl
theorem V1:WE Γ (.yX e1 ts) env S Q E=WE Γ e1 env S (fun x S1=>opt (jA S1 x ts) fun b=>Q (.bl b) S1) E:=rfl
theorem V2:tD Γ .nil env S P E=P [] S:=rfl
theorem Uu:tD Γ (.cons e es) env S P E=WE Γ e env S (fun x S1=>tD Γ es env S1 (fun xs S2=>P (x::xs) S2) E) E:=rfl
theorem W6:WO Γ .no env S O E=O none S:=rfl
theorem W7:WO Γ (.e e1) env S O E=WE Γ e1 env S (fun x S1=>kI x fun j=>O (some j) S1) E:=rfl
theorem V3:WI Γ (.val e) env S R E=WE Γ e env S (fun x S1=>Fm x S1 fun us g=>R us g S1) E:=rfl
theorem V4:WI Γ (.range e) env S R E=WE Γ e env S (fun x S1=>kI x fun n=>n<=1000000/\-(1000000:Int)<=n/\R ((cv n.toNat).map fun k=>.int (k:Nat)) (fun _=>True) S1) E:=rfl
theorem Uv:WI Γ (.enum e) env S R E=WE Γ e env S (fun x S1=>AI x fun n=>getL S1[n]? fun us=>R (us.mapIdx fun i u=>.tup [.int (i:Nat),u]) (fun S'=>S'[n]? = some (.lst us)) S1) E:=rfl
theorem V5:WT Γ (.cG e) env S B E=WE Γ e env S (fun x S1=>opt (qE S1 x) fun b=>B b S1) E:=rfl
theorem Uw:WT Γ (.not t1) env S B E=WT Γ t1 env S (fun b S1=>B (!b) S1) E:=rfl
theorem Ux:WT Γ (.and t1 t2) env S B E=WT Γ t1 env S (fun c S1=>if c=true then WT Γ t2 env S1 B E else B false S1) E:=rfl
theorem V6:WT Γ (.or t1 t2) env S B E=WT Γ t1 env S (fun c S1=>if c=true then B true S1 else WT Γ t2 env S1 B E) E:=rfl
theorem Uy:qF Γ (.cons s ss) D env S=WS Γ s ⟨fun en S1=>Rest Γ ss D en S1,D.rt,D.ex⟩ env S:=rfl
theorem V7:qF Γ .nil D env S=D.nx env S:=rfl
theorem V8:WS Γ (.set i e) D env S=WE Γ e env S (fun u S1=>D.nx (env.set i (some u)) S1) (D.ex env):=rfl
theorem V9:WS Γ (.aug i p e) D env S=xD env[i]? fun x=>WE Γ e env S (fun y S1=>uP p x y S1 fun z S2=>D.nx (env.set i (some z)) S2) (D.ex env):=rfl
theorem W8:WS Γ (.ex e) D env S=WE Γ e env S (fun _ S1=>D.nx env S1) (D.ex env):=rfl
theorem Wa:WS Γ (.ret e) D env S=WE Γ e env S D.rt (D.ex env):=rfl
theorem Wb:WS Γ (.ifs c a b) D env S=WT Γ c env S (fun t S1=>if t=true then Rest Γ a D env S1 else Rest Γ b D env S1) (D.ex env):=rfl
theorem Wc:WS Γ (.yZ c b) D env S = ∃n,xH (fun en S1 k=>WT Γ c en S1 k (D.ex en)) (fun en S1 k=>Rest Γ b ⟨k,D.rt,D.ex⟩ en S1) D.nx n env S:=rfl
theorem Wd:WS Γ (.ji (.name i) it b) D env S=WI Γ it env S (fun us g S1=>tB g (fun u en S2 k=>Rest Γ b ⟨k,D.rt,D.ex⟩ (en.set i (some u)) S2) D.nx us env S1) (D.ex env):=rfl
theorem Sz:WS Γ (.raise f as) D env S=tD Γ as env S (fun us S1=>us.length=(cL f).length/\D.ex env ⟨f,us⟩ S1) (D.ex env):=rfl
theorem We:WS Γ (.KQ a f i b) D env S=Rest Γ a ⟨D.nx,D.rt,fun en x S1=>(lR x.c).contains f=true/\Rest Γ b ⟨fun en2 S2=>D.nx (en2.set i none) S2,D.rt,fun _ _ _=>False⟩ (en.set i (some (.exc x.c x.us))) S1⟩ env S:=rfl
theorem Uz:WS Γ (.jU o f e) D env S=WE Γ e env S (fun u S1=>WE Γ o env S1 (fun x S2=>AI x fun n=>mP S2[n]? fun c fs=>fs.length < 100/\D.nx env (S2.set n (.ins c (fL f u fs)))) (D.ex env)) (D.ex env):=rfl
theorem UA:WS Γ (.yY o f p e) D env S=WE Γ o env S (fun x S1=>AI x fun n=>mP S1[n]? fun c fs=>opt (fs.lookup f) fun v=>
   WE Γ e env S1 (fun y S2=>uP p v y S2 fun z S3=>mP S3[n]? fun c' fs'=>c'=c/\fs'.length < 100/\D.nx env (S3.set n (.ins c (fL f z fs')))) (D.ex env)) (D.ex env):=rfl
theorem UB:WS Γ (.C9 o j p e) D env S=WE Γ o env S (fun x S1=>WE Γ j env S1 (fun y S2=>AI x fun n=>kI y fun k=>getL S2[n]? fun us=>0<=k/\opt (us[k.toNat]?) fun v=>
   WE Γ e env S2 (fun z S3=>uP p v z S3 fun r S4=>getL S4[n]? fun us'=>k.toNat < us'.length/\D.nx env (S4.set n (.lst (us'.set k.toNat r)))) (D.ex env)) (D.ex env)) (D.ex env):=rfl
theorem Wf:WS Γ (.ji (.pair i j) it b) D env S=WI Γ it env S (fun us g S1=>tB g (fun u en S2 k=>KS u fun x y=>Rest Γ b ⟨k,D.rt,D.ex⟩ ((en.set i (some x)).set j (some y)) S2) D.nx us env S1) (D.ex env):=rfl
theorem ca{sp:Spec}{us:List U}{Q:KU}{E:KX}(h:Γ f=sp)(k:sp us S Q E):Γ f us S Q E:=by rw[h];exact k
end
end PL
end
section
namespace PL
noncomputable abbrev SG:List Nat:=[10,32,33,34,35,36,38,39,40,41,42,43,44,45,46,47,48,49,50,51,52,53,54,55,56,57,58,59,60,61,62,63,64,65,66,67,68,69,70,71,72,73,74,75,76,77,78,79,80,81,82,83,84,85,86,87,88,89,90,91,92,93,94,95,96,97,98,99,100,101,102,103,104,105,106,107,108,109,110,111,112,113,114,115,116,117,118,119,120,121,122,123,124,125,126]
noncomputable abbrev W9:List Nat:=[32,33,34,35,36,38,39,40,41,42,43,44,45,46,47,48,49,50,51,52,53,54,55,56,57,58,59,60,61,62,63,64,65,66,67,68,69,70,71,72,73,74,75,76,77,78,79,80,81,82,83,84,85,86,87,88,89,90,91,92,93,94,95,96,97,98,99,100,101,102,103,104,105,106,107,108,109,110,111,112,113,114,115,116,117,118,119,120,121,122,123,124,125,126]
noncomputable def mj:du:=(.cons (.ret (.kH .join (.lit (.str [])) (.cons (.comp false (.var 0) (.val (.lit (.str SG))) (.cG (.cmp .isin (.var 0) (.var 1))) [0]) .nil))) .nil)
noncomputable def nY:du:=(.cons (.ret (.kH .join (.lit (.str [])) (.cons (.comp false (.var 0) (.val (.lit (.str SG))) (.cG (.cmp .mJ (.var 0) (.var 1))) [0]) .nil))) .nil)
noncomputable def mm:du:=(.cons (.ret (.cmp .lt (.kH .index (.lit (.str SG)) (.cons (.var 0) .nil)) (.kH .index (.lit (.str SG)) (.cons (.var 1) .nil)))) .nil)
noncomputable def nZ:du:=(.cons (.ret (.sl (.lit (.str SG)) (.e (.kH .index (.lit (.str SG)) (.cons (.var 0) .nil))) (.e (.bin .add (.kH .index (.lit (.str SG)) (.cons (.var 1) .nil)) (.lit (.int 1)))))) .nil)
noncomputable def xM:du:=(.cons (.set 1 (.mk "Reader" "Reader.__init__" (.cons (.var 0) .nil)))
   (.cons (.set 2 (.cA "Reader" "choice" "Reader.choice" (.var 1) .nil))
   (.cons (.ifs (.cG (.cmp .lt (.fld (.var 1) "at") (.blt .len (.cons (.var 0) .nil)))) (.cons (.raise "BadRule" (.cons (.lit (.int 0)) (.cons (.fld (.var 1) "at") .nil))) .nil) .nil)
   (.cons (.ret (.var 2)) .nil))))
noncomputable def pJ:du:=(.cons (.ret (.zZ (.cG (.cmp .eq (.blt .len (.cons (.var 1) .nil)) (.lit (.int 1)))) (.ix (.var 1) (.lit (.int 0))) (.tup (.cons (.var 0) (.cons (.blt .tuple (.cons (.var 1) .nil)) .nil))))) .nil)
noncomputable def iZ:du:=(.cons (.jU (.var 0) "text" (.var 1))
   (.cons (.jU (.var 0) "at" (.lit (.int 0)))
   (.cons (.jU (.var 0) "depth" (.lit (.int 0))) .nil)))
noncomputable def i0:du:=(.cons (.ret (.and (.cmp .lt (.fld (.var 0) "at") (.blt .len (.cons (.fld (.var 0) "text") .nil))) (.cmp .isin (.ix (.fld (.var 0) "text") (.fld (.var 0) "at")) (.var 1)))) .nil)
noncomputable def hJ:du:=(.cons (.ifs (.not (.cG (.cA "Reader" "sees" "Reader.sees" (.var 0) (.cons (.var 1) .nil)))) (.cons (.raise "BadRule" (.cons (.lit (.int 0)) (.cons (.fld (.var 0) "at") .nil))) .nil) .nil)
   (.cons (.yY (.var 0) "at" .add (.lit (.int 1)))
   (.cons (.ret (.ix (.fld (.var 0) "text") (.bin .sub (.fld (.var 0) "at") (.lit (.int 1))))) .nil)))
noncomputable def hU:du:=(.cons (.set 1 (.lst (.cons (.cA "Reader" "row" "Reader.row" (.var 0) .nil) .nil)))
   (.cons (.yZ (.cG (.cA "Reader" "sees" "Reader.sees" (.var 0) (.cons (.lit (.str [124])) .nil))) (.cons (.ex (.cA "Reader" "passes" "Reader.passes" (.var 0) (.cons (.lit (.str [124])) .nil)))
     (.cons (.ex (.kH .append (.var 1) (.cons (.cA "Reader" "row" "Reader.row" (.var 0) .nil) .nil))) .nil)))
   (.cons (.ret (.call "joined" (.cons (.lit (.str [111,114])) (.cons (.var 1) .nil)))) .nil)))
noncomputable def jF:du:=(.cons (.set 1 (.lst (.cons (.cA "Reader" "repeat" "Reader.repeat" (.var 0) .nil) .nil)))
   (.cons (.yZ (.and (.cG (.cmp .lt (.fld (.var 0) "at") (.blt .len (.cons (.fld (.var 0) "text") .nil)))) (.not (.cG (.cA "Reader" "sees" "Reader.sees" (.var 0) (.cons (.lit (.str [124,41])) .nil))))) (.cons (.ex (.kH .append (.var 1) (.cons (.cA "Reader" "repeat" "Reader.repeat" (.var 0) .nil) .nil))) .nil))
   (.cons (.ret (.call "joined" (.cons (.lit (.str [114,111,119])) (.cons (.var 1) .nil)))) .nil)))
noncomputable def ic:du:=(.cons (.set 1 (.cA "Reader" "atom" "Reader.atom" (.var 0) .nil))
   (.cons (.yZ (.cG (.cA "Reader" "sees" "Reader.sees" (.var 0) (.cons (.lit (.str [42,43,63])) .nil))) (.cons (.set 1 (.tup (.cons (.ix (.lit (.tab [([42],[115,116,97,114]),([43],[112,108,117,115]),([63],[109,97,121,98,101])])) (.cA "Reader" "passes" "Reader.passes" (.var 0) (.cons (.lit (.str [42,43,63])) .nil))) (.cons (.var 1) .nil)))) .nil))
   (.cons (.ret (.var 1)) .nil)))
noncomputable def i3:du:=(.cons (.ifs (.cG (.cA "Reader" "sees" "Reader.sees" (.var 0) (.cons (.lit (.str [40])) .nil))) (.cons (.ret (.cA "Reader" "bracket" "Reader.bracket" (.var 0) .nil)) .nil) .nil)
   (.cons (.ifs (.cG (.cA "Reader" "sees" "Reader.sees" (.var 0) (.cons (.lit (.str [91])) .nil))) (.cons (.ret (.tup (.cons (.lit (.str [111,110,101])) (.cons (.cA "Reader" "sign_class" "Reader.sign_class" (.var 0) .nil) .nil)))) .nil) .nil)
   (.cons (.ifs (.cG (.cA "Reader" "sees" "Reader.sees" (.var 0) (.cons (.lit (.str [46])) .nil))) (.cons (.ex (.cA "Reader" "passes" "Reader.passes" (.var 0) (.cons (.lit (.str [46])) .nil)))
     (.cons (.ret (.tup (.cons (.lit (.str [111,110,101])) (.cons (.call "all_but" (.cons (.lit (.str [10])) .nil)) .nil)))) .nil)) .nil)
   (.cons (.ret (.tup (.cons (.lit (.str [111,110,101])) (.cons (.cA "Reader" "written_sign" "Reader.written_sign" (.var 0) (.cons (.lit (.str [46,124,40,41,91,93,42,43,63,92])) .nil)) .nil)))) .nil))))
noncomputable def gD:du:=(.cons (.ifs (.cG (.cmp .eq (.fld (.var 0) "depth") (.lit (.int 6)))) (.cons (.raise "BadRule" (.cons (.lit (.int 0)) (.cons (.fld (.var 0) "at") .nil))) .nil) .nil)
   (.cons (.ex (.cA "Reader" "passes" "Reader.passes" (.var 0) (.cons (.lit (.str [40])) .nil)))
   (.cons (.yY (.var 0) "depth" .add (.lit (.int 1)))
   (.cons (.set 1 (.cA "Reader" "choice" "Reader.choice" (.var 0) .nil))
   (.cons (.ex (.cA "Reader" "passes" "Reader.passes" (.var 0) (.cons (.lit (.str [41])) .nil)))
   (.cons (.yY (.var 0) "depth" .sub (.lit (.int 1)))
   (.cons (.ret (.var 1)) .nil)))))))
noncomputable def eJ:du:=(.cons (.ex (.cA "Reader" "passes" "Reader.passes" (.var 0) (.cons (.lit (.str [91])) .nil)))
   (.cons (.set 1 (.cA "Reader" "sees" "Reader.sees" (.var 0) (.cons (.lit (.str [94])) .nil)))
   (.cons (.ifs (.cG (.var 1)) (.cons (.ex (.cA "Reader" "passes" "Reader.passes" (.var 0) (.cons (.lit (.str [94])) .nil))) .nil) .nil)
   (.cons (.set 2 (.cA "Reader" "item" "Reader.item" (.var 0) .nil))
   (.cons (.yZ (.not (.cG (.cA "Reader" "sees" "Reader.sees" (.var 0) (.cons (.lit (.str [93])) .nil)))) (.cons (.aug 2 .add (.cA "Reader" "item" "Reader.item" (.var 0) .nil)) .nil))
   (.cons (.ex (.cA "Reader" "passes" "Reader.passes" (.var 0) (.cons (.lit (.str [93])) .nil)))
   (.cons (.ret (.zZ (.cG (.var 1)) (.call "all_but" (.cons (.var 2) .nil)) (.call "in_order" (.cons (.var 2) .nil)))) .nil)))))))
noncomputable def i4:du:=(.cons (.set 1 (.cA "Reader" "written_sign" "Reader.written_sign" (.var 0) (.cons (.lit (.str [93,45,92])) .nil)))
   (.cons (.ifs (.not (.cG (.cA "Reader" "sees" "Reader.sees" (.var 0) (.cons (.lit (.str [45])) .nil)))) (.cons (.ret (.var 1)) .nil) .nil)
   (.cons (.ex (.cA "Reader" "passes" "Reader.passes" (.var 0) (.cons (.lit (.str [45])) .nil)))
   (.cons (.set 2 (.fld (.var 0) "at"))
   (.cons (.set 3 (.cA "Reader" "written_sign" "Reader.written_sign" (.var 0) (.cons (.lit (.str [93,45,92])) .nil)))
   (.cons (.ifs (.cG (.call "is_ahead" (.cons (.var 3) (.cons (.var 1) .nil)))) (.cons (.raise "BadRule" (.cons (.lit (.int 0)) (.cons (.var 2) .nil))) .nil) .nil)
   (.cons (.ret (.call "stretch" (.cons (.var 1) (.cons (.var 3) .nil)))) .nil)))))))
noncomputable def dO:du:=(.cons (.ifs (.not (.cG (.cA "Reader" "sees" "Reader.sees" (.var 0) (.cons (.lit (.str [92])) .nil)))) (.cons (.ret (.cA "Reader" "passes" "Reader.passes" (.var 0) (.cons (.call "all_but" (.cons (.var 1) .nil)) .nil))) .nil) .nil)
   (.cons (.ex (.cA "Reader" "passes" "Reader.passes" (.var 0) (.cons (.lit (.str [92])) .nil)))
   (.cons (.set 2 (.cA "Reader" "passes" "Reader.passes" (.var 0) (.cons (.lit (.str [46,124,40,41,91,93,42,43,63,92,45,94,110])) .nil)))
   (.cons (.ret (.zZ (.cG (.cmp .eq (.var 2) (.lit (.str [110])))) (.lit (.str [10])) (.var 2))) .nil))))
end PL
end
section
namespace PL
noncomputable def n6:du:=(.cons (.ifs (.cG (.cmp .eq (.ix (.var 0) (.lit (.int 0))) (.lit (.str [111,114])))) (.cons (.ret (.kH .join (.lit (.str [124])) (.cons (.comp false (.call "row_text" (.cons (.var 0) .nil)) (.val (.ix (.var 0) (.lit (.int 1)))) (.cG (.lit (.bl true))) []) .nil))) .nil) .nil)
   (.cons (.ret (.call "row_text" (.cons (.var 0) .nil))) .nil))
noncomputable def mn:du:=(.cons (.ifs (.cG (.cmp .eq (.ix (.var 0) (.lit (.int 0))) (.lit (.str [114,111,119])))) (.cons (.ret (.kH .join (.lit (.str [])) (.cons (.comp false (.call "repeat_text" (.cons (.var 0) .nil)) (.val (.ix (.var 0) (.lit (.int 1)))) (.cG (.lit (.bl true))) []) .nil))) .nil) .nil)
   (.cons (.ret (.call "repeat_text" (.cons (.var 0) .nil))) .nil))
noncomputable def i5:du:=(.cons (.set 1 (.lit (.str [])))
   (.cons (.set 2 (.var 0))
   (.cons (.yZ (.cG (.cmp .isin (.ix (.var 2) (.lit (.int 0))) (.lit (.tab [([115,116,97,114],[42]),([112,108,117,115],[43]),([109,97,121,98,101],[63])])))) (.cons (.set 1 (.bin .add (.ix (.lit (.tab [([115,116,97,114],[42]),([112,108,117,115],[43]),([109,97,121,98,101],[63])])) (.ix (.var 2) (.lit (.int 0)))) (.var 1)))
     (.cons (.set 2 (.ix (.var 2) (.lit (.int 1)))) .nil)))
   (.cons (.ret (.bin .add (.call "atom_text" (.cons (.var 2) .nil)) (.var 1))) .nil))))
noncomputable def kK:du:=(.cons (.ifs (.cG (.cmp .eq (.ix (.var 0) (.lit (.int 0))) (.lit (.str [111,110,101])))) (.cons (.ret (.call "place_text" (.cons (.ix (.var 0) (.lit (.int 1))) .nil))) .nil) .nil)
   (.cons (.ret (.bin .add (.bin .add (.lit (.str [40])) (.call "written" (.cons (.var 0) .nil))) (.lit (.str [41])))) .nil))
noncomputable def jG:du:=(.cons (.ifs (.cG (.cmp .eq (.blt .len (.cons (.var 0) .nil)) (.lit (.int 1)))) (.cons (.ret (.call "sign_text" (.cons (.var 0) (.cons (.lit (.str [46,124,40,41,91,93,42,43,63,92])) .nil)))) .nil) .nil)
   (.cons (.ifs (.cG (.cmp .eq (.var 0) (.call "all_but" (.cons (.lit (.str [10])) .nil)))) (.cons (.ret (.lit (.str [46]))) .nil) .nil)
   (.cons (.ret (.blt .tm (.cons (.call "class_texts" (.cons (.var 0) .nil)) .nil))) .nil)))
noncomputable def kL:du:=(.cons (.ret (.zZ (.cG (.cmp .isin (.var 0) (.var 1))) (.bin .add (.lit (.str [92])) (.var 0)) (.var 0))) .nil)
noncomputable def i6:du:=(.cons (.set 1 (.lst .nil))
   (.cons (.ifs (.cG (.cmp .ne (.var 0) (.lit (.str [])))) (.cons (.ex (.kH .append (.var 1) (.cons (.bin .add (.bin .add (.lit (.str [91])) (.call "guarded" (.cons (.call "class_items" (.cons (.var 0) .nil)) .nil))) (.lit (.str [93]))) .nil))) .nil) .nil)
   (.cons (.ifs (.cG (.cmp .ne (.var 0) (.lit (.str SG)))) (.cons (.ex (.kH .append (.var 1) (.cons (.bin .add (.bin .add (.lit (.str [91,94])) (.kH .join (.lit (.str [])) (.cons (.call "class_items" (.cons (.call "all_but" (.cons (.var 0) .nil)) .nil)) .nil))) (.lit (.str [93]))) .nil))) .nil) .nil)
   (.cons (.ret (.var 1)) .nil))))
noncomputable def n8:du:=(.cons (.ifs (.not (.cG (.kH .startswith (.ix (.var 0) (.lit (.int 0))) (.cons (.lit (.str [94])) .nil)))) (.cons (.ret (.kH .join (.lit (.str [])) (.cons (.var 0) .nil))) .nil) .nil)
   (.cons (.ifs (.cG (.cmp .eq (.blt .len (.cons (.var 0) .nil)) (.lit (.int 1)))) (.cons (.ret (.bin .add (.lit (.str [92])) (.ix (.var 0) (.lit (.int 0))))) .nil) .nil)
   (.cons (.ret (.bin .add (.kH .join (.lit (.str [])) (.cons (.sl (.var 0) (.e (.lit (.int 1))) .no) .nil)) (.ix (.var 0) (.lit (.int 0))))) .nil)))
noncomputable def i7:du:=(.cons (.set 1 (.lst .nil))
   (.cons (.ji (.name 2) (.val (.call "runs" (.cons (.var 0) .nil))) (.cons (.ex (.kH .extend (.var 1) (.cons (.call "run_items" (.cons (.var 2) .nil)) .nil))) .nil))
   (.cons (.ret (.var 1)) .nil)))
noncomputable def xN:du:=(.cons (.set 1 (.lst .nil))
   (.cons (.set 2 (.lit (.str [])))
   (.cons (.ji (.name 3) (.val (.var 0)) (.cons (.ifs (.cG (.cmp .mJ (.bin .add (.var 2) (.var 3)) (.lit (.str SG)))) (.cons (.ex (.kH .append (.var 1) (.cons (.var 2) .nil)))
       (.cons (.set 2 (.lit (.str []))) .nil)) .nil)
     (.cons (.aug 2 .add (.var 3)) .nil)))
   (.cons (.ex (.kH .append (.var 1) (.cons (.var 2) .nil)))
   (.cons (.ret (.var 1)) .nil)))))
noncomputable def kM:du:=(.cons (.set 1 (.comp false (.call "sign_text" (.cons (.var 0) (.cons (.lit (.str [93,45,92])) .nil))) (.val (.var 0)) (.cG (.lit (.bl true))) []))
   (.cons (.set 2 (.bin .add (.bin .add (.call "sign_text" (.cons (.ix (.var 0) (.lit (.int 0))) (.cons (.lit (.str [93,45,92])) .nil))) (.lit (.str [45]))) (.call "sign_text" (.cons (.ix (.var 0) (.neg (.lit (.int 1)))) (.cons (.lit (.str [93,45,92])) .nil)))))
   (.cons (.ret (.zZ (.cG (.cmp .le (.blt .len (.cons (.kH .join (.lit (.str [])) (.cons (.var 1) .nil)) .nil)) (.blt .len (.cons (.var 2) .nil)))) (.var 1) (.lst (.cons (.var 2) .nil)))) .nil)))
end PL
end
section
namespace PL.pK
noncomputable def kN:du:=(.cons (.ifs (.cG (.var 0)) (.cons (.ret (.ix (.var 0) (.bin .mod (.var 1) (.blt .len (.cons (.var 0) .nil))))) .nil) .nil)
   (.cons (.ret (.lit (.int 0))) .nil))
noncomputable def mq:du:=(.cons (.set 2 (.bin .mod (.bin .add (.call "_law_cell" (.cons (.var 0) (.cons (.var 1) .nil))) (.bin .mul (.lit (.int 104729)) (.bin .add (.var 1) (.lit (.int 1))))) (.lit (.int 4294967291))))
   (.cons (.set 2 (.bin .mod (.bin .mul (.var 2) (.lit (.int 48271))) (.lit (.int 4294967279))))
   (.cons (.ret (.bin .mod (.bin .add (.bin .mul (.bin .fdiv (.var 2) (.lit (.int 64))) (.lit (.int 69621))) (.var 2)) (.lit (.int 4294967231)))) .nil)))
noncomputable def mv:du:=(.cons (.ret (.and (.yX (.var 0) [.int]) (.not (.yX (.var 0) [.bool])))) .nil)
noncomputable def mw:du:=(.cons (.set 0 (.lit (.str W9)))
   (.cons (.ret (.bin .add (.lit (.str [10])) (.var 0))) .nil))
noncomputable def zf:du:=(.cons (.set 1 (.call "_law_grown" (.cons (.var 0) .nil)))
   (.cons (.ifs (.cG (.cmp .eq (.bin .mod (.call "_law_mix" (.cons (.var 0) (.cons (.lit (.int 60)) .nil))) (.lit (.int 2))) (.lit (.int 0)))) (.cons (.set 1 (.sl (.call "_law_told" (.cons (.var 0) (.cons (.lit (.int 1)) (.cons (.call "_law_tree" (.cons (.var 0) (.cons (.lit (.int 0)) (.cons (.lit (.int 2)) .nil)))) .nil)))) .no (.e (.lit (.int 60)))))
     (.cons (.set 2 (.bin .mod (.call "_law_mix" (.cons (.var 0) (.cons (.lit (.int 61)) .nil))) (.bin .add (.blt .len (.cons (.var 1) .nil)) (.lit (.int 1)))))
     (.cons (.set 3 (.ix (.lit (.str [97,98,40,41,124,91,93,42,43,63,46,92,45,94,110,48,10,126])) (.bin .mod (.call "_law_mix" (.cons (.var 0) (.cons (.lit (.int 62)) .nil))) (.lit (.int 18)))))
     (.cons (.set 4 (.bin .add (.bin .add (.sl (.var 1) .no (.e (.var 2))) (.var 3)) (.sl (.var 1) (.e (.bin .add (.var 2) (.lit (.int 1)))) .no)))
     (.cons (.set 1 (.ix (.lst (.cons (.var 1) (.cons (.var 4) (.cons (.bin .add (.sl (.var 1) .no (.e (.var 2))) (.sl (.var 1) (.e (.bin .add (.var 2) (.lit (.int 1)))) .no)) (.cons (.bin .add (.bin .add (.sl (.var 1) .no (.e (.var 2))) (.var 3)) (.sl (.var 1) (.e (.var 2)) .no)) .nil))))) (.bin .mod (.var 2) (.lit (.int 4))))) .nil))))) .nil)
   (.cons (.set 5 (.call "_law_fault" (.cons (.var 1) .nil)))
   (.cons (.set 6 (.neg (.lit (.int 1))))
   (.cons (.KQ (.cons (.ex (.call "read" (.cons (.var 1) .nil))) .nil) "TokenError" 7 (.cons (.set 6 (.neg (.lit (.int 2))))
     (.cons (.ifs (.and (.cG (.yX (.var 7) [.own "BadRule"])) (.and (.cG (.yX (.var 7) [.AH])) (.not (.cG (.yX (.var 7) [.own "NoToken",.own "TakesNothing",.own "TooMany"]))))) (.cons (.set 6 (.zZ (.cG (.cmp .eq (.fld (.var 7) "rule") (.lit (.int 0)))) (.fld (.var 7) "at") (.neg (.lit (.int 2))))) .nil) .nil) .nil)))
   (.cons (.ret (.and (.call "_law_whole" (.cons (.var 6) .nil)) (.cmp .eq (.var 6) (.var 5)))) .nil))))))
end PL.pK
end
section
namespace PL.jr
noncomputable def kO:du:=(.cons (.set 2 (.mk "Layout" "Layout.__init__" .nil))
   (.cons (.ji (.pair 3 4) (.enum (.sl (.var 0) .no (.e (.lit (.int 6))))) (.cons (.set 5 (.cA "Layout" "lay" "Layout.lay" (.var 2) (.cons (.call "tree_of" (.cons (.var 4) (.cons (.var 3) .nil))) .nil)))
     (.cons (.ifs (.cG (.fld (.var 5) "empty")) (.cons (.raise "TakesNothing" (.cons (.var 3) .nil)) .nil) .nil)
     (.cons (.ifs (.cG (.cmp .gt (.cA "Layout" "how_many" "Layout.how_many" (.var 2) .nil) (.var 1))) (.cons (.raise "TooMany" (.cons (.var 3) .nil)) .nil) .nil)
     (.cons (.ex (.cA "Layout" "close_rule" "Layout.close_rule" (.var 2) (.cons (.var 5) .nil))) .nil)))))
   (.cons (.ifs (.cG (.cmp .gt (.blt .len (.cons (.var 0) .nil)) (.lit (.int 6)))) (.cons (.raise "TooMany" (.cons (.lit (.int 6)) .nil)) .nil) .nil)
   (.cons (.ret (.mk "Places" "Places.__init__" (.cons (.var 2) .nil))) .nil))))
noncomputable def n9:du:=(.cons (.KQ (.cons (.ret (.call "read" (.cons (.var 0) .nil))) .nil) "BadRule" 2 (.cons (.ex (.ix (.lit .bQ) (.lit .bQ))) .nil)) .nil)
noncomputable def oa:du:=(.cons (.ret (.comp false (.var 0) (.range (.kH .mh (.var 0) .nil)) (.cG (.bin .band (.bin .shr (.var 1) (.var 0)) (.lit (.int 1)))) [0])) .nil)
noncomputable def kP:du:=(.cons (.jU (.var 0) "empty" (.var 1))
   (.cons (.jU (.var 0) "firsts" (.var 2))
   (.cons (.jU (.var 0) "lasts" (.var 3)) .nil)))
noncomputable def fq:du:=(.cons (.set 2 (.zZ (.cG (.fld (.var 0) "empty")) (.bin .bor (.fld (.var 0) "firsts") (.fld (.var 1) "firsts")) (.fld (.var 0) "firsts")))
   (.cons (.set 3 (.zZ (.cG (.fld (.var 1) "empty")) (.bin .bor (.fld (.var 0) "lasts") (.fld (.var 1) "lasts")) (.fld (.var 1) "lasts")))
   (.cons (.ret (.mk "Part" "Part.__init__" (.cons (.and (.fld (.var 0) "empty") (.fld (.var 1) "empty")) (.cons (.var 2) (.cons (.var 3) .nil))))) .nil)))
noncomputable def iF:du:=(.cons (.ret (.mk "Part" "Part.__init__" (.cons (.or (.fld (.var 0) "empty") (.fld (.var 1) "empty")) (.cons (.bin .bor (.fld (.var 0) "firsts") (.fld (.var 1) "firsts")) (.cons (.bin .bor (.fld (.var 0) "lasts") (.fld (.var 1) "lasts")) .nil))))) .nil)
noncomputable def i8:du:=(.cons (.jU (.var 0) "signs" (.lst (.cons (.lit (.str [])) .nil)))
   (.cons (.jU (.var 0) "behind" (.lst (.cons (.lit (.int 0)) .nil)))
   (.cons (.jU (.var 0) "ends" (.lst .nil)) .nil)))
noncomputable def fQ:du:=(.cons (.ret (.bin .sub (.blt .len (.cons (.fld (.var 0) "signs") .nil)) (.lit (.int 1)))) .nil)
noncomputable def eL:du:=(.cons (.C9 (.fld (.var 0) "behind") (.lit (.int 0)) .bor (.fld (.var 1) "firsts"))
   (.cons (.ex (.kH .append (.fld (.var 0) "ends") (.cons (.fld (.var 1) "lasts") .nil))) .nil))
noncomputable def i9:du:=(.cons (.ji (.name 3) (.val (.call "members" (.cons (.var 1) .nil))) (.cons (.C9 (.fld (.var 0) "behind") (.var 3) .bor (.var 2)) .nil)) .nil)
noncomputable def jH:du:=(.cons (.ifs (.cG (.cmp .eq (.ix (.var 1) (.lit (.int 0))) (.lit (.str [111,110,101])))) (.cons (.ret (.cA "Layout" "lay_place" "Layout.lay_place" (.var 0) (.cons (.ix (.var 1) (.lit (.int 1))) .nil))) .nil) .nil)
   (.cons (.ifs (.cG (.cmp .eq (.ix (.var 1) (.lit (.int 0))) (.lit (.str [114,111,119])))) (.cons (.ret (.cA "Layout" "lay_row" "Layout.lay_row" (.var 0) (.cons (.ix (.var 1) (.lit (.int 1))) .nil))) .nil) .nil)
   (.cons (.ifs (.cG (.cmp .eq (.ix (.var 1) (.lit (.int 0))) (.lit (.str [111,114])))) (.cons (.ret (.cA "Layout" "lay_choice" "Layout.lay_choice" (.var 0) (.cons (.ix (.var 1) (.lit (.int 1))) .nil))) .nil) .nil)
   (.cons (.ret (.cA "Layout" "lay_repeat" "Layout.lay_repeat" (.var 0) (.cons (.var 1) .nil))) .nil))))
noncomputable def fu:du:=(.cons (.set 2 (.bin .shl (.lit (.int 1)) (.blt .len (.cons (.fld (.var 0) "signs") .nil))))
   (.cons (.ex (.kH .append (.fld (.var 0) "signs") (.cons (.var 1) .nil)))
   (.cons (.ex (.kH .append (.fld (.var 0) "behind") (.cons (.lit (.int 0)) .nil)))
   (.cons (.ret (.mk "Part" "Part.__init__" (.cons (.lit (.bl false)) (.cons (.var 2) (.cons (.var 2) .nil))))) .nil))))
noncomputable def gE:du:=(.cons (.set 2 (.mk "Part" "Part.__init__" (.cons (.lit (.bl true)) (.cons (.lit (.int 0)) (.cons (.lit (.int 0)) .nil)))))
   (.cons (.ji (.name 3) (.val (.var 1)) (.cons (.set 4 (.cA "Layout" "lay" "Layout.lay" (.var 0) (.cons (.var 3) .nil)))
     (.cons (.ex (.cA "Layout" "link" "Layout.link" (.var 0) (.cons (.fld (.var 2) "lasts") (.cons (.fld (.var 4) "firsts") .nil))))
     (.cons (.set 2 (.call "one_behind_other" (.cons (.var 2) (.cons (.var 4) .nil)))) .nil))))
   (.cons (.ret (.var 2)) .nil)))
noncomputable def eM:du:=(.cons (.set 2 (.mk "Part" "Part.__init__" (.cons (.lit (.bl false)) (.cons (.lit (.int 0)) (.cons (.lit (.int 0)) .nil)))))
   (.cons (.ji (.name 3) (.val (.var 1)) (.cons (.set 2 (.call "one_or_other" (.cons (.var 2) (.cons (.cA "Layout" "lay" "Layout.lay" (.var 0) (.cons (.var 3) .nil)) .nil)))) .nil))
   (.cons (.ret (.var 2)) .nil)))
noncomputable def eO:du:=(.cons (.set 2 (.lst .nil))
   (.cons (.set 3 (.var 1))
   (.cons (.yZ (.cG (.cmp .isin (.ix (.var 3) (.lit (.int 0))) (.tup (.cons (.lit (.str [115,116,97,114])) (.cons (.lit (.str [112,108,117,115])) (.cons (.lit (.str [109,97,121,98,101])) .nil)))))) (.cons (.ex (.kH .append (.var 2) (.cons (.ix (.var 3) (.lit (.int 0))) .nil)))
     (.cons (.set 3 (.ix (.var 3) (.lit (.int 1)))) .nil)))
   (.cons (.set 4 (.cA "Layout" "lay" "Layout.lay" (.var 0) (.cons (.var 3) .nil)))
   (.cons (.ifs (.or (.cG (.cmp .isin (.lit (.str [115,116,97,114])) (.var 2))) (.cG (.cmp .isin (.lit (.str [112,108,117,115])) (.var 2)))) (.cons (.ex (.cA "Layout" "link" "Layout.link" (.var 0) (.cons (.fld (.var 4) "lasts") (.cons (.fld (.var 4) "firsts") .nil)))) .nil) .nil)
   (.cons (.set 5 (.or (.fld (.var 4) "empty") (.or (.cmp .isin (.lit (.str [115,116,97,114])) (.var 2)) (.cmp .isin (.lit (.str [109,97,121,98,101])) (.var 2)))))
   (.cons (.ret (.mk "Part" "Part.__init__" (.cons (.var 5) (.cons (.fld (.var 4) "firsts") (.cons (.fld (.var 4) "lasts") .nil))))) .nil)))))))
noncomputable def ie:du:=(.cons (.set 1 (.blt .sum (.cons (.comp true (.bin .shl (.lit (.int 1)) (.var 0)) (.enum (.fld (.var 0) "signs")) (.cG (.cmp .ne (.var 1) (.lit (.str [])))) []) .nil)))
   (.cons (.set 2 (.lit (.int 0)))
   (.cons (.ji (.name 3) (.val (.fld (.var 0) "ends")) (.cons (.aug 2 .bor (.bin .band (.var 3) (.var 1))) .nil))
   (.cons (.set 4 (.lit (.int 0)))
   (.cons (.yZ (.cG (.cmp .ne (.var 2) (.var 4))) (.cons (.set 4 (.var 2))
     (.cons (.ji (.name 5) (.val (.call "members" (.cons (.var 1) .nil))) (.cons (.ifs (.cG (.bin .band (.ix (.fld (.var 0) "behind") (.var 5)) (.var 4))) (.cons (.aug 2 .bor (.bin .shl (.lit (.int 1)) (.var 5))) .nil) .nil) .nil)) .nil)))
   (.cons (.ret (.var 4)) .nil))))))
noncomputable def fw:du:=(.cons (.ret (.blt .sum (.cons (.comp true (.bin .shl (.lit (.int 1)) (.var 0)) (.enum (.fld (.var 0) "signs")) (.cG (.cmp .isin (.var 2) (.var 1))) [1]) .nil))) .nil)
noncomputable def ja:du:=(.cons (.set 2 (.call "useful_places" (.cons (.var 1) .nil)))
   (.cons (.jU (.var 0) "behind" (.comp false (.bin .band (.var 0) (.var 1)) (.val (.fld (.var 1) "behind")) (.cG (.lit (.bl true))) [2]))
   (.cons (.jU (.var 0) "ends" (.blt .list (.cons (.fld (.var 1) "ends") .nil)))
   (.cons (.jU (.var 0) "takers" (.blt .dict (.cons (.comp false (.tup (.cons (.var 0) (.cons (.call "places_that_take" (.cons (.var 1) (.cons (.var 0) .nil))) .nil))) (.val (.lit (.str SG))) (.cG (.lit (.bl true))) [1]) .nil))) .nil))))
noncomputable def ig:du:=(.cons (.set 2 (.lit (.int 0)))
   (.cons (.ji (.name 3) (.val (.call "members" (.cons (.var 1) .nil))) (.cons (.aug 2 .bor (.ix (.fld (.var 0) "behind") (.var 3))) .nil))
   (.cons (.ret (.var 2)) .nil)))
noncomputable def eP:du:=(.cons (.ji (.pair 2 3) (.enum (.fld (.var 0) "ends")) (.cons (.ifs (.cG (.bin .band (.var 1) (.var 3))) (.cons (.ret (.var 2)) .nil) .nil) .nil))
   (.cons (.ret (.lit .bQ)) .nil))
noncomputable def kQ:du:=(.cons (.jU (.var 0) "places" (.var 1))
   (.cons (.jU (.var 0) "reach" (.cA "Places" "beyond" "Places.beyond" (.var 1) (.cons (.lit (.int 1)) .nil)))
   (.cons (.jU (.var 0) "passed" (.lit (.int 0)))
   (.cons (.jU (.var 0) "found" (.lit .bQ)) .nil))))
noncomputable def gF:du:=(.cons (.ret (.cmp .ne (.fld (.var 0) "reach") (.lit (.int 0)))) .nil)
noncomputable def jI:du:=(.cons (.yZ (.and (.cG (.cA "Walk" "may_go_on" "Walk.may_go_on" (.var 0) .nil)) (.cG (.cmp .lt (.fld (.var 0) "passed") (.blt .len (.cons (.var 1) .nil))))) (.cons (.ex (.cA "Walk" "step" "Walk.step" (.var 0) (.cons (.ix (.var 1) (.fld (.var 0) "passed")) .nil))) .nil)) .nil)
noncomputable def kR:du:=(.cons (.set 2 (.bin .band (.fld (.var 0) "reach") (.kH .get (.fld (.fld (.var 0) "places") "takers") (.cons (.var 1) (.cons (.lit (.int 0)) .nil)))))
   (.cons (.jU (.var 0) "reach" (.cA "Places" "beyond" "Places.beyond" (.fld (.var 0) "places") (.cons (.var 2) .nil)))
   (.cons (.yY (.var 0) "passed" .add (.lit (.int 1)))
   (.cons (.set 3 (.cA "Places" "first_rule" "Places.first_rule" (.fld (.var 0) "places") (.cons (.var 2) .nil)))
   (.cons (.ifs (.cG (.cmp .xy (.var 3) (.lit .bQ))) (.cons (.jU (.var 0) "found" (.tup (.cons (.var 3) (.cons (.fld (.var 0) "passed") .nil)))) .nil) .nil) .nil)))))
noncomputable def jJ:du:=(.cons (.jU (.var 0) "places" (.call "places_of" (.cons (.var 1) (.cons (.lit (.int 24)) .nil)))) .nil)
noncomputable def jb:du:=(.cons (.set 3 (.mk "Walk" "Walk.__init__" (.cons (.fld (.var 0) "places") .nil)))
   (.cons (.ex (.cA "Walk" "along" "Walk.along" (.var 3) (.cons (.sl (.var 1) (.e (.var 2)) .no) .nil)))
   (.cons (.ret (.fld (.var 3) "found")) .nil)))
noncomputable def iG:du:=(.cons (.set 2 (.lst .nil))
   (.cons (.set 3 (.lit (.int 0)))
   (.cons (.yZ (.cG (.cmp .lt (.var 3) (.blt .len (.cons (.var 1) .nil)))) (.cons (.set 4 (.cA "Lexer" "token" "Lexer.token" (.var 0) (.cons (.var 1) (.cons (.var 3) .nil))))
     (.cons (.ifs (.cG (.cmp .HC (.var 4) (.lit .bQ))) (.cons (.raise "NoToken" (.cons (.var 3) .nil)) .nil) .nil)
     (.cons (.ex (.kH .append (.var 2) (.cons (.tup (.cons (.ix (.var 4) (.lit (.int 0))) (.cons (.sl (.var 1) (.e (.var 3)) (.e (.bin .add (.var 3) (.ix (.var 4) (.lit (.int 1)))))) .nil))) .nil)))
     (.cons (.aug 3 .add (.ix (.var 4) (.lit (.int 1)))) .nil)))))
   (.cons (.ret (.var 2)) .nil))))
noncomputable def iH:du:=(.cons (.ifs (.cG (.cmp .eq (.ix (.var 0) (.lit (.int 0))) (.lit (.str [111,110,101])))) (.cons (.ret (.lit (.bl false))) .nil) .nil)
   (.cons (.ifs (.cG (.cmp .eq (.ix (.var 0) (.lit (.int 0))) (.lit (.str [114,111,119])))) (.cons (.ret (.blt .all (.cons (.comp false (.call "_law_nothing" (.cons (.var 0) .nil)) (.val (.ix (.var 0) (.lit (.int 1)))) (.cG (.lit (.bl true))) []) .nil))) .nil) .nil)
   (.cons (.ifs (.cG (.cmp .eq (.ix (.var 0) (.lit (.int 0))) (.lit (.str [111,114])))) (.cons (.ret (.blt .any (.cons (.comp false (.call "_law_nothing" (.cons (.var 0) .nil)) (.val (.ix (.var 0) (.lit (.int 1)))) (.cG (.lit (.bl true))) []) .nil))) .nil) .nil)
   (.cons (.ret (.or (.cmp .isin (.ix (.var 0) (.lit (.int 0))) (.tup (.cons (.lit (.str [115,116,97,114])) (.cons (.lit (.str [109,97,121,98,101])) .nil)))) (.call "_law_nothing" (.cons (.ix (.var 0) (.lit (.int 1))) .nil)))) .nil))))
noncomputable def jc:du:=(.cons (.ifs (.cG (.cmp .eq (.ix (.var 0) (.lit (.int 0))) (.lit (.str [111,110,101])))) (.cons (.ret (.zZ (.cG (.cmp .isin (.var 1) (.ix (.var 0) (.lit (.int 1))))) (.lst (.cons (.tup .nil) .nil)) (.lst .nil))) .nil) .nil)
   (.cons (.ifs (.cG (.cmp .eq (.ix (.var 0) (.lit (.int 0))) (.lit (.str [111,114])))) (.cons (.set 2 (.lst .nil))
     (.cons (.ji (.name 3) (.val (.ix (.var 0) (.lit (.int 1)))) (.cons (.set 2 (.bin .add (.var 2) (.call "_law_behind" (.cons (.var 3) (.cons (.var 1) .nil))))) .nil))
     (.cons (.ret (.var 2)) .nil))) .nil)
   (.cons (.ifs (.cG (.cmp .eq (.ix (.var 0) (.lit (.int 0))) (.lit (.str [114,111,119])))) (.cons (.set 2 (.lst .nil))
     (.cons (.ji (.name 4) (.range (.blt .len (.cons (.ix (.var 0) (.lit (.int 1))) .nil))) (.cons (.set 2 (.bin .add (.var 2) (.comp false (.bin .add (.var 0) (.sl (.ix (.var 1) (.lit (.int 1))) (.e (.bin .add (.var 2) (.lit (.int 1)))) .no)) (.val (.call "_law_behind" (.cons (.ix (.ix (.var 0) (.lit (.int 1))) (.var 4)) (.cons (.var 1) .nil)))) (.cG (.lit (.bl true))) [0,4])))
       (.cons (.ifs (.not (.cG (.call "_law_nothing" (.cons (.ix (.ix (.var 0) (.lit (.int 1))) (.var 4)) .nil)))) (.cons (.ret (.var 2)) .nil) .nil) .nil)))
     (.cons (.ret (.var 2)) .nil))) .nil)
   (.cons (.set 5 (.zZ (.cG (.cmp .eq (.ix (.var 0) (.lit (.int 0))) (.lit (.str [109,97,121,98,101])))) (.tup .nil) (.tup (.cons (.tup (.cons (.lit (.str [115,116,97,114])) (.cons (.ix (.var 0) (.lit (.int 1))) .nil))) .nil))))
   (.cons (.ret (.comp false (.bin .add (.var 0) (.var 1)) (.val (.call "_law_behind" (.cons (.ix (.var 0) (.lit (.int 1))) (.cons (.var 1) .nil)))) (.cG (.lit (.bl true))) [5])) .nil)))))
noncomputable def jK:du:=(.cons (.set 2 (.lst .nil))
   (.cons (.ji (.name 3) (.val (.var 0)) (.cons (.ji (.name 4) (.val (.call "_law_behind" (.cons (.tup (.cons (.lit (.str [114,111,119])) (.cons (.var 3) .nil))) (.cons (.var 1) .nil)))) (.cons (.ifs (.cG (.cmp .mJ (.var 4) (.var 2))) (.cons (.ex (.kH .append (.var 2) (.cons (.var 4) .nil))) .nil) .nil) .nil)) .nil))
   (.cons (.ret (.var 2)) .nil)))
noncomputable def kS:du:=(.cons (.ret (.blt .any (.cons (.comp false (.call "_law_nothing" (.cons (.tup (.cons (.lit (.str [114,111,119])) (.cons (.var 0) .nil))) .nil)) (.val (.var 0)) (.cG (.lit (.bl true))) []) .nil))) .nil)
noncomputable def jL:du:=(.cons (.set 3 (.lit .bQ))
   (.cons (.set 4 (.comp false (.lst (.cons (.tup (.cons (.var 0) .nil)) .nil)) (.val (.var 0)) (.cG (.lit (.bl true))) []))
   (.cons (.set 5 (.lit (.int 0)))
   (.cons (.yZ (.and (.cG (.cmp .lt (.bin .add (.var 2) (.var 5)) (.blt .len (.cons (.var 1) .nil)))) (.cG (.blt .any (.cons (.comp false (.cmp .ne (.var 0) (.lst .nil)) (.val (.var 4)) (.cG (.lit (.bl true))) []) .nil)))) (.cons (.set 4 (.comp false (.call "_law_rests" (.cons (.var 0) (.cons (.ix (.var 1) (.bin .add (.var 2) (.var 3))) .nil))) (.val (.var 4)) (.cG (.lit (.bl true))) [1,2,5]))
     (.cons (.set 5 (.bin .add (.var 5) (.lit (.int 1))))
     (.cons (.set 6 (.comp false (.var 0) (.range (.blt .len (.cons (.var 4) .nil))) (.cG (.call "_law_ends" (.cons (.ix (.var 1) (.var 0)) .nil))) [4]))
     (.cons (.ifs (.cG (.var 6)) (.cons (.set 3 (.tup (.cons (.ix (.var 6) (.lit (.int 0))) (.cons (.var 5) .nil)))) .nil) .nil) .nil)))))
   (.cons (.ret (.var 3)) .nil)))))
noncomputable def jM:du:=(.cons (.set 3 (.call "_law_mix" (.cons (.var 0) (.cons (.var 1) .nil))))
   (.cons (.set 4 (.bin .mod (.var 3) (.lit (.int 9))))
   (.cons (.ifs (.or (.cG (.cmp .eq (.var 2) (.lit (.int 0)))) (.cG (.cmp .lt (.var 4) (.lit (.int 4))))) (.cons (.ret (.tup (.cons (.lit (.str [111,110,101])) (.cons (.ix (.lst (.cons (.lit (.str [97])) (.cons (.lit (.str [98])) (.cons (.lit (.str [99])) (.cons (.lit (.str [97,98])) (.cons (.lit (.str [98,99])) (.cons (.call "_law_all" .nil) (.cons (.lit (.str [97])) (.cons (.lit (.str [98])) (.cons (.lit (.str [48])) (.cons (.lit (.str [])) .nil))))))))))) (.bin .mod (.bin .fdiv (.var 3) (.lit (.int 9))) (.lit (.int 10)))) .nil)))) .nil) .nil)
   (.cons (.ifs (.cG (.cmp .lt (.var 4) (.lit (.int 7)))) (.cons (.set 5 (.comp false (.call "_law_small" (.cons (.var 1) (.cons (.bin .add (.bin .add (.bin .mul (.lit (.int 2)) (.var 2)) (.lit (.int 1))) (.var 0)) (.cons (.bin .sub (.var 3) (.lit (.int 1))) .nil)))) (.range (.lit (.int 2))) (.cG (.lit (.bl true))) [0,1,2]))
     (.cons (.ret (.tup (.cons (.ix (.lst (.cons (.lit (.str [114,111,119])) (.cons (.lit (.str [111,114])) (.cons (.lit (.str [114,111,119])) .nil)))) (.bin .sub (.var 4) (.lit (.int 4)))) (.cons (.blt .tuple (.cons (.var 5) .nil)) .nil)))) .nil)) .nil)
   (.cons (.ret (.tup (.cons (.ix (.lst (.cons (.lit (.str [115,116,97,114])) (.cons (.lit (.str [112,108,117,115])) (.cons (.lit (.str [109,97,121,98,101])) .nil)))) (.bin .mod (.bin .fdiv (.var 3) (.lit (.int 9))) (.lit (.int 3)))) (.cons (.call "_law_small" (.cons (.var 0) (.cons (.bin .add (.bin .mul (.lit (.int 2)) (.var 1)) (.lit (.int 1))) (.cons (.bin .sub (.var 2) (.lit (.int 1))) .nil)))) .nil)))) .nil)))))
noncomputable def jN:du:=(.cons (.set 4 (.lst .nil))
   (.cons (.ji (.name 5) (.range (.var 2)) (.cons (.set 6 (.call "_law_small" (.cons (.var 0) (.cons (.bin .add (.var 1) (.bin .mul (.lit (.int 9)) (.var 5))) (.cons (.var 3) .nil)))))
     (.cons (.ifs (.cG (.call "_law_nothing" (.cons (.var 6) .nil))) (.cons (.set 6 (.tup (.cons (.lit (.str [114,111,119])) (.cons (.tup (.cons (.tup (.cons (.lit (.str [111,110,101])) (.cons (.ix (.lit (.str [97,98,99])) (.bin .mod (.var 5) (.lit (.int 3)))) .nil))) (.cons (.var 6) .nil))) .nil)))) .nil) .nil)
     (.cons (.ex (.kH .append (.var 4) (.cons (.var 6) .nil))) .nil))))
   (.cons (.ret (.var 4)) .nil)))
noncomputable def kU:du:=(.cons (.ret (.kH .join (.lit (.str [])) (.cons (.comp false (.ix (.lit (.str [97,97,98,98,99,48,97,10,98,97,98])) (.bin .mod (.call "_law_mix" (.cons (.var 1) (.cons (.bin .add (.var 2) (.var 0)) .nil))) (.lit (.int 11)))) (.range (.var 2)) (.cG (.lit (.bl true))) [0,1]) .nil))) .nil)
noncomputable def kW:du:=(.cons (.ifs (.or (.not (.cG (.yX (.var 0) [.tuple]))) (.or (.cG (.cmp .ne (.blt .len (.cons (.var 0) .nil)) (.lit (.int 2)))) (.not (.cG (.call "_law_whole" (.cons (.ix (.var 0) (.lit (.int 0))) .nil)))))) (.cons (.ret (.lit (.bl false))) .nil) .nil)
   (.cons (.ret (.cmp .eq (.var 0) (.tup (.cons (.var 1) (.cons (.var 2) .nil))))) .nil))
noncomputable def jd:du:=(.cons (.set 2 (.lit .bQ))
   (.cons (.set 3 (.lit .bQ))
   (.cons (.KQ (.cons (.set 3 (.cA "Lexer" "tokens" "Lexer.tokens" (.var 0) (.cons (.var 1) .nil))) .nil) "TokenError" 4 (.cons (.set 2 (.var 4)) .nil))
   (.cons (.ifs (.cG (.cmp .HC (.var 2) (.lit .bQ))) (.cons (.ret (.var 3)) .nil) .nil)
   (.cons (.set 5 (.and (.yX (.var 2) [.own "NoToken"]) (.and (.yX (.var 2) [.AH]) (.not (.yX (.var 2) [.own "BadRule",.own "TooMany"])))))
   (.cons (.ret (.zZ (.and (.cG (.var 5)) (.not (.cG (.yX (.var 2) [.own "TakesNothing"])))) (.fld (.var 2) "at") (.neg (.lit (.int 1))))) .nil))))))
noncomputable def zf:du:=(.cons (.set 1 (.call "_law_trees" (.cons (.var 0) (.cons (.lit (.int 0)) (.cons (.bin .add (.lit (.int 1)) (.bin .mod (.call "_law_mix" (.cons (.var 0) (.cons (.lit (.int 50)) .nil))) (.lit (.int 4)))) (.cons (.lit (.int 2)) .nil))))))
   (.cons (.set 2 (.call "_law_text" (.cons (.var 0) (.cons (.lit (.int 51)) (.cons (.bin .mod (.call "_law_mix" (.cons (.var 0) (.cons (.lit (.int 61)) .nil))) (.lit (.int 11))) .nil)))))
   (.cons (.set 3 (.comp false (.call "written" (.cons (.var 0) .nil)) (.val (.var 1)) (.cG (.lit (.bl true))) []))
   (.cons (.set 4 (.mk "Lexer" "Lexer.__init__" (.cons (.blt .list (.cons (.var 3) .nil)) .nil)))
   (.cons (.ji (.name 5) (.range (.bin .add (.blt .len (.cons (.var 2) .nil)) (.lit (.int 1)))) (.cons (.set 6 (.cA "Lexer" "token" "Lexer.token" (.var 4) (.cons (.var 2) (.cons (.var 5) .nil))))
     (.cons (.set 7 (.call "_law_token" (.cons (.var 1) (.cons (.var 2) (.cons (.var 5) .nil)))))
     (.cons (.ifs (.or (.and (.cG (.cmp .HC (.var 7) (.lit .bQ))) (.cG (.cmp .xy (.var 6) (.lit .bQ)))) (.and (.cG (.cmp .xy (.var 7) (.lit .bQ))) (.not (.cG (.call "_law_pair" (.cons (.var 6) (.cons (.ix (.var 7) (.lit (.int 0))) (.cons (.ix (.var 7) (.lit (.int 1))) .nil)))))))) (.cons (.ret (.lit (.bl false))) .nil) .nil) .nil))))
   (.cons (.set 7 (.lst .nil))
   (.cons (.set 5 (.lit (.int 0)))
   (.cons (.yZ (.and (.cG (.cmp .lt (.var 5) (.blt .len (.cons (.var 2) .nil)))) (.cG (.cmp .ge (.var 5) (.lit (.int 0))))) (.cons (.set 8 (.call "_law_token" (.cons (.var 1) (.cons (.var 2) (.cons (.var 5) .nil)))))
     (.cons (.ifs (.cG (.cmp .HC (.var 8) (.lit .bQ))) (.cons (.ret (.cmp .eq (.call "_law_tokens" (.cons (.var 4) (.cons (.var 2) .nil))) (.var 5))) .nil) .nil)
     (.cons (.ex (.kH .append (.var 7) (.cons (.tup (.cons (.ix (.var 8) (.lit (.int 0))) (.cons (.sl (.var 2) (.e (.var 5)) (.e (.bin .add (.var 5) (.ix (.var 8) (.lit (.int 1)))))) .nil))) .nil)))
     (.cons (.set 5 (.bin .add (.var 5) (.ix (.var 8) (.lit (.int 1))))) .nil)))))
   (.cons (.set 6 (.call "_law_tokens" (.cons (.var 4) (.cons (.var 2) .nil))))
   (.cons (.ifs (.or (.not (.cG (.yX (.var 6) [.list]))) (.cG (.cmp .ne (.blt .len (.cons (.var 6) .nil)) (.blt .len (.cons (.var 7) .nil))))) (.cons (.ret (.lit (.bl false))) .nil) .nil)
   (.cons (.ret (.blt .all (.cons (.comp false (.call "_law_pair" (.cons (.ix (.var 1) (.var 0)) (.cons (.ix (.ix (.var 2) (.var 0)) (.lit (.int 0))) (.cons (.ix (.ix (.var 2) (.var 0)) (.lit (.int 1))) .nil)))) (.range (.blt .len (.cons (.var 7) .nil))) (.cG (.lit (.bl true))) [6,7]) .nil))) .nil)))))))))))
end PL.jr
end
section
namespace L2
open PySem
open PL (U SO bR Xn KU KX Spec b7)
structure Tab where
 const:List (String × U)
 fns:List String
 oZ:List String
 o7:List (String × String)
 tI:List String
 uT:List String
 fc:List String
structure Inf where
 names:List (Str × NameKind)
 N:List Str
 calm:Bool
noncomputable def pick(l:List String)(x:Str):Option String:=l.find? fun s=>bX s == x
noncomputable def zg{α:Type}(l:List (String × α))(x:Str):Option (String × α):=l.find? fun s=>bX s.1 == x
noncomputable def dy(x:Str):List Str->Option Nat
 | []=>none
 | y::ys=>if y=x then some 0 else(dy x ys).map (· + 1)
noncomputable def Jc:Option NameKind->Bool
 | some .local=>true
 | some .cell=>true
 | some .free=>true
 | _=>false
noncomputable def Inf.gl(I:Inf)(x:Str):Bool:=I.names.lookup x == some .globalImplicit
noncomputable def Qa:lY->Option PL.Eb
 | .Add=>some .add | .Sub=>some .sub | .Mult=>some .mul | .FloorDiv=>some .fdiv | .Mod=>some .mod | .BitAnd=>some .band | .BitOr=>some .bor | .LShift=>some .shl | .RShift=>some .shr | _=>none
noncomputable def Jd:CmpOp->Option PL.Ms
 | .Eq=>some .eq | .NotEq=>some .ne | .Lt=>some .lt | .LtE=>some .le | .Gt=>some .gt | .GtE=>some .ge | .In=>some .isin | .NotIn=>some .mJ | .Is=>some .HC | .IsNot=>some .xy
noncomputable def MK:Expr->Option Str
 | .Name x _=>some x
 | _=>none
theorem Qb:∀e,(∃x p,e=Hs x p)\/MK e=none:=by
 intro e;cases e<;>first | exact .inr rfl | exact .inl ⟨_,_,rfl⟩
theorem zh(h:MK e=some x):∃p,e = .Name x p:=by
 rcases Qb e with⟨y,p,rfl⟩ | e
 ·exact⟨p,congrArg (Hs · p) (aG h)⟩
 ·exact nn (e.symm.trans h)
noncomputable def SD:Expr->Option (Str × Expr)
 | .Call f [a] [] _=>(MK f).map fun x=>(x,a)
 | _=>none
theorem Qc:∀e,(∃f as ks p,e=Expr.Call f as ks p)\/SD e=none:=by
 intro e;cases e<;>first | exact .inr rfl | exact .inl ⟨_,_,_,_,rfl⟩
theorem KY(h:SD e=some (x,a)):∃p q,e = .Call (.Name x p) [a] [] q:=by
 rcases Qc e with⟨f,as,ks,q,rfl⟩ | e
 ·cases as with
  | nil=>exact nn h
  | cons a as=>cases as with
   | cons=>exact nn h
   | nil=>cases ks with
    | cons=>exact nn h
    | nil=>
     obtain⟨y,h1,h2⟩:=af.mp h;cases h2;obtain⟨p,rfl⟩:=zh h1;exact⟨p,q,rfl⟩
 ·exact nn (e.symm.trans h)
noncomputable def UC(T:Tab)(I:Inf)(e:Expr):Option PL.Ty:=(MK e).bind fun x=>
  if I.gl x && x != ("__debug__":Str) then
   if x == ("int":Str) && T.fc.contains "int" then some .int else if x == ("bool":Str) && T.fc.contains "bool" then some .bool else if x == ("str":Str) && T.fc.contains "str" then some .str
   else if x == ("list":Str) && T.fc.contains "list" then some .list else if x == ("tuple":Str) && T.fc.contains "tuple" then some .tuple else if x == ("dict":Str) && T.fc.contains "dict" then some .dict
   else if x == ("ValueError":Str) && T.fc.contains "ValueError" then some .AH else(pick T.uT x).map .own
  else none
noncomputable def Je(T:Tab)(I:Inf):List Expr->Option (List String)
 | []=>some []
 | e::ts=>(MK e).bind fun x=>if I.gl x && x != ("__debug__":Str) then do
   let s <-pick T.uT x
   let r <-Je T I ts
   some (s::r)
  else none
noncomputable def pM (I : Inf) (names : List (Str × NameKind)) : List (Str × NameKind) := names.map fun (n, k) => if k == bM && I.names.lookup n == some .cell then (n, .cell) else (n, k)
noncomputable def tJ(I:Inf)(sc:kf)(xs:List Str):Bool:=
 sc.kind == .function && sc.names.all (fun y=>y.2 != .cell) && sc.names.all (fun y=>y.2 != .local || sc.names.lookup y.1 == some .local) && sc.names.all (fun y=>y.2 != .free || I.names.lookup y.1 == some .cell)
  && xs.all (fun x=>sc.names.lookup x == some .local) && decide xs.Nodup
noncomputable def gR(I:Inf)(sc:kf):List Str:=I.N.filter fun y=>sc.names.lookup y == some .free
noncomputable def Jf:Expr->Option (List Str)
 | .Name x _=>some [x]
 | .Tuple [a,b] _ _=>(MK a).bind fun x=>(MK b).map fun y=>[x,y]
 | _=>none
noncomputable def noStar:Expr->Bool
 | .Starred ..=>false
 | _=>true
noncomputable def xO:Expr->Bool
 | .ListComp ..=>false
 | .SetComp ..=>false
 | .DictComp ..=>false
 | _=>true
noncomputable def og:Expr->Bool
 | .Slice ..=>false
 | _=>true
noncomputable def ij:Expr->Bool
 | .Call (.Name _ _) [] [] _=>false
 | _=>true
noncomputable def ML:Str->Option PL.PZ:=fun x=>
 if x == ("len":Str) then some .len else if x == ("tuple":Str) then some .tuple else if x == ("list":Str) then some .list
 else if x == ("all":Str) then some .all else if x == ("sum":Str) then some .sum else if x == ("any":Str) then some .any else if x == ("dict":Str) then some .dict else none
noncomputable def MM:Str->Option PL.Mt:=fun x=>
 if x == ("join":Str) then some .join else if x == ("index":Str) then some .index else if x == ("append":Str) then some .append else if x == ("extend":Str) then some .extend else if x == ("startswith":Str) then some .startswith else none
noncomputable def UD:Const->Option U
 | .none=>some .bQ
 | .bool b=>some (.bl b)
 | .int i=>some (.int i)
 | .str x=>some (.str x.cps.toList)
 | _=>none
noncomputable def Ft(I:Inf)(k:qY):Bool:=match k with
 | ⟨kw,v,_⟩=>kw == some ("key":Str) && (match v with
  | .Name l _=>l == ("len":Str) && I.gl l
  | _=>false)
structure CF where
 e:Inf->Expr->Option PL.Ex
 es:Inf->List Expr->Option PL.xC
 bo:Inf->BoolOp->List Expr->Option PL.Ex
 o:Inf->Option Expr->Option PL.Ox
 i:Inf->Expr->Option PL.It
 n:Inf->Expr->Option PL.It
 t:Inf->Expr->Option PL.Tx
 tb:Inf->BoolOp->List Expr->Option PL.Tx
noncomputable def OI(T:Tab)(F:CF)(I:Inf)(e:Expr):Option PL.Ex:=match e with
  | .Name x _=>match dy x I.N with
   | some i=>if Jc (I.names.lookup x) && x != ("__debug__":Str) && x != ("__classdict__":Str) then some (.var i) else none
   | none=>if I.gl x && x != ("__debug__":Str) then(zg T.const x).map fun p=>.lit p.2 else none
  | .Constant c _ _=>(UD c).map .lit
  | .BinOp a op b _=>do
   let o <-Qa op
   let x <-F.e I a
   let y <-F.e I b
   some (.bin o x y)
  | .UnaryOp op a _=>(match op with
   | .USub=>(F.e I a).map .neg
   | .Not=>(F.e I a).map .not
   | _=>none)
  | .BoolOp op vs _=>F.bo I op vs
  | .Compare a ops bs _=>(match ops with
   | [op]=>(match bs with
    | [b]=>do
     let o <-Jd op
     let x <-F.e I a
     let y <-F.e I b
     some (.cmp o x y)
    | _=>none)
   | _=>none)
  | .IfExp t a b _=>do
   let c <-F.t I t
   let x <-F.e I a
   let y <-F.e I b
   some (.zZ c x y)
  | .Call f args kws cp=>(match f with
   | .Name f _=>(match kws with
    | []=>if I.gl f && f != ("__debug__":Str) then
      if f == ("isinstance":Str) && T.fc.contains "isinstance" then(match args with
       | [a,t]=>if !noStar a then none else do
        let x <-F.e I a
        (match UC T I t with
         | some y=>some (.yX x [y])
         | none=>(match t with
          | .Tuple ts _ _=>do
           let l <-Je T I ts
           if decide (0 < l.length/\l.length<=100) then some (.yX x (l.map .own)) else none
          | _=>none))
       | _=>none)
      else match ML f with
      | some b=>if (pick T.fc f).isSome && !args.isEmpty && I.calm then(F.es I args).map (.blt b) else none
      | none=>if !I.calm then none else match pick T.fns f with
       | some q=>(F.es I args).map (.call q)
       | none=>match pick T.oZ f with
        | some q=>(F.es I args).map (.mk q (q ++ ".__init__"))
        | none=>none
     else none
    | kw::ks=>(match args with
     | [a]=>if ks.isEmpty && f == ("min":Str) && Ft I kw && I.gl f && T.fc.contains "min" && T.fc.contains "len" && I.calm && noStar a then(F.e I a).map fun x=>.blt .tm (.cons x .nil) else none
     | _=>none))
   | .Attribute o m ap=>if !(kws.isEmpty && ij o && ap.endLine == cp.line && decide (args.length < 20) && I.calm) then none else
    match zg T.o7 m with
    | some (q,k)=>do
     let x <-F.e I o
     let as <-F.es I args
     some (.cA k q (k ++ "." ++ q) x as)
    | none=>(match args with
     | []=>if m == ("bit_length":Str) then(F.e I o).map fun x=>.kH .mh x .nil else none
     | a::as=>if m == ("get":Str) then(match as with
       | [d]=>if noStar a && noStar d then do
         let x <-F.e I o
         let y <-F.e I a
         let z <-F.e I d
         some (.kH .get x (.cons y (.cons z .nil)))
        else none
       | _=>none)
      else match MM m with
      | some b=>do
       let x <-F.e I o
       let as <-F.es I (a::as)
       some (.kH b x as)
      | none=>none)
   | _=>none)
  | .Attribute o f _=>if !ij o then none else do
   let q <-pick T.tI f
   let x <-F.e I o
   some (.fld x q)
  | .Subscript o i _=>if og i then do
    let x <-F.e I o
    let y <-F.e I i
    some (.ix x y)
   else(match i with
   | .Slice lo hi st _=>(match st with
    | none=>do
     let x <-F.e I o
     let a <-F.o I lo
     let b <-F.o I hi
     some (.sl x a b)
    | some _=>none)
   | _=>none)
  | .List es _=>(F.es I es).map .lst
  | .Tuple es _ _=>(F.es I es).map .tup
  | .ListComp elt gs sc _=>(match gs with
   | [g]=>(match g with
    | ⟨tg,iter,ifs,as⟩=>match Jf tg with
     | some xs=>if tJ I sc xs && I.calm && as == 0 then do
       let it <-(match xs with
        | [_]=>F.i I iter
        | _=>F.n I iter)
       let cn:=gR I sc
       let J:Inf:=⟨pM I sc.names,xs ++ cn,true⟩
       let c <-(match ifs with
        | []=>some (PL.Tx.cG (.lit (.bl true)))
        | [c]=>F.t J c
        | _=>none)
       let e <-F.e J elt
       let ci <-cn.mapM fun y=>dy y I.N
       some (.comp (xs.length == 2) e it c ci)
      else none
     | none=>none)
   | _=>none)
  | _=>none
noncomputable def Fu(F:CF)(I:Inf):List Expr->Option PL.xC
 | []=>some .nil
 | e::es=>if !noStar e then none else do
  let x <-F.e I e
  let xs <-F.es I es
  some (.cons x xs)
noncomputable def Fv(F:CF)(I:Inf)(op:BoolOp):List Expr->Option PL.Ex
 | []=>none
 | [a]=>F.e I a
 | a::b::r=>do
  let x <-F.e I a
  let y <-F.bo I op (b::r)
  some (match op with | .And=>.and x y | .Or=>.or x y)
noncomputable def SE(F:CF)(I:Inf):Option Expr->Option PL.Ox
 | none=>some .no
 | some e=>(F.e I e).map .e
noncomputable def stI(T:Tab)(F:CF)(I:Inf)(e:Expr):Option PL.It:=match SD e with
  | some (f,a)=>if f == ("range":Str) then(if I.gl f && T.fc.contains "range" then(F.e I a).map .range else none) else(F.e I e).map .val
  | none=>(F.e I e).map .val
noncomputable def stN(T:Tab)(F:CF)(I:Inf)(e:Expr):Option PL.It:=match SD e with
  | some (f,a)=>if f == ("enumerate":Str) && I.gl f && T.fc.contains "enumerate" && noStar a then(F.e I a).map .enum else none
  | none=>none
noncomputable def Wg(F:CF)(I:Inf)(e:Expr):Option PL.Tx:=match e with
  | .UnaryOp .Not a _=>(F.t I a).map .not
  | .BoolOp op vs _=>F.tb I op vs
  | .IfExp ..=>none
  | .Compare a [op] [b] _=>do
   let o <-Jd op
   let x <-F.e I a
   let y <-F.e I b
   some (.cG (.cmp o x y))
  | .Compare ..=>none
  | _=>(F.e I e).map .cG
noncomputable def Fw(F:CF)(I:Inf)(op:BoolOp):List Expr->Option PL.Tx
 | []=>none
 | [a]=>F.t I a
 | a::b::r=>do
  let x <-F.t I a
  let y <-F.tb I op (b::r)
  some (match op with | .And=>.and x y | .Or=>.or x y)
noncomputable def pN(T:Tab):Nat->CF
 | 0=>⟨fun _ _=>none,fun _ _=>none,fun _ _ _=>none,fun _ _=>none,fun _ _=>none,fun _ _=>none,fun _ _=>none,fun _ _ _=>none⟩
 | n + 1=>⟨OI T (pN T n),Fu (pN T n),Fv (pN T n),SE (pN T n),stI T (pN T n),stN T (pN T n),Wg (pN T n),Fw (pN T n)⟩
noncomputable abbrev cE(T:Tab)(n:Nat):Inf->Expr->Option PL.Ex:=(pN T n).e
noncomputable abbrev OJ(T:Tab)(n:Nat):Inf->List Expr->Option PL.xC:=(pN T n).es
noncomputable abbrev SH(T:Tab)(n:Nat):Inf->BoolOp->List Expr->Option PL.Ex:=(pN T n).bo
noncomputable abbrev cO(T:Tab)(n:Nat):Inf->Option Expr->Option PL.Ox:=(pN T n).o
noncomputable abbrev cI(T:Tab)(n:Nat):Inf->Expr->Option PL.It:=(pN T n).i
noncomputable abbrev cN(T:Tab)(n:Nat):Inf->Expr->Option PL.It:=(pN T n).n
noncomputable abbrev cT(T:Tab)(n:Nat):Inf->Expr->Option PL.Tx:=(pN T n).t
noncomputable abbrev SI(T:Tab)(n:Nat):Inf->BoolOp->List Expr->Option PL.Tx:=(pN T n).tb
section
variable {T:Tab} {n:Nat} {I:Inf} {x:Expr} {xs:List Expr} {p:BoolOp} {y:Option Expr}
theorem Qd:cE T 0 I x=none:=rfl
theorem Jg:cE T (n + 1) I x=OI T (pN T n) I x:=rfl
theorem KZ:OJ T 0 I xs=none:=rfl
theorem Fx:OJ T (n + 1) I xs=Fu (pN T n) I xs:=rfl
theorem Qe:SH T 0 I p xs=none:=rfl
theorem Fy:SH T (n + 1) I p xs=Fv (pN T n) I p xs:=rfl
theorem UE:cO T 0 I y=none:=rfl
theorem Qf:cO T (n + 1) I y=SE (pN T n) I y:=rfl
theorem UG:cI T 0 I x=none:=rfl
theorem UH:cI T (n + 1) I x=stI T (pN T n) I x:=rfl
theorem UI:cN T 0 I x=none:=rfl
theorem UJ:cN T (n + 1) I x=stN T (pN T n) I x:=rfl
theorem UK:cT T 0 I x=none:=rfl
theorem UL:cT T (n + 1) I x=Wg (pN T n) I x:=rfl
theorem Qg:SI T 0 I p xs=none:=rfl
theorem Fz:SI T (n + 1) I p xs=Fw (pN T n) I p xs:=rfl
end
noncomputable def UM(T:Tab)(n:Nat)(J:Inf)(ifs:List Expr):Option PL.Tx:=match ifs with
 | []=>some (PL.Tx.cG (.lit (.bl true)))
 | [c]=>cT T n J c
 | _=>none
theorem tK(h:cE T (n + 1) I (.ListComp elt gs sc pos)=some x):
  ∃tg iter ifs xs it c ee ci,gs = [⟨tg,iter,ifs,0⟩]/\Jf tg=some xs/\(tJ I sc xs=true/\I.calm=true)/\((∃y,xs = [y])/\cI T n I iter=some it\/(¬ ∃y,xs = [y])/\cN T n I iter=some it)/\UM T n ⟨pM I sc.names,xs ++ gR I sc,true⟩ ifs=some c /\
   cE T n ⟨pM I sc.names,xs ++ gR I sc,true⟩ elt=some ee/\(gR I sc).mapM (fun y=>dy y I.N)=some ci/\x = .comp (xs.length == 2) ee it c ci:=by
 rw[Jg] at h
 delta OI at h
 dsimp only at h;split at h
 ·rename_i g
  obtain⟨tg,iter,ifs,as⟩:=g;dsimp only at h;split at h
  ·rename_i xs ht
   split at h
   ·rename_i hc
    simp only[ag] at hc;simp only[aH,ao] at h;obtain⟨it,h1,c,h2,ee,h3,ci,h4,h5⟩:=h;injection h5 with h5
    have e0:as=0:=eq_of_beq hc.2;subst e0;refine⟨tg,iter,ifs,xs,it,c,ee,ci,rfl,ht,hc.1,?_,h2,h3,h4,h5.symm⟩;split at h1
    ·exact .inl ⟨⟨_,rfl⟩,h1⟩
    ·rename_i hn
     exact .inr ⟨fun⟨y,e⟩=>hn y e,h1⟩
   ·exact nn h
  ·exact nn h
 ·exact nn h
theorem Qh:∀e,(∃x p,e=Hs x p)\/(∃es k q,e=Expr.Tuple es k q)\/Jf e=none:=by
 intro e;cases e<;>first | exact .inr (.inr rfl) | exact .inl ⟨_,_,rfl⟩ | exact .inr (.inl ⟨_,_,_,rfl⟩)
theorem AQ(h:Jf tg=some xs):(∃x p,tg = .Name x p/\xs = [x])\/∃x y p p' k q,tg = .Tuple [.Name x p,.Name y p'] k q/\xs = [x,y]:=by
 rcases Qh tg with⟨x,p,rfl⟩ | ⟨es,k,q,rfl⟩ | e
 ·exact .inl ⟨x,p,rfl,(aG h).symm⟩
 ·cases es with
  | nil=>exact nn h
  | cons a es=>cases es with
   | nil=>exact nn h
   | cons b es=>cases es with
    | cons=>exact nn h
    | nil=>
     obtain⟨x,h1,h⟩:=ao.mp h;obtain⟨y,h2,h3⟩:=af.mp h;obtain⟨p,rfl⟩:=zh h1;obtain⟨p',rfl⟩:=zh h2;exact .inr ⟨x,y,p,p',k,q,rfl,h3.symm⟩
 ·exact nn (e.symm.trans h)
end L2
end
section
namespace L2
open PySem
open PL (U SO bR Xn KU KX Spec b7)
noncomputable def rS:Option NameKind->Bool
 | some .local=>true
 | some .cell=>true
 | _=>false
noncomputable def AR:lY->Option PL.Eb
 | .Add=>some .add | .Sub=>some .sub | .BitOr=>some .bor | _=>none
structure CG where
 s:Inf->Stmt->Option PL.Sm
 ss:Inf->List Stmt->Option PL.du
noncomputable def UN(T:Tab)(F:CF)(G:CG)(I:Inf)(s:Stmt):Option PL.Sm:=match s with
  | .Assign ts e _=>(match ts with
   | [t]=>(match t with
    | .Name x _=>(match dy x I.N with
     | some i=>if rS (I.names.lookup x) then(F.e I e).map (.set i) else none
     | none=>none)
    | .Attribute o f _=>do
     let q <-pick T.tI f
     let x <-F.e I o
     let y <-F.e I e
     some (.jU x q y)
    | _=>none)
   | _=>none)
  | .AugAssign t op e _=>(match t with
   | .Name x _=>(match dy x I.N with
    | some i=>if rS (I.names.lookup x) then do
      let p <-AR op
      let y <-F.e I e
      some (.aug i p y)
     else none
    | none=>none)
   | .Attribute o f _=>do
    let q <-pick T.tI f
    let p <-AR op
    let x <-F.e I o
    let y <-F.e I e
    some (.yY x q p y)
   | .Subscript o i _=>if og i then do
     let p <-AR op
     let x <-F.e I o
     let j <-F.e I i
     let y <-F.e I e
     some (.C9 x j p y)
    else none
   | _=>none)
  | .Expr e _=>if xO e then(F.e I e).map .ex else none
  | .Return e _=>(match e with
   | some e=>(F.e I e).map .ret
   | none=>none)
  | .If c a b _=>do
   let c <-F.t I c
   let a <-G.ss I a
   let b <-G.ss I b
   some (.ifs c a b)
  | .While c b el _=>if el.isEmpty then do
    let c <-F.t I c
    let b <-G.ss I b
    some (.yZ c b)
   else none
  | .For tg it b el _=>if !(I.calm && el.isEmpty) then none else(match Jf tg with
   | some xs=>(match xs with
    | [x]=>(match dy x I.N with
     | some i=>if rS (I.names.lookup x) then do
       let it <-F.i I it
       let b <-G.ss I b
       some (.ji (.name i) it b)
      else none
     | none=>none)
    | [x,y]=>(match dy x I.N with
     | some i=>(match dy y I.N with
      | some j=>if rS (I.names.lookup x) && rS (I.names.lookup y) then do
        let it <-F.n I it
        let b <-G.ss I b
        some (.ji (.pair i j) it b)
       else none
      | none=>none)
     | none=>none)
    | _=>none)
   | none=>none)
  | .Raise ex ca _=>(match ca with
   | some _=>some (.ex (.ix (.lit .bQ) (.lit .bQ)))
   | none=>(match ex with
    | some c=>(match c with
     | .Call f args kws _=>(match f with
      | .Name x _=>if kws.isEmpty && I.gl x && x != ("__debug__":Str) && I.calm && !args.isEmpty then do
        let q <-pick T.uT x
        let as <-F.es I args
        if (PL.cL q).isEmpty then none else some (.raise q as)
       else none
      | _=>none)
     | _=>none)
    | none=>none))
  | .Try b hs el fi _=>(match hs with
   | [h]=>(match h with
    | .ExceptHandler ty nm bd _=>(match ty with
     | some c=>(match c with
      | .Name x _=>(match nm with
       | some y=>(match bd with
        | h0::h=>if el.isEmpty && fi.isEmpty && I.gl x && x != ("__debug__":Str) && I.calm && I.names.lookup y == some .local then
          (match dy y I.N with
          | some i=>do
           let q <-pick T.uT x
           let b <-G.ss I b
           let h <-G.ss { I with calm:=false } (h0::h)
           some (.KQ b q i h)
          | none=>none)
         else none
        | []=>none)
       | none=>none)
      | _=>none)
     | none=>none))
   | _=>none)
  | _=>none
noncomputable def Jh(G:CG)(I:Inf):List Stmt->Option PL.du
 | []=>some .nil
 | s::ss=>do
  let x <-G.s I s
  let xs <-G.ss I ss
  some (.cons x xs)
noncomputable def Dk(T:Tab):Nat->CG
 | 0=>⟨fun _ _=>none,fun _ _=>none⟩
 | n + 1=>⟨UN T (pN T n) (Dk T n),Jh (Dk T n)⟩
noncomputable abbrev cS(T:Tab)(n:Nat):Inf->Stmt->Option PL.Sm:=(Dk T n).s
noncomputable abbrev HE(T:Tab)(n:Nat):Inf->List Stmt->Option PL.du:=(Dk T n).ss
theorem UO:cS T 0 I x=none:=rfl
theorem UP:cS T (n + 1) I x=UN T (pN T n) (Dk T n) I x:=rfl
theorem Qi:HE T 0 I x=none:=rfl
theorem K0:HE T (n + 1) I x=Jh (Dk T n) I x:=rfl
end L2
end
section
namespace L2
open PySem PySem.Spec PyProof.Rows PySem.W
open PL (U SO bR Xn KU KX Spec b7)
structure Ctx where
 P:bx
 w:bU
 K:Frag
 mg:Str->Option Value
 base:Heap
 cls:String->Option Addr
 exc:String->Option Addr
noncomputable abbrev nm(s:String):Str:=bX s
def vK(K:Frag)(H:Hp)(a:Addr)(vs:List V):Prop:=
 (∃o,H a=some (.Af o (.lst vs))) \/
  ∃(o:Obj) (its:Array Value) (n:Nat),K.lookup a=some o/\o.cls = .type "list"/\o.dict=none/\o.data = .seq its n/\its.size<=sizeLine/\Vals vs its.toList
theorem vK.sq{K:Frag}{H:Hp}{a:Addr}{vs:List V}(h:vK K H a vs):gV K H a vs:=by
 rcases h with⟨o,h⟩ | h
 ·exact .inl (.inr ⟨o,h⟩)
 ·exact .inr h
section
variable (c:Ctx) (ρ:List Addr) (H:Hp)
mutual
noncomputable def Rep:U->V->Prop
 | .bQ,v=>v = .bQ
 | .bl b,v=>v = .bl b
 | .int i,v=>v = .int i
 | .str l,v=>v = .str (tx l)
 | .tup us,v=>∃a vs,v = .ref a/\H a=some (.tup vs)/\aV us vs
 | .loc n,v=>∃a,v = .ref a/\ρ[n]? = some a
 | .pG ns,v=>∃a,v = .ref a/\vK c.K H a (ns.map .int)
 | .tab kvs,v=>∃a,v = .ref a/\Mq c.K c.w.params a (kvs.map fun p=>(tx p.1,V.str (tx p.2)))
 | .exc x us,v=>∃a d C fs,v = .ref a/\c.exc x=some C/\H a=some (.xc a (.ref C) (some d))/\H d=some (.xf d fs)/\fs.map (·.1)=(PL.cL x).map nm/\aV us (fs.map (·.2))
noncomputable def aV:List U->List V->Prop
 | [],vs=>vs = []
 | u::us,vs=>∃v r,vs=v::r/\Rep u v/\aV us r
end
def uU(a:Addr):SO->Prop
 | .lst us=>∃vs,H a=some (.lst vs)/\aV c ρ H us vs
 | .ins x fs=>∃C dx vs,c.cls x=some C/\H a=some (.ins C dx vs)/\vs.map (·.1)=(fs.map (·.1)).map nm/\aV c ρ H (fs.map (·.2)) (vs.map (·.2))
 | .uz kvs=>∃vs,H a=some (.dK vs)/\vs.length=kvs.length/\aV c ρ H (kvs.map (·.1)) (vs.map fun p=>kV p.1)/\aV c ρ H (kvs.map (·.2)) (vs.map (·.2))
structure cg (S:bR):Prop where
 len:ρ.length=S.length
 nd:ρ.Nodup
 at_:∀(n:Nat) (a:Addr) (o:SO),ρ[n]? = some a->S[n]? = some o->uU c ρ H a o
end
structure gS (ρ:List Addr) (H:Hp) (ρ':List Addr) (H':Hp):Prop where
 pre:∃more,ρ' = ρ ++ more
 new:∀b∈ρ',b ∉ ρ->H b=none
 fr:∀b o,H b=some o->b ∉ ρ->H' b=some o
section
variable {c:Ctx} {ρ ρ' ρ'':List Addr} {H H' H'':Hp} {S S':bR}
theorem gS.refl:gS ρ H ρ H:=⟨⟨[],by simp⟩,fun _ h n=>absurd h n,fun _ _ h _=>h⟩
theorem gS.trans(a:gS ρ H ρ' H')(b:gS ρ' H' ρ'' H''):gS ρ H ρ'' H'':=by
 obtain⟨m1,e1⟩:=a.pre;obtain⟨m2,e2⟩:=b.pre;refine⟨⟨m1 ++ m2,by rw[e2,e1,bB]⟩,fun x hx nx=>?_,fun x o h nx=>?_⟩
 ·by_cases z:x∈ρ'
  ·exact a.new x z nx
  ·cases q:H x with
   | none=>rfl
   | some o=>exact absurd (a.fr x o q nx) (by rw[b.new x hx z];simp)
 ·have q:=a.fr x o h nx
  by_cases z:x∈ρ'
  ·exact absurd (a.new x z nx) (by rw[h];simp)
  ·exact b.fr x o q z
theorem gS.get(a:gS ρ H ρ' H'){n:Nat}{b:Addr}(h:ρ[n]? = some b):ρ'[n]? = some b:=by
 obtain⟨m,e⟩:=a.pre;rw[e,ak (by obtain⟨h,_⟩:=ae.mp h;exact h)]
 exact h
noncomputable def xP:HO->Bool
 | .lst _=>true
 | .ins _ _ _=>true
 | .dK _=>true
 | _=>false
theorem cg.obj(R:cg c ρ H S)(h:b∈ρ):∃o,H b=some o/\xP o=true:=by
 obtain⟨n,hn,e⟩:=Cz h;have hn':n < S.length:=R.len ▸ hn;have q:=R.at_ n b S[n] (by rw[aa hn,e]) (aa hn');cases o:S[n] with
 | lst us=>rw[o] at q;obtain⟨vs,h,_⟩:=q;exact⟨_,h,rfl⟩
 | ins x fs=>rw[o] at q;obtain⟨C,dx,vs,_,h,_⟩:=q;exact⟨_,h,rfl⟩
 | uz kvs=>rw[o] at q;obtain⟨vs,h,_⟩:=q;exact⟨_,h,rfl⟩
theorem cg.not(R:cg c ρ H S)(h:H b=some o)(q:xP o=false):b ∉ ρ:=fun z=>by
 obtain⟨o',h',q'⟩:=R.obj z;rw[h] at h';injection h' with e;subst e
 rw[q] at q';exact Ht q'
theorem cg.Ji(R:cg c ρ H S)(h:H b=none):b ∉ ρ:=fun z=>by
 obtain⟨o',h',_⟩:=R.obj z;rw[h] at h';cases h'
mutual
theorem Rep.jk(p:∃more,ρ' = ρ ++ more)(k:∀b o,H b=some o->xP o=false->H' b=some o):∀ {u:U} {v:V},Rep c ρ H u v->Rep c ρ' H' u v
 | .bQ,_,h=>by unfold Rep at h ⊢;exact h
 | .bl _,_,h=>by unfold Rep at h ⊢;exact h
 | .int _,_,h=>by unfold Rep at h ⊢;exact h
 | .str _,_,h=>by unfold Rep at h ⊢;exact h
 | .tup us,_,h=>by
  unfold Rep at h ⊢;obtain⟨x,vs,e,hx,hs⟩:=h;exact⟨x,vs,e,k x _ hx rfl,aV.jk p k hs⟩
 | .loc n,_,h=>by
  unfold Rep at h ⊢;obtain⟨x,e,hx⟩:=h;obtain⟨m,rfl⟩:=p;exact⟨x,e,by rw[ak (by obtain⟨h,_⟩:=ae.mp hx;exact h)];exact hx⟩
 | .pG ns,_,h=>by
  unfold Rep at h ⊢;obtain⟨x,e,hx⟩:=h;rcases hx with⟨o,hx⟩ | hx
  ·exact⟨x,e,.inl ⟨o,k x _ hx rfl⟩⟩
  ·exact⟨x,e,.inr hx⟩
 | .tab _,_,h=>by unfold Rep at h ⊢;exact h
 | .exc x us,_,h=>by
  unfold Rep at h ⊢;obtain⟨b,d,C,fs,e,hC,hb,hd,hk,hs⟩:=h;exact⟨b,d,C,fs,e,hC,k b _ hb rfl,k d _ hd rfl,hk,aV.jk p k hs⟩
theorem aV.jk(p:∃more,ρ' = ρ ++ more)(k:∀b o,H b=some o->xP o=false->H' b=some o):∀ {us:List U} {vs:List V},aV c ρ H us vs->aV c ρ' H' us vs
 | [],_,h=>by unfold aV at h ⊢;exact h
 | u::us,_,h=>by
  unfold aV at h ⊢;obtain⟨v,r,e,h1,h2⟩:=h;exact⟨v,r,e,Rep.jk p k h1,aV.jk p k h2⟩
end
theorem uU.jk(p:∃more,ρ' = ρ ++ more)(m:∀b o,H b=some o->xP o=false->H' b=some o)(h:uU c ρ H b o)(k:H' b=H b):uU c ρ' H' b o:=by
 cases o with
 | lst us=>obtain⟨vs,h1,h2⟩:=h;exact⟨vs,k.trans h1,h2.jk p m⟩
 | ins x fs=>obtain⟨C,dx,vs,h0,h1,h2,h3⟩:=h;exact⟨C,dx,vs,h0,k.trans h1,h2,h3.jk p m⟩
 | uz kvs=>obtain⟨vs,h1,h2,h3,h4⟩:=h;exact⟨vs,k.trans h1,h2,h3.jk p m,h4.jk p m⟩
theorem gS.UQ(R:cg c ρ H S)(a:gS ρ H ρ' H'):∀b o,H b=some o->xP o=false->H' b=some o:=fun b o h q=>a.fr b o h (R.not h q)
theorem Rep.mono(R:cg c ρ H S)(a:gS ρ H ρ' H')(h:Rep c ρ H u v):Rep c ρ' H' u v:=h.jk a.pre (a.UQ R)
theorem aV.mono(R:cg c ρ H S)(a:gS ρ H ρ' H')(h:aV c ρ H us vs):aV c ρ' H' us vs:=h.jk a.pre (a.UQ R)
theorem uU.mono(R:cg c ρ H S)(a:gS ρ H ρ' H')(h:uU c ρ H b o)(k:H' b=H b):uU c ρ' H' b o:=h.jk a.pre (a.UQ R) k
theorem BY(hD:H D=some o)(q:xP o=true):∀b o,H b=some o->xP o=false->upd H D ho b=some o:=fun b o' h z=>by
 rw[bq]
 ·exact h
 ·intro e;subst e;rw[hD] at h;injection h with h;subst h;rw[q] at z;exact Ht z
theorem cg.FA(R:cg c ρ H S)(ho:HO)(hD:H D=some o)(q:xP o=true)(n:D ∉ ρ):cg c ρ (upd H D ho) S:=
 ⟨R.len,R.nd,fun m b o' h1 h2=>(R.at_ m b o' h1 h2).jk ⟨[],by simp⟩ (BY hD q) (bq fun e=>n (e ▸ aB h1))⟩
theorem cg.join(R:cg c ρ H S)(n:D ∉ ρ)(h:uU c ρ H D o):cg c (ρ ++ [D]) H (S ++ [o]):=by
 have p:∃more,ρ ++ [D] = ρ ++ more:=⟨[D],rfl⟩
 refine⟨by simp[R.len],?_,fun m a o' h1 h2=>?_⟩
 ·rw[lI]
  exact⟨R.nd,by simp,fun x hx y hy=>by rw[fH.mp hy];exact fun e=>n (e ▸ hx)⟩
 ·by_cases z:m < ρ.length
  ·rw[ak z] at h1
   rw[ak (R.len ▸ z)] at h2;exact(R.at_ m a o' h1 h2).jk p (fun _ _ h _=>h) rfl
  ·have hz:m = ρ.length:=by
    obtain⟨q,_⟩:=ae.mp h1;simp at q;omega
   subst hz;rw[av (ax _),cf] at h1;rw[R.len,av (ax _),cf] at h2;simp at h1 h2;rw[<-h1,<-h2];exact h.jk p (fun _ _ h _=>h) rfl
theorem gS.alloc(R:cg c ρ H S)(hp:H p=none)(o:HO):gS ρ H (ρ ++ [p]) (upd H p o):=by
 refine⟨⟨[p],rfl⟩,fun b hb nb=>?_,fun b o h nb=>?_⟩
 ·rcases aQ.mp hb with h | h
  ·exact absurd h nb
  ·rw[fH.mp h];exact hp
 ·rw[bq (fk h hp)];exact h
theorem cg.alloc(R:cg c ρ H S)(hp:H p=none)(h:uU c (ρ ++ [p]) (upd H p ho) p o):cg c (ρ ++ [p]) (upd H p ho) (S ++ [o]):=by
 have st:=gS.alloc R hp ho;refine⟨by simp[R.len],?_,fun n a o' h1 h2=>?_⟩
 ·rw[lI]
  exact⟨R.nd,by simp,fun x hx y hy=>by rw[fH.mp hy];exact fun e=>R.Ji hp (e ▸ hx)⟩
 ·by_cases z:n < ρ.length
  ·rw[ak z] at h1
   rw[ak (R.len ▸ z)] at h2;refine(R.at_ n a o' h1 h2).mono R st (bq fun e=>?_);exact R.Ji hp (e ▸ aB h1)
  ·have hz:n = ρ.length:=by
    obtain⟨q,_⟩:=ae.mp h1;simp at q;omega
   subst hz;rw[av (ax _),cf] at h1;rw[R.len,av (ax _),cf] at h2;simp at h1 h2;rw[<-h1,<-h2];exact h
theorem gS.lay(R:cg c ρ H S)(hp:H p=none)(o:HO):gS ρ H ρ (upd H p o):=
 ⟨⟨[],by simp⟩,fun _ h n=>absurd h n,fun b _ h _=>by rw[bq (fk h hp)];exact h⟩
theorem cg.lay(R:cg c ρ H S)(hp:H p=none)(o:HO):cg c ρ (upd H p o) S:=
 ⟨R.len,R.nd,fun n a o' h1 h2=>(R.at_ n a o' h1 h2).mono R (gS.lay R hp o) (bq fun e=>R.Ji hp (e ▸ aB h1))⟩
theorem gS.put(h:a∈ρ)(o:HO):gS ρ H ρ (upd H a o):=
 ⟨⟨[],by simp⟩,fun _ h n=>absurd h n,fun b _ q nb=>by rw[bq (show b≠a from fun e=>nb (by rw[e];exact h))];exact q⟩
theorem cg.put(R:cg c ρ H S)(ha:ρ[n]? = some a)(h:uU c ρ (upd H a ho) a o):cg c ρ (upd H a ho) (S.set n o):=by
 have hm:=aB ha;refine⟨by simp[R.len],R.nd,fun m b o' h1 h2=>?_⟩;by_cases z:m=n
 ·subst z
  rw[ha] at h1;injection h1 with h1;subst h1
  have hl:m < S.length:=R.len ▸ (ae.mp ha).1;rw[bP hl] at h2;injection h2 with h2;subst h2;exact h
 ·rw[au (dJ z)] at h2
  refine(R.at_ m b o' h1 h2).mono R (gS.put hm ho) (bq fun e=>z ?_);subst e;obtain⟨l1,e1⟩:=ae.mp h1;obtain⟨l2,e2⟩:=ae.mp ha;exact(Ho R.nd).mp (e1.trans e2.symm)
theorem aV.len:∀ {us:List U} {vs:List V},aV c ρ H us vs->us.length=vs.length
 | [],_,h=>by unfold aV at h;subst h;rfl
 | _::us,_,h=>by
  unfold aV at h;obtain⟨v,r,e,_,h2⟩:=h;subst e;rw[aN,aN,aV.len h2]
theorem aV.nil:aV c ρ H [] []:=by unfold aV;rfl
theorem aV.cons(h:Rep c ρ H u v)(t:aV c ρ H us vs):aV c ρ H (u::us) (v::vs):=by unfold aV;exact⟨v,vs,rfl,h,t⟩
theorem aV.app:∀ {us ws:List U} {vs xs:List V},aV c ρ H us vs->aV c ρ H ws xs->aV c ρ H (us ++ ws) (vs ++ xs)
 | [],_,_,_,h,k=>by unfold aV at h;subst h;exact k
 | u::us,_,_,_,h,k=>by
  unfold aV at h;obtain⟨v,r,e,h1,h2⟩:=h;subst e;exact aV.cons h1 (aV.app h2 k)
theorem aV.get:∀ {us:List U} {vs:List V} {n:Nat} {u:U},aV c ρ H us vs->us[n]? = some u->∃v,vs[n]? = some v/\Rep c ρ H u v
 | [],_,_,_,_,e=>by simp at e
 | u::us,_,n,_,h,e=>by
  unfold aV at h;obtain⟨v,r,e',h1,h2⟩:=h;subst e';cases n with
  | zero=>simp at e;subst e;exact⟨v,rfl,h1⟩
  | succ n=>simp at e ⊢;exact aV.get h2 e
theorem aV.take:∀ {us:List U} {vs:List V} (n:Nat),aV c ρ H us vs->aV c ρ H (us.take n) (vs.take n)
 | _,_,0,_=>by simp only[List.take_zero];exact aV.nil
 | [],_,_ + 1,h=>by unfold aV at h;subst h;simp only[List.take_nil];exact aV.nil
 | u::us,_,n + 1,h=>by
  unfold aV at h;obtain⟨v,r,e,h1,h2⟩:=h;subst e;exact aV.cons h1 (aV.take n h2)
theorem aV.drop:∀ {us:List U} {vs:List V} (n:Nat),aV c ρ H us vs->aV c ρ H (us.drop n) (vs.drop n)
 | _,_,0,h=>h
 | [],_,_ + 1,h=>by unfold aV at h;subst h;simp only[List.drop_nil];exact aV.nil
 | u::us,_,n + 1,h=>by
  unfold aV at h;obtain⟨v,r,e,h1,h2⟩:=h;subst e;exact aV.drop n h2
end
end L2
end
section
namespace L2
open PySem PySem.Spec PyProof.Rows PySem.W
open PL (U SO bR Xn KU KX Spec b7)
noncomputable abbrev Cx.at_(X:Cx)(pZ:List (Addr × Obj))(E:St->XK):Cx:={ X with pn:=X.pn ++ pZ,xe:=PK X pZ E }
section
variable {X:Cx} {pZ pins':List (Addr × Obj)} {E:St->XK} {σ:St} {H:Hp} {s:aj}
theorem Cx.Ok.at_(ok:X.Ok):(X.at_ pZ E).Ok:=
 ⟨ok.mod,ok.kind,ok.glob,ok.blt,ok.above,ok.inj,ok.has,ok.KC,ok.hd,ok.frames,ok.CP,ok.OV,ok.bs,ok.D9,ok.yJ,ok.Ag,ok.oR,ok.HB⟩
theorem Cx.Ok.nE(ok:(X.at_ pZ E).Ok):X.Ok:=
 ⟨ok.mod,ok.kind,ok.glob,ok.blt,ok.above,ok.inj,ok.has,ok.KC,ok.hd,ok.frames,ok.CP,ok.OV,ok.bs,ok.D9,ok.yJ,ok.Ag,ok.oR,ok.HB⟩
theorem Inv.at_(I:Inv X pZ σ H s):Inv (X.at_ pZ E) [] σ H s:=
 ⟨I.ok.at_,I.os,I.bare,I.base,I.loc,I.cell,I.free,I.jS,fun p hp=>I.pin p (by simpa using hp),I.dj,I.len⟩
theorem Inv.nE(I:Inv (X.at_ pZ E) pins' σ H s):Inv X pZ σ H s:=
 ⟨I.ok.nE,I.os,I.bare,I.base,I.loc,I.cell,I.free,I.jS,fun p hp=>I.pin p (aQ.mpr (.inl hp)),I.dj,I.len⟩
theorem Ay.nE(h:Ay (X.at_ pZ E) pins' H b):Ay X pZ H b:=
 ⟨h.1,h.2.1,h.2.2.1,h.2.2.2.1,fun p hp=>h.2.2.2.2 p (aQ.mpr (.inl hp))⟩
theorem XE.nE(h:XE (X.at_ pZ E) pins' σ (E σ) e s):PK X pZ E e s:=by
 obtain⟨a,tb,cl,dx,H',e1,I,x,f,q⟩:=h;exact⟨σ,a,tb,cl,dx,H',e1,I.nE,x,fun b hb=>(f b hb).nE,q⟩
abbrev atS(σ:St)(E:XK):St->XK:=fun σ' cl dx H=>σ' = σ/\E cl dx H
theorem tL(σ:St)(E:XK):atS σ E σ = E:=by
 funext cl dx H
 exact propext ⟨fun h=>h.2,fun h=>⟨rfl,h⟩⟩
theorem PK.one{e:Value}{E:XK}(h:PK X pZ (atS σ E) e s):XE X pZ σ E e s:=by
 obtain⟨σ',a,tb,cl,dx,H',e1,I,x,f,q,w⟩:=h;subst q;exact⟨a,tb,cl,dx,H',e1,I,x,f,w⟩
theorem EP.nE(h:EP (X.at_ pZ E) pins' σ Q u s):EP X pZ σ Q u s:=by
 obtain⟨v,H',I,r,q⟩:=h;exact⟨v,H',I.nE,r,q⟩
end
def AS(X:Cx)(e:Expr)(t:XK->TT):Prop:=
 ∀(pZ:List (Addr × Obj)) (s:aj) (σ:St) (H:Hp) (Q:Bool->Hp->Prop) (E:XK),Inv X pZ σ H s->t E σ H Q->wpAny (aP X.prog X.w) X.A (isTrue e X.env (eval e X.env)) (TP X pZ σ Q) (XE X pZ σ E) s
def zi(X:Cx)(es:List Expr)(t:XK->TA):Prop:=
 ∀(pos:Pos) (pZ:List (Addr × Obj)) (s:aj) (σ:St) (H:Hp) (Q:List V->Hp->Prop) (E:XK),Inv X pZ σ H s->t E σ H Q->wpAny (aP X.prog X.w) X.A (spliced (iC pos (bN es X.env))) (AP X pZ σ Q) (XE X pZ σ E) s
section
variable {X:Cx} {pZ:List (Addr × Obj)} {e:Expr} {es:List Expr}
theorem PE.imp(h:PE X e t)(q:∀ σ H Q,t' σ H Q->t σ H Q):PE X e t':=fun pZ s σ H Q I z=>h pZ s σ H Q I (q σ H Q z)
theorem PT.imp(h:PT X e t)(q:∀ σ H Q,t' σ H Q->t σ H Q):PT X e t':=fun pZ s σ H Q I z=>h pZ s σ H Q I (q σ H Q z)
theorem up(h:∀pZ E,PE (X.at_ pZ E) e (fun σ H Q=>t (E σ) σ H Q)):d7 X e t:=by
 intro pZ s σ H Q E I z;refine bH (h pZ (atS σ E) [] s σ H Q I.at_ (by show t (atS σ E σ) σ H Q;rw[tL];exact z)) (fun u s' q=>q.nE) fun u s' q=>q.one
theorem dn(h:d7 (X.at_ pZ E) e t):PE (X.at_ pZ E) e (fun σ H Q=>t (E σ) σ H Q):=by
 intro pins' s σ H Q I z;exact bH (h pins' s σ H Q (E σ) I z) (fun u s' q=>q) fun u s' q=>q.nE
theorem SJ(h:∀pZ E,PT (X.at_ pZ E) e (fun σ H Q=>t (E σ) σ H Q)):AS X e t:=by
 intro pZ s σ H Q E I z;refine bH (h pZ (atS σ E) [] s σ H Q I.at_ (by show t (atS σ E σ) σ H Q;rw[tL];exact z)) (fun u s' ⟨H',I',q⟩=>⟨H',I'.nE,q⟩) fun u s' q=>q.one
theorem OK(h:AS (X.at_ pZ E) e t):PT (X.at_ pZ E) e (fun σ H Q=>t (E σ) σ H Q):=by
 intro pins' s σ H Q I z;exact bH (h pins' s σ H Q (E σ) I z) (fun u s' q=>q) fun u s' q=>q.nE
theorem Wh(h:∀pZ E,PA (X.at_ pZ E) es (fun σ H Q=>t (E σ) σ H Q)):zi X es t:=by
 intro pos pZ s σ H Q E I z;refine bH (h pZ (atS σ E) pos [] s σ H Q I.at_ (by show t (atS σ E σ) σ H Q;rw[tL];exact z)) (fun u s' ⟨vs,H',I',r,q⟩=>⟨vs,H',I'.nE,r,q⟩) fun u s' q=>q.one
theorem AU(h:zi (X.at_ pZ E) es t):PA (X.at_ pZ E) es (fun σ H Q=>t (E σ) σ H Q):=by
 intro pos pins' s σ H Q I z;exact bH (h pos pins' s σ H Q (E σ) I z) (fun u s' q=>q) fun u s' q=>q.nE
end
structure iA (c:Ctx) (ρ:List Addr) (H:Hp) (env:PL.Env) (σ:St):Prop where
 len:env.length = σ.length
 at_:∀(i:Nat) u,env[i]? = some (some u)->∃v,σ[i]? = some (some v)/\Rep c ρ H u v
def ExcAt(c:Ctx)(ρ:List Addr)(H:Hp)(x:Xn)(C d:Addr):Prop:=c.exc x.c=some C/\∃fs,H d=some (.xf d fs)/\fs.map (·.1)=(PL.cL x.c).map nm/\aV c ρ H x.us (fs.map (·.2))
section
variable (c:Ctx) (ρ:List Addr) (H:Hp)
def QV(QU:KU)(Q:VK):Prop:=∀u S' v H' ρ',QU u S'->gS ρ H ρ' H'->cg c ρ' H' S'->Rep c ρ' H' u v->Q v H'
def QB(QU:Bool->bR->Prop)(Q:Bool->Hp->Prop):Prop:=∀b S' H' ρ',QU b S'->gS ρ H ρ' H'->cg c ρ' H' S'->Q b H'
def QA(QU:List U->bR->Prop)(Q:List V->Hp->Prop):Prop:=∀us S' vs H' ρ',QU us S'->gS ρ H ρ' H'->cg c ρ' H' S'->aV c ρ' H' us vs->Q vs H'
def QX(EU:KX)(E:XK):Prop:=∀x S' H' ρ' C d,EU x S'->gS ρ H ρ' H'->cg c ρ' H' S'->ExcAt c ρ' H' x C d->E (.ref C) (some d) H'
end
section
variable {c:Ctx} {ρ ρ':List Addr} {H H':Hp} {S:bR}
theorem QV.later(q:QV c ρ H QU Q)(a:gS ρ H ρ' H'):QV c ρ' H' QU Q:=fun u S' v H2 ρ2 h b R r=>q u S' v H2 ρ2 h (a.trans b) R r
theorem QB.later(q:QB c ρ H QU Q)(a:gS ρ H ρ' H'):QB c ρ' H' QU Q:=fun u S' H2 ρ2 h b R=>q u S' H2 ρ2 h (a.trans b) R
theorem QX.later(q:QX c ρ H EU E)(a:gS ρ H ρ' H'):QX c ρ' H' EU E:=fun x S' H2 ρ2 C d h b R r=>q x S' H2 ρ2 C d h (a.trans b) R r
theorem QV.now(q:QV c ρ H QU Q)(R:cg c ρ H S)(h:QU u S)(r:Rep c ρ H u v):Q v H:=q u S v H ρ h .refl R r
theorem iA.later(h:iA c ρ H env σ)(R:cg c ρ H S)(a:gS ρ H ρ' H'):iA c ρ' H' env σ:=
 ⟨h.len,fun i u e=>by obtain⟨v,h1,h2⟩:=h.at_ i u e;exact⟨v,h1,h2.mono R a⟩⟩
end
section
variable (c:Ctx) (Γ:b7)
def tE(x:PL.Ex):XK->TE:=fun E σ H Q=>∃env ρ S QU EU,iA c ρ H env σ/\cg c ρ H S/\PL.WE Γ x env S QU EU/\QV c ρ H QU Q/\QX c ρ H EU E
def tT(x:PL.Tx):XK->TT:=fun E σ H Q=>∃env ρ S QU EU,iA c ρ H env σ/\cg c ρ H S/\PL.WT Γ x env S QU EU/\QB c ρ H QU Q/\QX c ρ H EU E
def Dl(x:PL.xC):XK->TA:=fun E σ H Q=>∃env ρ S QU EU,iA c ρ H env σ/\cg c ρ H S/\PL.tD Γ x env S QU EU/\QA c ρ H QU Q/\QX c ρ H EU E
end
end L2
end
section
namespace L2
open PySem PySem.Spec PyProof.Rows PySem.W
open PL (U SO bR Xn KU KX Spec b7)
theorem oH(h:n<=1000000):n<=sizeLine:=aR h (by decide)
section
variable {c:Ctx} {ρ:List Addr} {H:Hp} {S:bR}
theorem eQ:Rep c ρ H .bQ v↔v = .bQ:=by unfold Rep;exact jx
theorem dz:Rep c ρ H (.bl b) v↔v = .bl b:=by unfold Rep;exact jx
theorem aM:Rep c ρ H (.int b) v↔v = .int b:=by unfold Rep;exact jx
theorem bj:Rep c ρ H (.str b) v↔v = .str (tx b):=by unfold Rep;exact jx
theorem dP:Rep c ρ H (.tup us) v↔∃a vs,v = .ref a/\H a=some (.tup vs)/\aV c ρ H us vs:=by unfold Rep;exact jx
theorem iI:Rep c ρ H (.loc n) v↔∃a,v = .ref a/\ρ[n]? = some a:=by unfold Rep;exact jx
theorem pO:Rep c ρ H (.pG ns) v↔∃a,v = .ref a/\vK c.K H a (ns.map .int):=by unfold Rep;exact jx
theorem se:Rep c ρ H (.tab kvs) v↔∃a,v = .ref a/\Mq c.K c.w.params a (kvs.map fun p=>(tx p.1,V.str (tx p.2))):=by unfold Rep;exact jx
theorem cg.lst(R:cg c ρ H S)(h:S[n]? = some (.lst us))(r:Rep c ρ H (.loc n) v):∃a vs,v = .ref a/\ρ[n]? = some a/\H a=some (.lst vs)/\aV c ρ H us vs:=by
 obtain⟨a,e,ha⟩:=iI.mp r;obtain⟨vs,h1,h2⟩:=R.at_ n a _ ha h;exact⟨a,vs,e,ha,h1,h2⟩
theorem cg.ins(R:cg c ρ H S)(h:S[n]? = some (.ins x fs))(r:Rep c ρ H (.loc n) v):∃a C dx vs,v = .ref a/\ρ[n]? = some a/\c.cls x=some C/\H a=some (.ins C dx vs)/\vs.map (·.1)=(fs.map (·.1)).map nm/\aV c ρ H (fs.map (·.2)) (vs.map (·.2)):=by
 obtain⟨a,e,ha⟩:=iI.mp r;obtain⟨C,dx,vs,h0,h1,h2,h3⟩:=R.at_ n a _ ha h;exact⟨a,C,dx,vs,e,ha,h0,h1,h2,h3⟩
theorem QV.FC(q:QV c ρ H QU Q)(R:cg c ρ H S)(r:aV c ρ H us vs)(h:QU (.loc S.length) (S ++ [.lst us]))(hp:H p=none):Q (.ref p) (upd H p (.lst vs)):=by
 have st:=gS.alloc R hp (.lst vs);have R':cg c (ρ ++ [p]) (upd H p (.lst vs)) (S ++ [.lst us]):=R.alloc hp ⟨vs,bE,r.mono R st⟩;refine q _ _ _ _ _ h st R' (iI.mpr ⟨p,rfl,?_⟩);rw[<-R.len,av (ax _),cf];rfl
theorem QV.Jj(q:QV c ρ H QU Q)(R:cg c ρ H S)(r:aV c ρ H us vs)(h:QU (.tup us) S)(hp:H p=none):Q (.ref p) (upd H p (.tup vs)):=by
 have st:=gS.lay R hp (.tup vs);exact q _ _ _ _ _ h st (R.lay hp _) (dP.mpr ⟨p,vs,rfl,bE,r.mono R st⟩)
end
noncomputable def uV(c:Ctx)(o:PL.Eb):R2:=fun x y H Q=>∃ux uy ρ S QU,Rep c ρ H ux x/\Rep c ρ H uy y/\cg c ρ H S/\PL.jt o ux uy S QU/\QV c ρ H QU Q
noncomputable def Jk:PL.Eb->lY
 | .add=>.Add | .sub=>.Sub | .mul=>.Mult | .fdiv=>.FloorDiv | .mod=>.Mod | .band=>.BitAnd | .bor=>.BitOr | .shl=>.LShift | .shr=>.RShift
section
variable {X:Cx} {c:Ctx}
theorem Jl:gu X (cw .Add) (uV c .add):=by
 intro pZ s σ H x y v u Q I rx ry h;obtain⟨ux,uy,ρ,S,QU,hx,hy,R,w,q⟩:=h;cases ux<;>first | exact aI w | skip
 ·rename_i i
  obtain⟨j,rfl,w⟩:=PL.eI.mp w;exact LI pZ s σ H x y v u Q I rx ry ⟨i,j,aM.mp hx,aM.mp hy,q.now R w (aM.mpr rfl)⟩
 ·rename_i a
  obtain⟨b,rfl,w⟩:=PL.nU.mp w;exact C6 pZ s σ H x y v u Q I rx ry ⟨a,b,bj.mp hx,bj.mp hy,oH w.1,q.now R w.2 (bj.mpr rfl)⟩
 ·rename_i us
  obtain⟨ws,rfl,w⟩:=PL.IU.mp w;obtain⟨a,vs,e1,h1,r1⟩:=dP.mp hx;obtain⟨b,zs,e2,h2,r2⟩:=dP.mp hy;obtain⟨w1,w2⟩:=w;by_cases w0:us = []
  ·subst w0
   have ev:vs = []:=fB (by rw[<-r1.len];rfl);subst ev;exact Fo pZ s σ H x y v u Q I rx ry ⟨a,b,zs,e1,e2,lD.of h1,lD.of h2,by rw[<-e2];exact q.now R w2 hy⟩
  refine Iy pZ s σ H x y v u Q I rx ry ⟨a,b,vs,zs,e1,e2,lD.of h1,lD.of h2,fun e=>w0 ?_,oH (by rw[<-r1.len,<-r2.len];exact w1),fun e=>?_,fun _ p hp=>?_⟩
  ·exact fB (by rw[r1.len,e];rfl)
  ·have e3:ws = []:=fB (by rw[r2.len,e];rfl)
   subst e3;rw[aZ] at w2;rw[<-e1]
   exact q.now R w2 hx
  ·exact q.Jj R (r1.app r2) w2 hp
 ·rename_i m
  obtain⟨n,rfl,w⟩:=PL.mi.mp w;obtain⟨us,h1,w1⟩:=PL.cM.mp w;obtain⟨ws,h2,w2,w3⟩:=PL.cM.mp w1;obtain⟨a,vs,e1,_,g1,r1⟩:=R.lst h1 hx;obtain⟨b,zs,e2,_,g2,r2⟩:=R.lst h2 hy;exact Me pZ s σ H x y v u Q I rx ry ⟨a,b,vs,zs,e1,e2,g1,g2,oH (by rw[<-r1.len,<-r2.len];exact w2),fun p hp=>q.FC R (r1.app r2) w3 hp⟩
theorem Jm:gu X (cw .Sub) (uV c .sub):=by
 intro pZ s σ H x y v u Q I rx ry h;obtain⟨ux,uy,ρ,S,QU,hx,hy,R,w,q⟩:=h;obtain⟨i,j,rfl,rfl,w⟩:=PL.jV w;exact LJ pZ s σ H x y v u Q I rx ry ⟨i,j,aM.mp hx,aM.mp hy,q.now R w (aM.mpr rfl)⟩
theorem Jn:gu X (cw .Mult) (uV c .mul):=by
 intro pZ s σ H x y v u Q I rx ry h;obtain⟨ux,uy,ρ,S,QU,hx,hy,R,w,q⟩:=h;cases ux<;>first | exact aI w | skip
 ·rename_i i
  obtain⟨j,rfl,w⟩:=PL.eI.mp w;exact LK pZ s σ H x y v u Q I rx ry ⟨i,j,aM.mp hx,aM.mp hy,w.1,q.now R w.2 (aM.mpr rfl)⟩
 ·rename_i a
  obtain⟨j,rfl,w⟩:=PL.eI.mp w;obtain⟨k,e,w0,w1,w2⟩:=w;subst e;obtain⟨n,rfl⟩:=Int.eq_ofNat_of_zero_le w0;exact C7 pZ s σ H x y v u Q I rx ry ⟨k,n,bj.mp hx,aM.mp hy,by omega,q.now R (by simpa using w2) (bj.mpr rfl)⟩
theorem FD:gu X (cw .FloorDiv) (uV c .fdiv):=by
 intro pZ s σ H x y v u Q I rx ry h;obtain⟨ux,uy,ρ,S,QU,hx,hy,R,w,q⟩:=h;obtain⟨i,j,rfl,rfl,w⟩:=PL.jV w;exact Ih pZ s σ H x y v u Q I rx ry ⟨i,j,aM.mp hx,aM.mp hy,w.1,q.now R w.2 (aM.mpr rfl)⟩
theorem Jo:gu X (cw .Mod) (uV c .mod):=by
 intro pZ s σ H x y v u Q I rx ry h;obtain⟨ux,uy,ρ,S,QU,hx,hy,R,w,q⟩:=h;obtain⟨i,j,rfl,rfl,w⟩:=PL.jV w;exact LL pZ s σ H x y v u Q I rx ry ⟨i,j,aM.mp hx,aM.mp hy,w.1,q.now R w.2 (aM.mpr rfl)⟩
theorem FE:gu X (cw .BitAnd) (uV c .band):=by
 intro pZ s σ H x y v u Q I rx ry h;obtain⟨ux,uy,ρ,S,QU,hx,hy,R,w,q⟩:=h;obtain⟨i,j,rfl,rfl,w⟩:=PL.jV w;exact LO pZ s σ H x y v u Q I rx ry ⟨i,j,aM.mp hx,aM.mp hy,by dsimp only;rw[xK w.1.1 w.1.2];exact q.now R w.2 (aM.mpr rfl)⟩
theorem Jp:gu X (cw .BitOr) (uV c .bor):=by
 intro pZ s σ H x y v u Q I rx ry h;obtain⟨ux,uy,ρ,S,QU,hx,hy,R,w,q⟩:=h;obtain⟨i,j,rfl,rfl,w⟩:=PL.jV w;exact Pf pZ s σ H x y v u Q I rx ry ⟨i,j,aM.mp hx,aM.mp hy,by dsimp only;rw[AN w.1.1 w.1.2];exact q.now R w.2 (aM.mpr rfl)⟩
theorem Jq:gu X (cw .LShift) (uV c .shl):=by
 intro pZ s σ H x y v u Q I rx ry h;obtain⟨ux,uy,ρ,S,QU,hx,hy,R,w,q⟩:=h;obtain⟨i,j,rfl,rfl,w⟩:=PL.jV w;obtain⟨⟨w1,w2,w3,w4⟩,w5⟩:=w;exact LM pZ s σ H x y v u Q I rx ry ⟨i,j,aM.mp hx,aM.mp hy,⟨w3,by omega,by omega⟩,q.now R w5 (aM.mpr rfl)⟩
theorem Jr:gu X (cw .RShift) (uV c .shr):=by
 intro pZ s σ H x y v u Q I rx ry h;obtain⟨ux,uy,ρ,S,QU,hx,hy,R,w,q⟩:=h;obtain⟨i,j,rfl,rfl,w⟩:=PL.jV w;exact LN pZ s σ H x y v u Q I rx ry ⟨i,j,aM.mp hx,aM.mp hy,w.1.2,q.now R w.2 (aM.mpr rfl)⟩
noncomputable def Dm(c:Ctx)(o:PL.Eb):R2:=fun x y H Q=>∃ux uy ρ S QU,Rep c ρ H ux x/\Rep c ρ H uy y/\cg c ρ H S/\PL.uP o ux uy S QU/\QV c ρ H QU Q
theorem FF:gu X (gJ .Add) (Dm c .add):=by
 intro pZ s σ H x y v u Q I rx ry h;obtain⟨ux,uy,ρ,S,QU,hx,hy,R,w,q⟩:=h;cases ux<;>first | exact aI w | skip
 ·rename_i i
  obtain⟨j,rfl,w⟩:=PL.eI.mp w;exact Ii pZ s σ H x y v u Q I rx ry ⟨i,j,aM.mp hx,aM.mp hy,q.now R w (aM.mpr rfl)⟩
 ·rename_i a
  obtain⟨b,rfl,w⟩:=PL.nU.mp w;exact AE pZ s σ H x y v u Q I rx ry ⟨a,b,bj.mp hx,bj.mp hy,oH w.1,q.now R w.2 (bj.mpr rfl)⟩
theorem FG:gu X (gJ .Sub) (Dm c .sub):=by
 intro pZ s σ H x y v u Q I rx ry h;obtain⟨ux,uy,ρ,S,QU,hx,hy,R,w,q⟩:=h;cases ux<;>first | exact aI w | skip
 rename_i i;obtain⟨j,rfl,w⟩:=PL.eI.mp w;exact Ij pZ s σ H x y v u Q I rx ry ⟨i,j,aM.mp hx,aM.mp hy,q.now R w (aM.mpr rfl)⟩
theorem FH:gu X (gJ .BitOr) (Dm c .bor):=by
 intro pZ s σ H x y v u Q I rx ry h;obtain⟨ux,uy,ρ,S,QU,hx,hy,R,w,q⟩:=h;cases ux<;>first | exact aI w | skip
 rename_i i;obtain⟨j,rfl,w⟩:=PL.eI.mp w;exact LP pZ s σ H x y v u Q I rx ry ⟨i,j,aM.mp hx,aM.mp hy,by dsimp only;rw[AN w.1.1 w.1.2];exact q.now R w.2 (aM.mpr rfl)⟩
theorem Js:gu X (cw (Jk o)) (uV c o):=by
 cases o
 ·exact Jl
 ·exact Jm
 ·exact Jn
 ·exact FD
 ·exact Jo
 ·exact FE
 ·exact Jp
 ·exact Jq
 ·exact Jr
theorem xQ(h:o = .add\/o = .sub\/o = .bor):gu X (gJ (Jk o)) (Dm c o):=by
 rcases h with rfl | rfl | rfl
 ·exact FF
 ·exact FG
 ·exact FH
noncomputable def tM(c:Ctx)(o:PL.Ms):R2:=fun x y H Q=>∃ux uy ρ S,Rep c ρ H ux x/\Rep c ρ H uy y/\cg c ρ H S/\PL.ju o ux uy S fun b=>Q (.bl b) H
end
mutual
noncomputable def iQ:U->Dv
 | .bQ=>.bQ
 | .bl b=>.bl b
 | .int i=>.int i
 | .str l=>.str l
 | .tup us=>.tup (fj us)
 | _=>.bQ
noncomputable def fj:List U->List Dv
 | []=>[]
 | u::us=>iQ u::fj us
end
section
variable {c:Ctx} {ρ:List Addr} {H:Hp} {S:bR}
mutual
theorem oh:∀ {u:U} {v:V},PL.tq u=true->Rep c ρ H u v->fU c.K H v (iQ u)
 | .bQ,_,_,h=>by unfold iQ fU;exact eQ.mp h
 | .bl _,_,_,h=>by unfold iQ fU;exact dz.mp h
 | .int _,_,_,h=>by unfold iQ fU;exact aM.mp h
 | .str _,_,_,h=>by unfold iQ fU;exact bj.mp h
 | .tup us,_,d,h=>by
  unfold iQ fU;obtain⟨a,vs,e,h1,h2⟩:=dP.mp h;exact⟨a,vs,e,lD.of h1,tN (by unfold PL.tq at d;exact d) h2⟩
 | .loc _,_,d,_=>by cases d
 | .pG _,_,d,_=>by cases d
 | .tab _,_,d,_=>by cases d
 | .exc _ _,_,d,_=>by cases d
theorem tN:∀ {us:List U} {vs:List V},PL.kB us=true->aV c ρ H us vs->gQ c.K H vs (fj us)
 | [],_,_,h=>by unfold aV at h;subst h;unfold fj gQ;trivial
 | u::us,_,d,h=>by
  unfold aV at h;obtain⟨v,r,e,h1,h2⟩:=h;subst e;unfold PL.kB at d;rw[ag] at d;unfold fj gQ;exact⟨oh d.1 h1,tN d.2 h2⟩
end
end
mutual
theorem MN:∀u:U,PL.tq u=true->(iQ u).depth=PL.dep u
 | .bQ,_=>by simp[iQ,Dv.depth,PL.dep]
 | .bl _,_=>by simp[iQ,Dv.depth,PL.dep]
 | .int _,_=>by simp[iQ,Dv.depth,PL.dep]
 | .str _,_=>by simp[iQ,Dv.depth,PL.dep]
 | .tup us,d=>by
  unfold iQ Dv.depth PL.dep;rw[pP us (by unfold PL.tq at d;exact d)]
 | .loc _,d=>by cases d
 | .pG _,d=>by cases d
 | .tab _,d=>by cases d
 | .exc _ _,d=>by cases d
theorem pP:∀us:List U,PL.kB us=true->Dv.iU (fj us)=PL.mQ us
 | [],_=>by simp[fj,Dv.iU,PL.mQ]
 | u::us,d=>by
  unfold PL.kB at d;rw[ag] at d;unfold fj Dv.iU PL.mQ;rw[MN u d.1,pP us d.2]
end
mutual
theorem BZ:∀x y:U,PL.tq x=true->PL.tq y=true->PL.nv x y=mZ (iQ x) (iQ y)
 | .tup us,y,d,d'=>by
  cases y with
  | tup ws=>exact FI us ws d d'
  | _=>first | rfl | cases d'
 | .loc _,_,d,_ | .pG _,_,d,_ | .tab _,_,d,_ | .exc _ _,_,d,_=>by cases d
 | .bQ,y,_,d | .bl _,y,_,d | .int _,y,_,d | .str _,y,_,d=>by cases y<;>first | rfl | cases d
theorem FI:∀xs ys:List U,PL.kB xs=true->PL.kB ys=true->PL.uO xs ys=nu (fj xs) (fj ys)
 | [],y,_,_=>by cases y<;>rfl
 | _::_,[],_,_=>rfl
 | x::xs,y::ys,d,d'=>by
  have d:=(ag _ _).mp d;have d':=(ag _ _).mp d'
  change (PL.nv x y && PL.uO xs ys)=(mZ (iQ x) (iQ y) && nu (fj xs) (fj ys))
  rw[BZ x y d.1 d'.1,FI xs ys d.2 d'.2]
end
theorem MP:decide (V.str (tx a)=V.str (tx b))=(a == b):=by
 rw[de]
 simp[BO]
theorem B0(t:PL.Fj x y=true)(nt:PL.Fl x=true)(hx:Rep c ρ H x v)(hy:Rep c ρ H y w):LR v w=true/\decide (v=w)=PL.nv x y:=by
 cases x<;>first | exact ff nt | exact ff t | (cases y<;>first | exact ff t | ((first | rw[eQ.mp hx] | rw[dz.mp hx] | rw[aM.mp hx] | rw[bj.mp hx]);(first | rw[eQ.mp hy] | rw[dz.mp hy] | rw[aM.mp hy] | rw[bj.mp hy]);first | exact⟨rfl,rfl⟩ | exact⟨rfl,Ak⟩ | exact⟨rfl,wZ⟩ | exact⟨rfl,MP⟩))
section
variable {X:Cx} {c:Ctx}
theorem MQ(hK:X.K=c.K)(hu:X.A.units + 200 < kh):gu X (bF .Eq) (tM c .eq):=by
 intro pZ s σ H x y v u Q I rx ry h;obtain⟨ux,uy,ρ,S,hx,hy,R,⟨t,d,d',z⟩,w⟩:=h;by_cases nt:PL.Fl ux=true
 ·obtain⟨e1,e2⟩:=B0 t nt hx hy
  exact Pg pZ s σ H x y v u Q I rx ry ⟨e1,by rw[e2];exact w⟩
 ·cases ux<;>first | exact absurd rfl nt | skip
  rename_i us;have g:=oh d hx;unfold iQ at g;refine Mr hu pZ s σ H x y v u Q I rx ry ⟨fj us,iQ uy,hK ▸ g,hK ▸ oh d' hy,?_,?_⟩
  ·rw[pP us (by unfold PL.tq at d;exact d)];unfold PL.dep at z;omega
  ·have:=BZ (.tup us) uy d d'
   rw[show iQ (.tup us)= .tup (fj us) from by simp[iQ]] at this;rw[<-this];exact w
theorem MR(hK:X.K=c.K)(hu:X.A.units + 200 < kh):gu X (bF .NotEq) (tM c .ne):=by
 intro pZ s σ H x y v u Q I rx ry h;obtain⟨ux,uy,ρ,S,hx,hy,R,w0⟩:=h;by_cases hl:∃m n,ux = .loc m/\uy = .loc n
 ·obtain⟨m,n,rfl,rfl⟩:=hl
  obtain⟨us,g1,g2,w⟩:=PL.cM.mp (show PL.getL _ _ from w0);obtain⟨a,vs,e1,_,h1,h2⟩:=R.lst g1 hx;obtain⟨b,ws,e2,_,h3,h4⟩:=R.lst g2 hy;unfold aV at h4;subst h4;refine Fp hu pZ s σ H x y v u Q I rx ry ⟨a,b,vs,e1,e2,gV.of h1,gV.of h3,?_⟩;have:vs.isEmpty=us.isEmpty:=by have:=h2.len;cases us<;>cases vs<;>simp at this ⊢
  rw[this];exact w
 have w1:PL.xG ux uy=true/\PL.xF ux uy fun b=>Q (.bl !b) H:=by
  cases ux with
  | loc=>cases uy<;>first | exact w0 | exact absurd ⟨_,_,rfl,rfl⟩ hl
  | _=>exact w0
 obtain⟨nt,⟨t,d,d',z⟩,w⟩:=w1;by_cases nt1:PL.Fl ux=true
 ·obtain⟨e1,e2⟩:=B0 t nt1 hx hy
  exact Ph pZ s σ H x y v u Q I rx ry ⟨e1,by rw[e2];exact w⟩
 ·cases ux<;>first | exact absurd rfl nt1 | skip
  cases uy<;>first | exact ff nt | skip
  rename_i us us';have g:=oh d hx;have g':=oh d' hy;unfold iQ at g g';refine Mv hu pZ s σ H x y v u Q I rx ry ⟨fj us,fj us',hK ▸ g,hK ▸ g',?_,?_⟩
  ·rw[pP us (by unfold PL.tq at d;exact d)];unfold PL.dep at z;omega
  ·have:=BZ (.tup us) (.tup us') d d'
   rw[show iQ (.tup us)= .tup (fj us) from by simp[iQ],show iQ (.tup us')= .tup (fj us') from by simp[iQ]] at this;rw[show nu (fj us) (fj us')=mZ (.tup (fj us)) (.tup (fj us')) from by unfold mZ;rfl,<-this];exact w
end
end L2
end
section
namespace L2
open PySem PySem.Spec PyProof.Rows PySem.W
open PL (U SO bR Xn KU KX Spec b7)
section
variable {X:Cx} {c:Ctx}
theorem MS:gu X (bF .Lt) (tM c .lt):=by
 intro pZ s σ H x y v u Q I rx ry h;obtain⟨ux,uy,ρ,S,hx,hy,R,w⟩:=h;obtain⟨i,j,rfl,rfl,w⟩:=PL.jV w;exact Pj pZ s σ H x y v u Q I rx ry ⟨_,_,aM.mp hx,aM.mp hy,w⟩
theorem MT:gu X (bF .LtE) (tM c .le):=by
 intro pZ s σ H x y v u Q I rx ry h;obtain⟨ux,uy,ρ,S,hx,hy,R,w⟩:=h;obtain⟨i,j,rfl,rfl,w⟩:=PL.jV w;exact Pk pZ s σ H x y v u Q I rx ry ⟨_,_,aM.mp hx,aM.mp hy,w⟩
theorem MU:gu X (bF .Gt) (tM c .gt):=by
 intro pZ s σ H x y v u Q I rx ry h;obtain⟨ux,uy,ρ,S,hx,hy,R,w⟩:=h;obtain⟨i,j,rfl,rfl,w⟩:=PL.jV w;exact Pl pZ s σ H x y v u Q I rx ry ⟨_,_,aM.mp hx,aM.mp hy,w⟩
theorem MV:gu X (bF .GtE) (tM c .ge):=by
 intro pZ s σ H x y v u Q I rx ry h;obtain⟨ux,uy,ρ,S,hx,hy,R,w⟩:=h;obtain⟨i,j,rfl,rfl,w⟩:=PL.jV w;exact Pm pZ s σ H x y v u Q I rx ry ⟨_,_,aM.mp hx,aM.mp hy,w⟩
theorem vL(h:Rep c ρ H u v):decide (v=V.bQ)=PL.oE u:=by
 cases u with
 | bQ=>rw[eQ.mp h];rfl
 | bl b=>rw[dz.mp h];rfl
 | int i=>rw[aM.mp h];rfl
 | str l=>rw[bj.mp h];rfl
 | tup us=>obtain⟨a,vs,e,_⟩:=dP.mp h;rw[e];rfl
 | loc n=>obtain⟨a,e,_⟩:=iI.mp h;rw[e];rfl
 | pG ns=>obtain⟨a,e,_⟩:=pO.mp h;rw[e];rfl
 | tab kvs=>obtain⟨a,e,_⟩:=se.mp h;rw[e];rfl
 | exc x us=>unfold Rep at h;obtain⟨a,d,C,fs,e,_⟩:=h;rw[e];rfl
theorem MX:gu X (bF .Is) (tM c .HC):=by
 intro pZ s σ H x y v u Q I rx ry h;obtain⟨ux,uy,ρ,S,hx,hy,R,w⟩:=h;have e:uy = .bQ:=by cases uy<;>first | rfl | exact aI w
 subst e;rw[PL.Ui] at w;exact LS pZ s σ H x y v u Q I rx ry ⟨eQ.mp hy,by rw[vL hx];exact w⟩
theorem FJ:gu X (bF .IsNot) (tM c .xy):=by
 intro pZ s σ H x y v u Q I rx ry h;obtain⟨ux,uy,ρ,S,hx,hy,R,w⟩:=h;have e:uy = .bQ:=by cases uy<;>first | rfl | exact aI w
 subst e;rw[PL.MJ] at w;exact Ik pZ s σ H x y v u Q I rx ry ⟨eQ.mp hy,by rw[vL hx];exact w⟩
theorem nF(f:PL.flat u=true)(h:Rep c ρ H u v):oC v=true:=by
 cases u<;>first | exact ff f | (rw[eQ.mp h];rfl) | (rw[dz.mp h];rfl) | (rw[aM.mp h];rfl) | (rw[bj.mp h];rfl)
theorem Ju(f:PL.flat u=true)(f':PL.flat u'=true)(h:Rep c ρ H u v)(h':Rep c ρ H u' v'):IA v v'=PL.nv u u':=by
 cases u<;>first | exact ff f | (cases u'<;>first | exact ff f' | ((first | rw[eQ.mp h] | rw[dz.mp h] | rw[aM.mp h] | rw[bj.mp h]);(first | rw[eQ.mp h'] | rw[dz.mp h'] | rw[aM.mp h'] | rw[bj.mp h']);first | rfl | exact de.mpr (by rename_i a b;show(tx a == tx b)=true↔(a == b)=true;simp[KP])))
theorem pQ(f:PL.flat u=true)(h:Rep c ρ H u v):∀ {us:List U} {vs:List V},us.all PL.flat=true->aV c ρ H us vs->vs.all oC=true/\Sj v vs=us.any fun y=>PL.nv y u
 | [],_,_,r=>by unfold aV at r;subst r;exact⟨rfl,rfl⟩
 | w::us,_,a,r=>by
  unfold aV at r;obtain⟨x,t,e,h1,h2⟩:=r;subst e;rw[bD,ag] at a;obtain⟨z1,z2⟩:=pQ f h a.2 h2;refine⟨by rw[bD,nF a.1 h1,z1];rfl,?_⟩;unfold Sj at z2 ⊢;rw[dG,dG,z2,Ju a.1 f h1 h]
theorem lookup_tab{kvs:List (List Nat × List Nat)}{k v:List Nat}(h:kvs.lookup k=some v):(kvs.map fun p=>(tx p.1,V.str (tx p.2))).lookup (tx k)=some (V.str (tx v)):=by
 induction kvs with
 | nil=>cases h
 | cons p r ih=>
  obtain⟨a,b⟩:=p;rw[aE,aY]
  rw[aY] at h;by_cases e:k=a
  ·subst e
   simp at h ⊢;exact h
  ·have e2:(k == a)=false:=by simp[e]
   have e3:(tx k == tx a)=false:=by
    rw[beq_eq_false_iff_ne];exact fun z=>e (qC z)
   rw[e2] at h;simp only[e3];exact ih h
theorem zj{kvs:List (List Nat × List Nat)}{k:List Nat}(h:kvs.lookup k=none):(kvs.map fun p=>(tx p.1,V.str (tx p.2))).lookup (tx k)=none:=by
 induction kvs with
 | nil=>rfl
 | cons p r ih=>
  rw[aY] at h;rw[aE,aY]
  cases z:k == p.1 with
  | true=>rw[z] at h;cases h
  | false=>
   rw[z] at h;have:(tx k == tx p.1)=false:=by
    rw[beq_eq_false_iff_ne] at z ⊢;exact fun e=>z (qC e)
   rw[this]
   exact ih h
theorem FK(hu:PL.tq u=true):∀ {us:List U},PL.kB us=true->((fj us).any fun e=>mZ e (iQ u))=us.any fun y=>PL.nv y u
 | [],_=>by unfold fj;rfl
 | w::us,d=>by
  unfold PL.kB at d;rw[ag] at d;unfold fj;rw[dG,dG,FK hu d.2,BZ w u d.1 hu]
theorem MY(hK:X.K=c.K)(hP:X.w.params=c.w.params):gu X (bF .In) (tM c .isin):=by
 intro pZ s σ H x y v u Q I rx ry h;obtain⟨ux,uy,ρ,S,hx,hy,R,w⟩:=h;cases uy with
 | str b=>
  obtain⟨a,rfl,w⟩:=PL.nU.mp w;exact Dc pZ s σ H x y v u Q I rx ry ⟨a,b,bj.mp hx,bj.mp hy,w⟩
 | tab kvs=>
  obtain⟨k,rfl,w⟩:=PL.nU.mp w;obtain⟨a,e,h1⟩:=se.mp hy;have w:Q (.bl (kvs.lookup k).isSome) H:=w;have ex:=h1.ex;rw[<-hK,<-hP] at ex;cases z:kvs.lookup k with
  | some t=>
   obtain⟨u',_,e2⟩:=h1.at_ _ _ (lookup_tab z);exact Fn pZ s σ H x y v u Q I rx ry ⟨a,_,some u',bj.mp hx,e,ex,h1.ns,hK ▸ e2,by rw[z] at w;exact w⟩
  | none=>
   have e2:=h1.no _ (zj z);exact Fn pZ s σ H x y v u Q I rx ry ⟨a,_,none,bj.mp hx,e,ex,h1.ns,hK ▸ e2,by rw[z] at w;exact w⟩
 | tup us=>
  rw[PL.MG] at w;obtain⟨⟨f,a⟩,w⟩:=w;obtain⟨p,vs,e,h1,h2⟩:=dP.mp hy;obtain⟨z1,z2⟩:=pQ f hx a h2;exact vA pZ s σ H x y v u Q I rx ry ⟨p,vs,e,.inr (lD.of h1),nF f hx,z1,by rw[z2];exact w⟩
 | loc n=>
  rw[PL.MI] at w;obtain⟨us,g,⟨f,a⟩,w⟩:=PL.cM.mp w;obtain⟨p,vs,e,_,h1,h2⟩:=R.lst g hy;obtain⟨z1,z2⟩:=pQ f hx a h2;exact vA pZ s σ H x y v u Q I rx ry ⟨p,vs,e,.inl (gV.of h1),nF f hx,z1,by rw[z2];exact w⟩
 | _=>exact aI w
theorem Dn(hK:X.K=c.K)(hu:X.A.units + 200 < kh):gu X (bF .NotIn) (tM c .mJ):=by
 intro pZ s σ H x y v u Q I rx ry h;obtain⟨ux,uy,ρ,S,hx,hy,R,w⟩:=h;cases uy with
 | str b=>
  obtain⟨a,rfl,w⟩:=PL.nU.mp w;exact xI pZ s σ H x y v u Q I rx ry ⟨a,b,bj.mp hx,bj.mp hy,w⟩
 | tup us=>
  rw[PL.MH] at w;obtain⟨⟨f,a⟩,w⟩:=w;obtain⟨p,vs,e,h1,h2⟩:=dP.mp hy;obtain⟨z1,z2⟩:=pQ f hx a h2;exact pD pZ s σ H x y v u Q I rx ry ⟨p,vs,e,.inr (lD.of h1),nF f hx,z1,by rw[z2];exact w⟩
 | loc n=>
  by_cases ht:∃ts,ux = .tup ts
  ·obtain⟨ts,rfl⟩:=ht
   rw[PL.Jb] at w;obtain⟨us,g,⟨d1,d2,d3⟩,w⟩:=PL.cM.mp w;obtain⟨p,vs,e,_,h1,h2⟩:=R.lst g hy;have dt:PL.tq (.tup ts)=true:=by unfold PL.tq;exact d1
   refine Dj hu pZ s σ H x y v u Q I rx ry ⟨p,vs,fj us,iQ (.tup ts),e,gV.of h1,hK ▸ tN d2 h2,hK ▸ oh dt hx,by rw[pP us d2];exact d3,?_⟩;rw[FK dt d2]
   exact w
  have w:PL.getL S[n]? fun us=>PL.pH ux us fun b=>Q (.bl !b) H:=by
   cases ux<;>first | exact w | exact absurd ⟨_,rfl⟩ ht
  obtain⟨us,g,⟨f,a⟩,w⟩:=PL.cM.mp w;obtain⟨p,vs,e,_,h1,h2⟩:=R.lst g hy;obtain⟨z1,z2⟩:=pQ f hx a h2;exact pD pZ s σ H x y v u Q I rx ry ⟨p,vs,e,.inl (gV.of h1),nF f hx,z1,by rw[z2];exact w⟩
 | _=>exact aI w
noncomputable def FL:PL.Ms->CmpOp
 | .eq=>.Eq | .ne=>.NotEq | .lt=>.Lt | .le=>.LtE | .gt=>.Gt | .ge=>.GtE | .isin=>.In | .mJ=>.NotIn | .HC=>.Is | .xy=>.IsNot
theorem B1(hK:X.K=c.K)(hP:X.w.params=c.w.params)(hu:X.A.units + 200 < kh)(o:PL.Ms):gu X (bF (FL o)) (tM c o):=by
 cases o
 ·exact MQ hK hu
 ·exact MR hK hu
 ·exact MS
 ·exact MT
 ·exact MU
 ·exact MV
 ·exact MY hK hP
 ·exact Dn hK hu
 ·exact MX
 ·exact FJ
noncomputable def UR(c:Ctx):R2:=fun x y H Q=>∃ux uy ρ S,Rep c ρ H ux x/\Rep c ρ H uy y/\cg c ρ H S/\PL.HD ux uy S fun u=>∀v,Rep c ρ H u v->Q v H
theorem AV(r:aV c ρ H us vs)(h:PL.tw us i=some u):∃v,L8 vs i=some v/\Rep c ρ H u v:=by
 unfold PL.tw at h;unfold L8;have e:L7 vs.length i=PL.Mu us.length i:=by rw[r.len];rfl
 rw[e]
 cases q:PL.Mu us.length i with
 | none=>rw[q] at h;cases h
 | some j=>
  rw[q] at h;exact r.get h
theorem vM:∀ {ns:List Int},aV c ρ H (ns.map .int) (ns.map V.int)
 | []=>aV.nil
 | n::ns=>aV.cons (aM.mpr rfl) vM
theorem MZ(hK:X.K=c.K)(hP:X.w.params=c.w.params):OG X (UR c):=by
 intro value slice pZ s σ H x y v u Q I rx ry h hs;obtain⟨ux,uy,ρ,S,hx,hy,R,w⟩:=h;cases ux<;>first | exact aI w | skip
 ·rename_i l
  obtain⟨i,rfl,w⟩:=PL.eI.mp w;obtain⟨w1,w2⟩:=w;obtain⟨k,g,w3⟩:=PL.gC.mp w2;exact Ma value slice pZ s σ H x y v u Q I rx ry ⟨_,i,k,bj.mp hx,aM.mp hy,oH (by rw[cZ];exact w1),g,w3 _ (bj.mpr rfl)⟩ hs
 ·rename_i us
  obtain⟨i,rfl,w⟩:=PL.eI.mp w;obtain⟨w1,w2⟩:=w;obtain⟨k,g,w3⟩:=PL.gC.mp w2;obtain⟨p,vs,e,h1,h2⟩:=dP.mp hx;obtain⟨z,e2,r2⟩:=AV h2 g;exact L9 value slice pZ s σ H x y v u Q I rx ry ⟨p,vs,i,z,e,aM.mp hy,lD.of h1,e2,w3 _ r2⟩ hs
 ·rename_i n
  obtain⟨i,rfl,w⟩:=PL.eI.mp w;obtain⟨us,g0,w1⟩:=PL.cM.mp w;obtain⟨k,g,w3⟩:=PL.gC.mp w1;obtain⟨p,vs,e,_,h1,h2⟩:=R.lst g0 hx;obtain⟨z,e2,r2⟩:=AV h2 g;exact BL value slice pZ s σ H x y v u Q I rx ry ⟨p,vs,i,z,e,aM.mp hy,gV.of h1,e2,w3 _ r2⟩ hs
 ·rename_i ns
  obtain⟨i,rfl,w⟩:=PL.eI.mp w;obtain⟨w1,w2⟩:=w;obtain⟨k,g,w3⟩:=PL.gC.mp w2;obtain⟨p,e,h1⟩:=pO.mp hx;have g':PL.tw (ns.map U.int) i=some (.int k):=by
   unfold PL.tw at g ⊢;rw[ar]
   cases q:PL.Mu ns.length i with
   | none=>rw[q] at g;exact nn g
   | some j=>rw[q] at g;simp at g ⊢;exact g
  obtain⟨z,e2,r2⟩:=AV (c:=c) (ρ:=ρ) (H:=H) vM g';exact BL value slice pZ s σ H x y v u Q I rx ry ⟨p,_,i,z,e,aM.mp hy,hK ▸ h1.sq,e2,w3 _ r2⟩ hs
 ·rename_i kvs
  obtain⟨k,rfl,w⟩:=PL.nU.mp w;obtain⟨z,g,w3⟩:=PL.gC.mp w;obtain⟨a,e,h1⟩:=se.mp hx;exact xw value slice pZ s σ H x y v u Q I rx ry ⟨a,_,_,_,e,bj.mp hy,by rw[hK,hP];exact h1,lookup_tab g,w3 _ (bj.mpr rfl)⟩ hs
def US(c:Ctx):V->Option Int->Option Int->Hp->VK->Prop:=fun x lo hi H Q=>∃ux ρ S QU,Rep c ρ H ux x/\cg c ρ H S/\PL.IV ux lo hi S QU/\QV c ρ H QU Q
theorem FN{lo:Option Int}{n:Nat}(h:∀i,lo=some i->0<=i):HT.iP n 0 lo=min (lo.getD 0).toNat n:=by
 cases lo with
 | none=>simp[HT.iP]
 | some i=>have:=h i rfl;simp only[HT.iP,dh];rw[if_neg (by omega)]
theorem M0(h:∀i,hi=some i->0<=i):HT.iP n n hi=min (hi.getD n).toNat n:=by
 cases hi with
 | none=>simp[HT.iP]
 | some i=>have:=h i rfl;simp only[HT.iP,dh];rw[if_neg (by omega)]
theorem B3{ρ:List Addr}{H:Hp}{us:List U}{vs:List V}{lo hi:Option Int}(h1:∀i,lo=some i->0<=i)(h2:∀i,hi=some i->0<=i)(r:aV c ρ H us vs):aV c ρ H (PL.nA us lo hi) (yO vs lo hi):=by
 unfold PL.nA yO;rw[FN h1,M0 h2,<-r.len]
 exact(r.drop _).take _
theorem M1(hK:X.K=c.K):Pt X (US c):=by
 intro pZ s σ H x v vl vu lo hi sl Q I rx hs pl pu h;obtain⟨ux,ρ,S,QU,hx,R,⟨⟨b1,b2⟩,w⟩,q⟩:=h;cases ux<;>try exact aI w
 ·rename_i l
  obtain⟨w1,w2⟩:=w;refine PX pZ s σ H x v vl vu lo hi sl Q I rx hs pl pu ⟨l,min (lo.getD 0).toNat l.length,min (hi.getD l.length).toNat l.length,bj.mp hx,oH w1,?_,?_,q.now R w2 (bj.mpr rfl)⟩
  ·cases lo with
   | none=>exact .inl ⟨rfl,by simp⟩
   | some a=>exact .inr ⟨a,rfl,b1 a rfl,rfl⟩
  ·cases hi with
   | none=>exact .inl ⟨rfl,by simp⟩
   | some a=>exact .inr ⟨a,rfl,b2 a rfl,rfl⟩
 ·rename_i us
  obtain⟨⟨w1,w0,w3⟩,w2⟩:=w;obtain⟨a,vs,e,g1,g2⟩:=dP.mp hx;refine L6 pZ s σ H x v vl vu lo hi sl Q I rx hs pl pu ⟨a,vs,e,lD.of g1,fun z=>?_,fun p hp=>q.Jj R (B3 b1 b2 g2) w2 hp⟩;have z1:=z.1;rw[FN b1,<-g2.len] at z1;have:0 < us.length:=CI.mpr w0;omega
 ·rename_i n
  obtain⟨us,g0,w1⟩:=PL.cM.mp w;obtain⟨a,vs,e,_,g1,g2⟩:=R.lst g0 hx;exact Iz pZ s σ H x v vl vu lo hi sl Q I rx hs pl pu ⟨a,vs,e,gV.of g1,fun p hp=>q.FC R (B3 b1 b2 g2) w1 hp⟩
end
end L2
end
section
namespace L2
open PySem PySem.Spec PyProof.Rows PySem.W
open PL (U SO bR Xn KU KX Spec b7)
def rA(c:Ctx)(b:PL.PZ):List V->Hp->VK->Prop:=fun xs H Q=>∃us ρ S QU,aV c ρ H us xs/\cg c ρ H S/\PL.rR b us S QU/\QV c ρ H QU Q
def tO(c:Ctx)(m:PL.Mt):V->List V->Hp->VK->Prop:=fun x xs H Q=>∃u us ρ S QU,Rep c ρ H u x/\aV c ρ H us xs/\cg c ρ H S/\PL.uQ m u us S QU/\QV c ρ H QU Q
section
variable {X:Cx} {c:Ctx} {ρ:List Addr} {H:Hp} {S:bR}
theorem kX(h:aV c ρ H [u] vs):∃v,vs = [v]/\Rep c ρ H u v:=by
 unfold aV at h;obtain⟨v,r,e,h1,h2⟩:=h;unfold aV at h2;subst h2;exact⟨v,e,h1⟩
theorem K1(h:aV c ρ H [u,w] vs):∃v z,vs = [v,z]/\Rep c ρ H u v/\Rep c ρ H w z:=by
 unfold aV at h;obtain⟨v,r,e,h1,h2⟩:=h;obtain⟨z,e2,h3⟩:=kX h2;subst e2;exact⟨v,z,e,h1,h3⟩
theorem FO(hK:X.K=c.K)(R:cg c ρ H S)(r:Rep c ρ H u v)(h:PL.oY S u=some n)(hn:n<=1000000):Po X.K v H n\/∃a kvs,v = .ref a/\H a=some (.dK kvs)/\n=kvs.length:=by
 cases u with
 | str l=>rw[bj.mp r];obtain rfl:=aG h;exact .inl ⟨oH (by rw[cZ];exact hn),(cZ l).symm⟩
 | tup us=>
  obtain⟨a,vs,e,h1,h2⟩:=dP.mp r;obtain rfl:=aG h;rw[e]
  exact .inl (.inr ⟨vs,lD.of h1,h2.len⟩)
 | pG ns=>
  obtain⟨a,e,h1⟩:=pO.mp r;obtain rfl:=aG h;rw[e]
  exact .inl (.inl ⟨_,hK ▸ h1.sq,by simp⟩)
 | loc m=>
  unfold PL.oY at h;cases q:S[m]? with
  | none=>simp only[q] at h;exact nn h
  | some o=>
   simp only[q] at h;cases o with
   | lst us=>
    obtain⟨a,vs,e,_,h1,h2⟩:=R.lst q r;simp at h;subst h;rw[e]
    exact .inl (.inl ⟨vs,gV.of h1,h2.len⟩)
   | uz kvs=>
    obtain⟨a,e,ha⟩:=iI.mp r;obtain⟨vs,h1,h2,_⟩:=R.at_ m a _ ha q;simp at h;subst h;exact .inr ⟨a,vs,e,h1,h2.symm⟩
   | ins x fs=>exact nn h
 | _=>exact nn h
theorem Jv(hK:X.K=c.K):iE X (.builtin "len") (rA c .len):=by
 intro pZ s σ H xs us Q I r h;obtain⟨ux,ρ,S,QU,hx,R,w,q⟩:=h
 match ux,w with
 | [u],w=>
  obtain⟨n,e,w1,w2⟩:=PL.gC.mp (show PL.opt _ _ from w);obtain⟨v,e1,r1⟩:=kX hx;rcases FO hK R r1 e w1 with l | ⟨a,kvs,e2,g,e3⟩
  ·exact EJ pZ s σ H xs us Q I r ⟨v,n,e1,l,q.now R w2 (aM.mpr rfl)⟩
  ·exact C4 pZ s σ H xs us Q I r ⟨a,kvs,by rw[e1,e2],g,by rw[<-e3];exact q.now R w2 (aM.mpr rfl)⟩
theorem Dp(hK:X.K=c.K):iE X (.type "tuple") (rA c .tuple):=by
 intro pZ s σ H xs us Q I r h;obtain⟨ux,ρ,S,QU,hx,R,w,q⟩:=h
 match ux,w with
 | [.loc n],w=>
  obtain⟨us',e,w1⟩:=PL.cM.mp (show PL.getL _ _ from w);obtain⟨v,e1,r1⟩:=kX hx;obtain⟨a,vs,e2,_,g1,g2⟩:=R.lst e r1;exact uL pZ s σ H xs us Q I r ⟨a,vs,by rw[e1,e2],.inl ⟨gV.of g1,fun l hl=>q.Jj R g2 w1 hl⟩⟩
theorem FP(hK:X.K=c.K):iE X (.type "list") (rA c .list):=by
 intro pZ s σ H xs us Q I r h;obtain⟨ux,ρ,S,QU,hx,R,w,q⟩:=h
 match ux,w with
 | [.loc n],w=>
  obtain⟨us',e,w1⟩:=PL.cM.mp (show PL.getL _ _ from w);obtain⟨v,e1,r1⟩:=kX hx;obtain⟨a,vs,e2,_,g1,g2⟩:=R.lst e r1;exact pE pZ s σ H xs us Q I r ⟨a,vs,by rw[e1,e2],.inl (gV.of g1),fun l hl=>q.FC R g2 w1 hl⟩
 | [.tup us'],w=>
  obtain⟨v,e1,r1⟩:=kX hx;obtain⟨a,vs,e2,g1,g2⟩:=dP.mp r1;exact pE pZ s σ H xs us Q I r ⟨a,vs,by rw[e1,e2],.inr (lD.of g1),fun l hl=>q.FC R g2 w.2 hl⟩
theorem o9:∀ {bs:List Bool} {vs:List V},aV c ρ H (bs.map .bl) vs->vs=bs.map V.bl
 | [],_,h=>by unfold aV at h;exact h
 | t::ts,_,h=>by
  rw[aE] at h;unfold aV at h;obtain⟨v,r,e,h1,h2⟩:=h;rw[e,dz.mp h1,o9 h2];rfl
theorem tP:∀ {bs:List Int} {vs:List V},aV c ρ H (bs.map .int) vs->vs=bs.map V.int
 | [],_,h=>by unfold aV at h;exact h
 | t::ts,_,h=>by
  rw[aE] at h;unfold aV at h;obtain⟨v,r,e,h1,h2⟩:=h;rw[e,aM.mp h1,tP h2];rfl
theorem FQ(hc:X.calm=true):iE X (.builtin "all") (rA c .all):=by
 intro pZ s σ H xs us Q I r h;obtain⟨ux,ρ,S,QU,hx,R,w,q⟩:=h
 match ux,w with
 | [.loc n],w=>
  obtain⟨bs,e,w1⟩:=w;obtain⟨v,e1,r1⟩:=kX hx;obtain⟨a,vs,e2,_,g1,g2⟩:=R.lst e r1;rw[o9 g2] at g1;exact AJ hc pZ s σ H xs us Q I r ⟨a,bs,by rw[e1,e2],gV.of g1,q.now R w1 (dz.mpr rfl)⟩
theorem Jw(hc:X.calm=true):iE X (.builtin "sum") (rA c .sum):=by
 intro pZ s σ H xs us Q I r h;obtain⟨ux,ρ,S,QU,hx,R,w,q⟩:=h
 match ux,w with
 | [.loc n],w=>
  obtain⟨bs,e,w1⟩:=w;obtain⟨v,e1,r1⟩:=kX hx;obtain⟨a,vs,e2,_,g1,g2⟩:=R.lst e r1;rw[tP g2] at g1;exact AK hc pZ s σ H xs us Q I r ⟨a,bs,by rw[e1,e2],gV.of g1,q.now R w1 (aM.mpr rfl)⟩
theorem FR(hc:X.calm=true):iE X (.builtin "any") (rA c .any):=by
 intro pZ s σ H xs us Q I r h;obtain⟨ux,ρ,S,QU,hx,R,w,q⟩:=h
 match ux,w with
 | [.loc n],w=>
  obtain⟨bs,e,w1⟩:=w;obtain⟨v,e1,r1⟩:=kX hx;obtain⟨a,vs,e2,_,g1,g2⟩:=R.lst e r1;rw[o9 g2] at g1;exact AO hc pZ s σ H xs us Q I r ⟨a,bs,by rw[e1,e2],gV.of g1,q.now R w1 (dz.mpr rfl)⟩
theorem tQ:∀ {ps:List (List Nat × U)} {vs:List V},aV c ρ H (ps.map fun p=>.tup [.str p.1,p.2]) vs->∃kvs:List (Key × V),Paired (Mx H) vs kvs/\kvs.map (·.1)=ps.map (fun p=>fg (tx p.1))/\aV c ρ H (ps.map (·.2)) (kvs.map (·.2))
 | [],_,h=>by
  unfold aV at h;subst h;exact⟨[],.nil,rfl,aV.nil⟩
 | (k,u)::ps,_,h=>by
  rw[aE] at h;unfold aV at h;obtain⟨v,r,e,h1,h2⟩:=h;subst e;obtain⟨kvs,g1,g2,g3⟩:=tQ h2;obtain⟨a,vs,e1,ha,hr⟩:=dP.mp h1;obtain⟨x,y,e2,r1,r2⟩:=K1 hr;subst e2;rw[bj.mp r1] at ha;exact⟨(fg (tx k),y)::kvs,.cons ⟨a,e1,ha⟩ g1,by rw[aE,aE,g2],aV.cons r2 g3⟩
theorem vN:∀ {ks:List (List Nat)},aV c ρ H (ks.map .str) (ks.map fun k=>kV (fg (tx k)))
 | []=>aV.nil
 | _::_=>aV.cons (bj.mpr rfl) vN
theorem FT(hA:X.A.handled=none):iE X (.type "dict") (rA c .dict):=by
 intro pZ s σ H xs us Q I r h;obtain⟨ux,ρ,S,QU,hx,R,w,q⟩:=h
 match ux,w with
 | [.loc n],w=>
  obtain⟨ps,e,nd,w1⟩:=w;obtain⟨v,e1,r1⟩:=kX hx;obtain⟨a,vs,e2,_,g1,g2⟩:=R.lst e r1;obtain⟨kvs,k1,k2,k3⟩:=tQ g2;refine AM hA pZ s σ H xs us Q I r ⟨a,vs,kvs,by rw[e1,e2],g1,k1,?_,fun p hp=>?_⟩
  ·rw[k2,show ps.map (fun p=>(fg (tx p.1):Key))=(ps.map (·.1)).map (fun k=>fg (tx k)) by rw[bI];rfl]
   exact List.Pairwise.map _ (fun a b h e=>h (qC (yC e))) nd
  ·have st:=gS.alloc R hp (.dK kvs)
   have e5:kvs.map (fun p=>kV p.1)=(ps.map (·.1)).map fun k=>kV (fg (tx k)):=by
    rw[show kvs.map (fun p=>kV p.1)=(kvs.map (·.1)).map kV by rw[bI];rfl,k2,bI,bI];rfl
   have R':cg c (ρ ++ [p]) (upd H p (.dK kvs)) (S ++ [.uz (ps.map fun p=>(.str p.1,p.2))]):=R.alloc hp ⟨kvs,bE,by have:=congrArg cU k2;simpa using this,by
     rw[e5,bI,show(Prod.fst ∘ fun p:List Nat × U=>(U.str p.1,p.2))=U.str ∘ Prod.fst from rfl,<-bI];exact vN,by
     rw[bI];exact k3.mono R st⟩
   refine q _ _ _ _ _ w1 st R' (iI.mpr ⟨p,rfl,?_⟩);rw[<-R.len,av (ax _),cf];rfl
theorem AW:Ea X "int.bit_length" (tO c .mh):=by
 intro pZ s σ H x xs v us Q I rx r h;obtain⟨u,ux,ρ,S,QU,hu,hx,R,w,q⟩:=h
 match u,ux,w with
 | .int i,[],w=>
  obtain⟨w0,w1⟩:=w;unfold aV at hx;refine Di pZ s σ H x xs v us Q I rx r ⟨i.toNat,by rw[aM.mp hu];congr 1;omega,hx,q.now R w1 (aM.mpr rfl)⟩
theorem Jx:∀ {ps:List (List Nat × U)} {vs:List (Key × V)} {k:List Nat},vs.length=(ps.map fun p=>(U.str p.1,p.2)).length->aV c ρ H ((ps.map fun p=>(U.str p.1,p.2)).map (·.1)) (vs.map fun p=>kV p.1)->aV c ρ H ((ps.map fun p=>(U.str p.1,p.2)).map (·.2)) (vs.map (·.2)) ->
  (ps.lookup k=none/\rP vs (fg (tx k))=none)\/∃u v,ps.lookup k=some u/\rP vs (fg (tx k))=some v/\Rep c ρ H u v
 := by
 intro ps;induction ps with
 | nil=>intro vs k hl _ _;cases vs with | nil=>exact .inl ⟨rfl,rfl⟩ | cons _ _=>cases hl
 | cons p ps ih=>
  intro vs k hl h1 h2;obtain⟨a,u⟩:=p;cases vs with | nil=>cases hl | cons p vs=>?_
  obtain⟨b,y⟩:=p;simp only[aE] at h1 h2;unfold aV at h1 h2;obtain⟨v1,r1,e1,p1,q1⟩:=h1;obtain⟨v2,r2,e2,p2,q2⟩:=h2;cases e1;cases e2;have eb:b=fg (tx a):=by
   have:=bj.mp p1;exact Mf (b:=fg (tx a)) this
  subst eb;by_cases ek:k=a
  ·subst ek
   exact .inr ⟨u,y,by simp,sT rfl,p2⟩
  ·have e3:(k == a)=false:=by simp[ek]
   rw[aY,e3,sU (fun z=>ek (qC (yC z)).symm)]
   exact ih (Hr hl) q1 q2
theorem join_eq(sep:List Nat):∀ts:List (List Nat),sY sep ts=PL.kJ sep ts
 | []=>rfl
 | [x]=>rfl
 | x::y::r=>by
  unfold sY PL.kJ;rw[join_eq sep (y::r)]
theorem qH:∀ {ts:List (List Nat)} {vs:List V},aV c ρ H (ts.map .str) vs->vs=ts.map fun t=>V.str (tx t)
 | [],_,h=>by unfold aV at h;exact h
 | t::ts,_,h=>by
  rw[aE] at h;unfold aV at h;obtain⟨v,r,e,h1,h2⟩:=h;rw[e,bj.mp h1,qH h2];rfl
theorem FU(hK:X.K=c.K):Ea X "str.join" (tO c .join):=by
 intro pZ s σ H x xs v us Q I rx r h;obtain⟨u,ux,ρ,S,QU,hu,hx,R,w,q⟩:=h
 match u,ux,w with
 | .str sep,[.loc n],w=>
  obtain⟨ts,e,w1,w2⟩:=w;obtain⟨z,e1,r1⟩:=kX hx;obtain⟨a,vs,e2,_,g1,g2⟩:=R.lst e r1;rw[qH g2] at g1;exact BP pZ s σ H x xs v us Q I rx r ⟨sep,ts,a,bj.mp hu,by rw[e1,e2],gV.of g1,w1,by rw[join_eq];exact q.now R w2 (bj.mpr rfl)⟩
theorem AX:Ea X "str.startswith" (tO c .startswith):=by
 intro pZ s σ H x xs v us Q I rx r h;obtain⟨u,ux,ρ,S,QU,hu,hx,R,w,q⟩:=h
 match u,ux,w with
 | .str l,[.str k],w=>
  obtain⟨z,e1,r1⟩:=kX hx;exact vH pZ s σ H x xs v us Q I rx r ⟨l,k,bj.mp hu,by rw[e1,bj.mp r1],q.now R w (dz.mpr rfl)⟩
theorem Dq(hA:X.A.handled=none):Ea X "str.index" (tO c .index):=by
 intro pZ s σ H x xs v us Q I rx r h;obtain⟨u,ux,ρ,S,QU,hu,hx,R,w,q⟩:=h
 match u,ux,w with
 | .str l,[.str k],w=>
  obtain⟨d,e,w1,w2⟩:=w;subst e;obtain⟨z,e1,r1⟩:=kX hx;exact yV hA pZ s σ H x xs v us Q I rx r ⟨l,d,bj.mp hu,by rw[e1,bj.mp r1],w1,q.now R w2 (aM.mpr rfl)⟩
theorem QV.putL(q:QV c ρ H QU Q)(R:cg c ρ H S)(ha:ρ[n]? = some a)(r:aV c ρ H us vs)(h:QU .bQ (S.set n (.lst us))):Q .bQ (upd H a (.lst vs)):=by
 have st:=gS.put (H:=H) (aB ha) (.lst vs);exact q _ _ _ _ _ h st (R.put ha ⟨vs,bE,r.mono R st⟩) (eQ.mpr rfl)
theorem AY:Ea X "list.append" (tO c .append):=by
 intro pZ s σ H x xs v us Q I rx r h;obtain⟨u,ux,ρ,S,QU,hu,hx,R,w,q⟩:=h
 match u,ux,w with
 | .loc n,[k],w=>
  obtain⟨us',e,w1,w2⟩:=PL.cM.mp (show PL.getL _ _ from w);obtain⟨z,e1,r1⟩:=kX hx;obtain⟨a,vs,e2,ha,g1,g2⟩:=R.lst e hu;refine qz pZ s σ H x xs v us Q I rx r ⟨a,vs,z,e2,e1,g1,?_,q.putL R ha (g2.app (aV.cons r1 aV.nil)) w2⟩;rw[<-g2.len];exact aL w1 (by decide)
theorem AZ:Ea X "list.extend" (tO c .extend):=by
 intro pZ s σ H x xs v us Q I rx r h;obtain⟨u,ux,ρ,S,QU,hu,hx,R,w,q⟩:=h
 match u,ux,w with
 | .loc n,[.loc m],w=>
  obtain⟨us',e,w1⟩:=PL.cM.mp (show PL.getL _ _ from w);obtain⟨ws,e',w2,w3⟩:=PL.cM.mp w1;obtain⟨z,e1,r1⟩:=kX hx;obtain⟨a,vs,e2,ha,g1,g2⟩:=R.lst e hu;obtain⟨b,zs,e3,hb,g3,g4⟩:=R.lst e' r1;exact vB pZ s σ H x xs v us Q I rx r ⟨a,b,vs,zs,e2,by rw[e1,e3],g1,g3,oH (by rw[<-g2.len,<-g4.len];exact w2),q.putL R ha (g2.app g4) w3⟩
theorem Jy(hK:X.K=c.K)(R:cg c ρ H S)(r:Rep c ρ H u v)(h:PL.qE S u=some b):LU X.K v H b:=by
 cases u with
 | bQ=>rw[eQ.mp r];exact(aG h).symm
 | bl k=>rw[dz.mp r];exact(aG h).symm
 | int i=>rw[aM.mp r];exact(aG h).symm
 | str l=>exact nn h
 | tup us=>
  obtain⟨a,vs,e,h1,h2⟩:=dP.mp r;simp[PL.qE,PL.oY] at h;rw[e]
  refine .inr (.inl ⟨vs,lD.of h1,?_⟩);have:=h2.len;rw[<-h]
  cases us<;>cases vs<;>simp at this ⊢
 | pG ns=>
  obtain⟨a,e,h1⟩:=pO.mp r;simp[PL.qE,PL.oY] at h;rw[e]
  refine .inl ⟨_,hK ▸ h1.sq,?_⟩;rw[<-h]
  cases ns<;>simp
 | loc m=>
  unfold PL.qE PL.oY at h;cases q:S[m]? with
  | none=>simp only[q] at h;exact nn h
  | some o=>
   simp only[q] at h;cases o with
   | lst us=>
    obtain⟨a,vs,e,_,h1,h2⟩:=R.lst q r;simp at h;rw[e]
    refine .inl ⟨vs,gV.of h1,?_⟩;have:=h2.len;rw[<-h]
    cases us<;>cases vs<;>simp at this ⊢
   | uz kvs=>
    obtain⟨a,e,ha⟩:=iI.mp r;obtain⟨vs,h1,h2,_⟩:=R.at_ m a _ ha q;simp at h;rw[e]
    refine .inr (.inr ⟨vs,h1,?_⟩);rw[<-h]
    cases kvs<;>cases vs<;>simp at h2 ⊢
   | ins x fs=>exact nn h
 | _=>exact nn h
end
end L2
end
section
namespace L2
open PySem PySem.Spec PyProof.Rows PySem.W
open PL (U SO bR Xn KU KX b7)
structure uW where
 cls:String->Option Addr
 exc:String->Option Addr
noncomputable abbrev Cx.cc(X:Cx)(t:uW):Ctx:=⟨X.prog,X.w,X.K,X.mg,X.base,t.cls,t.exc⟩
def lift(c:Ctx)(sp:PL.Spec):Sp:=fun vs H Q E=>∃us ρ S QU EU,aV c ρ H us vs/\cg c ρ H S/\sp us S QU EU/\QV c ρ H QU Q/\QX c ρ H EU E
def FnAt(c:Ctx)(k:Nat)(f:Addr)(sp:PL.Spec):Prop:=∃fd ps,iz c.P c.w c.K c.mg c.base (oW c.P c.w) k f fd ps (lift c sp)/\Binds c.K fd ps []
structure zk (c:Ctx) (T:Tab):Prop where
 const:∀p∈T.const,∃v u,c.mg (nm p.1)=some u/\RelV v u/\∀ ρ H,Rep c ρ H p.2 v
 fc:∀x∈T.fc,c.mg (nm x)=none
 cls:∀x C,c.cls x=some C->BH c.K C/\∀f∈T.tI,fm c.K C (nm f)
 exc:∀x C,c.exc x=some C->XGet c.K C/\Mp c.K C/\(∃bm,nq c.K C bm)/\∀f∈T.tI,fm c.K C (nm f)
 OL:∀x C y D,c.exc x=some C->c.exc y=some D->qr c.K (.ref C) (.ref D)=some ((PL.lR x).contains y)
 UT:∀x C,c.exc x=some C->qr c.K (.ref C) (.type "ValueError")=some true
 SK:∀x∈T.uT,∃C,c.exc x=some C/\c.mg (nm x)=some (.ref C)
structure fR (c:Ctx) (T:Tab) (Γ:b7) (k:Nat):Prop where
 fns:∀x∈T.fns,∃f,c.mg (nm x)=some (.ref f)/\ly c.K (.ref f)=true/\FnAt c k f (Γ x)
 OM:∀p∈T.o7,∃C f,c.cls p.2=some C/\Meth c.K C (nm p.1) f/\FnAt c k f (Γ (p.2 ++ "." ++ p.1))
 cls:∀x∈T.oZ,∃C f,c.cls x=some C/\c.mg (nm x)=some (.ref C)/\Mk c.K C f/\FnAt c k f (Γ (x ++ ".__init__"))
structure Good (t:uW) (T:Tab) (Γ:b7) (k:Nat) (I:Inf) (X:Cx):Prop where
 tab:zk (X.cc t) T
 HF:fR (X.cc t) T Γ k
 kind:X.env.scope.kind = .function
 names:X.env.scope.names=I.names
 slots:X.N=I.N
 nd:X.N.Nodup
 calm:I.calm=true->X.calm=true/\jf (k + 1) X.A
 units:X.A.units + 200 < kh
theorem Good.at_{t:uW}{T:Tab}{Γ:b7}{k:Nat}{I:Inf}{X:Cx}{pZ:List (Addr × Obj)}{E:St->XK}(G:Good t T Γ k I X):Good t T Γ k I (X.at_ pZ E):=
 ⟨G.tab,G.HF,G.kind,G.names,G.slots,G.nd,G.calm,G.units⟩
def Dr(c:Ctx)(ρ:List Addr)(H:Hp)(J:It)(us:List U)(g:bR->Prop):Prop:=
 ∀(i:Nat) (ρ2:List Addr) (H2:Hp) (S2:bR),gS ρ H ρ2 H2->cg c ρ2 H2 S2->g S2 ->
  (∀u,us[i]? = some u->J.go i H2/\∀y H3,J.Pa i H2 y H3->gS ρ2 H2 ρ2 H3/\cg c ρ2 H3 S2/\Rep c ρ2 H3 u y)/\(us.length<=i->J.stop i H2)
def QI(c:Ctx)(ρ:List Addr)(H:Hp)(RU:List U->(bR->Prop)->bR->Prop)(R:It->Hp->Prop):Prop:=
 ∀us g S' H' ρ' J,RU us g S'->gS ρ H ρ' H'->cg c ρ' H' S'->Dr c ρ' H' J us g->R J H'
noncomputable def yy(c:Ctx)(Γ:b7)(x:PL.It):XK->TI:=fun E σ H R=>∃env ρ S RU EU,iA c ρ H env σ/\cg c ρ H S/\PL.WI Γ x env S RU EU/\QI c ρ H RU R/\QX c ρ H EU E
def QO(c:Ctx)(ρ:List Addr)(H:Hp)(QU:Option Int->bR->Prop)(Q:Option Int->Hp->Prop):Prop:=∀o S' H' ρ',QU o S'->gS ρ H ρ' H'->cg c ρ' H' S'->Q o H'
noncomputable def SM(c:Ctx)(Γ:b7)(x:PL.Ox):XK->TO:=fun E σ H Q=>∃env ρ S QU EU,iA c ρ H env σ/\cg c ρ H S/\PL.WO Γ x env S QU EU/\QO c ρ H QU Q/\QX c ρ H EU E
structure Ds (t:uW) (T:Tab) (Γ:b7) (k n:Nat):Prop where
 fe:∀ {I X e x},Good t T Γ k I X->cE T n I e=some x->d7 X e (tE (X.cc t) Γ x)
 ON:∀ {I X es xs},Good t T Γ k I X->OJ T n I es=some xs->zi X es (Dl (X.cc t) Γ xs)
 UU:∀ {I X op vs x pos},Good t T Γ k I X->SH T n I op vs=some x->d7 X (.BoolOp op vs pos) (tE (X.cc t) Γ x)
 fo:∀ {I X oe x},Good t T Γ k I X->cO T n I oe=some x->∀pZ E,PO (X.at_ pZ E) oe (fun σ H Q=>SM (X.cc t) Γ x (E σ) σ H Q)
 fi:∀ {I X e x tg},Good t T Γ k I X->cI T n I e=some x->∀pZ E,PI (X.at_ pZ E) tg e (fun σ H R=>yy (X.cc t) Γ x (E σ) σ H R)
 fn:∀ {I X e x es ek tp},Good t T Γ k I X->cN T n I e=some x->∀pZ E,PI (X.at_ pZ E) (.Tuple es ek tp) e (fun σ H R=>yy (X.cc t) Γ x (E σ) σ H R)
 ft:∀ {I X e x},Good t T Γ k I X->cT T n I e=some x->AS X e (tT (X.cc t) Γ x)
 UW:∀ {I X op vs x pos},Good t T Γ k I X->SI T n I op vs=some x->∀pZ E,PW (X.at_ pZ E) (.BoolOp op vs pos) (fun σ H Q=>tT (X.cc t) Γ x (E σ) σ H Q)
section
variable {t:uW} {T:Tab} {Γ:b7} {k n:Nat} {I:Inf} {X:Cx}
theorem dH:∀ {l:List Str} {i:Nat},dy x l=some i->l[i]? = some x
 | [],_,h=>nn h
 | y::ys,i,h=>by
  unfold dy at h;by_cases e:y=x
  ·rw[if_pos e] at h;injection h with h;subst h;subst e;rfl
  ·rw[if_neg e] at h
   cases q:dy x ys with
   | none=>rw[q] at h;cases h
   | some j=>rw[q] at h;simp at h;subst h;simpa using dH q
theorem M3(h:Jc (names.lookup x)=true)(e:sc.names=names):HA sc x:=by
 rw[<-e] at h;unfold HA;cases q:sc.names.lookup x with
 | none=>rw[q] at h;cases h
 | some kd=>rw[q] at h;cases kd<;>simp[Jc] at h<;>simp
theorem Jz (G:Good t T Γ k I X) (h:dy x I.N=some i) (hv:Jc (I.names.lookup x)=true) (h1:(x == ("__debug__":Str))=false) (h2:(x == ("__classdict__":Str))=false):d7 X (.Name x pos) (tE (X.cc t) Γ (.var i)):=by
 refine up fun pZ E=>(oS (i:=i) (X:=X.at_ pZ E) (by show X.N[i]? = some x;rw[G.slots];exact dH h) (M3 hv G.names) h1 h2).imp ?_
 rintro σ H Q ⟨env,ρ,S,QU,EU,he,R,w,q,qx⟩;obtain⟨u,e,w⟩:=PL.y0.mp (show PL.xD _ _ from w);obtain⟨v,e1,r⟩:=he.at_ i u e;exact⟨v,e1,q.now R w r⟩
theorem pR{e:Expr}{u:U}{v:V}(h:∀(pZ:List (Addr × Obj)) E,PE (X.at_ pZ E) e (tC v))(r:∀ ρ H,Rep (X.cc t) ρ H u v):d7 X e (tE (X.cc t) Γ (.lit u)):=by
 refine up fun pZ E=>(h pZ E).imp ?_
 rintro σ H Q ⟨env,ρ,S,QU,EU,he,R,w,q,qx⟩;exact q.now R w (r ρ H)
theorem gT(h:pick l x=some s):s∈l/\nm s=x:=by
 unfold pick at h;exact⟨wR h,by simpa using HW h⟩
theorem vO{α:Type}{l:List (String × α)}{x:Str}{s:String × α}(h:zg l x=some s):s∈l/\nm s.1=x:=by
 unfold zg at h;exact⟨wR h,by simpa using HW h⟩
theorem gk(G:Good t T Γ k I X){x:Str}(h:I.gl x=true):Gl X x:=by
 unfold Inf.gl at h;show X.env.scope.names.lookup x=_;rw[G.names]
 simpa using h
theorem FV {x:Str} {pos:Pos} {p:String × U} (G:Good t T Γ k I X) (hg:I.gl x=true) (h:zg T.const x=some p) (h1:(x == ("__debug__":Str))=false):d7 X (.Name x pos) (tE (X.cc t) Γ (.lit p.2)):=by
 obtain⟨hm,e⟩:=vO h;obtain⟨v,u,e1,rv,r⟩:=G.tab.const p hm;subst e;exact pR (fun pZ E=>wY (X:=X.at_ pZ E) (gk G hg) e1 rv h1) r
theorem M4(G:Good t T Γ k I X)(ho:Qa op=some o)(ha:∀pZ E,d7 (X.at_ pZ E) a (tE (X.cc t) Γ x))(hb:∀pZ E,d7 (X.at_ pZ E) b (tE (X.cc t) Γ y)):d7 X (.BinOp a op b pos) (tE (X.cc t) Γ (.bin o x y)):=by
 have e:op=Jk o:=by
  cases op<;>first | exact nn ho | (cases ho;rfl)
 rw[e]
 refine up fun pZ E=>(Pc (X:=X.at_ pZ E) (Js (X:=X.at_ pZ E) (c:=X.cc t)) (dn (ha pZ E)) (dn (hb pZ E))).imp ?_
 rintro σ H Q ⟨env,ρ,S,QU,EU,he,R,w,q,qx⟩;refine⟨env,ρ,S,_,EU,he,R,w,fun u S1 v H1 ρ1 w1 st1 R1 r1=>?_,qx⟩;refine⟨env,ρ1,S1,_,EU,he.later R st1,R1,w1,fun u2 S2 v2 H2 ρ2 w2 st2 R2 r2=>?_,qx.later st1⟩;exact⟨u,u2,ρ2,S2,QU,r1.mono R1 st2,r2,R2,w2,q.later (st1.trans st2)⟩
theorem M5(G:Good t T Γ k I X)(ho:Jd op=some o)(hm:behindInMarks op b=false)(ha:∀pZ E,d7 (X.at_ pZ E) a (tE (X.cc t) Γ x))(hb:∀pZ E,d7 (X.at_ pZ E) b (tE (X.cc t) Γ y)):d7 X (.Compare a [op] [b] pos) (tE (X.cc t) Γ (.cmp o x y)):=by
 have e:op=FL o:=by cases op<;>first | exact nn ho | (cases ho;rfl)
 subst e;refine up fun pZ E=>(Il (X:=X.at_ pZ E) (B1 (X:=X.at_ pZ E) (c:=X.cc t) rfl rfl G.units o) (dn (ha pZ E)) (dn (hb pZ E)) hm).imp ?_
 rintro σ H Q ⟨env,ρ,S,QU,EU,he,R,w,q,qx⟩;refine⟨env,ρ,S,_,EU,he,R,w,fun u S1 v H1 ρ1 w1 st1 R1 r1=>?_,qx⟩;refine⟨env,ρ1,S1,_,EU,he.later R st1,R1,w1,fun u2 S2 v2 H2 ρ2 w2 st2 R2 r2=>?_,qx.later st1⟩;refine⟨u,u2,ρ2,S2,r1.mono R1 st2,r2,R2,PL.vJ (fun r h=>?_) w2⟩;exact(q.later (st1.trans st2)).now R2 h (dz.mpr rfl)
theorem JA(G:Good t T Γ k I X)(ho:Jd op=some o)(hm:behindInMarks op b=false)(ha:∀pZ E,d7 (X.at_ pZ E) a (tE (X.cc t) Γ x))(hb:∀pZ E,d7 (X.at_ pZ E) b (tE (X.cc t) Γ y)):AS X (.Compare a [op] [b] pos) (tT (X.cc t) Γ (.cG (.cmp o x y))):=by
 have e:op=FL o:=by cases op<;>first | exact nn ho | (cases ho;rfl)
 subst e;refine SJ fun pZ E=>(Im (X:=X.at_ pZ E) (B1 (X:=X.at_ pZ E) (c:=X.cc t) rfl rfl G.units o) (dn (ha pZ E)) (dn (hb pZ E)) hm).imp ?_
 rintro σ H Q ⟨env,ρ,S,QU,EU,he,R,w,q,qx⟩;refine⟨env,ρ,S,_,EU,he,R,w,fun u S1 v H1 ρ1 w1 st1 R1 r1=>?_,qx⟩;refine⟨env,ρ1,S1,_,EU,he.later R st1,R1,w1,fun u2 S2 v2 H2 ρ2 w2 st2 R2 r2=>?_,qx.later st1⟩;refine⟨u,u2,ρ2,S2,r1.mono R1 st2,r2,R2,PL.vJ (fun r h=>⟨r,rfl,?_⟩) w2⟩;exact(q.later (st1.trans st2)) _ _ _ _ h .refl R2
end
end L2
end
section
namespace L2
open PySem PySem.Spec PyProof.Rows PySem.W
open PL (U SO bR Xn KU KX b7)
theorem cK(h:noStar e=true):bN (e::es) env=(false,eval e env)::bN es env:=by
 cases e<;>first | rfl | cases h
theorem tR:∀ {es:List Expr},es.all noStar=true->bN es env=es.map fun e=>(false,eval e env)
 | [],_=>rfl
 | e::es,h=>by
  rw[bD,ag] at h;rw[cK h.1,tR h.2];rfl
theorem gW(h:ij o=true):iO o m env (eval o env)=eval o env:=by
 cases o with
 | Call f args kws pos=>
  cases f with
  | Name id p=>
   cases args with
   | nil=>
    cases kws with
    | nil=>cases h
    | cons k ks=>rfl
   | cons a as=>rfl
  | _=>rfl
 | _=>rfl
theorem zm(h:xO e=true):iy e tg l env=pure false:=by
 cases e<;>first | rfl | cases h
theorem fD(h:es.all noStar=true):(iC pos (bN es env)).any (·.1)=false:=by
 rw[tR h]
 unfold iC;simp
theorem vP(h:es.all noStar=true)(hn:es.length < 20):Ab (es.length + ([]:List qY).length) (iC pos (bN es env)) (backToKw pos (kn [] env))=true:=by
 rw[tR h]
 have e:kn [] env = []:=rfl;rw[e]
 unfold Ab iC;simp[backToKw]
 omega
theorem vQ(h0:ij o=true)(hst:args.all noStar=true)(hn:args.length < 20)(hl:(apos.endLine == pos.line)=true):
  eval (.Call (.Attribute o m apos) args [] pos) env=(do
   let ov <-eval o env
   standAt apos.atName
   let (f,first) <-holding [ov] (getMethod ov m (do return (<-importBound o env).getD true))
   callWith pos f first (iC pos (bN args env)) (backToKw pos (kn [] env))):=by
 change (do
  let ov <-iO o m env (eval o env)
  standAt apos.atName
  methodCall o m apos pos env ov (args.length + [].length) (iC pos (bN args env)) (backToKw pos (kn [] env)))=_
 simp only[gW h0,methodCall,vP hst hn,calleeOf,methodCallPos,hl]
 rfl
end L2
end
section
namespace L2
open PySem PySem.Spec PyProof.Rows PySem.W
open PL (U SO bR Xn KU KX b7)
section
variable {X:Cx} {k:Nat} {f C:Addr} {fd:dQ} {ps:List Str} {sp:Sp} {x m:Str} {p pos apos:Pos} {e o:Expr} {es:List Expr} {ta:XK->TA} {to:XK->TE}
theorem UX(F:iz X.prog X.w X.K X.mg X.base (oW X.prog X.w) k f fd ps sp)(hr:jf k X.A)(hg:Gl X x)(hm:X.mg x=some (.ref f))(hk:ly X.K (.ref f)=true)(hb:Binds X.K fd ps [])(ha:zi X (e::es) ta)
  (hdb:(x == ("__debug__":Str))=false) (he:noStar e=true) (hes:es.all noStar=true):d7 X (.Call (.Name x p) (e::es) [] pos) (fun E σ H Q=>ta E σ H fun vs H1=>sp vs H1 Q E):=by
 intro pZ s σ H Q E I h;refine dw (l9 I hg hm ?_ hdb);refine Ac (h₀:=X.base) I.ok.mod.OF hk (eT (ha pos pZ s σ H _ E I h) fun us s1 h9=>?_) (cK he) (fD hes);obtain⟨vs,H1,I1,r,q⟩:=h9;refine⟨I1.kA,?_⟩;exact r9 F hr hb .nil I1 r (by rw[aZ];exact q)
theorem Qj(F:iz X.prog X.w X.K X.mg X.base (oW X.prog X.w) k f fd ps sp)(hr:jf k X.A)(hg:Gl X x)(hm:X.mg x=some (.ref f))(hk:ly X.K (.ref f)=true)(hb:Binds X.K fd ps [])
  (hdb:(x == ("__debug__":Str))=false):d7 X (.Call (.Name x p) [] [] pos) (fun E σ H Q=>sp [] H Q E):=by
 intro pZ s σ H Q E I h;refine dw (l9 I hg hm ?_ hdb);exact HX I.kA hk (r9 (us:=[]) (vs:=[]) F hr hb .nil I .nil h)
theorem UY(he:d7 X o to)(c:BH X.K C)(hm:Meth X.K C m f)(F:iz X.prog X.w X.K X.mg X.base (oW X.prog X.w) k f fd ps sp)(hr:jf k X.A)(hb:Binds X.K fd ps [])(ha:zi X (e::es) ta)
  (h0:ij o=true) (hn:(e::es).length < 20) (hl:(apos.endLine == pos.line)=true) (hse:noStar e=true) (hes:es.all noStar=true):
  d7 X (.Call (.Attribute o m apos) (e::es) [] pos) (fun E σ H Q=>to E σ H fun x H1=>∃a dx fs,x = .ref a/\H1 a=some (.ins C dx fs)/\fs.lookup m=none/\ta E σ H1 fun vs H2=>sp (x::vs) H2 Q E):=by
 intro pZ s σ H Q E I h;refine methodCall_KW (eT (he pZ s σ H _ E I h) fun u s1 h9=>?_) (vQ h0 (by rw[bD,hse,hes];rfl) hn hl);obtain⟨x,H1,I1,rx,a,dx,fs,ex,ea,l,q⟩:=h9;subst ex;obtain rfl:u=aO a:=rx;refine sQ I1 ea c hm l ?_;refine Ac (first:=[.ref a]) (h₀:=X.base) I.ok.mod.OF hm.kp (eT (ha pos pZ s1 σ H1 _ E I1 q) fun us s2 h9=>?_) (cK hse) (fD hes);obtain⟨vs,H2,I2,r,q2⟩:=h9;refine⟨I2.kA,?_⟩;exact r9 (us:=.ref a::us) (vs:=.ref a::vs) F hr hb .nil I2 (.cons rfl r) (by rw[aZ];exact q2)
theorem Qk(he:d7 X o to)(c:BH X.K C)(hm:Meth X.K C m f)(F:iz X.prog X.w X.K X.mg X.base (oW X.prog X.w) k f fd ps sp)(hr:jf k X.A)(hb:Binds X.K fd ps [])
  (h0:ij o=true) (hl:(apos.endLine == pos.line)=true):
  d7 X (.Call (.Attribute o m apos) [] [] pos) (fun E σ H Q=>to E σ H fun x H1=>∃a dx fs,x = .ref a/\H1 a=some (.ins C dx fs)/\fs.lookup m=none/\sp [x] H1 Q E):=by
 intro pZ s σ H Q E I h;refine methodCall_KW (eT (he pZ s σ H _ E I h) fun u s1 h9=>?_) (vQ h0 rfl (by decide) hl);obtain⟨x,H1,I1,rx,a,dx,fs,ex,ea,l,q⟩:=h9;subst ex;obtain rfl:u=aO a:=rx;refine sQ I1 ea c hm l ?_;exact HX (first:=[.ref a]) I1.kA hm.kp (r9 (us:=[.ref a]) (vs:=[.ref a]) F hr hb .nil I1 (.cons rfl .nil) q)
theorem vR(M:Mk X.K C f)(F:iz X.prog X.w X.K X.mg X.base (oW X.prog X.w) k f fd ps sp)(hr:jf (k + 1) X.A)(hb:Binds X.K fd ps [])
  (I:Inv X pZ σ H s) (r:Vals vs us) (h:∀x dx,H x=none->H dx=none->dx≠x->sp (.ref x::vs) (upd (upd H dx (.own x)) x (.ins C dx [])) (fun v H2=>v = .bQ/\Q (.ref x) H2) E):
  wpAny (aP X.prog X.w) X.A (call (.ref C) us) (EP X pZ σ Q) (XE X pZ σ E) s:=by
 have hq:=h (s.heap.objs.size + 1) s.heap.objs.size (I.dj.fresh (gN _)) (I.dj.fresh (ax _)) (bV (sD _));have I2:=Inv.made (C:=C) I;have r2:Vals (V.ref (s.heap.objs.size + 1)::vs) (aO (s.heap.objs.size + 1)::us):=.cons rfl r;have hl:(aO (s.heap.objs.size + 1)::us ++ ([]:List Value)).length=ps.length:=by
  have e:=r2.length;rw[F.len _ _ _ _ hq] at e;rw[aZ]
  exact e.symm
 have hb2:=hb { s with heap:=(s.heap.push cJ).push (dv C s.heap.objs.size) } (aO (s.heap.objs.size + 1)::us) I2.kA hl;rw[aZ] at hb2;refine oQ (EL (f:=f) I.kA M.makes M.init (beq_iff_eq.mp M.fn) (lH (F.run _ X.stack _ _ ⟨aO (s.heap.objs.size + 1)::us,[]⟩ (aO (s.heap.objs.size + 1)::us) _ _ E (hr.make C us [])
  (I2.LZ.make C us []) hb2 r2 hq) fun r s' hq'=>?_))
 cases r with
 | error e=>
  obtain⟨a,T,c,dx,H',e1,I',x,fr,q⟩:=oW.inv I2 hq';exact⟨a,some T,c,dx,H',e1,I',x,fr,q⟩
 | ok fl=>
  cases fl with
  | ret u=>
   obtain⟨v,H',I3,rv,ev,q3⟩:=I2.after hq';subst ev;exact⟨rv,⟨V.ref (s.heap.objs.size + 1),H',I3,rfl,q3⟩⟩
  | next=>exact aI hq'
  | brk=>exact aI hq'
  | cont=>exact aI hq'
theorem UZ(M:Mk X.K C f)(F:iz X.prog X.w X.K X.mg X.base (oW X.prog X.w) k f fd ps sp)(hr:jf (k + 1) X.A)(hg:Gl X x)(hm:X.mg x=some (.ref C))(hb:Binds X.K fd ps [])(ha:zi X (e::es) ta)
  (hdb:(x == ("__debug__":Str))=false) (he:noStar e=true) (hes:es.all noStar=true):d7 X (.Call (.Name x p) (e::es) [] pos) (fun E σ H Q=>ta E σ H fun vs H1=>∀x dx,H1 x=none->H1 dx=none->dx≠x ->
   sp (.ref x::vs) (upd (upd H1 dx (.own x)) x (.ins C dx [])) (fun v H2=>v = .bQ/\Q (.ref x) H2) E):=by
 intro pZ s σ H Q E I h;refine dw (l9 I hg hm ?_ hdb);refine Ac (h₀:=X.base) I.ok.mod.OF M.kp (eT (ha pos pZ s σ H _ E I h) fun us s1 h9=>?_) (cK he) (fD hes);obtain⟨vs,H1,I1,r,q⟩:=h9;refine⟨I1.kA,?_⟩;exact vR M F hr hb I1 r q
theorem Ql(M:Mk X.K C f)(F:iz X.prog X.w X.K X.mg X.base (oW X.prog X.w) k f fd ps sp)(hr:jf (k + 1) X.A)(hg:Gl X x)(hm:X.mg x=some (.ref C))(hb:Binds X.K fd ps [])
  (hdb:(x == ("__debug__":Str))=false):d7 X (.Call (.Name x p) [] [] pos) (fun E σ H Q=>∀x dx,H x=none->H dx=none->dx≠x ->
   sp [.ref x] (upd (upd H dx (.own x)) x (.ins C dx [])) (fun v H2=>v = .bQ/\Q (.ref x) H2) E):=by
 intro pZ s σ H Q E I h;refine dw (l9 I hg hm ?_ hdb);exact HX I.kA M.kp (vR (us:=[]) (vs:=[]) M F hr hb I .nil h)
end
theorem d7.imp(h:d7 X e t)(q:∀E σ H Q,t' E σ H Q->t E σ H Q):d7 X e t':=fun pZ s σ H Q E I z=>h pZ s σ H Q E I (q E σ H Q z)
section
variable {t:uW} {T:Tab} {Γ:b7} {k n:Nat} {I:Inf} {X:Cx}
theorem kY:∀ {n:Nat} {I:Inf} {es:List Expr} {xs:PL.xC},OJ T n I es=some xs->es.all noStar=true
 | 0,_,_,_,h=>by rw[KZ] at h;cases h
 | n + 1,I,[],_,_=>rfl
 | n + 1,I,e::es,_,h=>by
  rw[Fx,Fu] at h;by_cases z:noStar e=true
  ·simp only[z,bJ,aq,if_false,aH,ao] at h
   obtain⟨x,_,xs,h2,_⟩:=h;rw[bD,z,kY h2];rfl
  ·simp[z] at h
theorem M6(IH:Ds t T Γ k n)(G:Good t T Γ k I X):∀ {es:List Expr} {xs:PL.xC},OJ T (n + 1) I es=some xs->zi X es (Dl (X.cc t) Γ xs)
 | [],xs,h=>by
  rw[Fx,Fu] at h;injection h with h;subst h
  refine Wh fun pZ E=>?_
  refine fun pos pins' s σ H Q J z=>qv (X:=X.at_ pZ E) pos pins' s σ H Q J ?_
  obtain⟨env,ρ,S,QU,EU,he,R,w,q,qx⟩:=z;exact q [] S [] H ρ w .refl R aV.nil
 | e::es,xs,h=>by
  have st:=kY h;rw[bD,ag] at st;rw[Fx,Fu] at h;simp only[st.1,bJ,aq,if_false,aH,ao] at h;obtain⟨x,h1,ys,h2,h3⟩:=h;injection h3 with h3;subst h3
  refine Wh fun pZ E=>?_
  have P:=kG (X:=X.at_ pZ E) (dn (IH.fe G.at_ h1)) (AU (IH.ON G.at_ h2)) (cK st.1);refine fun pos pins' s σ H Q J z=>P pos pins' s σ H Q J ?_
  obtain⟨env,ρ,S,QU,EU,he,R,w,q,qx⟩:=z;refine⟨env,ρ,S,_,EU,he,R,w,fun u S1 v H1 ρ1 w1 st1 R1 r1=>?_,qx⟩;refine⟨env,ρ1,S1,_,EU,he.later R st1,R1,w1,fun us S2 vs H2 ρ2 w2 st2 R2 r2=>?_,qx.later st1⟩;exact q _ _ _ _ _ w2 (st1.trans st2) R2 (aV.cons (r1.mono R1 st2) r2)
theorem M7(ha:∀pZ E,d7 (X.at_ pZ E) a (tE (X.cc t) Γ x)):d7 X (.UnaryOp .USub a pos) (tE (X.cc t) Γ (.neg x)):=by
 refine up fun pZ E=>(Pd (X:=X.at_ pZ E) LQ (dn (ha pZ E))).imp ?_
 rintro σ H Q ⟨env,ρ,S,QU,EU,he,R,w,q,qx⟩;refine⟨env,ρ,S,_,EU,he,R,w,fun u S1 v H1 ρ1 w1 st1 R1 r1=>?_,qx⟩;obtain⟨i,e,w2⟩:=PL.eI.mp w1;subst e;exact⟨i,aM.mp r1,(q.later st1).now R1 w2 (aM.mpr rfl)⟩
theorem M8(ha:∀pZ E,d7 (X.at_ pZ E) a (tE (X.cc t) Γ x)):d7 X (.UnaryOp .Not a pos) (tE (X.cc t) Γ (.not x)):=by
 refine up fun pZ E=>(Ly (X:=X.at_ pZ E) (dn (ha pZ E))).imp ?_
 rintro σ H Q ⟨env,ρ,S,QU,EU,he,R,w,q,qx⟩;refine⟨env,ρ,S,_,EU,he,R,w,fun u S1 v H1 ρ1 w1 st1 R1 r1=>?_,qx⟩;obtain⟨i,e,w2⟩:=PL.xE.mp w1;subst e;exact⟨i,dz.mp r1,(q.later st1).now R1 w2 (dz.mpr rfl)⟩
theorem M9(IH:Ds t T Γ k n)(G:Good t T Γ k I X):∀ {vs:List Expr} {x:PL.Ex},SH T (n + 1) I op vs=some x->d7 X (.BoolOp op vs pos) (tE (X.cc t) Γ x)
 | [],x,h=>by rw[Fy,Fv] at h;cases h
 | [a],x,h=>by
  rw[Fy,Fv] at h;refine up fun pZ E=>Lw (X:=X.at_ pZ E) (dn (IH.fe G.at_ h))
 | a::b::r,y,h=>by
  rw[Fy,Fv] at h;simp only[aH,ao] at h;obtain⟨x,h1,z,h2,h3⟩:=h;injection h3 with h3;subst h3
  cases op with
  | And=>
   refine up fun pZ E=>(Lx (X:=X.at_ pZ E) (dn (IH.fe G.at_ h1)) (dn (IH.UU G.at_ h2))).imp ?_
   rintro σ H Q ⟨env,ρ,S,QU,EU,he,R,w,q,qx⟩;refine⟨env,ρ,S,_,EU,he,R,w,fun u S1 v H1 ρ1 w1 st1 R1 r1=>?_,qx⟩;obtain⟨i,e,w2⟩:=PL.xE.mp w1;subst e;refine⟨i,dz.mp r1,?_⟩;cases i with
   | true=>exact⟨env,ρ1,S1,QU,EU,he.later R st1,R1,w2,q.later st1,qx.later st1⟩
   | false=>exact(q.later st1).now R1 w2 (dz.mpr rfl)
  | Or=>
   refine up fun pZ E=>(O0 (X:=X.at_ pZ E) (dn (IH.fe G.at_ h1)) (dn (IH.UU G.at_ h2))).imp ?_
   rintro σ H Q ⟨env,ρ,S,QU,EU,he,R,w,q,qx⟩;refine⟨env,ρ,S,_,EU,he,R,w,fun u S1 v H1 ρ1 w1 st1 R1 r1=>?_,qx⟩;obtain⟨i,e,w2⟩:=PL.xE.mp w1;subst e;refine⟨i,dz.mp r1,?_⟩;cases i with
   | true=>exact(q.later st1).now R1 w2 (dz.mpr rfl)
   | false=>exact⟨env,ρ1,S1,QU,EU,he.later R st1,R1,w2,q.later st1,qx.later st1⟩
theorem Qm(hc:∀pZ E,AS (X.at_ pZ E) c (tT (X.cc t) Γ x))(ha:∀pZ E,d7 (X.at_ pZ E) a (tE (X.cc t) Γ y))(hb:∀pZ E,d7 (X.at_ pZ E) b (tE (X.cc t) Γ z)):d7 X (.IfExp c a b pos) (tE (X.cc t) Γ (.zZ x y z)):=by
 refine up fun pZ E=>(ED (X:=X.at_ pZ E) (OK (hc pZ E)) (dn (ha pZ E)) (dn (hb pZ E))).imp ?_
 rintro σ H Q ⟨env,ρ,S,QU,EU,he,R,w,q,qx⟩;refine⟨env,ρ,S,_,EU,he,R,w,fun b S1 H1 ρ1 w1 st1 R1=>?_,qx⟩;cases b with
 | true=>exact⟨env,ρ1,S1,QU,EU,he.later R st1,R1,w1,q.later st1,qx.later st1⟩
 | false=>exact⟨env,ρ1,S1,QU,EU,he.later R st1,R1,w1,q.later st1,qx.later st1⟩
theorem Na(ha:∀pZ E,zi (X.at_ pZ E) es (Dl (X.cc t) Γ xs)):d7 X (.Tuple es j pos) (tE (X.cc t) Γ (.tup xs)):=by
 refine up fun pZ E=>(EN (X:=X.at_ pZ E) (AU (ha pZ E))).imp ?_
 rintro σ H Q ⟨env,ρ,S,QU,EU,he,R,w,q,qx⟩;refine⟨env,ρ,S,_,EU,he,R,w,fun us S1 vs H1 ρ1 w1 st1 R1 r1=>?_,qx⟩;exact⟨by rw[<-r1.len];exact oH w1.1,fun p hp=>(q.later st1).Jj R1 r1 w1.2 hp⟩
theorem Nb(ha:∀pZ E,zi (X.at_ pZ E) es (Dl (X.cc t) Γ xs)):d7 X (.List es pos) (tE (X.cc t) Γ (.lst xs)):=by
 refine up fun pZ E=>(LY (X:=X.at_ pZ E) (AU (ha pZ E))).imp ?_
 rintro σ H Q ⟨env,ρ,S,QU,EU,he,R,w,q,qx⟩;refine⟨env,ρ,S,_,EU,he,R,w,fun us S1 vs H1 ρ1 w1 st1 R1 r1=>?_,qx⟩;exact⟨by rw[<-r1.len];exact oH w1.1,fun p hp=>(q.later st1).FC R1 r1 w1.2 hp⟩
theorem mz:∀ {fs:List (String × U)} {vs:List (Str × V)},vs.map (·.1)=(fs.map (·.1)).map nm->aV c ρ H (fs.map (·.2)) (vs.map (·.2))->fs.lookup f=some u->(∀a b:String,nm a=nm b->a=b)->∃v,vs.lookup (nm f)=some v/\Rep c ρ H u v
 | [],vs,_,_,h,_=>nomatch h
 | (g,w)::fs,[],e,_,_,_=>by simp at e
 | (g,w)::fs,(a,v)::vs,e,r,h,inj=>by
  simp only[aE,dW] at e;rw[aE,aE] at r;unfold aV at r;obtain⟨v',r',e',h1,h2⟩:=r;injection e' with e1 e2
  subst e1;subst e2;rw[aY] at h ⊢;by_cases z:f=g
  ·subst z
   simp at h;subst h;have:(nm f == a)=true:=by rw[e.1];simp
   rw[this]
   exact⟨v,rfl,h1⟩
  ·have z1:(f == g)=false:=by simp[z]
   rw[z1] at h;have z2:(nm f == a)=false:=by
    rw[e.1]
    simp only[beq_eq_false_iff_ne,ne_eq];exact fun q=>z (inj _ _ q)
   rw[z2]
   exact mz e.2 h2 h inj
theorem qI(a b:String)(h:nm a=nm b):a=b:=by
 unfold nm at h;rw[Str.ofString_eq_byList] at h;unfold Str.ofStringByList at h;injection h with h
 have h2:=congrArg yD h;simp only[] at h2;have h3:a.toList=b.toList:=by
  refine(List.map_inj_right (f:=Char.toNat) ?_).mp h2;intro x y e;exact Char.ext (UInt32.toNat_inj.mp e)
 exact String.toList_inj.mp h3
end
end L2
end
section
namespace L2
open PySem PySem.Spec PyProof.Rows PySem.W
open PL (U SO bR Xn KU KX b7)
theorem JB(he:PE X e ta)(hb:iO e f X.env (eval e X.env)=eval e X.env):PE X (.Attribute e f pos) (fun σ H Q=>ta σ H fun x H1=>
  (∃a C dx fs v,x = .ref a/\H1 a=some (.ins C dx fs)/\BH X.K C/\fm X.K C f/\fs.lookup f=some v/\Q v H1) \/
  (∃a C d fs v,x = .ref a/\H1 a=some (.xc a (.ref C) (some d))/\H1 d=some (.xf d fs)/\XGet X.K C/\fm X.K C f/\fs.lookup f=some v/\Q v H1)):=by
 intro pZ s σ H Q I h;refine Ip hb (eT (he pZ s σ H _ I h) fun u s1 h9=>?_);obtain⟨x,H1,I1,rx,z⟩:=h9;rcases z with⟨a,C,dx,fs,v,ex,ea,c,n,l,q⟩ | ⟨a,C,d,fs,v,ex,ea,hd,G,n,l,q⟩
 ·subst ex
  obtain rfl:u=aO a:=rx;exact sP I1 ea c n l fun u' s2 I2 ru=>⟨v,H1,I2,ru,q⟩
 ·subst ex
  obtain rfl:u=aO a:=rx;obtain⟨⟨vs,sl,q0⟩,_⟩:=I1.dj a _ ea;obtain⟨mA,ns,r,_⟩:=BN I1.dj hd;obtain⟨oD,es,ep,eo,c⟩:=id ns;obtain⟨w,hw,rw'⟩:=mO.some_of (v:=v) (o:=mA f) (by rw[<-l];exact r f);refine IP (ox:=⟨.ref C,some d,.fields vs,sl⟩) (od:=some oD) I1.kA ⟨q0,rfl,rfl,eo⟩ G (findObj_own G.hd n rfl ?_) (vv rw') ⟨v,H1,I1.tok _,rw',q⟩;obtain⟨o2,e2,hl⟩:=vt ns;rw[eo] at e2;cases e2;rw[hl f,hw]
section
variable {t:uW} {T:Tab} {Γ:b7} {k n:Nat} {I:Inf} {X:Cx}
theorem A0{us:List U}{l:List String}(h:l.length=us.length):(l.zip us).map (·.1)=l/\(l.zip us).map (·.2)=us:=by
 constructor
 ·exact Hu (by omega)
 ·exact Hv (by omega)
theorem Nc{o:Expr}{f:String}{x:PL.Ex}{pos:Pos}(G:Good t T Γ k I X)(hf:f∈T.tI)(h0:ij o=true)(ho:∀pZ E,d7 (X.at_ pZ E) o (tE (X.cc t) Γ x)):d7 X (.Attribute o (nm f) pos) (tE (X.cc t) Γ (.fld x f)):=by
 refine up fun pZ E=>(JB (X:=X.at_ pZ E) (dn (ho pZ E)) (gW h0)).imp ?_
 rintro σ H Q ⟨env,ρ,S,QU,EU,he,R,w,q,qx⟩;refine⟨env,ρ,S,_,EU,he,R,w,fun u S1 v H1 ρ1 w1 st1 R1 r1=>?_,qx⟩;cases u with
 | loc m=>
  obtain⟨c,fs,e,w2⟩:=PL.lQ.mp (show PL.mP _ _ from w1);obtain⟨u,e2,w3⟩:=PL.gC.mp w2;obtain⟨a,C,dx,vs,ev,_,hc,ha,hn,hr⟩:=R1.ins e r1;obtain⟨v',l,r2⟩:=mz hn hr e2 qI;obtain⟨cl,na⟩:=G.tab.cls c C hc;exact .inl ⟨a,C,dx,vs,v',ev,ha,cl,na f hf,l,(q.later st1).now R1 w3 r2⟩
 | exc c us=>
  obtain⟨u,e2,w3⟩:=PL.gC.mp (show PL.opt _ _ from w1);unfold Rep at r1;obtain⟨a,d,C,fs,ev,hc,ha,hd,hn,hr⟩:=r1;obtain⟨xg,_,_,na⟩:=G.tab.exc c C hc;have hl:(PL.cL c).length=us.length:=by
   have h1:=congrArg cU hn;have h2:=hr.len;simp at h1 h2;omega
  obtain⟨z1,z2⟩:=A0 hl;obtain⟨v',l,r2⟩:=mz (fs:=(PL.cL c).zip us) (vs:=fs) (by rw[z1];exact hn) (by rw[z2];exact hr) e2 qI;exact .inr ⟨a,C,d,fs,v',ev,ha,hd,xg,na f hf,l,(q.later st1).now R1 w3 r2⟩
 | _=>exact aI w1
theorem FW(h:og b=true):BK b:=by
 intro o i;cases b<;>first | rfl | cases h
theorem Qn(hs:og b=true)(ha:∀pZ E,d7 (X.at_ pZ E) a (tE (X.cc t) Γ x))(hb:∀pZ E,d7 (X.at_ pZ E) b (tE (X.cc t) Γ y)):d7 X (.Subscript a b pos) (tE (X.cc t) Γ (.ix x y)):=by
 refine up fun pZ E=>(Pw (X:=X.at_ pZ E) (MZ (X:=X.at_ pZ E) (c:=X.cc t) rfl rfl) (dn (ha pZ E)) (dn (hb pZ E)) (FW hs)).imp ?_
 rintro σ H Q ⟨env,ρ,S,QU,EU,he,R,w,q,qx⟩;refine⟨env,ρ,S,_,EU,he,R,w,fun u S1 v H1 ρ1 w1 st1 R1 r1=>?_,qx⟩;refine⟨env,ρ1,S1,_,EU,he.later R st1,R1,w1,fun u2 S2 v2 H2 ρ2 w2 st2 R2 r2=>?_,qx.later st1⟩;refine⟨u,u2,ρ2,S2,r1.mono R1 st2,r2,R2,PL.Fs (fun r h v3 r3=>?_) w2⟩;exact(q.later (st1.trans st2)).now R2 h r3
theorem Qo(IH:Ds t T Γ k n)(G:Good t T Γ k I X):∀ {oe:Option Expr} {x:PL.Ox},cO T (n + 1) I oe=some x->∀pZ E,PO (X.at_ pZ E) oe (fun σ H Q=>SM (X.cc t) Γ x (E σ) σ H Q)
 | none,x,h,pZ,E=>by
  rw[Qf,SE] at h;injection h with h;subst h
  refine fun pins' s σ H Q J z=>Iv (X:=X.at_ pZ E) pins' s σ H Q J ?_
  obtain⟨env,ρ,S,QU,EU,he,R,w,q,qx⟩:=z;exact q none S H ρ w .refl R
 | some e,x,h,pZ,E=>by
  rw[Qf,SE] at h;obtain⟨y,h1,h2⟩:=af.mp h;subst h2;refine fun pins' s σ H Q J z=>Iw (X:=X.at_ pZ E) (dn (IH.fe G.at_ h1)) pins' s σ H Q J ?_
  obtain⟨env,ρ,S,QU,EU,he,R,w,q,qx⟩:=z;refine⟨env,ρ,S,_,EU,he,R,w,fun u S1 v H1 ρ1 w1 st1 R1 r1=>?_,qx⟩;obtain⟨i,e,w2⟩:=PL.eI.mp w1;subst e;exact⟨i,aM.mp r1,q _ _ _ _ w2 st1 R1⟩
theorem Qp{a:Expr}{lo hi:Option Expr}{x:PL.Ex}{y z:PL.Ox}{pos p2:Pos}(ha:∀pZ E,d7 (X.at_ pZ E) a (tE (X.cc t) Γ x))(hl:∀pZ E,PO (X.at_ pZ E) lo (fun σ H Q=>SM (X.cc t) Γ y (E σ) σ H Q))(hh:∀pZ E,PO (X.at_ pZ E) hi (fun σ H Q=>SM (X.cc t) Γ z (E σ) σ H Q)):d7 X (.Subscript a (.Slice lo hi none p2) pos) (tE (X.cc t) Γ (.sl x y z)):=by
 refine up fun pZ E=>(ES (X:=X.at_ pZ E) (M1 (X:=X.at_ pZ E) (c:=X.cc t) rfl) (dn (ha pZ E)) (hl pZ E) (hh pZ E)).imp ?_
 rintro σ H Q ⟨env,ρ,S,QU,EU,he,R,w,q,qx⟩;refine⟨env,ρ,S,_,EU,he,R,w,fun u S1 v H1 ρ1 w1 st1 R1 r1=>?_,qx⟩;refine⟨env,ρ1,S1,_,EU,he.later R st1,R1,w1,fun l S2 H2 ρ2 w2 st2 R2=>?_,qx.later st1⟩;have st12:=st1.trans st2;refine⟨env,ρ2,S2,_,EU,he.later R st12,R2,w2,fun h S3 H3 ρ3 w3 st3 R3=>?_,qx.later st12⟩;exact⟨u,ρ3,S3,QU,r1.mono R1 (st2.trans st3),R3,w3,q.later (st12.trans st3)⟩
end
end L2
end
section
namespace L2
open PySem PySem.Spec PyProof.Rows PySem.W
open PL (U SO bR Xn KU KX b7)
section
variable {t:uW} {T:Tab} {Γ:b7} {k n:Nat} {I:Inf} {X:Cx}
theorem Nd(G:Good t T Γ k I X)(hg:I.gl f=true)(hb:ML f=some b)(hp:pick T.fc f=some s)(hcalm:X.calm=true)(hA:X.A.handled=none)(h1:noStar e=true)(h2:es.all noStar=true)
  (ha:∀pZ E,zi (X.at_ pZ E) (e::es) (Dl (X.cc t) Γ xs)):d7 X (.Call (.Name f p) (e::es) [] pos) (tE (X.cc t) Γ (.blt b xs)):=by
 obtain⟨hm,rfl⟩:=gT hp;have hn:=G.tab.fc s hm;have rd:∀(pZ:List (Addr × Obj)) (E:St->XK) (σ:St) (H:Hp) (Q:VK),tE (X.cc t) Γ (.blt b xs) (E σ) σ H Q->TQ (rA (X.cc t) b) (fun σ H Q=>Dl (X.cc t) Γ xs (E σ) σ H Q) σ H Q:=by
  rintro pZ E σ H Q ⟨env,ρ,S,QU,EU,he,R,w,q,qx⟩;exact⟨env,ρ,S,_,EU,he,R,w,fun us S1 vs H1 ρ1 w1 st1 R1 r1=>⟨us,ρ1,S1,QU,r1,R1,w1,q.later st1⟩,qx⟩
 have sx:∀(pZ:List (Addr × Obj)) (E:St->XK),bN (e::es) (X.at_ pZ E).env=(false,eval e (X.at_ pZ E).env)::bN es (X.at_ pZ E).env:=fun _ _=>cK h1
 have sy:∀(pZ:List (Addr × Obj)) (E:St->XK),(iC pos (bN es (X.at_ pZ E).env)).any (·.1)=false:=fun _ _=>fD h2
 unfold ML at hb;by_cases c1:(nm s == ("len":Str))=true
 ·rw[if_pos c1] at hb;injection hb with hb;subst hb
  have ef:nm s=("len":Str):=by simpa using c1
  rw[ef] at hg hn ⊢;exact up fun pZ E=>(lN (X:=X.at_ pZ E) (Jv rfl) (gk G hg) hn HV (AU (ha pZ E)) (by decide) (by decide) (sx pZ E) (sy pZ E)).imp (rd pZ E)
 rw[if_neg c1] at hb;by_cases c2:(nm s == ("tuple":Str))=true
 ·rw[if_pos c2] at hb;injection hb with hb;subst hb
  have ef:nm s=("tuple":Str):=by simpa using c2
  rw[ef] at hg hn ⊢;exact up fun pZ E=>(qw (X:=X.at_ pZ E) (Dp rfl) (gk G hg) hn (by decide +kernel) (AU (ha pZ E)) (by decide) (by decide) (sx pZ E) (sy pZ E)).imp (rd pZ E)
 rw[if_neg c2] at hb;by_cases c4:(nm s == ("list":Str))=true
 ·rw[if_pos c4] at hb;injection hb with hb;subst hb
  have ef:nm s=("list":Str):=by simpa using c4
  rw[ef] at hg hn ⊢;exact up fun pZ E=>(qw (X:=X.at_ pZ E) (FP rfl) (gk G hg) hn (by decide +kernel) (AU (ha pZ E)) (by decide) (by decide) (sx pZ E) (sy pZ E)).imp (rd pZ E)
 rw[if_neg c4] at hb;by_cases c7:(nm s == ("all":Str))=true
 ·rw[if_pos c7] at hb;injection hb with hb;subst hb
  have ef:nm s=("all":Str):=by simpa using c7
  rw[ef] at hg hn ⊢;exact up fun pZ E=>(lN (X:=X.at_ pZ E) (FQ hcalm) (gk G hg) hn (by decide +kernel) (AU (ha pZ E)) (by decide) (by decide) (sx pZ E) (sy pZ E)).imp (rd pZ E)
 rw[if_neg c7] at hb;by_cases c8:(nm s == ("sum":Str))=true
 ·rw[if_pos c8] at hb;injection hb with hb;subst hb
  have ef:nm s=("sum":Str):=by simpa using c8
  rw[ef] at hg hn ⊢;exact up fun pZ E=>(lN (X:=X.at_ pZ E) (Jw hcalm) (gk G hg) hn boot_sum (AU (ha pZ E)) (by decide) (by decide) (sx pZ E) (sy pZ E)).imp (rd pZ E)
 rw[if_neg c8] at hb;by_cases c9:(nm s == ("any":Str))=true
 ·rw[if_pos c9] at hb;injection hb with hb;subst hb
  have ef:nm s=("any":Str):=by simpa using c9
  rw[ef] at hg hn ⊢;exact up fun pZ E=>(lN (X:=X.at_ pZ E) (FR hcalm) (gk G hg) hn (by decide +kernel) (AU (ha pZ E)) (by decide) (by decide) (sx pZ E) (sy pZ E)).imp (rd pZ E)
 rw[if_neg c9] at hb;by_cases c10:(nm s == ("dict":Str))=true
 ·rw[if_pos c10] at hb;injection hb with hb;subst hb
  have ef:nm s=("dict":Str):=by simpa using c10
  rw[ef] at hg hn ⊢;exact up fun pZ E=>(qw (X:=X.at_ pZ E) (FT hA) (gk G hg) hn (by decide +kernel) (AU (ha pZ E)) (by decide) (by decide) (sx pZ E) (sy pZ E)).imp (rd pZ E)
 rw[if_neg c10] at hb;cases hb
theorem Dt (G:Good t T Γ k I X) (hg:I.gl ("min":Str)=true) (hg2:I.gl ("len":Str)=true) (hb:"min"∈T.fc) (hb2:"len"∈T.fc) (hc:X.calm=true) (h1:noStar a=true) (ha:∀pZ E,d7 (X.at_ pZ E) a (tE (X.cc t) Γ x)):
  d7 X (.Call (.Name ("min":Str) p) [a] [⟨some "key",.Name ("len":Str) pl,kp⟩] pos) (tE (X.cc t) Γ (.blt .tm (.cons x .nil))):=by
 refine up fun pZ E=>(Dd (X:=X.at_ pZ E) hc (gk G hg) (G.tab.fc "min" hb) (gk G hg2) (G.tab.fc "len" hb2) (dn (ha pZ E)) (cK h1)).imp ?_
 rintro σ H Q ⟨env,ρ,S,QU,EU,he,R,w,q,qx⟩;refine⟨env,ρ,S,_,EU,he,R,w,fun u S1 v H1 ρ1 w1 st1 R1 r1=>?_,qx⟩;have w1:PL.rR .tm [u] S1 QU:=w1
 match u,w1 with
 | .loc n,w1=>
  obtain⟨t0,ts,e,hz,w2⟩:=w1;obtain⟨a,vs,e2,_,g1,g2⟩:=R1.lst e r1;rw[qH g2] at g1;exact⟨a,t0,ts,e2,gV.of g1,hz,(q.later st1).now R1 w2 (bj.mpr rfl)⟩
end
end L2
end
section
namespace L2
open PySem PySem.Spec PyProof.Rows PySem.W
open PL (U SO bR Xn KU KX b7)
section
variable {t:uW} {T:Tab} {Γ:b7} {k n:Nat} {I:Inf} {X:Cx}
noncomputable def Qq:PL.Mt->String
 | .join=>"str" | .index=>"str" | .startswith=>"str" | .append=>"list" | .extend=>"list" | .mh=>"int" | _=>"dict"
theorem FX(hb:b = .join\/b = .index\/b = .append\/b = .extend\/b = .startswith)(R:cg c ρ H S)(r:Rep c ρ H u v)(w:PL.uS b u S):Sk c.K (Qq b) v H:=by
 rcases hb with rfl | rfl | rfl | rfl | rfl
 ·cases u<;>first | exact aI w | (rw[bj.mp r];rfl)
 ·cases u<;>first | exact aI w | (rw[bj.mp r];rfl)
 ·cases u<;>first | exact aI w | skip
  obtain⟨us,e,_⟩:=PL.cM.mp (show PL.getL _ _ from w);obtain⟨a,vs,ev,_,h1,_⟩:=R.lst e r;rw[ev]
  exact .inl ⟨rfl,vs,gV.of h1⟩
 ·cases u<;>first | exact aI w | skip
  obtain⟨us,e,_⟩:=PL.cM.mp (show PL.getL _ _ from w);obtain⟨a,vs,ev,_,h1,_⟩:=R.lst e r;rw[ev]
  exact .inl ⟨rfl,vs,gV.of h1⟩
 ·cases u<;>first | exact aI w | (rw[bj.mp r];rfl)
theorem qJ(h:es.all noStar=true)(hn:es.length < 20):((iC cpos (bN es env)).all (fun x=>!x.1) && (backToKw cpos (kn [] env)).all (fun x=>x.1.isSome)
   && decide (es.length + ([]:List qY).length + (if ([]:List qY).isEmpty then 0 else 1) < 30))=true:=by
 have:=vP (pos:=cpos) (env:=env) h hn;unfold Ab at this;exact this
theorem Nf(G:Good t T Γ k I X)(hb:MM m=some b)(hA:X.A.handled=none)(h0:ij o=true)(hl:(apos.endLine == cpos.line)=true)(hn:(e::es).length < 20)(h1:noStar e=true)(h2:es.all noStar=true)
  (ho:∀pZ E,d7 (X.at_ pZ E) o (tE (X.cc t) Γ x)) (ha:∀pZ E,zi (X.at_ pZ E) (e::es) (Dl (X.cc t) Γ xs)):d7 X (.Call (.Attribute o m apos) (e::es) [] cpos) (tE (X.cc t) Γ (.kH b x xs)):=by
 have hst:(e::es).all noStar=true:=by rw[bD,h1,h2];rfl
 have rd:∀(hb':b = .join\/b = .index\/b = .append\/b = .extend\/b = .startswith) (E:St->XK) (σ:St) (H:Hp) (Q:VK),tE (X.cc t) Γ (.kH b x xs) (E σ) σ H Q->Vn X.K (Qq b) (tO (X.cc t) b) (fun σ H Q=>tE (X.cc t) Γ x (E σ) σ H Q) (fun σ H Q=>Dl (X.cc t) Γ xs (E σ) σ H Q) σ H Q:=by
  rintro hb' E σ H Q ⟨env,ρ,S,QU,EU,he,R,w,q,qx⟩;refine⟨env,ρ,S,_,EU,he,R,w,fun u S1 v H1 ρ1 w1 st1 R1 r1=>⟨FX (c:=X.cc t) hb' R1 r1 w1.1,?_⟩,qx⟩;exact⟨env,ρ1,S1,_,EU,he.later R st1,R1,w1.2,fun us S2 vs H2 ρ2 w2 st2 R2 r2=>⟨u,us,ρ2,S2,QU,r1.mono R1 st2,r2,R2,w2,q.later (st1.trans st2)⟩,qx.later st1⟩
 unfold MM at hb;by_cases c1:(m == ("join":Str))=true
 ·rw[if_pos c1] at hb;injection hb with hb;subst hb
  have ef:m=("join":Str):=by simpa using c1
  subst ef;exact up fun pZ E=>(yP (X:=X.at_ pZ E) l6 PySem.F.slot_str_join PySem.F.type_str_join (FU rfl) (dn (ho pZ E)) (AU (ha pZ E)) (gW h0) (qJ hst hn) hl (cK h1) (fD h2)).imp (rd (by simp) E)
 rw[if_neg c1] at hb;by_cases c2:(m == ("index":Str))=true
 ·rw[if_pos c2] at hb;injection hb with hb;subst hb
  have ef:m=("index":Str):=by simpa using c2
  subst ef;exact up fun pZ E=>(yP (X:=X.at_ pZ E) l6 PySem.F.slot_str_index PySem.F.type_str_index (Dq hA) (dn (ho pZ E)) (AU (ha pZ E)) (gW h0) (qJ hst hn) hl (cK h1) (fD h2)).imp (rd (by simp) E)
 rw[if_neg c2] at hb;by_cases c3:(m == ("append":Str))=true
 ·rw[if_pos c3] at hb;injection hb with hb;subst hb
  have ef:m=("append":Str):=by simpa using c3
  subst ef;exact up fun pZ E=>(yP (X:=X.at_ pZ E) vk PySem.F.slot_list_append PySem.F.type_list_append AY (dn (ho pZ E)) (AU (ha pZ E)) (gW h0) (qJ hst hn) hl (cK h1) (fD h2)).imp (rd (by simp) E)
 rw[if_neg c3] at hb;by_cases c4:(m == ("extend":Str))=true
 ·rw[if_pos c4] at hb;injection hb with hb;subst hb
  have ef:m=("extend":Str):=by simpa using c4
  subst ef;exact up fun pZ E=>(yP (X:=X.at_ pZ E) vk PySem.F.slot_list_extend PySem.F.type_list_extend AZ (dn (ho pZ E)) (AU (ha pZ E)) (gW h0) (qJ hst hn) hl (cK h1) (fD h2)).imp (rd (by simp) E)
 rw[if_neg c4] at hb;by_cases c5:(m == ("startswith":Str))=true
 ·rw[if_pos c5] at hb;injection hb with hb;subst hb
  have ef:m=("startswith":Str):=by simpa using c5
  subst ef;exact up fun pZ E=>(yP (X:=X.at_ pZ E) l6 PySem.F.slot_str_startswith PySem.F.type_str_startswith AX (dn (ho pZ E)) (AU (ha pZ E)) (gW h0) (qJ hst hn) hl (cK h1) (fD h2)).imp (rd (by simp) E)
 rw[if_neg c5] at hb;cases hb
theorem JC(G:Good t T Γ k I X)(h0:ij o=true)(hl:(apos.endLine == cpos.line)=true)(ho:∀pZ E,d7 (X.at_ pZ E) o (tE (X.cc t) Γ x)):
  d7 X (.Call (.Attribute o ("bit_length":Str) apos) [] [] cpos) (tE (X.cc t) Γ (.kH .mh x .nil)):=by
 refine up fun pZ E=>(Md (X:=X.at_ pZ E) PySem.F.plainAttrs_int PySem.F.slot_int_bit_length PySem.F.type_int_bit_length (AW (c:=X.cc t)) (dn (ho pZ E)) (gW h0) hl).imp ?_
 rintro σ H Q ⟨env,ρ,S,QU,EU,he,R,w,q,qx⟩;refine⟨env,ρ,S,_,EU,he,R,w,fun u S1 v H1 ρ1 w1 st1 R1 r1=>⟨?_,u,[],ρ1,S1,QU,r1,aV.nil,R1,w1.2,q.later st1⟩,qx⟩;cases u<;>first | exact aI w1.1 | (rw[aM.mp r1];rfl)
theorem Ng(G:Good t T Γ k I X)(h0:ij o=true)(hl:(apos.endLine == cpos.line)=true)(h1:noStar a=true)(h2:noStar d=true)(ho:∀pZ E,d7 (X.at_ pZ E) o (tE (X.cc t) Γ x))
  (ha:∀pZ E,d7 (X.at_ pZ E) a (tE (X.cc t) Γ y)) (hd:∀pZ E,d7 (X.at_ pZ E) d (tE (X.cc t) Γ z)):d7 X (.Call (.Attribute o ("get":Str) apos) [a,d] [] cpos) (tE (X.cc t) Γ (.kH .get x (.cons y (.cons z .nil)))):=by
 have hst:[a,d].all noStar=true:=by rw[bD,bD,h1,h2];rfl
 refine up fun pZ E=>(E4 (X:=X.at_ pZ E) (by have:=G.units;show X.A.units + 1 < kh;omega) (dn (ho pZ E)) (dn (ha pZ E)) (dn (hd pZ E)) ⟨gW h0,qJ hst (show 2 < 20 by decide),hl,by
  rw[cK (e:=a) (es:=[d]) h1,cK (e:=d) (es:=[]) h2];rfl⟩).imp ?_
 rintro σ H Q ⟨env,ρ,S,QU,EU,he,R,w,q,qx⟩;refine⟨env,ρ,S,_,EU,he,R,w,fun u S1 v H1 ρ1 w1 st1 R1 r1=>?_,qx⟩;obtain⟨w1,w2⟩:=w1;cases u<;>first | exact aI w1 | skip
 rename_i n;obtain⟨kvs,e,_⟩:=PL.y3.mp (show PL.getD _ _ from w1);obtain⟨a1,e1,ha1⟩:=iI.mp r1;obtain⟨vs,g1,g2,g3,g4⟩:=R1.at_ n a1 _ ha1 e;refine⟨a1,e1,.inl ⟨vs,.inl g1⟩,env,ρ1,S1,_,EU,he.later R st1,R1,w2,fun u2 S2 v2 H2 ρ2 w3 st2 R2 r2=>?_,qx.later st1⟩;refine⟨env,ρ2,S2,_,EU,(he.later R st1).later R1 st2,R2,w3,fun u3 S3 v3 H3 ρ3 w4 st3 R3 r3=>?_,(qx.later st1).later st2⟩;have r2':=r2.mono R2 st3;cases u2<;>first | exact aI w4 | skip
 rename_i k;obtain⟨kvs',e',ps,ep,w5⟩:=PL.y3.mp (show PL.getD _ _ from w4);obtain⟨vs',f1,f2,f3,f4⟩:=R3.at_ n a1 _ (st3.get (st2.get ha1)) e';subst ep;have g:=E3.k (k:=fg (tx k)) f1;rw[bj.mp r2']
 rcases Jx (k:=k) f2 f3 f4 with⟨l1,l2⟩ | ⟨u',v',l1,l2,l3⟩
 ·rw[l2] at g
  rw[l1] at w5;exact⟨none,g,(q.later ((st1.trans st2).trans st3)).now R3 w5 r3⟩
 ·rw[l2] at g
  rw[l1] at w5;exact⟨some v',g,(q.later ((st1.trans st2).trans st3)).now R3 w5 l3⟩
theorem JD (G:Good t T Γ k I X) (hg:I.gl (nm q)=true) (hc:I.calm=true) (hq:q∈T.fns) (hd:(nm q == ("__debug__":Str))=false) (h1:noStar e=true) (h2:es.all noStar=true)
  (ha:zi X (e::es) (Dl (X.cc t) Γ xs)):d7 X (.Call (.Name (nm q) p) (e::es) [] pos) (tE (X.cc t) Γ (.call q xs)):=by
 obtain⟨f,hm,hk,fd,ps,F,B⟩:=G.HF.fns q hq;refine(UX (k:=k) F ((G.calm hc).2.mono (gN k)) (gk G hg) hm hk B ha hd h1 h2).imp ?_;rintro E σ H Q ⟨env,ρ,S,QU,EU,he,R,w,qq,qx⟩;refine⟨env,ρ,S,_,EU,he,R,w,fun us S1 vs H1 ρ1 w1 st1 R1 r1=>?_,qx⟩;exact⟨us,ρ1,S1,QU,EU,r1,R1,w1,qq.later st1,qx.later st1⟩
theorem FY (G:Good t T Γ k I X) (hg:I.gl (nm q)=true) (hc:I.calm=true) (hq:q∈T.fns) (hd:(nm q == ("__debug__":Str))=false):d7 X (.Call (.Name (nm q) p) [] [] pos) (tE (X.cc t) Γ (.call q .nil)):=by
 obtain⟨f,hm,hk,fd,ps,F,B⟩:=G.HF.fns q hq;refine(Qj (k:=k) F ((G.calm hc).2.mono (gN k)) (gk G hg) hm hk B hd).imp ?_;rintro E σ H Q ⟨env,ρ,S,QU,EU,he,R,w,qq,qx⟩;exact⟨[],ρ,S,QU,EU,aV.nil,R,w,qq,qx⟩
theorem zo(R:cg c ρ H S)(hc:c.cls cn=some C)(hx:H x=none)(hd:H dx=none)(ne:dx≠x):
  gS ρ H (ρ ++ [x]) (upd (upd H dx (.own x)) x (.ins C dx []))/\cg c (ρ ++ [x]) (upd (upd H dx (.own x)) x (.ins C dx [])) (S ++ [.ins cn []])/\Rep c (ρ ++ [x]) (upd (upd H dx (.own x)) x (.ins C dx [])) (.loc S.length) (.ref x):=by
 have R1:=R.lay hd (.own x);have s1:=gS.lay R hd (.own x);have hx1:upd H dx (.own x) x=none:=by rw[bq (dJ ne)];exact hx
 have s2:=gS.alloc R1 hx1 (.ins C dx []);refine⟨s1.trans s2,R1.alloc hx1 ⟨C,dx,[],hc,bE,rfl,aV.nil⟩,iI.mpr ⟨x,rfl,?_⟩⟩;rw[<-R.len,av (ax _),cf];rfl
theorem Qr (G:Good t T Γ k I X) (hg:I.gl (nm q)=true) (hc:I.calm=true) (hq:q∈T.oZ) (hd:(nm q == ("__debug__":Str))=false) (h1:noStar e=true) (h2:es.all noStar=true)
  (ha:zi X (e::es) (Dl (X.cc t) Γ xs)):d7 X (.Call (.Name (nm q) p) (e::es) [] pos) (tE (X.cc t) Γ (.mk q (q ++ ".__init__") xs)):=by
 obtain⟨C,f,hC,hm,M,fd,ps,F,B⟩:=G.HF.cls q hq;refine(UZ (k:=k) M F (G.calm hc).2 (gk G hg) hm B ha hd h1 h2).imp ?_;rintro E σ H Q ⟨env,ρ,S,QU,EU,he,R,w,qq,qx⟩;refine⟨env,ρ,S,_,EU,he,R,w,fun us S1 vs H1 ρ1 w1 st1 R1 r1=>?_,qx⟩;intro x dx hx hdx ne;obtain⟨s2,R2,r2⟩:=zo R1 hC hx hdx ne;refine⟨_,ρ1 ++ [x],_,_,EU,aV.cons r2 (r1.mono R1 s2),R2,w1,fun u S3 v H3 ρ3 w3 st3 R3 r3=>?_,qx.later (st1.trans s2)⟩;obtain⟨rfl,w4⟩:=w3;exact⟨eQ.mp r3,qq _ _ _ _ _ w4 ((st1.trans s2).trans st3) R3 (r2.mono R2 st3)⟩
theorem Nh (G:Good t T Γ k I X) (hg:I.gl (nm q)=true) (hc:I.calm=true) (hq:q∈T.oZ) (hd:(nm q == ("__debug__":Str))=false):d7 X (.Call (.Name (nm q) p) [] [] pos) (tE (X.cc t) Γ (.mk q (q ++ ".__init__") .nil)):=by
 obtain⟨C,f,hC,hm,M,fd,ps,F,B⟩:=G.HF.cls q hq;refine(Ql (k:=k) M F (G.calm hc).2 (gk G hg) hm B hd).imp ?_;rintro E σ H Q ⟨env,ρ,S,QU,EU,he,R,w,qq,qx⟩;intro x dx hx hdx ne;obtain⟨s2,R2,r2⟩:=zo R hC hx hdx ne;refine⟨_,ρ ++ [x],_,_,EU,aV.cons r2 aV.nil,R2,w,fun u S3 v H3 ρ3 w3 st3 R3 r3=>?_,qx.later s2⟩;obtain⟨rfl,w4⟩:=w3;exact⟨eQ.mp r3,qq _ _ _ _ _ w4 (s2.trans st3) R3 (r2.mono R2 st3)⟩
theorem lookup_none:∀ {fs:List (String × U)} {vs:List (Str × V)} {m:String},vs.map (·.1)=(fs.map (·.1)).map nm->fs.lookup m=none->vs.lookup (nm m)=none
 | [],[],_,_,_=>rfl
 | [],_::_,_,e,_=>by simp at e
 | _::_,[],_,e,_=>by simp at e
 | (g,w)::fs,(a,v)::vs,m,e,h=>by
  simp only[aE,dW] at e;rw[aY] at h ⊢;by_cases z:m=g
  ·subst z;simp at h
  ·have z1:(m == g)=false:=by simp[z]
   rw[z1] at h;have z2:(nm m == a)=false:=by
    rw[e.1]
    simp only[beq_eq_false_iff_ne,ne_eq];exact fun q=>z (qI _ _ q)
   rw[z2]
   exact lookup_none e.2 h
theorem JE(G:Good t T Γ k I X)(hc:I.calm=true)(hq:(m,q)∈T.o7)(h0:ij o=true)(hl:(apos.endLine == pos.line)=true)(hn:(e::es).length < 20)(h1:noStar e=true)(h2:es.all noStar=true)
  (ho:d7 X o (tE (X.cc t) Γ x)) (ha:zi X (e::es) (Dl (X.cc t) Γ xs)):d7 X (.Call (.Attribute o (nm m) apos) (e::es) [] pos) (tE (X.cc t) Γ (.cA q m (q ++ "." ++ m) x xs)):=by
 obtain⟨C,f,hC,M,fd,ps,F,B⟩:=G.HF.OM (m,q) hq;refine(UY (k:=k) ho (G.tab.cls q C hC).1 M F ((G.calm hc).2.mono (gN k)) B ha h0 hn hl h1 h2).imp ?_;rintro E σ H Q ⟨env,ρ,S,QU,EU,he,R,w,qq,qx⟩;refine⟨env,ρ,S,_,EU,he,R,w,fun u S1 v H1 ρ1 w1 st1 R1 r1=>?_,qx⟩;obtain⟨l,e1,w2⟩:=PL.mi.mp w1;subst e1;obtain⟨c',fs,e2,⟨rfl,e3⟩,w3⟩:=PL.lQ.mp w2;obtain⟨a,C',dx,vs,ev,_,hC',ha',hnn,_⟩:=R1.ins e2 r1;rw[hC] at hC';injection hC' with hC';subst hC'
 refine⟨a,dx,vs,ev,ha',lookup_none hnn e3,?_⟩;refine⟨env,ρ1,S1,_,EU,he.later R st1,R1,w3,fun us S2 vs2 H2 ρ2 w4 st2 R2 r2=>?_,qx.later st1⟩;exact⟨_,ρ2,S2,QU,EU,aV.cons (r1.mono R1 st2) r2,R2,w4,qq.later (st1.trans st2),qx.later (st1.trans st2)⟩
theorem FZ(G:Good t T Γ k I X)(hc:I.calm=true)(hq:(m,q)∈T.o7)(h0:ij o=true)(hl:(apos.endLine == pos.line)=true)
  (ho:d7 X o (tE (X.cc t) Γ x)):d7 X (.Call (.Attribute o (nm m) apos) [] [] pos) (tE (X.cc t) Γ (.cA q m (q ++ "." ++ m) x .nil)):=by
 obtain⟨C,f,hC,M,fd,ps,F,B⟩:=G.HF.OM (m,q) hq;refine(Qk (k:=k) ho (G.tab.cls q C hC).1 M F ((G.calm hc).2.mono (gN k)) B h0 hl).imp ?_;rintro E σ H Q ⟨env,ρ,S,QU,EU,he,R,w,qq,qx⟩;refine⟨env,ρ,S,_,EU,he,R,w,fun u S1 v H1 ρ1 w1 st1 R1 r1=>?_,qx⟩;obtain⟨l,e1,w2⟩:=PL.mi.mp w1;subst e1;obtain⟨c',fs,e2,⟨rfl,e3⟩,w3⟩:=PL.lQ.mp w2;obtain⟨a,C',dx,vs,ev,_,hC',ha',hnn,_⟩:=R1.ins e2 r1;rw[hC] at hC';injection hC' with hC';subst hC'
 refine⟨a,dx,vs,ev,ha',lookup_none hnn e3,?_⟩;exact⟨_,ρ1,S1,QU,EU,aV.cons r1 aV.nil,R1,w3,qq.later st1,qx.later st1⟩
end
end L2
end
section
namespace L2
open PySem PySem.Spec PyProof.Rows PySem.W
open PL (U SO bR Xn KU KX b7)
section
variable {t:uW} {T:Tab} {Γ:b7} {k n:Nat} {I:Inf} {X:Cx}
noncomputable def K2(c:Ctx):PL.Ty->Option (V × Value)
 | .int=>some (.ty "int",.type "int") | .bool=>some (.ty "bool",.type "bool") | .str=>some (.ty "str",.type "str") | .list=>some (.ty "list",.type "list")
 | .tuple=>some (.ty "tuple",.type "tuple") | .dict=>some (.ty "dict",.type "dict") | .AH=>some (.ty "ValueError",.type "ValueError")
 | .own x=>(c.exc x).map fun C=>(.ref C,.ref C)
theorem A2{c:Ctx}{tv:Value}{q p:V × Value}{x b:Bool}(hp:some q=some p)(h:some x=some b)(e:qr c.K tv q.2=some x):qr c.K tv p.2=some b:=by cases hp;cases h;exact e
theorem Ni(Tb:zk c T)(R:cg c ρ H S)(r:Rep c ρ H u v)(h:PL.IW S u ty=some b)(hp:K2 c ty=some p):∃tv,Sl c.K H v tv/\qr c.K tv p.2=some b:=by
 cases u with
 | bQ=>rw[eQ.mp r];refine⟨_,.of .bQ,?_⟩;cases ty<;>first | exact nn h | exact A2 hp h rfl
 | bl x=>rw[dz.mp r];refine⟨_,.of (.bl x),?_⟩;cases ty<;>first | exact nn h | exact A2 hp h rfl
 | int x=>rw[aM.mp r];refine⟨_,.of (.int x),?_⟩;cases ty<;>first | exact nn h | exact A2 hp h rfl
 | str x=>rw[bj.mp r];refine⟨_,.of (.str _),?_⟩;cases ty<;>first | exact nn h | exact A2 hp h rfl
 | tup us=>
  obtain⟨a,vs,e,h1,h2⟩:=dP.mp r;rw[e];refine⟨_,.of (.tup h1),?_⟩;cases ty<;>first | exact nn h | exact A2 hp h rfl
 | loc m=>
  change PL.BS S[m]? ty=some b at h
  cases q:S[m]? with
  | none=>rw[q] at h;exact nn h
  | some o=>
   rw[q] at h;cases o with
   | lst us=>
    obtain⟨a,vs,e,_,h1,h2⟩:=R.lst q r;rw[e];refine⟨_,.of (.lst h1),?_⟩;cases ty<;>first | exact nn h | exact A2 hp h rfl
   | uz kvs=>
    obtain⟨a,e,ha⟩:=iI.mp r;obtain⟨vs,h1,_⟩:=R.at_ m a _ ha q;rw[e];refine⟨_,.of (.dK h1),?_⟩;cases ty<;>first | exact nn h | exact A2 hp h rfl
   | ins x fs=>exact nn h
 | pG ns=>exact nn h
 | tab kvs=>exact nn h
 | exc x us=>
  unfold Rep at r;obtain⟨a,d,C,fs,e,hC,ha,hd,_,_⟩:=r;obtain⟨_,xi,_,_⟩:=Tb.exc x C hC;rw[e]
  refine⟨_,.exc ha hd xi,?_⟩;cases ty<;>first | exact nn h | skip
  ·cases h;cases hp;exact Tb.UT x C hC
  ·rename_i y
   cases h;obtain⟨D,hD,e9⟩:=af.mp hp;cases e9;have:=Tb.OL x C y D hC hD;simpa using this
theorem tU {x:Str} {n:String} {pos:Pos} (G:Good t T Γ k I X) (g:I.gl x=true) (c:(x == (n:Str) && T.fc.contains n)=true) (hv:js (n:Str)=some (.type n)) (hn:(n:Str)≠"__name__") (hd:((n:Str)== ("__debug__":Str))=false):∀pZ E,PE (X.at_ pZ E) (.Name x pos) (tC (.ty n)):=by
 rw[ag] at c;obtain rfl:x=(n:Str):=eq_of_beq c.1;exact fun pZ E=>H8 (X:=X.at_ pZ E) (gk G g) (G.tab.fc n (by simpa using c.2)) hv rfl hn hd
theorem Nj(G:Good t T Γ k I X)(hh:UC T I e=some ty):∃p,K2 (X.cc t) ty=some p/\Vr p.1 p.2/\noStar e=true/\∀pZ E,PE (X.at_ pZ E) e (tC p.1):=by
 obtain⟨x,h0,h⟩:=ao.mp hh;obtain⟨pos,rfl⟩:=zh h0;by_cases g:(I.gl x && x != ("__debug__":Str))=true
 case neg=>rw[if_neg g] at h;exact nn h
 rw[if_pos g] at h;rw[ag] at g;by_cases c:(x == ("int":Str) && T.fc.contains "int")=true
 ·rw[if_pos c] at h;obtain rfl:=aG h
  exact⟨_,rfl,rfl,rfl,tU G g.1 c (by decide +kernel) (by decide) (by decide)⟩
 rw[if_neg c] at h;clear c;by_cases c:(x == ("bool":Str) && T.fc.contains "bool")=true
 ·rw[if_pos c] at h;obtain rfl:=aG h
  exact⟨_,rfl,rfl,rfl,tU G g.1 c (by decide +kernel) (by decide) (by decide)⟩
 rw[if_neg c] at h;clear c;by_cases c:(x == ("str":Str) && T.fc.contains "str")=true
 ·rw[if_pos c] at h;obtain rfl:=aG h
  exact⟨_,rfl,rfl,rfl,tU G g.1 c (by decide +kernel) (by decide) (by decide)⟩
 rw[if_neg c] at h;clear c;by_cases c:(x == ("list":Str) && T.fc.contains "list")=true
 ·rw[if_pos c] at h;obtain rfl:=aG h
  exact⟨_,rfl,rfl,rfl,tU G g.1 c (by decide +kernel) (by decide) (by decide)⟩
 rw[if_neg c] at h;clear c;by_cases c:(x == ("tuple":Str) && T.fc.contains "tuple")=true
 ·rw[if_pos c] at h;obtain rfl:=aG h
  exact⟨_,rfl,rfl,rfl,tU G g.1 c (by decide +kernel) (by decide) (by decide)⟩
 rw[if_neg c] at h;clear c;by_cases c:(x == ("dict":Str) && T.fc.contains "dict")=true
 ·rw[if_pos c] at h;obtain rfl:=aG h
  exact⟨_,rfl,rfl,rfl,tU G g.1 c (by decide +kernel) (by decide) (by decide)⟩
 rw[if_neg c] at h;clear c;by_cases c:(x == ("ValueError":Str) && T.fc.contains "ValueError")=true
 ·rw[if_pos c] at h;obtain rfl:=aG h
  exact⟨_,rfl,rfl,rfl,tU G g.1 c (by decide +kernel) (by decide) (by decide)⟩
 rw[if_neg c] at h;clear c;obtain⟨s,h1,h2⟩:=af.mp h;subst h2;obtain⟨hm,rfl⟩:=gT h1;obtain⟨C,hC,hmg⟩:=G.tab.SK s hm;exact⟨(.ref C,.ref C),congrArg (Option.map fun C=>(V.ref C,aO C)) hC,rfl,rfl,fun pZ E=>wY (X:=X.at_ pZ E) (gk G g.1) hmg rfl (by simpa using g.2)⟩
theorem Nk (G:Good t T Γ k I X) (hg:I.gl ("isinstance":Str)=true) (hb:"isinstance"∈T.fc) (h1:noStar a=true) (hc:UC T I c=some ty) (ha:∀pZ E,d7 (X.at_ pZ E) a (tE (X.cc t) Γ x)):
  d7 X (.Call (.Name ("isinstance":Str) p) [a,c] [] pos) (tE (X.cc t) Γ (.yX x [ty])):=by
 obtain⟨pv,e1,rv,h2,hp⟩:=Nj G hc;refine up fun pZ E=>(lN (X:=X.at_ pZ E) Fh (gk G hg) (G.tab.fc "isinstance" hb) boot_isinstance (kG (dn (ha pZ E)) (kG (hp pZ E) qv (cK h2)) (cK h1)) (by decide) (by decide) (cK h1) (fD (by simp[h2]))).imp ?_
 rintro σ H Q ⟨env,ρ,S,QU,EU,he,R,w,q,qx⟩;refine⟨env,ρ,S,_,EU,he,R,w,fun u S1 v H1 ρ1 w1 st1 R1 r1=>?_,qx⟩;obtain⟨b,e2,w2⟩:=PL.gC.mp w1;simp only[PL.jA] at e2;cases e3:PL.IW S1 u ty with
 | none=>rw[e3] at e2;exact nn e2
 | some b'=>
  rw[e3] at e2;simp at e2;subst e2;obtain⟨tv,h3,h4⟩:=Ni G.tab R1 r1 e3 e1;exact⟨v,pv.1,tv,pv.2,b',rfl,h3,rv,h4,(q.later st1).now R1 w2 (dz.mpr rfl)⟩
theorem JF(G:Good t T Γ k I X):∀ {ts:List Expr} {l:List String},Je T I ts=some l->∃cs:List Addr,Paired (fun s C=>t.exc s=some C) l cs/\ts.all noStar=true/\∀pZ E,PA (X.at_ pZ E) ts (fun _ H Q=>Q (cs.map V.ref) H):=by
 intro ts;induction ts with
 | nil=>intro l h;obtain rfl:=aG h;exact⟨[],.nil,rfl,fun pZ E=>qv⟩
 | cons e ts ih=>
  intro l hh;obtain⟨x,h0,h⟩:=ao.mp hh;obtain⟨pos,rfl⟩:=zh h0;by_cases g:(I.gl x && x != ("__debug__":Str))=true
  case neg=>rw[if_neg g] at h;exact nn h
  rw[if_pos g] at h;rw[ag] at g;obtain⟨s,h1,hb⟩:=ao.mp h;obtain⟨r,h2,hc⟩:=ao.mp hb;obtain rfl:=aG hc;obtain⟨hm,rfl⟩:=gT h1;obtain⟨C,hC,hmg⟩:=G.tab.SK s hm;obtain⟨cs,q1,q2,q3⟩:=ih h2;exact⟨C::cs,.cons hC q1,by rw[bD,q2];rfl,fun pZ E=>kG (X:=X.at_ pZ E) (wY (x:=nm s) (v:=.ref C) (pos:=pos) (gk G g.1) hmg rfl (by simpa using g.2)) (q3 pZ E) (cK rfl)⟩
theorem B4(Tb:zk c T)(hC:c.exc x=some C):∀ {l:List String} {cs:List Addr} {b:Bool},Paired (fun s C=>c.exc s=some C) l cs->PL.jA S (.exc x us) (l.map .own)=some b->kitAny c.K (.ref C) (cs.map aO)=some b
 | _,_,b,.nil,h=>by simp[PL.jA] at h;subst h;rfl
 | s::l,D::cs,b,.cons h1 r,h=>by
  rw[aE] at h ⊢
  change (match some ((PL.lR x).contains s),PL.jA S (.exc x us) (l.map .own) with | some a,some b=>some (a || b) | _,_=>none)=some b at h
  cases q:PL.jA S (.exc x us) (l.map .own) with
  | none=>rw[q] at h;exact nn h
  | some b'=>
   rw[q] at h;have ih:=B4 Tb hC r q;simp at h;subst h;have e:=Tb.OL x C s D hC h1;unfold kitAny;rw[e]
   cases z:(PL.lR x).contains s with
   | true=>simp at z;simp[z]
   | false=>simp at z;simp[z];exact ih
theorem JG (G:Good t T Γ k I X) (hg:I.gl ("isinstance":Str)=true) (hb:"isinstance"∈T.fc) (h1:noStar a=true) (hc:Je T I ts=some l) (hl:0 < l.length) (hl2:l.length<=100) (ha:∀pZ E,d7 (X.at_ pZ E) a (tE (X.cc t) Γ x)):
  d7 X (.Call (.Name ("isinstance":Str) p) [a,.Tuple ts j tp] [] pos) (tE (X.cc t) Γ (.yX x (l.map .own))):=by
 obtain⟨cs,pr,h2,hp⟩:=JF G hc;refine up fun pZ E=>(lN (X:=X.at_ pZ E) C8 (gk G hg) (G.tab.fc "isinstance" hb) boot_isinstance (kG (dn (ha pZ E)) (kG (EN (hp pZ E)) qv (cK rfl)) (cK h1)) (by decide) (by decide) (cK h1) (fD rfl)).imp ?_
 rintro σ H Q ⟨env,ρ,S,QU,EU,he,R,w,q,qx⟩;refine⟨env,ρ,S,_,EU,he,R,w,fun u S1 v H1 ρ1 w1 st1 R1 r1=>?_,qx⟩;obtain⟨b,e2,w2⟩:=PL.gC.mp w1;have hlen:cs.length=l.length:=(Paired.length pr).symm;refine⟨by rw[ar,hlen];exact aR hl2 (by decide),fun pt hpt=>?_⟩;have st2:=gS.lay R1 hpt (.tup (cs.map V.ref));have R2:=R1.lay hpt (.tup (cs.map V.ref));have r2:=r1.mono R1 st2;obtain⟨s0,l',rfl⟩:∃s0 l',l=s0::l':=by cases l with | nil=>simp at hl | cons a b=>exact⟨a,b,rfl⟩
 have OL:∃cx us,u = .exc cx us:=by
  rw[aE] at e2;cases u<;>first | exact⟨_,_,rfl⟩ | exact nn e2 | skip
  rename_i m
  change (match PL.BS S1[m]? (.own s0),PL.jA S1 (.loc m) (l'.map .own) with | some a,some b=>some (a || b) | _,_=>none)=_ at e2
  cases q:S1[m]? with
  | none=>rw[q] at e2;exact nn e2
  | some o=>rw[q] at e2;cases o<;>exact nn e2
 obtain⟨cx,us,rfl⟩:=OL;unfold Rep at r2;obtain⟨ad,d,C,fs,ev,hC,had,hd,_,_⟩:=r2;obtain⟨_,xi,_,_⟩:=G.tab.exc cx C hC;exact⟨ad,C,d,fs,pt,cs,b,by rw[ev],had,hd,xi,bE,B4 G.tab hC pr e2,(q.later (st1.trans st2)).now R2 w2 (dz.mpr rfl)⟩
end
end L2
end
section
namespace L2
open PySem PySem.Spec PyProof.Rows PySem.W
open PL (U SO bR Xn KU KX b7)
theorem Nl(hl:PE X l tl):PI X tg l (fun σ H R=>tl σ H fun x H1=>(∃a,x = .ref a/\(∃xs,gV X.K H1 a xs)/\R (Tv X.K a) H1)\/(∃a,x = .ref a/\(∃xs,lD X.K H1 a xs)/\R (Tw X.K a) H1)\/∃z,x = .str z/\R (PU z) H1):=by
 intro pZ s σ H R I h;refine eT (hl pZ s σ H _ I h) fun v s1 h9=>?_
 obtain⟨x,H1,I1,r1,q1⟩:=h9;rcases q1 with⟨a,e,⟨xs,hq⟩,q⟩ | ⟨a,e,⟨xs,hq⟩,q⟩ | ⟨z,e,q⟩
 ·subst e
  cases r1;obtain⟨its,rv,p,hz⟩:=I1.list hq;refine mY p.isList ?_;refine⟨s1.heap.objs.size,[s1.heap.objs.size],_,_,H1,rfl,I1.kept (t':=s1.toks) fun b o e=>ay _ e,CS a _,⟨_,bu _ rfl,rfl,rfl⟩,fun b hb=>?_,q⟩;have e:b=s1.heap.objs.size:=by simpa using hb
  subst e;exact I1.CQ (ax _) (I1.dj.fresh (ax _))
 ·subst e
  cases r1;obtain⟨its,rv,p,hz⟩:=I1.tuple hq;refine wpAny_pyIter_tuple (show s1.heap.IsTuple a its.toArray from p) ?_;refine⟨s1.heap.objs.size,[s1.heap.objs.size],_,_,H1,rfl,I1.kept (t':=s1.toks) fun b o e=>ay _ e,Ah a _,⟨_,bu _ rfl,rfl,rfl⟩,fun b hb=>?_,q⟩;have e:b=s1.heap.objs.size:=by simpa using hb
  subst e;exact I1.CQ (ax _) (I1.dj.fresh (ax _))
 ·subst e
  obtain⟨t,rfl⟩:=r1;have fin:∀(b:Bool) (o:Obj),o = { cls:=.type (if b then "str_ascii_iterator" else "str_iterator"),data:=.fields #[.str z t,.int 0 0] }->Tt X pZ σ tg R (.ref s1.heap.objs.size) { s1 with heap:=s1.heap.push o }:=fun b o eo=>by
   refine⟨s1.heap.objs.size,[s1.heap.objs.size],_,PU z,H1,rfl,I1.kept (t':=s1.toks) fun b o e=>ay _ e,Fe _ z t b,⟨_,bu _ (by rw[eo];rfl),by rw[eo],by rw[eo];rfl⟩,fun c hc=>?_,q⟩;have e:c=s1.heap.objs.size:=by simpa using hc
   subst e;exact I1.CQ (ax _) (I1.dj.fresh (ax _))
  cases ha:z.cps.all (· < 128)
  ·exact wpAny_pyIter_wide ha (fin false _ rfl)
  ·exact wpAny_pyIter_ascii ha (fin true _ rfl)
section
variable {c:Ctx} {ρ:List Addr} {H:Hp} {S:bR}
theorem JH{n:Nat}{us:List U}{a:Addr}(ha:ρ[n]? = some a):Dr c ρ H (Tv c.K a) us (fun S'=>S'[n]? = some (.lst us)):=by
 intro i ρ2 H2 S2 st R g;obtain⟨vs,h1,h2⟩:=R.at_ n a _ (st.get ha) g;refine⟨fun u hu=>?_,fun hl=>⟨vs,gV.of h1,by rw[<-h2.len];exact hl⟩⟩;obtain⟨v,e,r⟩:=h2.get hu;refine⟨⟨vs,v,gV.of h1,e⟩,fun y H3 h9=>?_⟩;obtain⟨e3,hy⟩:=h9;subst e3;have:=hy vs (gV.of h1);rw[e] at this;injection this with this;subst this
 exact⟨.refl,R,r⟩
theorem Nm(R0:cg c ρ H S)(h1:H a=some (.tup vs))(h2:aV c ρ H us vs):Dr c ρ H (Tw c.K a) us (fun _=>True):=by
 intro i ρ2 H2 S2 st R g;have h1':=st.fr a _ h1 (R0.not h1 rfl);have h2':=h2.mono R0 st;refine⟨fun u hu=>?_,fun hl=>⟨vs,lD.of h1',by rw[<-h2'.len];exact hl⟩⟩;obtain⟨v,e,r⟩:=h2'.get hu;refine⟨⟨vs,v,lD.of h1',e⟩,fun y H3 h9=>?_⟩;obtain⟨e3,hy⟩:=h9;subst e3;have:=hy vs (lD.of h1');rw[e] at this;injection this with this;subst this
 exact⟨.refl,R,r⟩
theorem Np:Dr c ρ H (PU (tx l)) (l.map fun d=>.str [d]) (fun _=>True):=by
 intro i ρ2 H2 S2 st R g;refine⟨fun u hu=>?_,fun hl=>?_⟩
 ·rw[aw] at hu
  obtain⟨d,e,e2⟩:=af.mp hu;subst e2;refine⟨?_,fun y H3 ⟨e3,d',e4,e5⟩=>?_⟩
  ·show i < (tx l).cps.size
   have:=(ae.mp e).1;simpa using this
  ·subst e3
   have:l[i]? = some d':=by simpa using e4
   rw[e] at this;injection this with this;subst this
   rw[e5]
   exact⟨.refl,R,bj.mpr rfl⟩
 ·show(tx l).cps.size<=i
  simpa using hl
theorem JI{n:Nat}{us:List U}{a:Addr}(ha:ρ[n]? = some a):Dr c ρ H (Ss c.K a) (us.mapIdx fun i u=>.tup [.int (i:Nat),u]) (fun S'=>S'[n]? = some (.lst us)):=by
 intro i ρ2 H2 S2 st R g;obtain⟨vs,h1,h2⟩:=R.at_ n a _ (st.get ha) g;refine⟨fun u hu=>?_,fun hl=>⟨vs,gV.of h1,by rw[<-h2.len];simpa using hl⟩⟩;rw[jz] at hu;obtain⟨u',e0,e1⟩:=af.mp hu;subst e1;obtain⟨v,e,r⟩:=h2.get e0;refine⟨⟨vs,v,gV.of h1,e⟩,fun y H3 h9=>?_⟩;obtain⟨p,x,hp,e3,e4,hy⟩:=h9;have:=hy vs (gV.of h1);rw[e] at this;injection this with this;subst this
 subst e3 e4;have st':=gS.lay R hp (.tup [.int (i:Nat),v]);exact⟨st',R.lay hp _,dP.mpr ⟨p,_,rfl,bE,aV.cons (aM.mpr rfl) (aV.cons (r.mono R st') aV.nil)⟩⟩
theorem F3:Dr c ρ H (Sh 0 n) ((cv n).map fun k=>.int (k:Nat)) (fun _=>True):=by
 intro i ρ2 H2 S2 st R g;refine⟨fun u hu=>?_,fun hl=>?_⟩
 ·rw[aw] at hu
  obtain⟨d,e,e2⟩:=af.mp hu;subst e2;have hi:=(ae.mp e).1;rw[qZ] at hi;rw[CJ hi] at e;injection e with e;subst e
  refine⟨hi,fun y H3 h9=>?_⟩;obtain⟨e3,e4⟩:=h9;subst e3;subst e4;exact⟨.refl,R,aM.mpr (by simp)⟩
 ·show n<=i
  simpa using hl
end
section
variable {t:uW} {T:Tab} {Γ:b7} {k n:Nat} {I:Inf} {X:Cx}
theorem Nq{e tg:Expr}{x:PL.Ex}(h:∀pZ E,d7 (X.at_ pZ E) e (tE (X.cc t) Γ x))(pZ:List (Addr × Obj))(E:St->XK):PI (X.at_ pZ E) tg e (fun σ H R=>yy (X.cc t) Γ (.val x) (E σ) σ H R):=by
 refine fun pins' s σ H Q J z=>Nl (X:=X.at_ pZ E) (dn (h pZ E)) pins' s σ H Q J ?_
 obtain⟨env,ρ,S,RU,EU,he,R,w,q,qx⟩:=z;refine⟨env,ρ,S,_,EU,he,R,w,fun u S1 v H1 ρ1 w1 st1 R1 r1=>?_,qx⟩;cases u with
 | str l=>rw[bj.mp r1];exact .inr (.inr ⟨_,rfl,q _ _ _ _ _ _ w1 st1 R1 Np⟩)
 | tup us=>
  obtain⟨a,vs,e1,h1,h2⟩:=dP.mp r1;exact .inr (.inl ⟨a,e1,⟨vs,lD.of h1⟩,q _ _ _ _ _ _ w1.2 st1 R1 (Nm R1 h1 h2)⟩)
 | loc m=>
  obtain⟨us,e0,w2⟩:=PL.cM.mp (show PL.getL _ _ from w1);obtain⟨a,vs,e1,ha,h1,h2⟩:=R1.lst e0 r1;exact .inl ⟨a,e1,⟨vs,gV.of h1⟩,q _ _ _ _ _ _ w2 st1 R1 (JH ha)⟩
 | _=>exact aI w1
theorem F4 (G:Good t T Γ k I X) (hg:I.gl ("range":Str)=true) (hb:"range"∈T.fc) (h1:noStar a=true) (h:∀pZ E,d7 (X.at_ pZ E) a (tE (X.cc t) Γ x)) (pZ:List (Addr × Obj)) (E:St->XK):
  PI (X.at_ pZ E) tg (.Call (.Name ("range":Str) p) [a] [] pos) (fun σ H R=>yy (X.cc t) Γ (.range x) (E σ) σ H R):=by
 refine fun pins' s σ H Q J z=>CT (X:=X.at_ pZ E) (gk G hg) (G.tab.fc "range" hb) (kG (dn (h pZ E)) qv (cK h1)) (cK h1) pins' s σ H Q J ?_
 obtain⟨env,ρ,S,RU,EU,he,R,w,q,qx⟩:=z;refine⟨env,ρ,S,_,EU,he,R,w,fun u S1 v H1 ρ1 w1 st1 R1 r1=>?_,qx⟩;obtain⟨j,e,w2,w3,w4⟩:=PL.eI.mp w1;subst e;exact⟨j,by rw[aM.mp r1],by omega,by omega,q _ _ _ _ _ _ w4 st1 R1 F3⟩
theorem U0{n:Nat}{e:Expr}{x:PL.It}{es:List Expr}{ek:Nat}{tp:Pos}(IH:Ds t T Γ k n)(G:Good t T Γ k I X)(h:cN T (n + 1) I e=some x)(pZ:List (Addr × Obj))(E:St->XK):PI (X.at_ pZ E) (.Tuple es ek tp) e (fun σ H R=>yy (X.cc t) Γ x (E σ) σ H R):=by
 rw[UJ] at h;delta stN at h;split at h
 ·rename_i f a hr
  obtain⟨p,cp,rfl⟩:=KY hr;split at h
  ·rename_i hc
   simp only[ag] at hc;obtain⟨⟨⟨c1,c2⟩,c3⟩,c4⟩:=hc;have ef:f=("enumerate":Str):=by simpa using c1
   subst ef;obtain⟨y,h1,h2⟩:=af.mp h;subst h2;refine fun pins' s σ H Q J z=>IY (X:=X.at_ pZ E) (gk G c2) (G.tab.fc "enumerate" (by simpa using c3)) (kG (dn (IH.fe G.at_ h1)) qv (cK c4)) (cK c4) pins' s σ H Q J ?_
   obtain⟨env,ρ,S,RU,EU,he,R,w,q,qx⟩:=z;refine⟨env,ρ,S,_,EU,he,R,w,fun u S1 v H1 ρ1 w1 st1 R1 r1=>?_,qx⟩;obtain⟨m,e,w2⟩:=PL.mi.mp w1;subst e;obtain⟨us,e0,w3⟩:=PL.cM.mp w2;obtain⟨b,vs,e1,hb,g1,g2⟩:=R1.lst e0 r1;subst e1;exact⟨b,rfl,⟨vs,gV.of g1⟩,q _ _ _ _ _ _ w3 st1 R1 (JI hb)⟩
  ·exact nn h
 ·exact nn h
theorem JJ:∀ {n:Nat} {I:Inf} {e:Expr} {x:PL.Ex},cE T n I e=some x->noStar e=true:=by
 intro n I e x h;cases n with
 | zero=>exact nn h
 | succ n=>
  cases e<;>first | rfl | exact nn h
theorem Qs(IH:Ds t T Γ k n)(G:Good t T Γ k I X)(h:cI T (n + 1) I e=some x)(pZ:List (Addr × Obj))(E:St->XK):PI (X.at_ pZ E) tg e (fun σ H R=>yy (X.cc t) Γ x (E σ) σ H R):=by
 have gen:∀ {x:PL.It},(cE T n I e).map PL.It.val=some x->PI (X.at_ pZ E) tg e (fun σ H R=>yy (X.cc t) Γ x (E σ) σ H R):=fun h=>by
  obtain⟨y,h1,h2⟩:=af.mp h;subst h2;exact Nq (fun pZ E=>IH.fe G.at_ h1) pZ E
 rw[UH] at h;delta stI at h;split at h
 ·rename_i f a hr
  obtain⟨p,cp,rfl⟩:=KY hr;split at h
  ·rename_i hf
   split at h
   ·rename_i hc
    rw[ag] at hc;obtain⟨y,h1,h2⟩:=af.mp h;subst h2;have ef:f=("range":Str):=by simpa using hf
    subst ef;exact F4 G hc.1 (by simpa using hc.2) (JJ h1) (fun pZ E=>IH.fe G.at_ h1) pZ E
   ·exact nn h
  ·exact gen h
 ·exact gen h
end
end L2
end
section
namespace L2
open PySem PySem.Spec PyProof.Rows PySem.W
open PL (U SO bR Xn KU KX b7)
section
variable {c:Ctx} {ρ ρ2:List Addr} {H H2:Hp} {S:bR}
theorem gS.U1(a:gS ρ H ρ2 H2)(h:H D=none):gS ρ H (ρ2 ++ [D]) H2:=by
 obtain⟨m,e⟩:=a.pre;refine⟨⟨m ++ [D],by rw[e,bB]⟩,fun b hb nb=>?_,a.fr⟩;rcases aQ.mp hb with z | z
 ·exact a.new b z nb
 ·rw[fH.mp z];exact h
theorem gS.FA(a:gS ρ H ρ2 H2)(h:H D=none)(o:HO):gS ρ H ρ2 (upd H2 D o):=
 ⟨a.pre,a.new,fun b o' h1 h2=>by rw[bq (fk h1 h)];exact a.fr b o' h1 h2⟩
theorem gS.out(a:gS ρ H ρ2 H2)(h:H D=some o)(n:D ∉ ρ):D ∉ ρ2/\H2 D=some o:=by
 refine⟨fun z=>?_,a.fr D o h n⟩;have:=a.new D z n;rw[h] at this;cases this
theorem F5(he:iA c ρ H env σ)(r:iA c ρ H us ys):iA c ρ H (us ++ PL.lS env ci) (ys ++ gf σ ci):=by
 have hl:=r.len;refine⟨by simp[PL.lS,gf,hl],fun i w e=>?_⟩;by_cases lt:i < us.length
 ·rw[ak lt] at e
  rw[ak (by omega)]
  exact r.at_ i w e
 ·rw[av (by omega)] at e
  rw[av (by omega),<-hl]
  generalize i - us.length=i at e ⊢;unfold PL.lS at e;unfold gf;rw[aw] at e ⊢;cases q:ci[i]? with
  | none=>rw[q] at e;cases e
  | some j=>
   rw[q] at e;simp only[jw,ow] at e ⊢;cases z:env[j]? with
   | none=>rw[z] at e;cases e
   | some o=>
    rw[z] at e;cases o with
    | none=>cases e
    | some w'=>
     simp at e;subst e;obtain⟨v,e1,r1⟩:=he.at_ j w' z;exact⟨v,by rw[e1];rfl,r1⟩
theorem Qt(r:Rep c ρ H u y):iA c ρ H [some u] [some y]:=
 ⟨rfl,fun i w e=>by cases i<;>simp at e;subst e;exact⟨y,rfl,r⟩⟩
theorem Qu(r:Rep c ρ H u y)(r':Rep c ρ H u' y'):iA c ρ H [some u,some u'] [some y,some y']:=
 ⟨rfl,fun i w e=>by
  match i with
  | 0=>simp at e;subst e;exact⟨y,rfl,r⟩
  | 1=>simp at e;subst e;exact⟨y',rfl,r'⟩
  | i + 2=>simp at e⟩
end
section
variable {t:uW} {T:Tab} {Γ:b7} {k n:Nat} {I:Inf} {X:Cx}
theorem AS.no(h:AS X e tt)(hx:∀e s,X.xe e s↔False):PT X e (fun σ H Q=>tt (fun _ _ _=>False) σ H Q):=by
 intro pZ s σ H Q J z;refine bH (h pZ s σ H Q _ J z) (fun _ _ q=>q) fun u s' q=>?_
 obtain⟨a,tb,cl,dx,H',_,_,_,_,w⟩:=q;exact aI w
theorem d7.no(h:d7 X e tt)(hx:∀e s,X.xe e s↔False):PE X e (fun σ H Q=>tt (fun _ _ _=>False) σ H Q):=by
 intro pZ s σ H Q J z;refine bH (h pZ s σ H Q _ J z) (fun _ _ q=>q) fun u s' q=>?_
 obtain⟨a,tb,cl,dx,H',_,_,_,_,w⟩:=q;exact aI w
theorem mem_lookup:∀ {l:List (Str × NameKind)} {y:Str} {k:NameKind},l.lookup y=some k->(y,k)∈l
 | [],_,_,h=>nomatch h
 | (a,b)::l,y,k,h=>by
  rw[aY] at h;by_cases e:y=a
  ·subst e;simp at h;subst h;exact ba
  ·have e2:(y == a)=false:=by simp[e]
   rw[e2] at h;exact aS _ (mem_lookup h)
theorem tV(G:Good t T Γ k I X)(h:tJ I sc x=true):C5 X sc x:=by
 unfold tJ at h;simp only[ag,bY] at h;obtain⟨⟨⟨⟨⟨h1,h2⟩,h3⟩,h4⟩,h5⟩,h6⟩:=h;refine⟨by simpa using h1,fun y hy e=>?_,fun y hy e=>?_,fun y hy e=>?_,fun y hy=>by simpa using h5 y hy,of_decide_eq_true h6,fun y e=>?_⟩
 ·have:=h2 y hy;rw[e] at this;simp at this
 ·have:=h3 y hy;rw[e] at this;simpa using this
 ·have:=h4 y hy;rw[e] at this;rw[G.names];simpa using this
 ·exact mem_lookup e
theorem B5(G:Good t T Γ k I X)(h:(gR I sc).mapM (fun y=>dy y I.N)=some ci):xt X sc (gR I sc) ci:=by
 have key:∀(l:List Str) (ci:List Nat),l.mapM (fun y=>dy y I.N)=some ci->ci.length=l.length/\∀(k:Nat) (y:Str),l[k]? = some y->∃j:Nat,ci[k]? = some j/\I.N[j]? = some y:=by
  intro l;induction l with
  | nil=>intro ci h;simp at h;subst h;exact⟨rfl,fun k y e=>by simp at e⟩
  | cons a l ih=>
   intro ci h;simp only[List.mapM_cons,aH,ao] at h;obtain⟨j,h1,r,h2,h3⟩:=h;simp at h3;subst h3;obtain⟨q1,q2⟩:=ih r h2;refine⟨by simp[q1],fun k y e=>?_⟩;cases k with
   | zero=>simp at e;subst e;exact⟨j,rfl,dH h1⟩
   | succ k=>simp at e ⊢;exact q2 k y e
 obtain⟨q1,q2⟩:=key _ _ h;refine⟨q1,fun k y e=>?_,fun y hy=>?_⟩
 ·rw[G.slots];exact q2 k y e
 ·unfold gR at hy
  have:=(d8.mp hy).2;simpa using this
theorem pS(G:Good t T Γ k I X)(hc:I.calm=true)(h:tJ I sc x=true)(cp:xt X sc (gR I sc) ci)(hn:(gR I sc).Nodup):
  Good t T Γ k ⟨pM I sc.names,x ++ gR I sc,true⟩ (X.uM sc C (x ++ gR I sc) s₀ H₀ ex):=by
 have B:=tV G h;refine⟨G.tab,G.HF,B.kind,?_,rfl,qB cp B hn,fun _=>G.calm hc,G.units⟩;show(Et sc X.env).names=_;unfold Et pM;simp only
 congr 1
 funext p
 obtain⟨a,b⟩:=p;simp only[G.kind,Env.kindOf,G.names];simp
theorem vS(z:tE (X.cc t) Γ (.comp pr e it tc ci) E σ H Q):
  E9 (PN X.K pr) (fun σ H R=>yy (X.cc t) Γ it E σ H R) ci (fun σ H Q=>tT (X.cc t) Γ tc (fun _ _ _=>False) σ H Q) (fun σ H Q=>tE (X.cc t) Γ e (fun _ _ _=>False) σ H Q) σ H Q:=by
 obtain⟨env,ρ,S,QU,EU,he0,R,w,q,qx⟩:=z;refine⟨env,ρ,S,_,EU,he0,R,w,fun us g S1 H1 ρ1 J w1 st1 R1 io=>?_,qx⟩;intro D hD;have he1:=he0.later R st1;have D0:D ∉ ρ1:=R1.Ji hD
 let F:=PL.nB g (fun u S2 k=>PL.oF pr u (PL.lS env ci) fun en=>PL.WT Γ tc en S2 k fun _ _=>False)
   (fun u S2 k=>PL.oF pr u (PL.lS env ci) fun en=>PL.WE Γ e en S2 k fun _ _=>False) (fun acc S3=>QU (.loc S3.length) (S3 ++ [.lst acc]))
 refine⟨fun i m acc H2=>m + i=us.length/\∃ ρ2 S2 accU,gS ρ1 H1 ρ2 H2/\cg (X.cc t) ρ2 H2 S2/\D ∉ ρ2/\H2 D=some (.lst acc)/\aV (X.cc t) ρ2 H2 accU acc/\F (us.drop i) accU S2,⟨us.length,rfl,ρ1,S1,[],gS.lay R1 hD _,R1.lay hD _,D0,bE,aV.nil,w1⟩,?_⟩;rintro i m acc H2 ⟨hm,ρ2,S2,accU,st2,R2,D2,hD2,ra,wc⟩;have hlen:acc.length=accU.length:=ra.len.symm;cases hd:us.drop i with
 | nil=>
  rw[hd] at wc;obtain⟨g2,hl,w2⟩:g S2/\accU.length < 1000000/\QU (U.loc S2.length) (S2 ++ [SO.lst accU]):=wc;refine⟨hD2,by rw[hlen];exact aL hl (by decide),.inl ⟨((io i ρ2 H2 S2 st2 R2 g2).2 (Bz.mp hd)),?_⟩⟩;refine q _ _ _ _ _ w2 (st1.trans (st2.U1 hD)) (R2.join D2 ⟨acc,hD2,ra⟩) (iI.mpr ⟨D,rfl,?_⟩);rw[<-R2.len,av (ax _),cf];rfl
 | cons u rest=>
  rw[hd] at wc;obtain⟨g2,hl,w0⟩:g S2/\accU.length < 1000000/\PL.oF pr u (PL.lS env ci) fun en=>PL.WT Γ tc en S2 (fun b S3=>if b=true then PL.oF pr u (PL.lS env ci) (fun en=>PL.WE Γ e en S3 (fun v S4=>F rest (accU ++ [v]) S4) (fun _ _=>False)) else F rest accU S3) (fun _ _=>False):=wc
  have hu:us[i]? = some u:=by
   have:=congrArg (fun l=>l[0]?) hd;simpa using this
  have hr:us.drop (i + 1)=rest:=by
   have:=congrArg List.tail hd;simpa using this
  have hi:i < us.length:=(ae.mp hu).1;obtain⟨jg,jy⟩:=(io i ρ2 H2 S2 st2 R2 g2).1 u hu;refine⟨hD2,by rw[hlen];exact aL hl (by decide),.inr ⟨jg,fun y H3 hy=>?_⟩⟩;obtain⟨st3,R3,ry⟩:=jy y H3 hy;obtain⟨_,hD3⟩:=st3.out hD2 D2;have ra3:=ra.mono R2 st3;obtain⟨us',τ,rτ,w2,kτ⟩:∃(us':PL.Env) (τ:St),iA (X.cc t) ρ2 H3 us' τ/\PL.WT Γ tc (us' ++ PL.lS env ci) S2 (fun b S3=>if b=true then PL.WE Γ e (us' ++ PL.lS env ci) S3 (fun v S4=>F rest (accU ++ [v]) S4) (fun _ _=>False) else F rest accU S3) (fun _ _=>False)/\∀k:St->Prop,k τ->PN X.K pr y H3 k:=by
   cases pr with
   | false=>exact⟨[some u],[some y],Qt ry,w0,fun k z=>z⟩
   | true=>
    obtain⟨u1,u2,eu,w2⟩:=PL.BR.mp w0;subst eu;obtain⟨a,vs,e1,ha,hr2⟩:=dP.mp ry;obtain⟨v1,v2,ev,r1,r2⟩:=K1 hr2;subst ev;exact⟨[some u1,some u2],[some v1,some v2],Qu r1 r2,w2,fun k z=>⟨a,v1,v2,e1,lD.of ha,z⟩⟩
  have he3:=F5 (ci:=ci) (he1.later R1 (st2.trans st3)) rτ;refine kτ _ ⟨_,ρ2,S2,_,_,he3,R3,w2,fun b S4 H4 ρ4 w4 st4 R4=>?_,fun _ _ _ _ _ _ z=>aI z⟩;obtain⟨D4,hD4⟩:=st4.out hD3 D2;have ra4:=ra3.mono R3 st4;cases b with
  | false=>exact⟨m - 1,by omega,by omega,ρ4,S4,accU,(st2.trans st3).trans st4,R4,D4,hD4,ra4,by rw[hr];exact w4⟩
  | true=>
   refine⟨_,ρ4,S4,_,_,he3.later R3 st4,R4,w4,fun v S5 z H5 ρ5 w5 st5 R5 r5=>?_,fun _ _ _ _ _ _ z=>aI z⟩;obtain⟨D5,hD5⟩:=st5.out hD4 D4;have ra5:=(ra4.mono R4 st5).app (aV.cons r5 aV.nil);refine⟨hD5,m - 1,by omega,by omega,ρ5,S5,accU ++ [v],(((st2.trans st3).trans st4).trans st5).FA hD _,R5.FA _ hD5 rfl D5,D5,bE,ra5.jk ⟨[],by simp⟩ (BY hD5 rfl),by rw[hr];exact w5⟩
theorem F6(ht:Jf tg=some x)(B:C5 X sc x)(cp:xt X sc cn ci)(hn:cn.Nodup)(hc:X.calm=true):OH X tg sc x cn (PN X.K (x.length == 2)):=by
 rcases AQ ht with⟨_,_,rfl,rfl⟩ | ⟨_,_,_,_,_,_,rfl,rfl⟩
 ·exact Fc B cp hn
 ·exact Fd B cp hn hc
theorem JK(G:Good t T Γ k I X)(hc:I.calm=true)(ht:Jf tg=some x)(hb:tJ I sc x=true)(hci:(gR I sc).mapM (fun y=>dy y I.N)=some ci)
  (hs:∀env v,foldedSetIterable iter env v=pure v) (hi:∀pZ E,PI (X.at_ pZ E) tg iter (fun σ H R=>yy (X.cc t) Γ it (E σ) σ H R))
  (hif:∀(X':Cx),Good t T Γ k ⟨pM I sc.names,x ++ gR I sc,true⟩ X'->X'.cc t=X.cc t->(∀e s,X'.xe e s↔False)->IG X' ifs (fun σ H Q=>tT (X.cc t) Γ tc (fun _ _ _=>False) σ H Q))
  (he:∀(X':Cx),Good t T Γ k ⟨pM I sc.names,x ++ gR I sc,true⟩ X'->X'.cc t=X.cc t->d7 X' elt (tE (X.cc t) Γ e)):
  d7 X (.ListComp elt [⟨tg,iter,ifs,0⟩] sc pos) (tE (X.cc t) Γ (.comp (x.length == 2) e it tc ci)):=by
 have hn:(gR I sc).Nodup:=by
  unfold gR;have:=G.nd;rw[G.slots] at this;exact this.filter _
 refine up fun pZ E=>?_
 have cp:=B5 (X:=X.at_ pZ E) G.at_ hci;refine(IK (X:=X.at_ pZ E) (wi:=fun σ H R=>yy (X.cc t) Γ it (E σ) σ H R) (tc:=fun σ H Q=>tT (X.cc t) Γ tc (fun _ _ _=>False) σ H Q) (te:=fun σ H Q=>tE (X.cc t) Γ e (fun _ _ _=>False) σ H Q)
  (tV G.at_ hb) cp hn (G.calm hc).1 (F6 ht (tV G.at_ hb) cp hn (G.calm hc).1) (hi pZ E) (fun C s₀ H₀ ex=>hif _ (pS G.at_ hc hb cp hn) rfl fun _ _=>jx) (fun C s₀ H₀ ex=>(he _ (pS G.at_ hc hb cp hn) rfl).no fun _ _=>jx) (hs _)).imp fun σ H Q z=>vS z
end
end L2
end
section
namespace L2
open PySem PySem.Spec PyProof.Rows PySem.W
open PL (U SO bR Xn KU KX b7)
section
variable {t:uW} {T:Tab} {Γ:b7} {k n:Nat} {I:Inf} {X:Cx}
theorem Nr(h:∀pZ E,d7 (X.at_ pZ E) e (tE (X.cc t) Γ x))(he:∀env whole,isTrue e env whole=(do let v <-whole;standAt e.pos;holding [v] (truthy v))):AS X e (tT (X.cc t) Γ (.cG x)):=by
 refine SJ fun pZ E=>(EI (X:=X.at_ pZ E) (dn (h pZ E)) (he _)).imp ?_
 rintro σ H Q ⟨env,ρ,S,QU,EU,he,R,w,q,qx⟩;refine⟨env,ρ,S,_,EU,he,R,w,fun u S1 v H1 ρ1 w1 st1 R1 r1=>?_,qx⟩;obtain⟨b,e1,w2⟩:=PL.gC.mp w1;exact⟨b,Jy (X:=X) rfl R1 r1 e1,q _ _ _ _ w2 st1 R1⟩
theorem JL(h:∀pZ E,AS (X.at_ pZ E) e (tT (X.cc t) Γ x)):AS X (.UnaryOp .Not e pos) (tT (X.cc t) Γ (.not x)):=by
 refine SJ fun pZ E=>(Lv (X:=X.at_ pZ E) (OK (h pZ E))).imp ?_
 rintro σ H Q ⟨env,ρ,S,QU,EU,he,R,w,q,qx⟩;exact⟨env,ρ,S,_,EU,he,R,w,fun b S1 H1 ρ1 w1 st1 R1=>q _ _ _ _ w1 st1 R1,qx⟩
theorem PW.imp{e:Expr}{t t':TT}(h:PW X e t)(q:∀ σ H Q,t' σ H Q->t σ H Q):PW X e t':=fun whole pZ s σ H Q I z=>h whole pZ s σ H Q I (q σ H Q z)
theorem Nt(IH:Ds t T Γ k n)(G:Good t T Γ k I X):∀ {vs:List Expr} {x:PL.Tx},SI T (n + 1) I op vs=some x->∀pZ E,PW (X.at_ pZ E) (.BoolOp op vs pos) (fun σ H Q=>tT (X.cc t) Γ x (E σ) σ H Q)
 | [],x,h,_,_=>by rw[Fz,Fw] at h;cases h
 | [a],x,h,pZ,E=>by
  rw[Fz,Fw] at h;cases op with
  | And=>exact Ia (OK (IH.ft G.at_ h))
  | Or=>exact Ls (OK (IH.ft G.at_ h))
 | a::b::r,y,h,pZ,E=>by
  rw[Fz,Fw] at h;simp only[aH,ao] at h;obtain⟨x,h1,z,h2,h3⟩:=h;injection h3 with h3;subst h3
  cases op with
  | And=>
   refine(Lu (X:=X.at_ pZ E) (OK (IH.ft G.at_ h1)) (IH.UW G h2 pZ E)).imp ?_;rintro σ H Q ⟨env,ρ,S,QU,EU,he,R,w,q,qx⟩;refine⟨env,ρ,S,_,EU,he,R,w,fun b S1 H1 ρ1 w1 st1 R1=>?_,qx⟩;cases b with
   | true=>exact⟨env,ρ1,S1,QU,EU,he.later R st1,R1,w1,q.later st1,qx.later st1⟩
   | false=>exact q _ _ _ _ w1 st1 R1
  | Or=>
   refine(OX (X:=X.at_ pZ E) (OK (IH.ft G.at_ h1)) (IH.UW G h2 pZ E)).imp ?_;rintro σ H Q ⟨env,ρ,S,QU,EU,he,R,w,q,qx⟩;refine⟨env,ρ,S,_,EU,he,R,w,fun b S1 H1 ρ1 w1 st1 R1=>?_,qx⟩;cases b with
   | true=>exact q _ _ _ _ w1 st1 R1
   | false=>exact⟨env,ρ1,S1,QU,EU,he.later R st1,R1,w1,q.later st1,qx.later st1⟩
theorem zq(h:cE T n I b=some x):behindInMarks op b=false:=by
 cases b<;>first | rfl | skip
 cases n with
 | zero=>exact nn h
 | succ n=>exact nn h
theorem B6(h:cI T n I e=some x):∀env v,foldedSetIterable e env v=pure v:=by
 intro env v;cases e<;>first | rfl | skip
 cases n with
 | zero=>exact nn h
 | succ n=>
  change ((pN T n).e I _).map PL.It.val=some x at h
  obtain⟨y,h1,_⟩:=af.mp h
  change cE T n I _=some y at h1
  cases n with
  | zero=>exact nn h1
  | succ n=>exact nn h1
theorem K3(h:cN T n I e=some x):∀env v,foldedSetIterable e env v=pure v:=by
 intro env v;cases e<;>first | rfl | skip
 cases n with
 | zero=>exact nn h
 | succ n=>exact nn h
theorem F7(IH:Ds t T Γ k n)(G:Good t T Γ k I X)(h:((pN T n).e I e).map .cG=some x)(he:∀env whole,isTrue e env whole=(do let v <-whole;standAt e.pos;holding [v] (truthy v))):AS X e (tT (X.cc t) Γ x):=by
 obtain⟨y,h1,h2⟩:=af.mp h;subst h2;exact Nr (fun pZ E=>IH.fe G.at_ h1) he
theorem Qv(IH:Ds t T Γ k n)(G:Good t T Γ k I X)(h:cT T (n + 1) I e=some x):AS X e (tT (X.cc t) Γ x):=by
 rw[UL] at h;cases e with
 | UnaryOp op a pos=>
  cases op with
  | Not=>
   obtain⟨y,h1,h2⟩:=af.mp h;subst h2;exact JL fun pZ E=>IH.ft G.at_ h1
  | _=>exact F7 IH G h fun _ _=>rfl
 | BoolOp op vs pos=>exact SJ fun pZ E=>(IH.UW G h pZ E).pt
 | IfExp=>exact nn h
 | Compare a ops bs pos=>
  cases ops with
  | nil=>exact nn h
  | cons op ops=>cases ops with
   | cons=>exact nn h
   | nil=>cases bs with
    | nil=>exact nn h
    | cons b bs=>cases bs with
     | cons=>exact nn h
     | nil=>
      obtain⟨o,h1,hb⟩:=ao.mp h;obtain⟨a,h2,hc⟩:=ao.mp hb;obtain⟨b,h3,h4⟩:=ao.mp hc;injection h4 with h4;subst h4
      exact JA G h1 (zq h3) (fun pZ E=>IH.fe G.at_ h2) (fun pZ E=>IH.fe G.at_ h3)
 | _=>exact F7 IH G h fun _ _=>rfl
end
end L2
end
section
namespace L2
open PySem PySem.Spec PyProof.Rows PySem.W
open PL (U SO bR Xn KU KX b7)
section
variable {t:uW} {T:Tab} {Γ:b7} {k n:Nat} {I:Inf} {X:Cx}
theorem xR:∀ {n:Nat},(pN T n).es I [] = some y->y = .nil
 | 0,h=>by cases h
 | _ + 1,h=>(aG h).symm
theorem gG{x y:Str}(h:(x != y)=true):(x == y)=false:=by simpa using h
theorem zr(IH:Ds t T Γ k n)(G:Good t T Γ k I X)(ht:Jf tg=some xs)(h:(∃y,xs = [y])/\cI T n I iter=some it\/(¬ ∃y,xs = [y])/\cN T n I iter=some it):
  (∀env v,foldedSetIterable iter env v=pure v)/\∀pZ E,PI (X.at_ pZ E) tg iter (fun σ H R=>yy (X.cc t) Γ it (E σ) σ H R):=by
 rcases AQ ht with⟨x,p,rfl,rfl⟩ | ⟨x,y,p,p',kd,q,rfl,rfl⟩<;>rcases h with⟨z,h1⟩ | ⟨z,h1⟩
 ·exact⟨B6 h1,IH.fi G h1⟩
 ·exact absurd ⟨_,rfl⟩ z
 ·obtain⟨y,e⟩:=z;simp at e
 ·exact⟨K3 h1,IH.fn G h1⟩
theorem B7(IH:Ds t T Γ k n)(G':Good t T Γ k J X')(ec:X'.cc t=X.cc t)(hx:∀e s,X'.xe e s↔False)(h:UM T n J ifs=some c):IG X' ifs (fun σ H Q=>tT (X.cc t) Γ c (fun _ _ _=>False) σ H Q):=by
 unfold UM at h;split at h
 ·injection h with h;subst h
  intro pZ s σ H Q J z;refine II (X:=X') pZ s σ H Q J ?_;obtain⟨env,ρ,S,QU,EU,he,R,w,q,qx⟩:=z;have w2:QU true S:=by
   have:PL.opt (PL.qE S (.bl true)) (fun b=>QU b S):=w;exact this
  exact q true S H ρ w2 .refl R
 ·have:=(IH.ft G' h).no hx
  rw[ec] at this;exact IJ this
 ·exact nn h
theorem Qw(IH:Ds t T Γ k n)(G:Good t T Γ k I X){e:Expr}{x:PL.Ex}(h:cE T (n + 1) I e=some x):d7 X e (tE (X.cc t) Γ x):=by
 have ge:∀ {e:Expr} {y:PL.Ex},cE T n I e=some y->∀pZ E,d7 (X.at_ pZ E) e (tE (X.cc t) Γ y):=fun h pZ E=>IH.fe G.at_ h
 have gA:∀ {es:List Expr} {y:PL.xC},OJ T n I es=some y->∀pZ E,zi (X.at_ pZ E) es (Dl (X.cc t) Γ y):=fun h pZ E=>IH.ON G.at_ h
 have h0:=h;rw[Jg] at h;cases e with(delta OI at h;try dsimp only at h)
 | Name x' pos=>
  split at h
  ·rename_i i hi
   split at h
   ·rename_i hc
    simp only[ag] at hc;injection h with h;subst h
    exact Jz G hi hc.1.1 (gG hc.1.2) (gG hc.2)
   ·exact nn h
  ·split at h
   ·rename_i hc
    rw[ag] at hc;obtain⟨p,h1,h2⟩:=af.mp h;subst h2;exact FV G hc.1 h1 (gG hc.2)
   ·exact nn h
 | Constant c kd pos=>
  obtain⟨u,h1,h2⟩:=af.mp h;subst h2;cases c with
  | none=>cases h1;exact pR (v:=.bQ) (fun pZ E=>Lq) fun _ _=>eQ.mpr rfl
  | bool b=>cases h1;exact pR (v:=.bl _) (fun pZ E=>OW) fun _ _=>dz.mpr rfl
  | int i=>cases h1;exact pR (v:=.int _) (fun pZ E=>Lp) fun _ _=>aM.mpr rfl
  | str x=>cases h1;exact pR (v:=.str _) (fun pZ E=>Lr) fun _ _=>bj.mpr (by rw[<-PV])
  | _=>exact nn h1
 | BinOp a op b pos=>
  simp only[aH,ao] at h;obtain⟨o,h1,a,h2,b,h3,h4⟩:=h;injection h4 with h4;subst h4
  exact M4 G h1 (ge h2) (ge h3)
 | UnaryOp op a pos=>
  cases op with
  | Not=>obtain⟨y,h1,h2⟩:=af.mp h;subst h2;exact M8 (ge h1)
  | USub=>obtain⟨y,h1,h2⟩:=af.mp h;subst h2;exact M7 (ge h1)
  | _=>exact nn h
 | BoolOp op vs pos=>exact IH.UU G h
 | Compare a ops bs pos=>
  split at h
  ·split at h
   ·simp only[aH,ao] at h
    obtain⟨o,h1,a,h2,b,h3,h4⟩:=h;injection h4 with h4;subst h4
    exact M5 G h1 (zq h3) (ge h2) (ge h3)
   ·exact nn h
  ·exact nn h
 | IfExp c a b pos=>
  simp only[aH,ao] at h;obtain⟨o,h1,a,h2,b,h3,h4⟩:=h;injection h4 with h4;subst h4
  exact Qm (fun pZ E=>IH.ft G.at_ h1) (ge h2) (ge h3)
 | Call fn args kws cp=>
  cases fn with
  | Name f p=>
   cases kws with
   | nil=>
    dsimp only at h;split at h
    ·rename_i hc
     rw[ag] at hc;obtain⟨hg,hd⟩:=hc;split at h
     ·rename_i hf
      rw[ag] at hf;have ef:f=("isinstance":Str):=by simpa using hf.1
      subst ef;have hb:"isinstance"∈T.fc:=by simpa using hf.2
      split at h
      ·split at h
       ·exact nn h
       ·rename_i a tt hs
        simp only[aH,ao] at h;obtain⟨y,h1,h2⟩:=h;split at h2
        ·rename_i ty ht
         injection h2 with h3;subst h3
         exact Nk G hg hb (by simpa using hs) ht (ge h1)
        ·split at h2
         ·simp only[aH,ao] at h2
          obtain⟨l,h2,h3⟩:=h2;split at h3
          ·rename_i hl
           have hl:=of_decide_eq_true hl;injection h3 with h3;subst h3
           exact JG G hg hb (by simpa using hs) h2 hl.1 hl.2 (ge h1)
          ·exact nn h3
         ·exact nn h2
      ·exact nn h
     ·split at h
      ·rename_i b hb
       split at h
       ·rename_i hs
        simp only[ag,vc] at hs;obtain⟨⟨⟨s,hp⟩,hs⟩,hcm⟩:=hs;obtain⟨y,h1,h2⟩:=af.mp h;subst h2;cases args with
        | nil=>simp at hs
        | cons a as=>
         have st:=kY h1;rw[bD,ag] at st;exact Nd G hg hb hp (G.calm hcm).1 (G.calm hcm).2.hd st.1 st.2 (gA h1)
       ·exact nn h
      ·split at h
       ·exact nn h
       ·rename_i hcm
        have hcm:I.calm=true:=by simpa using hcm
        split at h
        ·rename_i q hq
         obtain⟨hm,rfl⟩:=gT hq;obtain⟨y,h1,h2⟩:=af.mp h;subst h2;cases args with
         | nil=>
          cases xR h1;exact FY G hg hcm hm (gG hd)
         | cons a as=>
          have st:=kY h1;rw[bD,ag] at st;exact JD G hg hcm hm (gG hd) st.1 st.2 (IH.ON G h1)
        ·split at h
         ·rename_i q hq
          obtain⟨hm,rfl⟩:=gT hq;obtain⟨y,h1,h2⟩:=af.mp h;subst h2;cases args with
          | nil=>
           cases xR h1;exact Nh G hg hcm hm (gG hd)
          | cons a as=>
           have st:=kY h1;rw[bD,ag] at st;exact Qr G hg hcm hm (gG hd) st.1 st.2 (IH.ON G h1)
         ·exact nn h
    ·exact nn h
   | cons kw ks=>
    dsimp only at h;split at h
    ·split at h
     ·rename_i hc
      simp only[ag] at hc;obtain⟨⟨⟨⟨⟨⟨⟨q0,q1⟩,q2⟩,q4⟩,q6⟩,q7⟩,q8⟩,q9⟩:=hc;have q1:=eq_of_beq q1;subst q1;have q0:ks = []:=by simpa using q0
      subst q0;obtain⟨y,h1,h2⟩:=af.mp h;subst h2;obtain⟨ka,kv,kp⟩:=kw;unfold Ft at q2;rw[ag] at q2;have e1:=eq_of_beq q2.1;subst e1;have q3:=q2.2;cases kv with
      | Name l lp=>
       have q3:(l == ("len":Str) && I.gl l)=true:=q3;rw[ag] at q3;have e2:=eq_of_beq q3.1;subst e2;exact Dt G q4 q3.2 (by simpa using q6) (by simpa using q7) (G.calm q8).1 q9 (ge h1)
      | _=>cases q3
     ·exact nn h
    ·exact nn h
  | Attribute o m ap=>
   dsimp only at h;split at h
   ·exact nn h
   ·rename_i hc
    simp only[fZ,Eu,ag] at hc;obtain⟨⟨⟨⟨hk,hc0⟩,hl⟩,hn⟩,hcm⟩:=hc;have hk:kws = []:=by simpa using hk
    subst hk;have hn:=of_decide_eq_true hn;split at h
    ·rename_i q kk hq
     obtain⟨hm,hq2⟩:=vO hq;dsimp only at hq2;subst hq2;simp only[aH,ao] at h;obtain⟨y,h1,as,h2,h3⟩:=h;injection h3 with h3;subst h3
     cases args with
     | nil=>
      cases xR h2;exact FZ G hcm hm hc0 hl (IH.fe G h1)
     | cons a as'=>
      have st:=kY h2;rw[bD,ag] at st;exact JE G hcm hm hc0 hl hn st.1 st.2 (IH.fe G h1) (IH.ON G h2)
    ·split at h
     ·split at h
      ·rename_i em
       obtain⟨y,h1,h2⟩:=af.mp h;subst h2;have em:=eq_of_beq em;subst em;exact JC G hc0 hl (ge h1)
      ·exact nn h
     ·rename_i a as
      split at h
      ·rename_i em
       have em:=eq_of_beq em;subst em;split at h
       ·rename_i d
        split at h
        ·rename_i st
         rw[ag] at st;simp only[aH,ao] at h;obtain⟨y,h1,z,h2,w,h3,h4⟩:=h;injection h4 with h4;subst h4
         exact Ng G hc0 hl st.1 st.2 (ge h1) (ge h2) (ge h3)
        ·exact nn h
       ·exact nn h
      ·split at h
       ·rename_i b hb
        simp only[aH,ao] at h;obtain⟨y,h1,as',h2,h3⟩:=h;injection h3 with h3;subst h3
        have st:=kY h2;rw[bD,ag] at st;exact Nf G hb (G.calm hcm).2.hd hc0 hl hn st.1 st.2 (ge h1) (gA h2)
       ·exact nn h
  | _=>exact nn h
 | Attribute o f pos=>
  split at h
  ·exact nn h
  ·rename_i hc0
   simp only[aH,ao] at h;obtain⟨q,h1,y,h2,h3⟩:=h;injection h3 with h3;subst h3
   obtain⟨hm,rfl⟩:=gT h1;exact Nc G hm (by simpa using hc0) (ge h2)
 | Subscript o i pos=>
  split at h
  ·rename_i hs
   simp only[aH,ao] at h;obtain⟨y,h1,a,h2,h3⟩:=h;injection h3 with h3;subst h3
   exact Qn hs (ge h1) (ge h2)
  ·split at h
   ·split at h
    ·simp only[aH,ao] at h
     obtain⟨y,h1,a,h2,b,h3,h4⟩:=h;injection h4 with h4;subst h4
     exact Qp (ge h1) (IH.fo G h2) (IH.fo G h3)
    ·exact nn h
   ·exact nn h
 | List es pos=>
  obtain⟨y,h1,h2⟩:=af.mp h;subst h2;exact Nb (gA h1)
 | Tuple es kd pos=>
  obtain⟨y,h1,h2⟩:=af.mp h;subst h2;exact Na (gA h1)
 | ListComp elt gs sc pos=>
  obtain⟨tg,iter,ifs,xs,it,c,ee,ci,rfl,ht,hc,h1,h2,h3,h4,h5⟩:=tK h0;subst h5;have hi:=zr IH G ht h1;refine JK G hc.2 ht hc.1 h4 hi.1 hi.2 (fun X' G' ec hx=>?_) (fun X' G' ec=>?_)
  ·exact B7 IH G' ec hx h2
  ·have:=IH.fe G' h3
   rw[ec] at this;exact this
 | _=>exact nn h
theorem F8:Ds t T Γ k 0:=by
 constructor
 ·intro I X e x _ h;rw[Qd] at h;exact nn h
 ·intro I X e x _ h;rw[KZ] at h;exact nn h
 ·intro I X op vs x pos _ h;rw[Qe] at h;exact nn h
 ·intro I X e x _ h;rw[UE] at h;exact nn h
 ·intro I X e x tg _ h;rw[UG] at h;exact nn h
 ·intro I X e x es ek tp _ h;rw[UI] at h;exact nn h
 ·intro I X e x _ h;rw[UK] at h;exact nn h
 ·intro I X op vs x pos _ h;rw[Qg] at h;exact nn h
theorem xT:∀n,Ds t T Γ k n
 | 0=>F8
 | n + 1=>
  have IH:=xT n
  ⟨fun G h=>Qw IH G h,fun G h=>M6 IH G h,fun G h=>M9 IH G h,fun G h=>Qo IH G h,fun G h=>Qs IH G h,fun G h=>U0 IH G h,fun G h=>Qv IH G h,fun G h=>Nt IH G h⟩
end
end L2
end
section
namespace L2
open PySem PySem.Spec PyProof.Rows PySem.W
open PL (U SO bR Xn KU KX b7)
structure K4 (X:Cx):Prop where
 CP:X.stack=X.env::X.outer
 U2:X.env.frame=some X.env.locals
def XN(X:Cx)(pZ:List (Addr × Obj))(E:St->XK)(e:Value)(s:aj):Prop:=
 ∃(σ:St) (a T:Addr) (cl:Value) (dx:Option Addr) (H:Hp),e = .ref a/\Inv X pZ σ H s/\uw s.heap a cl dx (some (T,oN X.env.locals))/\Ay X pZ H a/\Ay X pZ H T/\E σ cl dx H
def XL(X:Cx)(pZ:List (Addr × Obj))(E:St->XK)(e:Value)(s:aj):Prop:=
 wpAny (aP X.prog X.w) X.A (DY e X.env) (fun _ s'=>XN X pZ E e s') (fun _ _=>False) s
noncomputable abbrev Cx.al(X:Cx)(pZ:List (Addr × Obj))(E:St->XK):Cx:={ X with pn:=X.pn ++ pZ,xe:=XL X pZ E }
section
variable {X:Cx} {pZ pins':List (Addr × Obj)} {E:St->XK} {σ:St} {H:Hp} {s:aj}
theorem Cx.Ok.al(ok:X.Ok):(X.al pZ E).Ok:=
 ⟨ok.mod,ok.kind,ok.glob,ok.blt,ok.above,ok.inj,ok.has,ok.KC,ok.hd,ok.frames,ok.CP,ok.OV,ok.bs,ok.D9,ok.yJ,ok.Ag,ok.oR,ok.HB⟩
theorem Cx.Ok.qK(ok:(X.al pZ E).Ok):X.Ok:=
 ⟨ok.mod,ok.kind,ok.glob,ok.blt,ok.above,ok.inj,ok.has,ok.KC,ok.hd,ok.frames,ok.CP,ok.OV,ok.bs,ok.D9,ok.yJ,ok.Ag,ok.oR,ok.HB⟩
theorem Inv.al(I:Inv X pZ σ H s):Inv (X.al pZ E) [] σ H s:=
 ⟨I.ok.al,I.os,I.bare,I.base,I.loc,I.cell,I.free,I.jS,fun p hp=>I.pin p (by simpa using hp),I.dj,I.len⟩
theorem Inv.qK(I:Inv (X.al pZ E) pins' σ H s):Inv X pZ σ H s:=
 ⟨I.ok.qK,I.os,I.bare,I.base,I.loc,I.cell,I.free,I.jS,fun p hp=>I.pin p (aQ.mpr (.inl hp)),I.dj,I.len⟩
theorem Ay.qK(h:Ay (X.al pZ E) pins' H b):Ay X pZ H b:=
 ⟨h.1,h.2.1,h.2.2.1,h.2.2.2.1,fun p hp=>h.2.2.2.2 p (aQ.mpr (.inl hp))⟩
theorem K4.al(f:K4 X):K4 (X.al pZ E):=⟨f.CP,f.U2⟩
theorem XE.toXL(f:K4 X)(h:XE X pZ σ (E σ) e s):XL X pZ E e s:=by
 obtain⟨a,tb,cl,dx,H',rfl,I,xa,fr,q⟩:=h;have fr1:X.A.frames=some (X.env::X.outer):=by rw[I.ok.frames,f.CP]
 have fs1:s.heap.FunFrames X.base (X.env::X.outer):=by have:=I.stack;rw[f.CP] at this;exact this
 refine KJ (base:=X.base) (outer:=X.outer) (L:=X.env.locals) fr1 fs1 f.U2 xa fun h2 T2 k2 n2 x2=>?_
 exact⟨σ,a,T2,cl,dx,H',rfl,I.qA (by rw[f.CP];exact k2) fr,x2,fr a ba,I.PC n2,q⟩
theorem XE.qK(f:K4 X)(h:XE (X.al pZ E) pins' σ (E σ) e s):XL X pZ E e s:=by
 obtain⟨a,tb,cl,dx,H',e1,I,x,fr,q⟩:=h;exact XE.toXL f ⟨a,tb,cl,dx,H',e1,I.qK,x,fun b hb=>(fr b hb).qK,q⟩
theorem JM:DT (aP (X.al pZ E).prog (X.al pZ E).w) (X.al pZ E).A (X.al pZ E).env (X.al pZ E).xe:=PassesOwn.looking
end
theorem SP.qK(q:SP (X.al pZ E) pins' D f s):SP X pZ D f s:=by
 cases f with
 | next=>obtain⟨σ',H',I',q⟩:=q;exact⟨σ',H',I'.qK,q⟩
 | brk=>obtain⟨σ',H',I',q⟩:=q;exact⟨σ',H',I'.qK,q⟩
 | cont=>obtain⟨σ',H',I',q⟩:=q;exact⟨σ',H',I'.qK,q⟩
 | ret u=>obtain⟨v,σ',H',I',r,q⟩:=q;exact⟨v,σ',H',I'.qK,r,q⟩
structure Tk (X:Cx) (E:St->XK):Prop where
 tk:∀(pZ:List (Addr × Obj)) (σ:St) (s:aj) (e:Value),XE X pZ σ (E σ) e s->X.xe e s
 ps:DT (aP X.prog X.w) X.A X.env X.xe
theorem Qx(f:K4 X):Tk (X.al pZ E) E:=⟨fun _ _ _ _ h=>h.qK f,JM⟩
theorem Qy(h:X.xe=fun _ _=>False):Tk X (fun _ _ _ _=>False):=by
 refine⟨fun pZ σ s e z=>?_,?_⟩
 ·obtain⟨a,tb,cl,dx,H',_,_,_,_,w⟩:=z
  exact aI w
 ·rw[h];exact PassesOwn.never
section
variable {X:Cx} {e:Expr} {E:St->XK}
theorem Ec(k:Tk X E)(h:d7 X e t):PE X e (fun σ H Q=>t (E σ) σ H Q):=by
 intro pins' s σ H Q I z;exact bH (h pins' s σ H Q (E σ) I z) (fun u s' q=>q) fun u s' q=>k.tk _ _ _ _ q
theorem Qz(k:Tk X E)(h:AS X e t):PT X e (fun σ H Q=>t (E σ) σ H Q):=by
 intro pins' s σ H Q I z;exact bH (h pins' s σ H Q (E σ) I z) (fun u s' q=>q) fun u s' q=>k.tk _ _ _ _ q
theorem PS.imp{st:Stmt}{t t':TS}(h:PS X st t)(q:∀D σ H,t' D σ H->t D σ H):PS X st t':=fun pZ s σ H D I z=>h pZ s σ H D I (q D σ H z)
theorem rN.imp{st:List Stmt}{t t':TS}(h:rN X st t)(q:∀D σ H,t' D σ H->t D σ H):rN X st t':=fun pZ s σ H D I z=>h pZ s σ H D I (q D σ H z)
end
theorem Good.al(G:Good t T Γ k I X):Good t T Γ k I (X.al pZ E):=
 ⟨G.tab,G.HF,G.kind,G.names,G.slots,G.nd,G.calm,G.units⟩
structure DR (c:Ctx) (ρ:List Addr) (H:Hp) (DU:PL.Ends) (D:Ends) (E:St->XK):Prop where
 nx:∀env' S' σ' H' ρ',DU.nx env' S'->gS ρ H ρ' H'->cg c ρ' H' S'->iA c ρ' H' env' σ'->D.nx σ' H'
 rt:QV c ρ H DU.rt D.rt
 ex:∀env' σ' x S' H' ρ' C d,DU.ex env' x S'->gS ρ H ρ' H'->cg c ρ' H' S'->iA c ρ' H' env' σ'->ExcAt c ρ' H' x C d->E σ' (.ref C) (some d) H'
def tS(c:Ctx)(Γ:b7)(x:PL.Sm):(St->XK)->TS:=fun E D σ H=>∃env ρ S DU,iA c ρ H env σ/\cg c ρ H S/\PL.WS Γ x DU env S/\DR c ρ H DU D E
def F9(c:Ctx)(Γ:b7)(x:PL.du):(St->XK)->TS:=fun E D σ H=>∃env ρ S DU,iA c ρ H env σ/\cg c ρ H S/\PL.qF Γ x DU env S/\DR c ρ H DU D E
section
variable {c:Ctx} {ρ ρ':List Addr} {H H':Hp} {S:bR} {DU:PL.Ends} {D:Ends} {E:St->XK}
theorem DR.later(q:DR c ρ H DU D E)(a:gS ρ H ρ' H'):DR c ρ' H' DU D E:=
 ⟨fun env' S' σ' H2 ρ2 h b R e=>q.nx env' S' σ' H2 ρ2 h (a.trans b) R e,q.rt.later a,fun env' σ' x S' H2 ρ2 C d h b R e z=>q.ex env' σ' x S' H2 ρ2 C d h (a.trans b) R e z⟩
theorem DR.qx(q:DR c ρ H DU D E)(R:cg c ρ H S)(he:iA c ρ H env σ):QX c ρ H (DU.ex env) (E σ):=
 fun x S' H2 ρ2 C d h b R2 z=>q.ex env σ x S' H2 ρ2 C d h b R2 (he.later R b) z
theorem iA.set(he:iA c ρ H env σ)(r:Rep c ρ H u v)(i:Nat):iA c ρ H (env.set i (some u)) (σ.set i (some v)):=by
 refine⟨by simp[he.len],fun j w e=>?_⟩;by_cases z:j=i
 ·subst z
  have hj:j < env.length:=by
   have:=(ae.mp e).1;simpa using this
  rw[bP hj] at e;injection e with e;injection e with e;subst e
  exact⟨v,by rw[bP (by rw[<-he.len];exact hj)],r⟩
 ·rw[au (dJ z)] at e ⊢
  exact he.at_ j w e
theorem iA.del(he:iA c ρ H env σ)(i:Nat):iA c ρ H (env.set i none) (σ.set i none):=by
 refine⟨by simp[he.len],fun j w e=>?_⟩;by_cases z:j=i
 ·subst z
  have hj:j < env.length:=by
   have:=(ae.mp e).1;simpa using this
  rw[bP hj] at e;cases e
 ·rw[au (dJ z)] at e ⊢
  exact he.at_ j w e
end
end L2
end
section
namespace L2
open PySem PySem.Spec PyProof.Rows PySem.W
open PL (U SO bR Xn KU KX b7)
def xU(C:Addr)(l:List Str):Sp:=fun vs H Q _=>∃a ys,vs = .ref a::ys/\ys.length=l.length/\H a=some (.xo a C none)/\∀d,H d=none->d≠a->Q .bQ (upd (upd H d (.xf d (l.zip ys))) a (.xo a C (some d)))
structure oI (c:Ctx) (k:Nat) (x:String):Prop where
 ex:∃C f fd ps,c.exc x=some C/\ly c.K (.ref C)=true/\ik c.K (.ref C) "__init__" = some (some (.ref f))/\isFn c.K (.ref f)=true/\iz c.P c.w c.K c.mg c.base (oW c.P c.w) k f fd ps (xU C ((PL.cL x).map nm))/\Binds c.K fd ps []/\ps.length<=1000
structure fE (t:uW) (T:Tab) (Γ:b7) (k:Nat) (I:Inf) (X:Cx):Prop where
 g:Good t T Γ k I X
 fr:K4 X
 st:∀x,X.fn x=true
 xi:∀x∈T.uT,PL.cL x≠[]->oI (X.cc t) k x
 up:∀x C bm y D,t.exc x=some C->t.exc y=some D->nq X.K C bm->(PL.lR x).contains y=true->(aO C::bm).contains (.ref D)=true
section
variable {t:uW} {T:Tab} {Γ:b7} {k n:Nat} {I:Inf} {X:Cx}
theorem fE.al(G:fE t T Γ k I X):fE t T Γ k I (X.al pZ E):=⟨G.g.al,G.fr.al,G.st,G.xi,G.up⟩
variable {E:St->XK}
theorem qL(h:rS (names.lookup x)=true)(e:sc.names=names):Loc sc x:=by
 rw[<-e] at h;unfold Loc;cases q:sc.names.lookup x with
 | none=>rw[q] at h;cases h
 | some kd=>rw[q] at h;cases kd<;>simp[rS] at h<;>simp
theorem A3(z:tS (X.cc t) Γ (.set i x) E D σ H):tE (X.cc t) Γ x (E σ) σ H fun v H1=>D.nx (σ.set i (some v)) H1:=by
 obtain⟨env,ρ,S,DU,he,R,w,q⟩:=z;refine⟨env,ρ,S,_,_,he,R,w,fun u S1 v H1 ρ1 w1 st1 R1 r1=>?_,q.qx R he⟩;exact q.nx _ _ _ _ _ w1 st1 R1 ((he.later R st1).set r1 i)
theorem Nu(G:fE t T Γ k I X)(K:Tk X E)(h:dy x I.N=some i)(hl:rS (I.names.lookup x)=true)(hs:∀env,iy e (some (.Name x p)) pos.line env=pure false)
  (hy:d7 X e (tE (X.cc t) Γ y)):PS X (.Assign [.Name x p] e pos) (fun D σ H=>tS (X.cc t) Γ (.set i y) E D σ H):=by
 refine(EF (X:=X) (i:=i) G.g.nd (by show X.N[i]? = some x;rw[G.g.slots];exact dH h) (qL hl G.g.names) (Ec K hy) (hs _) (.inl (G.st x))).imp ?_;intro D σ H z;exact A3 z
theorem JN(G:fE t T Γ k I X)(K:Tk X E)(hf:f∈T.tI)(hx:d7 X o (tE (X.cc t) Γ x))(hy:d7 X e (tE (X.cc t) Γ y)):PS X (.Assign [.Attribute o (nm f) p] e pos) (fun D σ H=>tS (X.cc t) Γ (.jU x f y) E D σ H):=by
 have hs:∀env,iy e (some (.Attribute o (nm f) p)) pos.line env=pure false:=fun env=>by cases e<;>rfl
 refine(LW (X:=X) (Ec K hx) (Ec K hy) (hs _)).imp ?_;rintro D σ H ⟨env,ρ,S,DU,he,R,w,q⟩;refine⟨env,ρ,S,_,_,he,R,w,fun u S1 v H1 ρ1 w1 st1 R1 r1=>?_,q.qx R he⟩;refine⟨env,ρ1,S1,_,_,he.later R st1,R1,w1,fun u2 S2 v2 H2 ρ2 w2 st2 R2 r2=>?_,(q.qx R he).later st1⟩;obtain⟨l,e1,w3⟩:=PL.mi.mp w2;subst e1;obtain⟨c',fs,e2,hlen,w4⟩:=PL.lQ.mp w3;obtain⟨a,C,dx,vs,ev,ha,hC,hH,hn,hr⟩:=R2.ins e2 r2;obtain⟨cl,na⟩:=G.g.tab.cls c' C hC;have hlv:vs.length=fs.length:=by have:=congrArg cU hn;simpa using this
 refine⟨a,C,dx,vs,ev,hH,cl,na f hf,by omega,?_⟩;have st3:=gS.put (H:=H2) (aB ha) (.ins C dx (f9 (nm f) v vs));have sf:∀ {fs:List (String × U)} {vs:List (Str × V)},vs.map (·.1)=(fs.map (·.1)).map nm->aV (X.cc t) ρ2 H2 (fs.map (·.2)) (vs.map (·.2)) ->
   (f9 (nm f) v vs).map (·.1)=((PL.fL f u fs).map (·.1)).map nm/\aV (X.cc t) ρ2 H2 ((PL.fL f u fs).map (·.2)) ((f9 (nm f) v vs).map (·.2)):=by
  intro fs;induction fs with
  | nil=>
   intro vs hn hr;cases vs with
   | nil=>exact⟨rfl,aV.cons (r1.mono R1 st2) aV.nil⟩
   | cons a b=>simp at hn
  | cons p fs ih=>
   intro vs hn hr;obtain⟨g,w'⟩:=p;cases vs with
   | nil=>simp at hn
   | cons b vs=>
    obtain⟨b1,b2⟩:=b;simp only[aE,dW] at hn;rw[aE,aE] at hr;unfold aV at hr;obtain⟨v',r',e',k1,k2⟩:=hr;injection e' with e1' e2'
    subst e1';subst e2';unfold f9 PL.fL;by_cases z:g=f
    ·have z2:b1=nm f:=by rw[hn.1,z]
     rw[if_pos z2,if_pos z]
     exact⟨by simp[hn.1,hn.2],aV.cons (r1.mono R1 st2) k2⟩
    ·have z2:¬b1=nm f:=fun q=>z (qI _ _ (hn.1.symm.trans q))
     rw[if_neg z2,if_neg z]
     obtain⟨m1,m2⟩:=ih hn.2 k2;exact⟨by simp only[aE,dW];exact⟨hn.1,m1⟩,aV.cons k1 m2⟩
 obtain⟨m1,m2⟩:=sf hn hr;refine q.nx _ _ _ _ _ w4 ((st1.trans st2).trans st3) (R2.put ha ⟨C,dx,_,hC,bE,m1,m2.mono R2 st3⟩) ((he.later R (st1.trans st2)).later R2 st3)
theorem QC(G:fE t T Γ k I X)(K:Tk X E)(hc:xO e=true)(hy:d7 X e (tE (X.cc t) Γ y)):PS X (.Expr e pos) (fun D σ H=>tS (X.cc t) Γ (.ex y) E D σ H):=by
 refine(Ic (X:=X) (Ec K hy) (zm hc)).imp ?_;rintro D σ H ⟨env,ρ,S,DU,he,R,w,q⟩;refine⟨env,ρ,S,_,_,he,R,w,fun u S1 v H1 ρ1 w1 st1 R1 r1=>?_,q.qx R he⟩;exact q.nx _ _ _ _ _ w1 st1 R1 (he.later R st1)
theorem Nv(G:fE t T Γ k I X)(K:Tk X E)(hy:d7 X e (tE (X.cc t) Γ y)):PS X (.Return (some e) pos) (fun D σ H=>tS (X.cc t) Γ (.ret y) E D σ H):=by
 refine(Lz (X:=X) (Ec K hy)).imp ?_;rintro D σ H ⟨env,ρ,S,DU,he,R,w,q⟩;exact⟨env,ρ,S,_,_,he,R,w,q.rt,q.qx R he⟩
theorem Nw(G:fE t T Γ k I X)(K:Tk X E)(hx:AS X c (tT (X.cc t) Γ x))(hy:rN X a (fun D σ H=>F9 (X.cc t) Γ y E D σ H))(hz:rN X b (fun D σ H=>F9 (X.cc t) Γ z E D σ H)):PS X (.If c a b pos) (fun D σ H=>tS (X.cc t) Γ (.ifs x y z) E D σ H):=by
 refine(O3 (X:=X) (Qz K hx) (hy) (hz)).imp ?_;rintro D σ H ⟨env,ρ,S,DU,he,R,w,q⟩;refine⟨env,ρ,S,_,_,he,R,w,fun b S1 H1 ρ1 w1 st1 R1=>?_,q.qx R he⟩;cases b with
 | true=>exact⟨env,ρ1,S1,DU,he.later R st1,R1,w1,q.later st1⟩
 | false=>exact⟨env,ρ1,S1,DU,he.later R st1,R1,w1,q.later st1⟩
theorem A4(hp:AR op=some p):op=Jk p/\(p = .add\/p = .sub\/p = .bor):=by cases op<;>first | exact nn hp | (cases hp;exact⟨rfl,by simp⟩)
theorem Nx(G:fE t T Γ k I X)(K:Tk X E)(h:dy x I.N=some i)(hl:rS (I.names.lookup x)=true)(hp:AR op=some p)(hy:d7 X e (tE (X.cc t) Γ y)):PS X (.AugAssign (.Name x px) op e pos) (fun D σ H=>tS (X.cc t) Γ (.aug i p y) E D σ H):=by
 have eo:=A4 hp;rw[eo.1]
 refine(LC (X:=X) (i:=i) G.g.nd (by show X.N[i]? = some x;rw[G.g.slots];exact dH h) (qL hl G.g.names) (Ec K hy) (xQ (X:=X) (c:=X.cc t) eo.2) (.inl (G.st x))).imp ?_;rintro D σ H ⟨env,ρ,S,DU,he,R,w,q⟩;obtain⟨u0,e0,w0⟩:=PL.y0.mp (show PL.xD _ _ from w);obtain⟨v0,e1,r0⟩:=he.at_ i u0 e0;refine⟨v0,e1,env,ρ,S,_,_,he,R,w0,fun u S1 v H1 ρ1 w1 st1 R1 r1=>?_,q.qx R he⟩;refine⟨u0,u,ρ1,S1,_,r0.mono R st1,r1,R1,w1,fun u2 S2 v2 H2 ρ2 w2 st2 R2 r2=>?_⟩;exact q.nx _ _ _ _ _ w2 (st1.trans st2) R2 ((he.later R (st1.trans st2)).set r2 i)
end
end L2
end
section
namespace L2
open PySem PySem.Spec PyProof.Rows PySem.W
open PL (U SO bR Xn KU KX b7)
section
variable {t:uW} {T:Tab} {Γ:b7} {k n:Nat} {I:Inf} {X:Cx} {E:St->XK}
theorem sf(ru:Rep c ρ H u v):∀ {fs:List (String × U)} {vs:List (Str × V)},vs.map (·.1)=(fs.map (·.1)).map nm->aV c ρ H (fs.map (·.2)) (vs.map (·.2)) ->
   (f9 (nm f) v vs).map (·.1)=((PL.fL f u fs).map (·.1)).map nm/\aV c ρ H ((PL.fL f u fs).map (·.2)) ((f9 (nm f) v vs).map (·.2))
 | [],[],_,_=>⟨rfl,aV.cons ru aV.nil⟩
 | [],_::_,hn,_=>by simp at hn
 | _::_,[],hn,_=>by simp at hn
 | (g,w')::fs,(b1,b2)::vs,hn,hr=>by
  simp only[aE,dW] at hn;rw[aE,aE] at hr;unfold aV at hr;obtain⟨v',r',e',k1,k2⟩:=hr;injection e' with e1' e2'
  subst e1';subst e2';unfold f9 PL.fL;by_cases z:g=f
  ·have z2:b1=nm f:=by rw[hn.1,z]
   rw[if_pos z2,if_pos z]
   exact⟨by simp[hn.1,hn.2],aV.cons ru k2⟩
  ·have z2:¬b1=nm f:=fun q=>z (qI _ _ (hn.1.symm.trans q))
   rw[if_neg z2,if_neg z]
   obtain⟨m1,m2⟩:=sf ru hn.2 k2;exact⟨by simp only[aE,dW];exact⟨hn.1,m1⟩,aV.cons k1 m2⟩
theorem JO(G:fE t T Γ k I X)(K:Tk X E)(hf:f∈T.tI)(hp:AR op=some p)(hx:d7 X o (tE (X.cc t) Γ x))(hy:d7 X e (tE (X.cc t) Γ y)):PS X (.AugAssign (.Attribute o (nm f) tp) op e pos) (fun D σ H=>tS (X.cc t) Γ (.yY x f p y) E D σ H):=by
 have eo:=A4 hp;rw[eo.1]
 refine(CY (X:=X) (Ec K hx) (Ec K hy) (rd:=Dm (X.cc t) p) (xQ (X:=X) (c:=X.cc t) eo.2)).imp ?_;rintro D σ H ⟨env,ρ,S,DU,he,R,w,q⟩;refine⟨env,ρ,S,_,_,he,R,w,fun u S1 v H1 ρ1 w1 st1 R1 r1=>?_,q.qx R he⟩;obtain⟨l,e1,w2⟩:=PL.mi.mp w1;subst e1;obtain⟨c',fs,e2,w3⟩:=PL.lQ.mp w2;obtain⟨u0,e3,w4⟩:=PL.gC.mp w3;obtain⟨a,C,dx,vs,ev,ha,hC,hH,hn,hr⟩:=R1.ins e2 r1;obtain⟨cl,na⟩:=G.g.tab.cls c' C hC;obtain⟨v0,l0,r0⟩:=mz hn hr e3 qI;refine⟨a,C,dx,vs,v0,ev,hH,cl,na f hf,l0,?_⟩;refine⟨env,ρ1,S1,_,_,he.later R st1,R1,w4,fun u2 S2 v2 H2 ρ2 w5 st2 R2 r2=>?_,(q.qx R he).later st1⟩;refine⟨u0,u2,ρ2,S2,_,r0.mono R1 st2,r2,R2,w5,fun u3 S3 v3 H3 ρ3 w6 st3 R3 r3=>?_⟩;obtain⟨c'',fs',e4,⟨e5,hlen,w7⟩⟩:=PL.lQ.mp w6;subst e5;have ha3:=(st2.trans st3).get ha;obtain⟨C',dx',vs',hC',hH',hn',hr'⟩:=R3.at_ l a _ ha3 e4;rw[hC] at hC';injection hC' with hC';subst hC'
 have hlv:vs'.length=fs'.length:=by have:=congrArg cU hn';simpa using this
 refine⟨dx',vs',hH',by omega,?_⟩;have st4:=gS.put (H:=H3) (aB ha3) (.ins C dx' (f9 (nm f) v3 vs'));obtain⟨m1,m2⟩:=sf r3 hn' hr';refine q.nx _ _ _ _ _ w7 (((st1.trans st2).trans st3).trans st4) (R3.put ha3 ⟨C,dx',_,hC,bE,m1,m2.mono R3 st4⟩) ((he.later R ((st1.trans st2).trans st3)).later R3 st4)
def QD(K:Frag):V->V->Hp->VK->Prop:=fun o i H Q=>∃p xs k v,o = .ref p/\i = .int k/\H p=some (.lst xs)/\0<=k/\xs[k.toNat]? = some v/\Q v H
theorem Du:O9 X (QD X.K):=by
 intro pZ s σ H o i ov iv Q I ro ri h;obtain⟨p,xs,k,v,rfl,rfl,hp,h0,hk,q⟩:=h;cases ro;obtain⟨t,rfl⟩:=ri;obtain⟨its,r,pl,hz⟩:=I.list (.inl (.inl hp));obtain⟨w,ew,rw'⟩:=r.get hk;have hn:=nh;have hl:=(ae.mp hk).1;exact getItem_listL pl.isList h0 (by omega) ew ⟨v,H,I,rw',q⟩
theorem U3(r:aV c ρ H us vs)(ru:Rep c ρ H u v):∀(j:Nat),aV c ρ H (us.set j u) (vs.set j v):=by
 intro j;induction us generalizing vs j with
 | nil=>cases vs with
  | nil=>exact r
  | cons a b=>exact absurd r.len (by simp)
 | cons x us ih=>cases vs with
  | nil=>exact absurd r.len (by simp)
  | cons a b=>
   unfold aV at r;obtain⟨v',r',e',k1,k2⟩:=r;injection e' with e1 e2
   subst e1;subst e2;cases j with
   | zero=>exact aV.cons ru k2
   | succ j=>exact aV.cons k1 (ih k2 j)
theorem JP(G:fE t T Γ k I X)(K:Tk X E)(hn:og i=true)(hp:AR op=some p)(hx:d7 X o (tE (X.cc t) Γ x))(hi:d7 X i (tE (X.cc t) Γ y))(hy:d7 X e (tE (X.cc t) Γ z)):PS X (.AugAssign (.Subscript o i tp) op e pos) (fun D σ H=>tS (X.cc t) Γ (.C9 x y p z) E D σ H):=by
 have eo:=A4 hp;rw[eo.1]
 refine(Ie (X:=X) (Ec K hx) (Ec K hi) Du (Ec K hy) (tip:=Dm (X.cc t) p) (xQ (X:=X) (c:=X.cc t) eo.2) set_list (fun ov iv new=>by cases i<;>first | rfl | simp[og] at hn)).imp ?_;rintro D σ H ⟨env,ρ,S,DU,he,R,w,q⟩;refine⟨env,ρ,S,_,_,he,R,w,fun u S1 v H1 ρ1 w1 st1 R1 r1=>?_,q.qx R he⟩;refine⟨env,ρ1,S1,_,_,he.later R st1,R1,w1,fun u2 S2 v2 H2 ρ2 w2 st2 R2 r2=>?_,(q.qx R he).later st1⟩;obtain⟨l,e1,w3⟩:=PL.mi.mp w2;subst e1;obtain⟨j,e2,w4⟩:=PL.eI.mp w3;subst e2;obtain⟨us,e3,h0,w5⟩:=PL.cM.mp w4;obtain⟨u0,e4,w6⟩:=PL.gC.mp w5;obtain⟨a,vs,ev,ha,hH,hr⟩:=R2.lst e3 (r1.mono R1 st2);subst ev;obtain⟨v0,l0,r0⟩:=hr.get e4;refine⟨a,vs,j,v0,rfl,aM.mp r2,hH,h0,l0,?_⟩;refine⟨env,ρ2,S2,_,_,(he.later R st1).later R1 st2,R2,w6,fun u3 S3 v3 H3 ρ3 w7 st3 R3 r3=>?_,(q.qx R he).later (st1.trans st2)⟩;refine⟨u0,u3,ρ3,S3,_,r0.mono R2 st3,r3,R3,w7,fun u4 S4 v4 H4 ρ4 w8 st4 R4 r4=>?_⟩;obtain⟨us',e5,hj,w9⟩:=PL.cM.mp w8;have ha4:=(st3.trans st4).get ha;obtain⟨vs',hH',hr'⟩:=R4.at_ l a _ ha4 e5;refine⟨a,vs',j,j.toNat,rfl,aM.mp r2,hH',?_,?_⟩
 ·unfold L7
  rw[if_pos h0,if_pos (by have:=hr'.len;omega)]
 have st5:=gS.put (H:=H4) (aB ha4) (.lst (vs'.set j.toNat v4));refine q.nx _ _ _ _ _ w9 ((((st1.trans st2).trans st3).trans st4).trans st5) (R4.put ha4 ⟨_,bE,(U3 hr' r4 j.toNat).mono R4 st5⟩) ((he.later R (((st1.trans st2).trans st3).trans st4)).later R4 st5)
theorem Ny(K:Tk X E)(hx:AS X c (tT (X.cc t) Γ x))(hy:rN X b (fun D σ H=>F9 (X.cc t) Γ y E D σ H)):PS X (.While c b [] pos) (fun D σ H=>tS (X.cc t) Γ (.yZ x y) E D σ H):=by
 refine(EG (X:=X) K.ps (Qz K hx) hy).imp ?_;rintro D σ H ⟨env,ρ,S,DU,he,R,w,q⟩;obtain⟨n0,w0⟩:=w
 let F:=PL.xH (fun en S1 k=>PL.WT Γ x en S1 k (DU.ex en)) (fun en S1 k=>PL.qF Γ y { DU with nx:=k } en S1) DU.nx
 refine⟨fun m σ1 H1=>∃env1 ρ1 S1,gS ρ H ρ1 H1/\cg (X.cc t) ρ1 H1 S1/\iA (X.cc t) ρ1 H1 env1 σ1/\F m env1 S1,⟨n0,env,ρ,S,.refl,R,he,w0⟩,?_⟩;rintro m σ1 H1 ⟨env1,ρ1,S1,st1,R1,he1,w1⟩;cases m with
 | zero=>exact aI w1
 | succ m=>
  have w1':PL.WT Γ x env1 S1 (fun t S1=>if t=true then PL.qF Γ y { DU with nx:=F m } env1 S1 else DU.nx env1 S1) (DU.ex env1):=w1;have q1:=q.later st1;refine⟨env1,ρ1,S1,_,_,he1,R1,w1',fun b S2 H2 ρ2 w2 st2 R2=>?_,q1.qx R1 he1⟩;cases b with
  | false=>exact q1.nx _ _ _ _ _ w2 st2 R2 (he1.later R1 st2)
  | true=>
   refine⟨fun σ3 H3=>∃env3 ρ3 S3,gS ρ H ρ3 H3/\cg (X.cc t) ρ3 H3 S3/\iA (X.cc t) ρ3 H3 env3 σ3/\F m env3 S3,fun σ3 H3 h3=>⟨m,sD m,h3⟩,?_⟩;have q2:=q1.later st2;refine⟨env1,ρ2,S2,_,he1.later R1 st2,R2,w2,⟨fun env' S' σ' H' ρ' h b R' e=>⟨env',ρ',S',(st1.trans st2).trans b,R',e,h⟩,q2.rt,q2.ex⟩⟩
def Ga(Γ:b7)(tt:PL.Tg)(z:PL.du)(DU:PL.Ends)(u:U)(en:PL.Env)(S:bR)(k:PL.Env->bR->Prop):Prop:=match tt with
 | .name i=>PL.qF Γ z { DU with nx:=k } (en.set i (some u)) S
 | .pair i j=>PL.KS u fun x y=>PL.qF Γ z { DU with nx:=k } ((en.set i (some x)).set j (some y)) S
theorem Gb:PL.WS Γ (.ji tt y z) DU env S=PL.WI Γ y env S (fun us g S1=>PL.tB g (Ga Γ tt z DU) DU.nx us env S1) (DU.ex env):=by
 cases tt<;>rfl
theorem Gd(G:fE t T Γ k I X)(K:Tk X E)(hc:I.calm=true)(hs:∀env v,foldedSetIterable it env v=pure v)
  (hi:PI X tg it (fun σ H R=>yy (X.cc t) Γ y (E σ) σ H R)) (hg:PG X tg g0) (hb:rN X b (fun D σ H=>F9 (X.cc t) Γ z E D σ H))
  (hr0:∀ {ρ H S env σ u v DU D Q k},iA (X.cc t) ρ H env σ->cg (X.cc t) ρ H S->Rep (X.cc t) ρ H u v->Ga Γ tt z DU u env S k->DR (X.cc t) ρ H { DU with nx:=k } D E->(∀ σ' H',F9 (X.cc t) Γ z E D σ' H'->Q σ' H')->g0 v σ H Q):
  PS X (.For tg it b [] pos) (fun D σ H=>tS (X.cc t) Γ (.ji tt y z) E D σ H):=by
 refine(LF (X:=X) K.ps (G.g.calm hc).1 hi hg hb (hs _)).imp ?_;rintro D σ H ⟨env,ρ,S,DU,he,R,w,q⟩;rw[Gb] at w;refine⟨env,ρ,S,_,_,he,R,w,fun us g S1 H1 ρ1 J w1 st1 R1 io=>?_,q.qx R he⟩
 let F:=PL.tB g (Ga Γ tt z DU) DU.nx
 refine⟨fun j m σ2 H2=>m + j=us.length/\∃env2 ρ2 S2,gS ρ1 H1 ρ2 H2/\cg (X.cc t) ρ2 H2 S2/\iA (X.cc t) ρ2 H2 env2 σ2/\F (us.drop j) env2 S2,⟨us.length,rfl,env,ρ1,S1,.refl,R1,he.later R st1,w1⟩,?_⟩;rintro j m σ2 H2 ⟨hm,env2,ρ2,S2,st2,R2,he2,wf⟩;have q2:=q.later (st1.trans st2);cases hd:us.drop j with
 | nil=>
  rw[hd] at wf;obtain⟨g2,w2⟩:g S2/\DU.nx env2 S2:=wf;exact .inl ⟨(io j ρ2 H2 S2 st2 R2 g2).2 (Bz.mp hd),q2.nx _ _ _ _ _ w2 .refl R2 he2⟩
 | cons u rest=>
  rw[hd] at wf;obtain⟨g2,w2⟩:=wf;have hu:us[j]? = some u:=by
   have:=congrArg (fun l=>l[0]?) hd;simpa using this
  have hr:us.drop (j + 1)=rest:=by
   have:=congrArg List.tail hd;simpa using this
  have hj:j < us.length:=(ae.mp hu).1;obtain⟨jg,jy⟩:=(io j ρ2 H2 S2 st2 R2 g2).1 u hu;refine .inr ⟨jg,fun σ3 H3=>∃env3 ρ3 S3,gS ρ1 H1 ρ3 H3/\cg (X.cc t) ρ3 H3 S3/\iA (X.cc t) ρ3 H3 env3 σ3/\F rest env3 S3,fun σ3 H3 h3=>⟨m - 1,by omega,by omega,by rw[hr];exact h3⟩,fun yv H3 hy=>?_⟩;obtain⟨st3,R3,ry⟩:=jy yv H3 hy;have q3:=q2.later st3;refine hr0 (DU:=DU) (k:=F rest) (D:=⟨_,_,_,_⟩) (he2.later R2 st3) R3 ry w2 ?_ fun σ' H' h=>h
  exact⟨fun env' S' σ' H' ρ' h b R' e=>⟨env',ρ',S',(st2.trans st3).trans b,R',e,h⟩,q3.rt,q3.ex⟩
theorem JQ(G:fE t T Γ k I X)(K:Tk X E)(hc:I.calm=true)(h:dy x I.N=some i)(hl:rS (I.names.lookup x)=true)(hs:∀env v,foldedSetIterable it env v=pure v)
  (hi:PI X (.Name x px) it (fun σ H R=>yy (X.cc t) Γ y (E σ) σ H R)) (hb:rN X b (fun D σ H=>F9 (X.cc t) Γ z E D σ H)):PS X (.For (.Name x px) it b [] pos) (fun D σ H=>tS (X.cc t) Γ (.ji (.name i) y z) E D σ H):=
 Gd (tt:=.name i) G K hc hs hi (pj (i:=i) G.g.nd (by rw[G.g.slots];exact dH h) (qL hl G.g.names) (.inl (G.st x))) hb
  fun he R ru w q hq=>hq _ _ ⟨_,_,_,_,he.set ru i,R,w,q⟩
theorem JR(G:fE t T Γ k I X)(K:Tk X E)(hc:I.calm=true)(h:dy x I.N=some i)(hl:rS (I.names.lookup x)=true)(h2:dy x2 I.N=some j)(hl2:rS (I.names.lookup x2)=true)(hs:∀env v,foldedSetIterable it env v=pure v)
  (hi:PI X (.Tuple [.Name x px,.Name x2 px2] kk pt) it (fun σ H R=>yy (X.cc t) Γ y (E σ) σ H R)) (hb:rN X b (fun D σ H=>F9 (X.cc t) Γ z E D σ H)):PS X (.For (.Tuple [.Name x px,.Name x2 px2] kk pt) it b [] pos) (fun D σ H=>tS (X.cc t) Γ (.ji (.pair i j) y z) E D σ H):=by
 have p1:PG X (.Name x px) (vq i):=pj (i:=i) G.g.nd (by rw[G.g.slots];exact dH h) (qL hl G.g.names) (.inl (G.st x));have p2:PG X (.Name x2 px2) (vq j):=pj (i:=j) G.g.nd (by rw[G.g.slots];exact dH h2) (qL hl2 G.g.names) (.inl (G.st x2));refine Gd (tt:=.pair i j) G K hc hs hi (EE (n:=2) (G.g.calm hc).1 (pq p1 (pq p2 BD rfl) rfl) rfl rfl) hb ?_;intro ρ H S env σ u v DU D Q kk he R ru w q hq;obtain⟨a,b',e1,w⟩:=PL.BR.mp (show PL.KS _ _ from w);subst e1;obtain⟨ad,vs,ev,hs',rs⟩:=dP.mp ru;subst ev;unfold aV at rs;obtain⟨v1,r1,rfl,k1,k2⟩:=rs;unfold aV at k2;obtain⟨v2,r2,rfl,k3,k4⟩:=k2;unfold aV at k4;subst k4;exact⟨ad,[v1,v2],rfl,.inl (.inl hs'),rfl,v1,[v2],rfl,v2,[],rfl,rfl,hq _ _ ⟨_,_,_,_,(he.set k1 i).set k3 j,R,w,q⟩⟩
end
end L2
end
section
namespace L2
open PySem PySem.Spec PyProof.Rows PySem.W
open PL (U SO bR Xn KU KX b7)
section
variable {t:uW} {T:Tab} {Γ:b7} {k n:Nat} {I:Inf} {X:Cx} {E:St->XK}
theorem oV.nE(h:oV (X.at_ pZ E) [] H b):oV X pZ H b:=
 ⟨h.1,h.2.1,h.2.2.1,h.2.2.2.1,h.2.2.2.2.1,fun p hp=>h.2.2.2.2.2 p (by simpa using hp)⟩
theorem Ge(K:Tk X E)(h:∀pZ E,PI (X.at_ pZ E) tg it (fun σ H R=>yy (X.cc t) Γ y (E σ) σ H R)):PI X tg it (fun σ H R=>yy (X.cc t) Γ y (E σ) σ H R):=by
 intro pZ s σ H R J z;have tk:∀e s,PK X pZ E e s->X.xe e s:=fun e s ⟨σ',h⟩=>K.tk _ _ _ _ h
 refine bH (h pZ E [] s σ H R J.at_ z) (fun v s1 q=>bH q (fun itv s2 q2=>?_) tk) tk;obtain⟨ita,fp,tn,Jt,H',e,I',tu,t0,hf,hr⟩:=q2;exact⟨ita,fp,tn,Jt,H',e,I'.nE,tu,t0,fun b hb=>(hf b hb).nE,hr⟩
theorem A5(G:fE t T Γ k I X)(K:Tk X E)(hc:I.calm=true)(ht:Jf tg=some x)(hb:tJ I sc x=true)(hci:(gR I sc).mapM (fun y=>dy y I.N)=some ci)
  (hs:∀env v,foldedSetIterable iter env v=pure v) (hi:∀pZ E,PI (X.at_ pZ E) tg iter (fun σ H R=>yy (X.cc t) Γ it (E σ) σ H R))
  (hif:∀(X':Cx),Good t T Γ k ⟨pM I sc.names,x ++ gR I sc,true⟩ X'->X'.cc t=X.cc t->(∀e s,X'.xe e s↔False)->IG X' ifs (fun σ H Q=>tT (X.cc t) Γ tc (fun _ _ _=>False) σ H Q))
  (he:∀(X':Cx),Good t T Γ k ⟨pM I sc.names,x ++ gR I sc,true⟩ X'->X'.cc t=X.cc t->d7 X' elt (tE (X.cc t) Γ e))
  (hy:dy y I.N=some i) (hk:I.names.lookup y=some .local) (hsw:iy (.ListComp elt [⟨tg,iter,ifs,0⟩] sc pos) (some (.Name y py)) spos.line X.env=pure true):
  PS X (.Assign [.Name y py] (.ListComp elt [⟨tg,iter,ifs,0⟩] sc pos) spos) (fun D σ H=>tS (X.cc t) Γ (.set i (.comp (x.length == 2) e it tc ci)) E D σ H):=by
 have hn:(gR I sc).Nodup:=by
  unfold gR;have:=G.g.nd;rw[G.g.slots] at this;exact this.filter _
 have cp:=B5 G.g hci;refine(AD (X:=X) (i:=i) (wi:=fun σ H R=>yy (X.cc t) Γ it (E σ) σ H R) (tc:=fun σ H Q=>tT (X.cc t) Γ tc (fun _ _ _=>False) σ H Q) (te:=fun σ H Q=>tE (X.cc t) Γ e (fun _ _ _=>False) σ H Q)
  (tV G.g hb) cp hn (G.g.calm hc).1 (F6 ht (tV G.g hb) cp hn (G.g.calm hc).1) (Ge K hi) (fun C s₀ H₀ ex=>hif _ (pS G.g hc hb cp hn) rfl fun _ _=>jx) (fun C s₀ H₀ ex=>(he _ (pS G.g hc hb cp hn) rfl).no fun _ _=>jx) G.g.nd (by rw[G.g.slots];exact dH hy) (by rw[G.g.names];exact hk) hsw (hs _)).imp ?_
 intro D σ H z;exact vS (A3 z)
theorem Xa (K:Tk X E) (XC:nq X.K C bm) (kp:ly X.K (.ref C)=true) (hi:ik X.K (.ref C) "__init__" = some (some (.ref f))) (hf:isFn X.K (.ref f)=true)
  (F:iz X.prog X.w X.K X.mg X.base (oW X.prog X.w) k f fd ps sp) (hr:jf (k + 1) X.A) (hg:Gl X x) (hm:X.mg x=some (.ref C)) (hb:Binds X.K fd ps []) (ha:zi X (e::es) ta) (hps:ps.length<=1000)
  (hdb:(x == ("__debug__":Str))=false) (he:noStar e=true) (hes:es.all noStar=true):
  PS X (.Raise (some (.Call (.Name x p) (e::es) [] cpos)) none pos) (fun _ σ H=>ta (E σ) σ H fun vs H1=>∀a,H1 a=none ->
   sp (.ref a::vs) (upd H1 a (.xo a C none)) (fun v H2=>v = .bQ/\∃d,H2 a=some (.xo a C (some d))/\E σ (.ref C) (some d) (rm H2 a)) (E σ)):=by
 intro pZ s σ H D I h;obtain⟨nm,q,N,bs,sn,sub,ab,col,dd,k0,k1,k2,k3,k5,hC⟩:=XC.ob;rw[arm_exec_Raise]
 simp only[evalOpt,Option.map];refine ah (m9 (yS (C:=C) (nm:=nm) (q:=q) (N:=N) (bs:=bs) (bm:=bm) (sn:=sn) (sub:=sub) (ab:=ab) (col:=col) (dd:=dd) (k0:=k0) (k1:=k1) (k2:=k2) (k3:=k3) (k5:=k5) (newId:="ValueError.__new__") (XC.base I.kA) hr.hd ?_));refine ah (bH (Q:=fun v s₁=>∃e dx,v = .ref e/\s₁.heap.get? C=some (ko nm q C N bs bm true sn sub ab col dd k0 k1 k2 k3 k5 "ValueError.__new__")/\uw s₁.heap e (.ref C) dx none/\X.xe (.ref e) s₁) ?_ (fun v s3 h3=>ah (m9 (aJ h3))) fun _ _ x=>x);refine dw (l9 I hg hm ?_ hdb);refine Ac (h₀:=X.base) I.ok.mod.OF kp (bH (ha cpos pZ s σ H _ (E σ) I h) (fun us s1 h9=>?_) fun _ _ z=>K.tk _ _ _ _ z) (cK he) (fD hes);obtain⟨vs,H1,I1,r,q1⟩:=h9;refine⟨I1.kA,?_⟩;obtain⟨hp,gg,d0,tk,os⟩:=s1;refine x_call (fI:=f) PySem.F.excBase_ValueError (XC.tail I1.kA) (I1.kA C _ hC) (uH I1.kA hi) (fun self=>bind_fn I1.kA self (beq_iff_eq.mp hf)) (fun h' a hm' hs=>?_) ?_
 ·obtain⟨t0,ta,tn,tt⟩:=hm'.there
  have xat:uw h' a (.ref C) none none:=⟨_,_,ta,rfl⟩
  have I2:=I1.laid (a:=a) (o:=.xo a C none) (h':=h') (t':=tk) hm'.keeps hs (KL xat);have na:H1 a=none:=I1.dj.fresh hs;have hsp:=q1 a na;have hl:(aO a::us ++ []).length=ps.length:=by
   have el:=F.len _ _ _ _ hsp;rw[aZ,<-el,aN,aN,r.length]
  refine oQ (lH (F.run _ X.stack _ _ ⟨aO a::us,[]⟩ (aO a::us) (V.ref a::vs) _ (E σ) (hr.make C us []) (I2.LZ.make C us []) (by
   have b:=hb ⟨h',gg,d0,tk,os⟩ (aO a::us) I2.kA hl;rw[aZ] at b;exact b) (.cons rfl r) hsp) fun res s' hq=>?_)
  cases res with
  | error ex=>
   obtain⟨a',T',c',dx',H',e1,I',x',fr,q'⟩:=oW.inv I2 hq;exact K.tk pZ σ s' ex ⟨a',some T',c',dx',H',e1,I',x',fr,q'⟩
  | ok fl=>
   cases fl with
   | next=>exact aI hq
   | brk=>exact aI hq
   | cont=>exact aI hq
   | ret u=>
    obtain⟨v,H2,I3,rv,ev,d,hd,q2⟩:=I2.after hq;subst ev;refine⟨rv,a,some d,rfl,I3.kA C _ hC,BM I3.dj hd,?_⟩;refine K.tk pZ σ s' _ ⟨a,none,.ref C,some d,rm H2 a,rfl,I3.PH hd,BM I3.dj hd,fun b m=>?_,q2⟩;have e:b=a:=by simpa using m
    subst e;exact⟨oX,(I1.PC hs).2⟩
 ·have el:=r.length
  have hsp:=q1 hp.objs.size (I1.dj.fresh (ax _));have h2:=F.len _ _ _ _ hsp;rw[aN,el] at h2;show([] ++ us).length<=sizeLine;rw[fN,iX]
  omega
theorem Gf (G:fE t T Γ k I X) (K:Tk X E) (hc:I.calm=true) (hg:I.gl (nm q)=true) (hq:q∈T.uT) (hd:(nm q == ("__debug__":Str))=false) (h1:noStar e=true) (h2:es.all noStar=true) (hf:PL.cL q≠[])
  (ha:zi X (e::es) (Dl (X.cc t) Γ xs)):PS X (.Raise (some (.Call (.Name (nm q) p) (e::es) [] cpos)) none pos) (fun D σ H=>tS (X.cc t) Γ (.raise q xs) E D σ H):=by
 obtain⟨C,f,fd,ps,hC,kp,hi,hfn,F,B,hps⟩:=(G.xi q hq hf).ex;obtain⟨C',hC',hmg⟩:=G.g.tab.SK q hq;rw[hC] at hC';injection hC' with hC';subst hC'
 obtain⟨_,_,⟨bm,XC⟩,_⟩:=G.g.tab.exc q C hC;refine(Xa (k:=k) K XC kp hi hfn F (G.g.calm hc).2 (gk G.g hg) hmg B ha hps hd h1 h2).imp ?_;rintro D σ H ⟨env,ρ,S,DU,he,R,w,qq⟩;refine⟨env,ρ,S,_,_,he,R,w,fun us S1 vs H1 ρ1 w1 st1 R1 r1=>?_,qq.qx R he⟩;intro a ha;obtain⟨hl,w2⟩:=w1;have hlv:vs.length=((PL.cL q).map nm).length:=by rw[ar,<-hl];exact r1.len.symm
 refine⟨a,vs,rfl,hlv,bE,fun d hd nd=>⟨rfl,d,bE,?_⟩⟩;have hd1:H1 d=none:=by rw[bq nd] at hd;exact hd
 have hH:rm (upd (upd (upd H1 a (.xo a C none)) d (.xf d (((PL.cL q).map nm).zip vs))) a (.xo a C (some d))) a=upd H1 d (.xf d (((PL.cL q).map nm).zip vs)):=by
  funext b
  unfold rm;by_cases z:b=a
  ·subst z;rw[if_pos rfl,bq (dJ nd),ha]
  ·rw[if_neg z,bq z]
   by_cases z2:b=d
   ·subst z2;rw[bE,bE]
   ·rw[bq z2,bq z2,bq z]
 rw[hH]
 have st2:=gS.lay R1 hd1 (.xf d (((PL.cL q).map nm).zip vs));refine qq.ex env σ ⟨q,us⟩ S1 _ ρ1 C d w2 (st1.trans st2) (R1.lay hd1 _) ((he.later R st1).later R1 st2) ⟨hC,_,bE,?_,?_⟩
 ·exact Hu (by omega)
 ·rw[Hv (by omega)];exact r1.mono R1 st2
theorem Xb{body suite:List Stmt}{b0:Stmt}{x n:Str}{np hpos pos:Pos}{C':Addr}{bm':List Value}{i:Nat}{tb:(St->XK)->TS}{th:TS}(fr:K4 X)(hb:∀pZ E',rN (X.al pZ E') body (tb E'))(hs:∀a,rN (X.hand a) (b0::suite) th)
  (hN:X.N.Nodup) (hi:X.N[i]? = some n) (hk:X.env.scope.names.lookup n=some .local) (hg:Gl X x) (hm:X.mg x=some (.ref C')) (c':nq X.K C' bm') (hdb:(x == ("__debug__":Str))=false):
  PS X (.Try body [.ExceptHandler (some (.Name x np)) (some n) (b0::suite) hpos] [] [] pos) (T6 X.K C' i tb th):=by
 intro pZ s σ H D I h;refine wpAny_Try_except (bH (hb pZ _ [] s σ H D I.al h) (fun f s1 q=>?_) fun ex s1 q=>?_)
 ·have q:=q.qK
  cases f with
  | next=>exact lj q
  | ret v=>exact q
  | brk=>exact q
  | cont=>exact q
 ·refine bH q (fun _ s2 q2=>?_) fun _ _ z=>aI z
  obtain⟨σ1,a,T2,c,dx,H1,rfl,I2,x2,fa2,fT2,C,bm,rfl,xc,has,k⟩:=q2;refine E6 (s:=s2) x2 fun h3 k3 x3=>?_
  have I3:Inv X pZ σ1 H1 { s2 with heap:=h3 }:=I2.qA (k3.mono (fun b z=>absurd z (by simp)) fun _ z=>z) (fun b z=>by
   have e:b=T2:=by simpa using z
   subst e;exact fT2)
  refine wpAny_handleBy_cons (codeAny_handlers_test (l9 (X:=X.hand a) (I3.hand a) hg hm ?_ hdb)) (by intro z;cases z);refine xq (s:={ s2 with heap:=h3 }) I3.kA xc c' x3 ?_;rw[has]
  refine codeAny_handlers_suite_as (E6 (s:={ s2 with heap:=h3 }) x3 fun h4 k4 x4=>?_);have I4:Inv X pZ σ1 H1 { s2 with heap:=h4 }:=I3.qA (k4.mono (fun b z=>absurd z (by simp)) fun _ z=>z) (fun b z=>by
   have e:b=T2:=by simpa using z
   subst e;exact fT2)
  have I5:=I4.PJ fa2 x4;refine lL (v:=.ref a) I5 hN hi (.inl hk) rfl (fun s6 I6=>?_) (.inr hk);refine bH (hs a pZ s6 _ _ _ (I6.hand a) (k a fa2.1)) (fun f s7 q7=>?_) fun _ _ z=>aI z
  cases f with
  | next=>
   obtain⟨σ7,H7,I7,q7⟩:=q7;exact nR (I7.xr I.ok) hN hi hk fun s8 I8=>⟨_,H7,I8,q7⟩
  | brk=>
   obtain⟨σ7,H7,I7,q7⟩:=q7;exact nR (I7.xr I.ok) hN hi hk fun s8 I8=>⟨_,H7,I8,q7⟩
  | cont=>
   obtain⟨σ7,H7,I7,q7⟩:=q7;exact nR (I7.xr I.ok) hN hi hk fun s8 I8=>⟨_,H7,I8,q7⟩
  | ret u=>
   obtain⟨v7,σ7,H7,I7,r7,q7⟩:=q7;exact nR (I7.xr I.ok) hN hi hk fun s8 I8=>⟨v7,_,H7,I8,r7,q7⟩
theorem Nz {q:String} {y:Str} {i:Nat} {b h:List Stmt} {h0:Stmt} {np hpos pos:Pos} {xb xh:PL.du} (G:fE t T Γ k I X) (hg:I.gl (nm q)=true) (hq:q∈T.uT) (hd:(nm q == ("__debug__":Str))=false) (hy:dy y I.N=some i) (hk:I.names.lookup y=some .local)
  (hb:∀pZ E',rN (X.al pZ E') b (fun D σ H=>F9 (X.cc t) Γ xb E' D σ H)) (hh:∀a,rN (X.hand a) (h0::h) (fun D σ H=>F9 (X.cc t) Γ xh (fun _ _ _ _=>False) D σ H)):
  PS X (.Try b [.ExceptHandler (some (.Name (nm q) np)) (some y) (h0::h) hpos] [] [] pos) (fun D σ H=>tS (X.cc t) Γ (.KQ xb q i xh) E D σ H):=by
 obtain⟨C',hC',hmg⟩:=G.g.tab.SK q hq;obtain⟨_,_,⟨bm',XC'⟩,_⟩:=G.g.tab.exc q C' hC';refine(Xb (X:=X) (i:=i) G.fr hb hh G.g.nd (by rw[G.g.slots];exact dH hy) (by rw[G.g.names];exact hk) (gk G.g hg) hmg XC' hd).imp ?_;rintro D σ H ⟨env,ρ,S,DU,he,R,w,qq⟩;refine⟨env,ρ,S,_,he,R,w,⟨qq.nx,qq.rt,?_⟩⟩;rintro env' σ' ⟨xc,xus⟩ S' H' ρ' C d ⟨hx,wh⟩ st R' he' ⟨hC,fs,hd',hn,hr⟩;obtain⟨_,_,⟨bm,XC⟩,_⟩:=G.g.tab.exc xc C hC;refine⟨C,bm,rfl,XC,G.up xc C bm q C' hC hC' XC hx,fun a ha=>?_⟩;have st2:=gS.lay R' ha (.xc a (.ref C) (some d));have R2:=R'.lay ha (.xc a (.ref C) (some d));have hda:d≠a:=fun z=>by rw[z,ha] at hd';cases hd'
 have re:Rep (X.cc t) ρ' (upd H' a (.xc a (.ref C) (some d))) (.exc xc xus) (.ref a):=by
  unfold Rep;exact⟨a,d,C,fs,rfl,hC,bE,by rw[bq hda];exact hd',hn,hr.mono R' st2⟩
 refine⟨_,ρ',S',_,(he'.later R' st2).set re i,R2,wh,⟨fun env2 S2 σ2 H2 ρ2 h st3 R3 e3=>?_,?_,fun _ _ _ _ _ _ _ _ z=>aI z⟩⟩
 ·exact qq.nx _ _ _ _ _ h ((st.trans st2).trans st3) R3 (e3.del i)
 ·exact qq.rt.later (st.trans st2)
end
end L2
end
section
namespace L2
open PySem PySem.Spec PyProof.Rows PySem.W
open PL (U SO bR Xn KU KX b7)
structure JS (t:uW) (T:Tab) (Γ:b7) (k n:Nat):Prop where
 fs:∀ {I X st x E},fE t T Γ k I X->Tk X E->cS T n I st=some x->PS X st (fun D σ H=>tS (X.cc t) Γ x E D σ H)
 JT:∀ {I X st x E},fE t T Γ k I X->Tk X E->HE T n I st=some x->rN X st (fun D σ H=>F9 (X.cc t) Γ x E D σ H)
section
variable {t:uW} {T:Tab} {Γ:b7} {k n:Nat} {I:Inf} {X:Cx} {E:St->XK}
theorem fE.hand(G:fE t T Γ k I X)(a:Addr):fE t T Γ k { I with calm:=false } (X.hand a):=
 ⟨⟨G.g.tab,G.g.HF,G.g.kind,G.g.names,G.g.slots,G.g.nd,fun h=>by simp at h,G.g.units⟩,⟨G.fr.CP,G.fr.U2⟩,G.st,G.xi,G.up⟩
theorem NA(IH:JS t T Γ k n)(G:fE t T Γ k I X)(K:Tk X E):∀ {st:List Stmt} {x:PL.du},HE T (n + 1) I st=some x->rN X st (fun D σ H=>F9 (X.cc t) Γ x E D σ H)
 | [],x,h=>by
  rw[K0,Jh] at h;injection h with h;subst h
  refine(Ib (X:=X)).imp ?_;rintro D σ H ⟨env,ρ,S,DU,he,R,w,q⟩;exact q.nx _ _ _ _ _ w .refl R he
 | s::ss,x,h=>by
  rw[K0,Jh] at h;simp only[aH,ao] at h;obtain⟨y,h1,ys,h2,h3⟩:=h;injection h3 with h3;subst h3
  refine(yK (X:=X) (IH.fs G K h1) (IH.JT G K h2)).imp ?_;rintro D σ H ⟨env,ρ,S,DU,he,R,w,q⟩;refine⟨env,ρ,S,_,he,R,w,⟨fun env' S' σ' H' ρ' h st R' e=>?_,q.rt,q.ex⟩⟩;exact⟨env',ρ',S',DU,e,R',h,q.later st⟩
theorem QE(IH:JS t T Γ k n)(G:fE t T Γ k I X)(K:Tk X E){st:Stmt}{x:PL.Sm}(h:cS T (n + 1) I st=some x):PS X st (fun D σ H=>tS (X.cc t) Γ x E D σ H):=by
 have A:=xT (t:=t) (T:=T) (Γ:=Γ) (k:=k) n;rw[UP] at h;cases st with(delta UN at h;dsimp only at h)
 | Assign ts e pos=>
  split at h
  ·rename_i tg
   cases tg with
   | Name x' px=>
    dsimp only at h;split at h
    ·rename_i i hi
     split at h
     ·rename_i hl
      obtain⟨y,h1,h2⟩:=af.mp h;subst h2;by_cases nc:xO e=true
      ·exact Nu G K hi hl (fun env=>zm nc) (A.fe G.g h1)
      ·change cE T n I _=_ at h1
       cases n with
       | zero=>rw[Qd] at h1;exact nn h1
       | succ n=>
        have A':=xT (t:=t) (T:=T) (Γ:=Γ) (k:=k) n;cases e with
        | ListComp elt gs sc cpos=>
         obtain⟨tg,iter,ifs,xs,it,c,ee,ci,rfl,ht,hc,g1,g2,g3,g4,g5⟩:=tK h1;subst g5;have hi':=zr A' G.g ht g1;cases sw:(X.env.blockKind == .function && X.env.kindOf x' == some .local && px.line == cpos.line && !(sc.names.any fun(n,k)=>n == x' && (k == .local || k == .cell))) with
         | true=>
          have hsw:iy (.ListComp elt [⟨tg,iter,ifs,0⟩] sc cpos) (some (.Name x' px)) pos.line X.env=pure true:=by
           show(pure _:Sem Bool)=pure true
           exact congrArg pure sw
          have hkl:I.names.lookup x'=some .local:=by
           simp only[ag] at sw;have:=sw.1.1.2;unfold Env.kindOf at this;rw[G.g.names] at this;simpa using this
          refine A5 G K hc.2 ht hc.1 g4 hi'.1 hi'.2 (fun X' G' ec hx=>B7 A' G' ec hx g2) (fun X' G' ec=>?_) hi hkl hsw;have:=A'.fe G' g3;rw[ec] at this;exact this
         | false=>
          have hsw:iy (.ListComp elt [⟨tg,iter,ifs,0⟩] sc cpos) (some (.Name x' px)) pos.line X.env=pure false:=by
           show(pure _:Sem Bool)=pure false
           exact congrArg pure sw
          refine(EF (X:=X) (i:=i) G.g.nd (by rw[G.g.slots];exact dH hi) (qL hl G.g.names) (Ec K (A.fe G.g h1)) hsw (.inl (G.st x'))).imp ?_;intro D σ H z;exact A3 z
        | SetComp=>rw[Jg] at h1;unfold OI at h1;exact nn h1
        | DictComp=>rw[Jg] at h1;unfold OI at h1;exact nn h1
        | _=>exact absurd rfl nc
     ·exact nn h
    ·exact nn h
   | Attribute o f px=>
    simp only[aH,ao] at h;obtain⟨q,h1,a,h2,b,h3,h4⟩:=h;injection h4 with h4;subst h4
    obtain⟨hm,rfl⟩:=gT h1;exact JN G K hm (A.fe G.g h2) (A.fe G.g h3)
   | _=>exact nn h
  ·exact nn h
 | AugAssign tg op e pos=>
  cases tg with
  | Name x' px=>
   dsimp only at h;split at h
   ·rename_i i hi
    split at h
    ·rename_i hl
     simp only[aH,ao] at h;obtain⟨p,h1,y,h2,h3⟩:=h;injection h3 with h3;subst h3
     exact Nx G K hi hl h1 (A.fe G.g h2)
    ·exact nn h
   ·exact nn h
  | Attribute o f px=>
   simp only[aH,ao] at h;obtain⟨q,h1,p,h2,a,h3,b,h4,h5⟩:=h;injection h5 with h5;subst h5
   obtain⟨hm,rfl⟩:=gT h1;exact JO G K hm h2 (A.fe G.g h3) (A.fe G.g h4)
  | Subscript o i px=>
   dsimp only at h;split at h
   ·rename_i hn
    simp only[aH,ao] at h;obtain⟨p,h1,a,h2,b,h3,c,h4,h5⟩:=h;injection h5 with h5;subst h5
    exact JP G K hn h1 (A.fe G.g h2) (A.fe G.g h3) (A.fe G.g h4)
   ·exact nn h
  | _=>exact nn h
 | Expr e pos=>
  split at h
  ·rename_i hc
   obtain⟨y,h1,h2⟩:=af.mp h;subst h2;exact QC G K hc (A.fe G.g h1)
  ·exact nn h
 | Return e pos=>
  cases e with
  | none=>exact nn h
  | some e=>
   obtain⟨y,h1,h2⟩:=af.mp h;subst h2;exact Nv G K (A.fe G.g h1)
 | If c a b pos=>
  simp only[aH,ao] at h;obtain⟨c,h1,a,h2,b,h3,h4⟩:=h;injection h4 with h4;subst h4
  exact Nw G K (A.ft G.g h1) (IH.JT G K h2) (IH.JT G K h3)
 | While c b el pos=>
  split at h
  ·rename_i he
   have he:el = []:=by simpa using he
   subst he;simp only[aH,ao] at h;obtain⟨c,h1,a,h2,h3⟩:=h;injection h3 with h3;subst h3
   exact Ny K (A.ft G.g h1) (IH.JT G K h2)
  ·exact nn h
 | For tg it b el pos=>
  split at h
  ·exact nn h
  ·rename_i hc
   simp only[fZ,Eu,ag] at hc;have he:el = []:=by simpa using hc.2
   subst he;split at h
   ·rename_i xs ht
    rcases AQ ht with⟨x,p,rfl,rfl⟩ | ⟨x,y,p,p',kd,q,rfl,rfl⟩
    ·dsimp only at h
     split at h
     ·rename_i i hi
      split at h
      ·rename_i hl
       simp only[aH,ao] at h;obtain⟨it,h1,a,h2,h3⟩:=h;injection h3 with h3;subst h3
       exact JQ G K hc.1 hi hl (B6 h1) (Ge K (A.fi G.g h1)) (IH.JT G K h2)
      ·exact nn h
     ·exact nn h
    ·dsimp only at h
     split at h
     ·rename_i i hi
      split at h
      ·rename_i j hj
       split at h
       ·rename_i hl
        rw[ag] at hl;simp only[aH,ao] at h;obtain⟨it,h1,a,h2,h3⟩:=h;injection h3 with h3;subst h3
        exact JR G K hc.1 hi hl.1 hj hl.2 (K3 h1) (Ge K (A.fn G.g h1)) (IH.JT G K h2)
       ·exact nn h
      ·exact nn h
     ·exact nn h
   ·exact nn h
 | Raise ex ca pos=>
  cases ca with
  | some cz=>
   injection h with h;subst h
   rintro pZ s σ H D J ⟨env,ρ,S,DU,he,R,w,q⟩;exact aI w
  | none=>
   cases ex with
   | none=>exact nn h
   | some cc=>
    cases cc with
    | Call f args kws cp=>
     cases f with
     | Name xx p1=>
      dsimp only at h;split at h
      ·rename_i hc
       simp only[ag] at hc;obtain⟨⟨⟨⟨hk,hg⟩,hd⟩,hcm⟩,hne⟩:=hc;have hk:kws = []:=by simpa using hk
       subst hk;simp only[aH,ao] at h;obtain⟨q,h1,as,h2,h3⟩:=h;split at h3
       ·exact nn h3
       ·rename_i hfl
        injection h3 with h3;subst h3
        obtain⟨hm,rfl⟩:=gT h1;cases args with
        | nil=>simp at hne
        | cons a as'=>
         have st:=kY h2;rw[bD,ag] at st;exact Gf G K hcm hg hm (gG hd) st.1 st.2 (fun z=>by rw[z] at hfl;simp at hfl) (A.ON G.g h2)
      ·exact nn h
     | _=>exact nn h
    | _=>exact nn h
 | Try b hs el fi pos=>
  split at h
  ·rename_i hd
   obtain⟨ty,ny,bd,hp⟩:=hd;cases ty with
   | none=>exact nn h
   | some cc=>
    cases cc with
    | Name x p=>
     cases ny with
     | none=>exact nn h
     | some y=>
      cases bd with
      | nil=>exact nn h
      | cons h0 hh0=>
       dsimp only at h;split at h
       ·rename_i hc
        simp only[ag] at hc;obtain⟨⟨⟨⟨⟨he,hf⟩,hg⟩,hd⟩,hcm⟩,hk⟩:=hc;have he:el = []:=by simpa using he
        have hf:fi = []:=by simpa using hf
        subst he;subst hf;split at h
        ·rename_i i hi
         simp only[aH,ao] at h;obtain⟨q,h1,b,h2,hh,h3,h4⟩:=h;injection h4 with h4;subst h4
         obtain⟨hm,rfl⟩:=gT h1;exact Nz G hg hm (gG hd) hi (by simpa using hk) (fun pZ E'=>IH.JT G.al (Qx G.fr) h2) (fun a=>IH.JT (G.hand a) (Qy rfl) h3)
        ·exact nn h
       ·exact nn h
    | _=>exact nn h
  ·exact nn h
 | _=>exact nn h
theorem Dw:JS t T Γ k 0:=by
 constructor
 ·intro I X st x E _ _ h;rw[UO] at h;exact nn h
 ·intro I X st x E _ _ h;rw[Qi] at h;exact nn h
theorem zt:∀n,JS t T Γ k n
 | 0=>Dw
 | n + 1=>
  have IH:=zt n
  ⟨fun G K h=>QE IH G K h,fun G K h=>NA IH G K h⟩
end
end L2
end
section
namespace L2
open PySem PySem.Spec PyProof.Rows PySem.W
open PL (U SO bR Xn KU KX b7)
structure Base (c:Ctx) (T:Tab) (kx:Nat):Prop where
 tab:zk c T
 xi:∀x∈T.uT,PL.cL x≠[]->oI c kx x
 up:∀x C bm y D,c.exc x=some C->c.exc y=some D->nq c.K C bm->(PL.lR x).contains y=true->(aO C::bm).contains (.ref D)=true
theorem oI.mono(h:oI c j x)(l:j<=k):oI c k x:=by
 obtain⟨C,f,fd,ps,h1,h2,h3,h4,F,B,hp⟩:=h.ex;exact⟨C,f,fd,ps,h1,h2,h3,h4,F.mono l,B,hp⟩
theorem K5{c:Ctx}{T:Tab}{Γ:b7}{k kx n m:Nat}{x qual:Str}{st:Stmt}{f:Addr}{fd:dQ}{N ps:List Str}{sp:PL.Spec}{b:PL.du}(F:Aw c.K x qual st f fd)(S:fO N ps (a9 st))
  (B:Base c T kx) (hkx:kx<=k) (G:fR c T Γ k) (hc:HE T n ⟨(a9 st).names,N,true⟩ (dN st)=some b) (hk:PL.Keeps Γ b m sp) (hm:N.length=ps.length + m) (hl:∀us S Q E,sp us S Q E->us.length=ps.length):
  iz c.P c.w c.K c.mg c.base (oW c.P c.w) (k + 2) f fd ps (lift c sp):=by
 refine Aw.T4 (k:=k + 1) F S (fun vs H Q E h=>?_) (fun cdv A outer s H vs Q E hr h=>?_)
 ·obtain⟨us,ρ,S0,QU,EU,r,R,w,q,qx⟩:=h
  rw[<-r.len];exact hl _ _ _ _ w
 obtain⟨us,ρ,S0,QU,EU,r,R,w,q,qx⟩:=h
 let t:uW:=⟨c.cls,c.exc⟩
 let X:=yM (oW c.P c.w) c.P c.w c.K c.mg c.base N qual (a9 st) f cdv A outer s H E
 have G0:Good t T Γ k ⟨(a9 st).names,N,true⟩ X:=⟨B.tab,G,S.kind,rfl,rfl,S.nd,fun _=>⟨rfl,hr⟩,by have:=hr.un;show(A.deeper (oO qual (a9 st) s.heap.objs.size f cdv)).units + 200 < kh;omega⟩
 have GS:fE t T Γ k ⟨(a9 st).names,N,true⟩ X:=⟨G0,⟨rfl,rfl⟩,fun _=>rfl,fun x hx hf=>(B.xi x hx hf).mono hkx,B.up⟩
 have K:Tk X (fun _=>E):=⟨fun pZ σ s' e z=>by
  obtain⟨a,tb,cl,dx,H',rfl,I,x,fr,q⟩:=z;exact E7 pZ σ H' s' a tb cl dx I x fr q,PassesOwn.leaving⟩
 refine⟨_,(zt n).JT GS K hc,?_⟩;have hlen:us.length=ps.length:=hl _ _ _ _ w;have hvl:vs.length=us.length:=r.len.symm;refine⟨us.map some ++ cB m none,ρ,S0,⟨fun _ S1=>QU .bQ S1,QU,fun _=>EU⟩,⟨?_,fun i u e=>?_⟩,R,hk us S0 QU EU w,⟨fun env' S' σ' H' ρ' h st R' e=>q _ _ _ _ _ h st R' (eQ.mpr rfl),q,fun env' σ' x S' H' ρ' C d h st R' e z=>qx _ _ _ _ _ _ h st R' z⟩⟩
 ·unfold start
  simp
  omega
 ·unfold start
  by_cases z:i < us.length
  ·rw[ak (by simpa using z),aw] at e
   obtain⟨u',e1,e2⟩:=af.mp e;injection e2 with e2;subst e2
   obtain⟨v,e3,r3⟩:=r.get e1;exact⟨v,by rw[ak (by rw[ar,hvl];exact z),aw,e3];rfl,r3⟩
  ·rw[av (by simpa using HN z),mG] at e
   split at e
   ·cases e
   ·cases e
section
variable {P:bx} {w:bU} {K:Frag} {mg:Str->Option Value} {base:Heap} {qual:Str} {st:Stmt} {f C:Addr} {fd:dQ} {s a1 a2 f1 f2:Str} {p1 p2 p3 p4 p5 p6 p7 p8:Pos}
theorem Gg (F:Aw K "__init__" qual st f fd) (S:fO [s,a1] [s,a1] (a9 st)) (hb:dN st = [.Assign [.Attribute (.Name s p1) f1 p2] (.Name a1 p3) p4]) (xg:XGet K C) (n1:fm K C f1)
  (v0:HA (a9 st) s) (v1:HA (a9 st) a1) (d0:(s == ("__debug__":Str))=false) (d1:(a1 == ("__debug__":Str))=false) (e0:(s == ("__classdict__":Str))=false) (e1:(a1 == ("__classdict__":Str))=false):
  iz P w K mg base (oW P w) 1 f fd [s,a1] (xU C [f1]):=by
 refine Aw.T4 (k:=0) F S (fun vs H Q E h=>?_) (fun cdv A outer sh H vs Q E hr h=>?_)
 ·obtain⟨a,ys,rfl,hl,_⟩:=h
  simp at hl ⊢;exact hl
 obtain⟨a,ys,rfl,hl,ha,q⟩:=h;obtain⟨y1,rfl⟩:∃y1,ys = [y1]:=iR.mp (by simpa using hl);rw[hb]
 refine⟨_,BC (xp (oS (i:=0) rfl v0 d0 e0) (oS (i:=1) rfl v1 d1 e1) rfl),?_⟩;refine⟨y1,rfl,.ref a,rfl,a,C,rfl,xg,n1,.inl ⟨ha,fun d hd nd=>?_⟩⟩;exact q d hd nd
theorem QF (F:Aw K "__init__" qual st f fd) (S:fO [s,a1,a2] [s,a1,a2] (a9 st)) (hb:dN st = [.Assign [.Attribute (.Name s p1) f1 p2] (.Name a1 p3) p4,.Assign [.Attribute (.Name s p5) f2 p6] (.Name a2 p7) p8]) (xg:XGet K C) (n1:fm K C f1) (n2:fm K C f2) (ne:f1≠f2)
  (v0:HA (a9 st) s) (v1:HA (a9 st) a1) (v2:HA (a9 st) a2) (d0:(s == ("__debug__":Str))=false) (d1:(a1 == ("__debug__":Str))=false) (d2:(a2 == ("__debug__":Str))=false) (e0:(s == ("__classdict__":Str))=false) (e1:(a1 == ("__classdict__":Str))=false) (e2:(a2 == ("__classdict__":Str))=false):
  iz P w K mg base (oW P w) 1 f fd [s,a1,a2] (xU C [f1,f2]):=by
 refine Aw.T4 (k:=0) F S (fun vs H Q E h=>?_) (fun cdv A outer sh H vs Q E hr h=>?_)
 ·obtain⟨a,ys,rfl,hl,_⟩:=h
  simp at hl ⊢;exact hl
 obtain⟨a,ys,rfl,hl,ha,q⟩:=h;obtain⟨y1,y2,rfl⟩:∃y1 y2,ys = [y1,y2]:=PQ hl;rw[hb]
 refine⟨_,yK (xp (oS (i:=0) rfl v0 d0 e0) (oS (i:=1) rfl v1 d1 e1) rfl) (BC (xp (oS (i:=0) rfl v0 d0 e0) (oS (i:=2) rfl v2 d2 e2) rfl)),?_⟩;refine⟨y1,rfl,.ref a,rfl,a,C,rfl,xg,n1,.inl ⟨ha,fun d hd nd=>?_⟩⟩;refine⟨y2,rfl,.ref a,rfl,a,C,rfl,xg,n2,.inr ⟨d,[(f1,y1)],bE,by rw[bq nd];exact bE,by show 1 < 1000;decide,?_⟩⟩;have e:=q d hd nd;have hh:upd (upd (upd H d (.xf d [(f1,y1)])) a (.xo a C (some d))) d (.xf d (f9 f2 y2 [(f1,y1)]))=upd (upd H d (.xf d ([f1,f2].zip [y1,y2]))) a (.xo a C (some d)):=by
  have ep:f9 f2 y2 [(f1,y1)] = [f1,f2].zip [y1,y2]:=by
   unfold f9 f9;rw[if_neg ne];rfl
  rw[ep]
  funext b
  by_cases z:b=d
  ·subst z;rw[bE,bq nd,bE]
  ·rw[bq z]
   by_cases z2:b=a
   ·subst z2;rw[bE,bE]
   ·rw[bq z2,bq z2,bq z,bq z]
 show Q .bQ _
 rw[hh]
 exact e
end
def A6:PL.Spec:=fun us _ Q _=>∃ns:List Int,us = [.pG ns]/\ns.length<=63/\∀S',Q (.bl true) S'
def xV(K:Frag):Sp:=fun vs H Q _=>∃(a:Addr) (ns:List Int),vs = [.ref a]/\ns.length<=63/\vK K H a (ns.map .int)/\∀H',Q (.bl true) H'
theorem JU(F:iz c.P c.w c.K c.mg c.base (oW c.P c.w) k f fd ps (lift c A6)):iz c.P c.w c.K c.mg c.base (oW c.P c.w) k f fd ps (xV c.K):=by
 refine F.imp fun vs H Q E h=>?_
 obtain⟨a,ns,rfl,hl,hf,q⟩:=h;refine⟨[.pG ns],[],[],fun u _=>u = .bl true,fun _ _=>False,aV.cons (pO.mpr ⟨a,rfl,hf⟩) aV.nil,⟨rfl,List.nodup_nil,fun n a o h=>by simp at h⟩,⟨ns,rfl,hl,fun _=>rfl⟩,fun u S' v H' ρ' e _ _ r=>?_,fun _ _ _ _ _ _ z=>aI z⟩;subst e;rw[dz.mp r]
 exact q H'
theorem Gh{K:Frag}{H:Hp}{a:Addr}{xs:List V}(o:ID H)(h:gV K H a xs):vK K H a xs:=by
 rcases h with(h | ⟨ob,h⟩) | h
 ·rcases o a with z | ⟨ob,ys,z⟩
  ·rw[h] at z;cases z
  ·rw[h] at z;cases z
 ·exact .inl ⟨ob,h⟩
 ·exact .inr h
theorem NB(h:oW P w [] H s (fun _ _ _=>False) e s'):False:=by
 obtain⟨a,T,c,dx,H',_,_,_,_,_,_,_,_,z⟩:=h;exact z
end L2
end
section
namespace PL
theorem SN:fA "text" [("text",a),("at",b),("depth",c)] = some a:=rfl
theorem Wi:fA "at" [("text",a),("at",b),("depth",c)] = some b:=rfl
theorem QG:fA "depth" [("text",a),("at",b),("depth",c)] = some c:=rfl
end PL
open PL
def wN0:="V8 V9 W8 Wa Sz Uz UA w_var w_lit VT VU w_not w_and w_or VV VW Ur w_mk Us VX VY w_fld W4 W5 VZ V0 Ut V1 V2 Uu W6 W7 V3 V4 Uv V5 Uw Ux V6 My Mz MA Uc MB Ud Ue Su Ug WJ Vv Vw Vx Vy Vz WN WQ WR WU I9 Ja MG MH MI Uh Jb Ui MJ WV P2 WW WX WY WZ W0 W2 Vt Vu P5 BX VA VB xw VD VE VF VG VH VI VJ VL Sv Uj Sw VM VN BP yV vH qz vB Uo Sy P7 P8 P9 Xj W3 Xk bind_f Up WK WL WM true_and aW vG aF bf Fi IT Sn So List.getElem?_cons_zero List.getElem?_cons_succ List.map_cons List.map_nil List.replicate_zero List.replicate_succ List.cons_append List.nil_append List.append_nil List.set_cons_zero List.set_cons_succ lS Option.join_some"
local macro_rules | `(tactic| walk_at "pl") => do let a:=((wN0++" VP Uq VQ VR VS fP VC SN Wi QG").splitOn " ").toArray.map fun s=>Lean.mkIdent s.toName;`(tactic| simp only [$[$a:ident],*])
namespace PL
noncomputable def lz(x rest:List Nat)(d:Nat):SO:=.ins "Reader" [("text",.str x),("at",.int (x.length - rest.length:Nat)),("depth",.int d)]
def ke(r:Nat)(o:SO)(S S':bR):Prop:=S.length<=S'.length/\S'[r]? = some o/\∀n,n < S.length->n≠r->S'[n]? = S[n]?
def Old(r:Nat)(S S':bR):Prop:=S.length<=S'.length/\∀n,n < S.length->n≠r->S'[n]? = S[n]?
def Ext(S S':bR):Prop:=S.length<=S'.length/\∀n,n < S.length->S'[n]? = S[n]?
noncomputable def cu(l rest:List Nat):Bool:=match rest with | []=>false | c::_=>l.contains c
def A7:Spec:=fun us S Q _=>∃r x rest d l,us = [.loc r,.str l]/\S[r]? = some (lz x rest d)/\rest <:+ x/\x.length<=1000/\Q (.bl (cu l rest)) S
section
variable {x rest:List Nat}
theorem Gi(h:rest <:+ x)(k:Nat):x[x.length - rest.length + k]? = rest[k]?:=by
 obtain⟨p,rfl⟩:=h;rw[aC,Nat.add_sub_cancel,av (by omega)]
 congr 1
 omega
theorem K6(h:rest <:+ x):((x.length - rest.length:Nat):Int) < x.length↔rest≠[]:=by
 obtain⟨p,rfl⟩:=h;cases rest with
 | nil=>simp
 | cons c r=>simp;omega
end
section
variable {S:bR} {r:Nat} {x rest:List Nat} {d:Nat} {q:U->Prop}
theorem xW(h:S[r]? = some (lz x rest d)):kC (.loc r) "text" S q=q (.str x):=by rw[fP,h];rfl
theorem vT(h:S[r]? = some (lz x rest d)):kC (.loc r) "at" S q=q (.int (x.length - rest.length:Nat)):=by rw[fP,h];rfl
theorem Gj(h:S[r]? = some (lz x rest d)):kC (.loc r) "depth" S q=q (.int d):=by rw[fP,h];rfl
theorem bS{Q:String->List (String × U)->Prop}(h:S[r]? = some (lz x rest d)):mP S[r]? Q=Q "Reader" [("text",.str x),("at",.int (x.length - rest.length:Nat)),("depth",.int d)]:=by rw[h];rfl
end
theorem JV(Γ:b7):Keeps Γ i0 0 A7:=by
 rintro us S Q E ⟨r,x,rest,d,l,rfl,hS,hx,hl,q⟩;unfold i0;walk_at "pl";simp only[<-fP,xW hS,vT hS];walk_at "pl";refine⟨by omega,?_⟩;rw[gZ]
 have h0:=Gi hx 0;rw[Nat.add_zero] at h0;rw[h0]
 simp only[decide_eq_true_eq,K6 hx];cases rest with
 | nil=>simpa[cu] using q
 | cons c t=>simp[cu] at q ⊢;exact⟨by omega,q⟩
abbrev PR(α:Type):=Except (List Nat) (α × List Nat)
noncomputable def dB(l rest:List Nat):PR Nat:=match rest with | []=>.error [] | c::r=>if l.contains c then .ok (c,r) else .error (c::r)
noncomputable def mapR{α β:Type}(f:α->β):PR α->PR β | .ok (a,r)=>.ok (f a,r) | .error r=>.error r
noncomputable def bindR{α β:Type}(p:PR α)(f:α->List Nat->PR β):PR β:=match p with | .ok (a,r)=>f a r | .error r=>.error r
noncomputable def mR(c:Nat):U:=.str [c]
def dC(r:Nat)(x:List Nat)(d:Nat)(S:bR)(Q:KU)(E:KX):PR U->Prop
 | .ok (u,r')=>∀S',ke r (lz x r' d) S S'->Q u S'
 | .error r'=>∀S',Old r S S'->E ⟨"BadRule",[.int 0,.int (x.length - r'.length:Nat)]⟩ S'
def yz(args:List U)(p:List Nat->PR U)(d:Nat):Spec:=fun us S Q E=>∃r x rest,us = .loc r::args/\S[r]? = some (lz x rest d)/\rest <:+ x/\x.length<=1000/\dC r x d S Q E (p rest)
def Gk:Spec:=fun us S Q E=>∃l d,yz [.str l] (fun rest=>mapR mR (dB l rest)) d us S Q E
section
variable {S S1 S2:bR} {r:Nat} {o o':SO}
theorem cj{α:Type}{l:List α}{n:Nat}{a:α}(h:l[n]? = some a):n < l.length:=(ae.mp h).1
theorem ke.set(h:S[r]? = some o):ke r o' S (S.set r o'):=by
 refine⟨by simp,by simp[iS,cj h],fun n hn ne=>?_⟩;rw[au (dJ ne)]
theorem ke.refl(h:S[r]? = some o):ke r o S S:=⟨ax _,h,fun _ _ _=>rfl⟩
theorem Old.refl:Old r S S:=⟨ax _,fun _ _ _=>rfl⟩
theorem Old.trans(a:Old r S S1)(b:Old r S1 S2):Old r S S2:=⟨aR a.1 b.1,fun n h ne=>(b.2 n (aL h a.1) ne).trans (a.2 n h ne)⟩
theorem ke.old(a:ke r o S S1):Old r S S1:=⟨a.1,a.2.2⟩
theorem ke.trans(a:ke r o S S1)(b:ke r o' S1 S2):ke r o' S S2:=⟨aR a.1 b.1,b.2.1,(a.old.trans b.old).2⟩
theorem Ext.old(a:Ext S S1):Old r S S1:=⟨a.1,fun n h _=>a.2 n h⟩
theorem Ext.refl:Ext S S:=⟨ax _,fun _ _=>rfl⟩
theorem Ext.trans(a:Ext S S1)(b:Ext S1 S2):Ext S S2:=⟨aR a.1 b.1,fun n h=>(b.2 n (aL h a.1)).trans (a.2 n h)⟩
theorem Ext.get(a:Ext S S1)(h:S[r]? = some o):S1[r]? = some o:=(a.2 r (cj h)).trans h
theorem Ext.chg(a:Ext S S1)(h:S[r]? = some o):ke r o S S1:=⟨a.1,a.get h,fun n h _=>a.2 n h⟩
theorem Ext.app(l:List SO):Ext S (S ++ l):=⟨by simp,fun n h=>ak h⟩
theorem gs(h:S[r]? = some o):(S.set r o')[r]? = some o':=(ke.set h).2.1
end
theorem sub_len(h:(c::t) <:+ x):((x.length - (c::t).length:Nat):Int) + 1=(x.length - t.length:Nat):=by
 obtain⟨p,rfl⟩:=h;simp
 omega
theorem NC{x t:List Nat}{z v:U}{d:Nat}(h:z = .int (x.length - t.length:Nat)):SO.ins "Reader" (fL "at" z [("text",.str x),("at",v),("depth",.int d)])=lz x t d:=by subst h;rfl
theorem xX{x t:List Nat}{c:Nat}(h:(c::t) <:+ x):t <:+ x:=l7 (cV c t) h
theorem JW (Γ:b7) (h1:Γ "Reader.sees" = A7):Keeps Γ hJ 0 Gk:=by
 rintro us S Q E ⟨l,d,r,x,rest,rfl,hS,hx,hl,q⟩;unfold hJ;walk_at "pl";simp only[bS hS,h1];walk_at "pl";refine⟨rfl,r,x,rest,d,l,rfl,hS,hx,hl,?_⟩;walk_at "pl";simp only[bS hS];walk_at "pl";cases rest with
 | nil=>exact⟨rfl,q S .refl⟩
 | cons c t=>
  by_cases e:l.contains c=true
  ·simp only[dB,e,if_true,mapR,dC] at q
   simp only[cu,e];have p:=NC (v:=.int ((x.length - (c::t).length:Nat):Int)) (d:=d) (congrArg U.int (sub_len hx));have g:=gs (o':=lz x t d) hS;simp only[bJ,aq,if_false,My];simp only[bS hS,p];simp only[<-fP,xW g,vT g,MB,P5];refine⟨trivial,by simp,by omega,?_⟩;have e2:((x.length - t.length:Nat):Int) - 1=(x.length - (c::t).length:Nat):=by have:=sub_len hx;omega
   have h0:=Gi hx 0;rw[Nat.add_zero] at h0;rw[e2,gZ,h0]
   exact q _ (ke.set hS)
  ·simp only[dB,e,mapR,dC] at q
   simp only[cu,e];exact⟨rfl,q S .refl⟩
def Suf{α:Type}(rest:List Nat):PR α->Prop
 | .ok (_,r)=>r <:+ rest
 | .error r=>r <:+ rest
def lA{α:Type}(rest:List Nat):PR α->Prop
 | .ok (_,r)=>r <:+ rest/\r.length < rest.length
 | .error r=>r <:+ rest
theorem lA.ND{α:Type}{rest:List Nat}{p:PR α}(h:lA rest p):Suf rest p:=by
 cases p with
 | ok v=>exact h.1
 | error r=>exact h
theorem lA.bind{α β:Type}{rest:List Nat}{p:PR α}{f:α->List Nat->PR β}(h:lA rest p)(k:∀a r,p = .ok (a,r)->Suf r (f a r)):lA rest (bindR p f):=by
 cases p with
 | error r=>exact h
 | ok v=>
  obtain⟨a,r⟩:=v;have:=k a r rfl;unfold bindR;dsimp only;cases q:f a r with
  | error r'=>rw[q] at this;exact this.trans h.1
  | ok w=>
   obtain⟨b,r'⟩:=w;rw[q] at this;exact⟨this.trans h.1,Nat.lt_of_le_of_lt this.length_le h.2⟩
theorem Suf.bind{α β:Type}{rest:List Nat}{p:PR α}{f:α->List Nat->PR β}(h:Suf rest p)(k:∀a r,p = .ok (a,r)->Suf r (f a r)):Suf rest (bindR p f):=by
 cases p with
 | error r=>exact h
 | ok v=>
  obtain⟨a,r⟩:=v;have:=k a r rfl;unfold bindR;dsimp only;cases q:f a r with
  | error r'=>rw[q] at this;exact this.trans h
  | ok w=>
   obtain⟨b,r'⟩:=w;rw[q] at this;exact this.trans h
theorem gq(l rest:List Nat):lA rest (dB l rest):=by
 cases rest with
 | nil=>exact bC _
 | cons c t=>
  unfold dB;dsimp only;split
  ·exact⟨cV c t,by simp⟩
  ·exact bC _
theorem dC.bind{α:Type}{toU:α->U}{p:PR α}{f:α->List Nat->PR U}{r d:Nat}{x rest:List Nat}{S S1:bR}{Q Q1:KU}{E:KX}(h:dC r x d S Q E (bindR p f))(st:ke r (lz x rest d) S S1)
  (k:∀a r1 S2,p = .ok (a,r1)->ke r (lz x r1 d) S S2->dC r x d S Q E (f a r1)->Q1 (toU a) S2):dC r x d S1 Q1 E (mapR toU p):=by
 cases p with
 | error r'=>exact fun S' o=>h S' (st.old.trans o)
 | ok v=>
  obtain⟨a,r1⟩:=v;exact fun S' c=>k a r1 S' rfl (st.trans c) h
theorem JX{p:PR U}:mapR id p=p:=by
 cases p with
 | ok v=>rfl
 | error r=>rfl
theorem vU{α β:Type}{f:α->β}{p:PR α}:mapR f p=bindR p (fun a r=>.ok (f a,r)):=by
 cases p with
 | ok v=>rfl
 | error r=>rfl
theorem kZ(p:Nat->Bool)(hg:g S)(hc:∀n k,k (p n) S->c (.str [n]) S k)(he:∀n k,k (.str [n]) S->e (.str [n]) S k):
  ∀(l:List Nat) (acc:List U),acc.length + l.length < 1000000->Q (acc ++ (l.filter p).map mR) S->nB g c e Q (l.map fun n=>.str [n]) acc S
 | [],acc,hl,q=>⟨hg,by simpa using hl,by simpa using q⟩
 | n::l,acc,hl,q=>by
  simp only[aN] at hl;refine⟨hg,by omega,hc n _ ?_⟩;by_cases h:p n=true
  ·rw[if_pos h]
   refine he n _ (kZ p hg hc he l (acc ++ [.str [n]]) (by simp;omega) ?_);rw[Hw,if_pos h] at q;simpa[mR] using q
  ·rw[if_neg h]
   refine kZ p hg hc he l acc (by omega) ?_;rw[Hw,if_neg h] at q;exact q
theorem join_ones:∀l:List Nat,kJ [] (l.map fun n=>[n])=l
 | []=>rfl
 | [n]=>rfl
 | n::m::l=>by
  have:=join_ones (m::l);simp only[aE] at this ⊢;simp only[kJ,aZ];rw[this];rfl
noncomputable def dA(l:List Nat):List Nat:=SG.filter fun c=>!l.contains c
noncomputable def inOrder(l:List Nat):List Nat:=SG.filter fun c=>l.contains c
def spT(f:List Nat->List Nat):Spec:=fun us S Q _=>∃l,us = [.str l]/\∀S',Ext S S'->Q (.str (f l)) S'
theorem tW:∀l:List Nat,((l.map fun n=>[n]).map cU).sum=l.length
 | []=>rfl
 | n::l=>by rw[aE,aE,yu,tW l];simp;omega
theorem B8(l:List Nat):l.map mR=(l.map fun n=>[n]).map U.str:=by
 rw[bI];rfl
theorem B9(p:Nat->Bool):(SG.filter p).length<=95:=aR (Ad _ _) (by decide)
theorem zu(Γ:b7):Keeps Γ mj 0 (spT inOrder):=by
 rintro us S Q E ⟨l,rfl,q⟩;unfold mj;walk_at "pl";refine kZ (fun c=>l.contains c) trivial (fun n k h=>by rw[I9];exact h) (fun n k h=>h) SG [] (by decide) ?_;simp only[fN];try walk_at "pl"
 refine⟨(inOrder l).map fun n=>[n],?_,?_,?_⟩
 ·rw[<-B8];simp[inOrder]
 ·have:=B9 fun c=>l.contains c
  rw[tW];simp[inOrder] at this ⊢;omega
 ·rw[join_ones];exact q _ (Ext.app _)
theorem tX(Γ:b7):Keeps Γ nY 0 (spT dA):=by
 rintro us S Q E ⟨l,rfl,q⟩;unfold nY;walk_at "pl";refine kZ (fun c=>!l.contains c) trivial (fun n k h=>by rw[Ja];exact h) (fun n k h=>h) SG [] (by decide) ?_;simp only[fN];try walk_at "pl"
 refine⟨(dA l).map fun n=>[n],?_,?_,?_⟩
 ·rw[<-B8];simp[dA]
 ·have:=B9 fun c=>!l.contains c
  rw[tW];simp[dA] at this ⊢;omega
 ·rw[join_ones];exact q _ (Ext.app _)
def Ca:Spec:=fun us S Q _=>∃a b,us = [.str [a],.str [b]]/\a∈SG/\b∈SG/\Q (.bl (decide (SG.idxOf a < SG.idxOf b))) S
theorem zw(Γ:b7):Keeps Γ mm 0 Ca:=by
 rintro us S Q E ⟨a,b,rfl,ha,hb,q⟩;unfold mm;walk_at "pl";refine⟨a,rfl,ha,b,rfl,hb,?_⟩;simpa using q
noncomputable def jW(a b:Nat):List Nat:=(SG.drop (SG.idxOf a)).take (SG.idxOf b + 1 - SG.idxOf a)
def vV:Spec:=fun us S Q _=>∃a b,us = [.str [a],.str [b]]/\a∈SG/\b∈SG/\Q (.str (jW a b)) S
theorem A8(h:a∈SG):SG.idxOf a < 95:=by
 have:=List.idxOf_lt_length_iff.mpr h;simpa using this
theorem A9(Γ:b7):Keeps Γ nZ 0 vV:=by
 rintro us S Q E ⟨a,b,rfl,ha,hb,q⟩;unfold nZ;walk_at "pl";refine⟨a,rfl,ha,?_⟩;refine⟨b,rfl,hb,?_⟩;try walk_at "pl"
 have h1:=A8 ha;have h2:=A8 hb;refine⟨⟨fun i e=>?_,fun i e=>?_⟩,by decide,?_⟩
 ·injection e with e;omega
 ·injection e with e;omega
 ·have e:nA SG (some (SG.idxOf a:Int)) (some ((SG.idxOf b:Int) + 1))=jW a b:=by
   unfold nA jW;have l:SG.length=95:=by decide
   simp only[dh,l];have e1:min (((SG.idxOf a:Nat):Int).toNat) 95=SG.idxOf a:=by omega
   have e2:min ((((SG.idxOf b:Nat):Int) + 1).toNat) 95=SG.idxOf b + 1:=by omega
   rw[e1,e2]
  show Q (.str (nA SG (some (SG.idxOf a:Int)) (some ((SG.idxOf b:Int) + 1)))) S
  rw[e];exact q
noncomputable abbrev BB:List Nat:=[46,124,40,41,91,93,42,43,63,92,45,94,110]
noncomputable abbrev MO:List Nat:=[46,124,40,41,91,93,42,43,63,92]
noncomputable abbrev MW:List Nat:=[93,45,92]
noncomputable def jB(m rest:List Nat):PR Nat:=
 match rest with
 | 92::r=>bindR (dB BB r) fun s r'=>.ok (if s=110 then 10 else s,r')
 | _=>dB (dA m) rest
theorem Gm(m r:List Nat):jB m (92::r)=bindR (dB BB r) fun s r'=>.ok (if s=110 then 10 else s,r'):=rfl
theorem zx{m rest:List Nat}(h:cu [92] rest=false):jB m rest=dB (dA m) rest:=by
 unfold jB;split
 ·simp[cu] at h
 ·rfl
theorem Gn{c:Nat}{rest:List Nat}(h:cu [c] rest=true):∃t,rest=c::t:=by
 cases rest with
 | nil=>simp[cu] at h
 | cons a t=>simp[cu] at h;subst h;exact⟨t,rfl⟩
theorem jP(m rest:List Nat):lA rest (jB m rest):=by
 unfold jB;split
 ·rename_i r
  have h:=(gq BB r).bind (f:=fun s r'=>(.ok (if s=110 then 10 else s,r'):PR Nat)) fun a r' _=>bC _
  cases q:bindR (dB BB r) fun s r'=>(.ok (if s=110 then 10 else s,r'):PR Nat) with
  | error r'=>rw[q] at h;exact h.trans (cV _ _)
  | ok v=>rw[q] at h;exact⟨h.1.trans (cV _ _),cP h.2⟩
 ·exact gq _ _
theorem Cb(h:dB l rest = .ok (c,r)):c∈l/\rest=c::r:=by
 cases rest with
 | nil=>simp[dB] at h
 | cons a t=>
  unfold dB at h;dsimp only at h;split at h
  ·rename_i z
   injection h with h;injection h with h1 h2;subst h1;subst h2
   exact⟨by simpa using z,rfl⟩
  ·cases h
theorem tY{m rest:List Nat}{c:Nat}{r:List Nat}(h:jB m rest = .ok (c,r)):c∈SG:=by
 unfold jB at h;split at h
 ·rename_i t
  cases q:dB BB t with
  | error r'=>rw[q] at h;cases h
  | ok v=>
   obtain⟨s,r'⟩:=v;rw[q] at h;simp only[bindR] at h;injection h with h;injection h with h1 h2
   have hs:=(Cb q).1;subst h1;split
   ·decide
   ·have:∀s∈BB,s∈SG:=by decide
    exact this s hs
 ·have:=(Cb h).1
  unfold dA at this;exact(d8.mp this).1
def Cc(d:Nat):Spec:=fun us S Q E=>∃m,yz [.str m] (fun rest=>mapR mR (jB m rest)) d us S Q E
structure GR (Γ:b7):Prop where
 sees:Γ "Reader.sees" = A7
 pass:Γ "Reader.passes" = Gk
 Ba:Γ "all_but" = spT dA
 NF:Γ "in_order" = spT inOrder
 ahead:Γ "is_ahead" = Ca
 Gq:Γ "stretch" = vV
theorem Gs(Γ:b7)(G:GR Γ)(d:Nat):Keeps Γ dO 1 (Cc d):=by
 rintro us S Q E ⟨m,r,x,rest,rfl,hS,hx,hl,q⟩;have q:dC r x d S Q E (mapR mR (jB m rest)):=q;unfold dO;walk_at "pl";simp only[bS hS,G.sees,G.pass];walk_at "pl";refine⟨rfl,r,x,rest,d,_,rfl,hS,hx,hl,?_⟩;walk_at "pl";by_cases e:cu [92] rest=true
 ·obtain⟨t,rfl⟩:=Gn e
  simp only[e,bJ,aq,if_false];simp only[bS hS];refine⟨⟨by first | trivial | rfl,rfl⟩,[92],d,r,x,_,rfl,hS,hx,hl,?_⟩;have ht:=xX hx;show dC r x d S _ E (mapR mR (.ok (92,t)));intro S1 c1;try walk_at "pl"
  simp only[bS c1.2.1];refine⟨⟨by first | trivial | rfl,rfl⟩,BB,d,r,x,t,rfl,c1.2.1,ht,hl,?_⟩;rw[Gm] at q;have q':dC r x d S Q E (bindR (dB BB t) fun s r'=>.ok (mR (if s=110 then 10 else s),r')):=by
   cases z:dB BB t with
   | error r'=>rw[z] at q;exact q
   | ok v=>rw[z] at q;exact q
  refine q'.bind c1 fun a r1 S2 e1 c2 q2=>?_
  unfold mR;try walk_at "pl"
  simp only[beq_iff_eq,dW,and_true];have:=q2 S2 c2;unfold mR at this;by_cases z:a=110
  ·subst z;simpa using this
  ·simp only[z,if_false] at this ⊢;exact this
 ·have e:cu [92] rest=false:=by simpa using e
  simp only[e,cq,if_true];simp only[bS hS,G.Ba,true_and];refine⟨rfl,m,rfl,fun S1 x1=>?_⟩;refine⟨dA m,d,r,x,rest,rfl,x1.get hS,hx,hl,?_⟩;show dC r x d S1 Q E (mapR mR (dB (dA m) rest));rw[zx e] at q;cases z:dB (dA m) rest with
  | error r'=>rw[z] at q;exact fun S' o=>q S' (x1.old.trans o)
  | ok v=>rw[z] at q;exact fun S' c=>q S' ((x1.chg hS).trans c)
end PL
local macro_rules | `(tactic| walk_at "qpf") => do let a:=((wN0++" Uy V7 Wb Wc Wd We fP VC SN Wi QG").splitOn " ").toArray.map fun s=>Lean.mkIdent s.toName;`(tactic| simp only [$[$a:ident],*])
local macro_rules | `(tactic| walk_at "pf") => `(tactic| ((try refine Rest.go ?_); walk_at "qpf"; repeat ((refine Rest.go ?_); walk_at "qpf")))
namespace PL
noncomputable def jX(first:Nat)(r:List Nat):PR (List Nat):=
 match r with
 | 45::r2=>bindR (jB MW r2) fun second r3=>if SG.idxOf second < SG.idxOf first then .error r2 else .ok (jW first second,r3)
 | _=>.ok ([first],r)
noncomputable def item(rest:List Nat):PR (List Nat):=bindR (jB MW rest) jX
theorem zy(f:Nat)(r:List Nat):jX f (45::r)=bindR (jB MW r) fun second r3=>if SG.idxOf second < SG.idxOf f then .error r else .ok (jW f second,r3):=rfl
theorem zz{f:Nat}{r:List Nat}(h:cu [45] r=false):jX f r = .ok ([f],r):=by
 unfold jX;split
 ·simp[cu] at h
 ·rfl
theorem xY(f:Nat)(r:List Nat):Suf r (jX f r):=by
 unfold jX;split
 ·rename_i r2
  have h:=(jP MW r2).bind (f:=fun second r3=>(if SG.idxOf second < SG.idxOf f then .error r2 else .ok (jW f second,r3):PR (List Nat)));cases q:jB MW r2 with
  | error r'=>have:=jP MW r2;rw[q] at this;exact this.trans (cV _ _)
  | ok v=>
   have:=jP MW r2;rw[q] at this;simp only[bindR];split
   ·exact cV _ _
   ·exact this.1.trans (cV _ _)
 ·exact bC _
theorem pU(rest:List Nat):lA rest (item rest):=(jP MW rest).bind fun a r _=>xY a r
theorem iV{α β γ:Type}{g:β->γ}{p:PR α}{f:α->List Nat->PR β}:mapR g (bindR p f)=bindR p fun a r=>mapR g (f a r):=by
 cases p with
 | ok v=>rfl
 | error r=>rfl
def Gu(d:Nat):Spec:=yz [] (fun rest=>mapR U.str (item rest)) d
structure GR2 (Γ:b7) (d:Nat):Prop extends GR Γ where
 ws:Γ "Reader.written_sign" = Cc d
theorem JY(Γ:b7)(d:Nat)(G:GR2 Γ d):Keeps Γ i4 3 (Gu d):=by
 rintro us S Q E ⟨r,x,rest,rfl,hS,hx,hl,q⟩;have q:dC r x d S Q E (mapR U.str (item rest)):=q;unfold item at q;rw[iV] at q;unfold i4;walk_at "pf";simp only[bS hS];refine⟨⟨by first | trivial | rfl,rfl⟩,ca G.ws ⟨MW,r,x,rest,rfl,hS,hx,hl,?_⟩⟩;refine q.bind (ke.refl hS) fun a r1 S1 e1 c1 q1=>?_
 have hs:=jP MW rest;rw[e1] at hs;have hx1:=hs.1.trans hx;have g1:=c1.2.1;unfold mR;try walk_at "pf"
 simp only[bS g1,true_and];refine⟨rfl,ca G.sees ⟨r,x,r1,d,_,rfl,g1,hx1,hl,?_⟩⟩;try walk_at "pf"
 by_cases e:cu [45] r1=true
 ·obtain⟨t,rfl⟩:=Gn e
  simp only[e,bJ,aq,if_false];walk_at "pf";simp only[bS g1,true_and];refine⟨rfl,ca G.pass ⟨[45],d,r,x,_,rfl,g1,hx1,hl,?_⟩⟩;have ht:=xX hx1;show dC r x d S1 _ E (mapR mR (.ok (45,t)));intro S2 c2;have g2:=c2.2.1;try walk_at "pf"
  simp only[<-fP,vT g2];walk_at "pf";simp only[bS g2,true_and];refine⟨rfl,ca G.ws ⟨MW,r,x,t,rfl,g2,ht,hl,?_⟩⟩;rw[zy,iV] at q1;refine q1.bind (c1.trans c2) fun b r3 S3 e3 c3 q3=>?_
  unfold mR;try walk_at "pf"
  have ha:=tY e1;have hb:=tY e3;refine ca G.ahead ⟨b,a,rfl,hb,ha,?_⟩;try walk_at "pf"
  by_cases z:SG.idxOf b < SG.idxOf a
  ·simp only[z,decide_true,if_true]
   simp only[z,if_true] at q3;walk_at "pf";exact⟨rfl,q3 S3 c3.old⟩
  ·simp only[z,decide_false,aq,if_false]
   simp only[z,if_false] at q3;walk_at "pf";exact ca G.Gq ⟨a,b,rfl,ha,hb,q3 S3 c3⟩
 ·have e:cu [45] r1=false:=by simpa using e
  simp only[e,cq,if_true];rw[zz e] at q1;walk_at "pf";exact q1 S1 c1
noncomputable def jY:Nat->List Nat->List Nat->PR (List Nat)
 | 0,_,rest=>.error rest
 | n + 1,taken,rest=>if cu [93] rest then .ok (taken,rest) else bindR (item rest) fun t r=>jY n (taken ++ t) r
noncomputable def mB(turned:Bool)(r1:List Nat):PR (List Nat):=
 bindR (item r1) fun t r2=>bindR (jY (r2.length + 1) t r2) fun taken r3=>bindR (dB [93] r3) fun _ r4=>.ok (if turned then dA taken else inOrder taken,r4)
noncomputable def clsIn(r0:List Nat):PR (List Nat):=
 match r0 with
 | 94::r=>mB true r
 | _=>mB false r0
noncomputable def cls(rest:List Nat):PR (List Nat):=bindR (dB [91] rest) fun _ r0=>clsIn r0
theorem Gv{r:List Nat}(h:cu [94] r=false):clsIn r=mB false r:=by
 unfold clsIn;split
 ·simp[cu] at h
 ·rfl
theorem tZ:∀(n:Nat) (taken rest:List Nat),Suf rest (jY n taken rest)
 | 0,_,rest=>bC _
 | n + 1,taken,rest=>by
  unfold jY;split
  ·exact bC _
  ·exact(pU rest).ND.bind fun a r _=>tZ n _ r
theorem rB(b:Bool)(r:List Nat):Suf r (mB b r):=
 (pU r).ND.bind fun a r2 _=>(tZ _ _ _).bind fun t r3 _=>(gq _ _).ND.bind fun _ r4 _=>bC _
theorem JZ(rest:List Nat):lA rest (cls rest):=by
 refine(gq _ _).bind fun a r _=>?_
 unfold clsIn;split
 ·rename_i r' hq
  have:=rB true r';cases q:mB true r' with
  | ok v=>rw[q] at this;exact l7 this (cV _ _)
  | error v=>rw[q] at this;exact l7 this (cV _ _)
 ·exact rB false r
def K7(d:Nat):Spec:=yz [] (fun rest=>mapR U.str (cls rest)) d
structure GR3 (Γ:b7) (d:Nat):Prop extends GR2 Γ d where
 it:Γ "Reader.item" = Gu d
theorem t4(h:item rest = .ok (t,r)):t.length<=95:=by
 unfold item at h;cases q:jB MW rest with
 | error r'=>rw[q] at h;cases h
 | ok v=>
  obtain⟨a,r1⟩:=v;rw[q] at h;simp only[bindR] at h;unfold jX at h;split at h
  ·rename_i r2
   cases q2:jB MW r2 with
   | error r'=>rw[q2] at h;cases h
   | ok v2=>
    rw[q2] at h;simp only[bindR] at h;split at h
    ·cases h
    ·injection h with h;injection h with h1 h2;subst h1
     unfold jW;refine aR (List.length_take_le _ _) ?_;have:=A8 (tY q2);omega
  ·injection h with h;injection h with h1 h2;subst h1;simp
theorem t6{Γ:b7}{d:Nat}(G:GR3 Γ d){r:Nat}{x:List Nat}{S:bR}{E:KX}{fin:Env->bR->Prop}{env:Env}(hl:x.length<=1000)(k1:env[0]? = some (some (.loc r)))
  (cW:Env->bR->(Bool->bR->Prop)->Prop) (bW:Env->bR->(Env->bR->Prop)->Prop)
  (hc:∀taken S1 rest k,S1[r]? = some (lz x rest d)->rest <:+ x->k (!cu [93] rest) S1->cW (env.set 2 (some (.str taken))) S1 k)
  (hb:∀taken S1 rest k,taken.length<=900000->S1[r]? = some (lz x rest d)->rest <:+ x->dC r x d S1 (fun u S2=>∃t,u = .str t/\t.length<=95/\k (env.set 2 (some (.str (taken ++ t)))) S2) E (mapR U.str (item rest))->bW (env.set 2 (some (.str taken))) S1 k):
  ∀(n:Nat) (taken rest:List Nat) (S1:bR) (R:List Nat->List Nat->PR U),rest.length < n->taken.length + 95 * rest.length<=900000->rest <:+ x->ke r (lz x rest d) S S1 ->
   (∀t2 r2 S2,ke r (lz x r2 d) S S2->r2 <:+ x->t2.length<=900000->jY n taken rest = .ok (t2,r2)->fin (env.set 2 (some (.str t2))) S2)->(∀r',jY n taken rest = .error r'->∀S',Old r S S'->E ⟨"BadRule",[.int 0,.int (x.length - r'.length:Nat)]⟩ S') ->
   xH cW bW fin n (env.set 2 (some (.str taken))) S1
 | 0,_,_,_,_,h,_,_,_,_,_=>by omega
 | n + 1,taken,rest,S1,R,h,ht,hx,c1,hf,he=>by
  refine hc taken S1 rest _ c1.2.1 hx ?_;by_cases e:cu [93] rest=true
  ·simp only[e,bJ,aq,if_false]
   exact hf taken rest S1 c1 hx (by omega) (by unfold jY;rw[if_pos e])
  ·have e':cu [93] rest=false:=by simpa using e
   simp only[e',cq,if_true];refine hb taken S1 rest _ (by omega) c1.2.1 hx ?_;have hs:=pU rest;cases q:item rest with
   | error r'=>
    intro S' o;exact he r' (by unfold jY;rw[if_neg e,q];rfl) S' (c1.old.trans o)
   | ok v=>
    obtain⟨t,r1⟩:=v;rw[q] at hs;intro S2 c2;refine⟨t,rfl,t4 q,?_⟩;have hlt:t.length<=95:=t4 q;have hE:jY (n + 1) taken rest=jY n (taken ++ t) r1:=by
     conv=>lhs;unfold jY
     rw[if_neg e,q];rfl
    refine t6 G hl k1 cW bW hc hb n (taken ++ t) r1 S2 R (by have:=hs.2;omega) (by simp;have:=hs.2;omega) (hs.1.trans hx) (c1.trans c2) (fun t2 r2 S3 c3 h3 h4 e3=>hf t2 r2 S3 c3 h3 h4 (by rw[hE];exact e3)) (fun r' e3=>he r' (by rw[hE];exact e3))
theorem NG(Γ:b7)(d:Nat)(G:GR3 Γ d):Keeps Γ eJ 2 (K7 d):=by
  rintro us S Q E ⟨r,x,rest,rfl,hS,hx,hl,q⟩;have q:dC r x d S Q E (mapR U.str (cls rest)):=q;unfold cls at q;rw[iV] at q;unfold eJ;walk_at "pf";simp only[bS hS];refine⟨⟨by first | trivial | rfl,rfl⟩,ca G.pass ⟨[91],d,r,x,rest,rfl,hS,hx,hl,?_⟩⟩;refine q.bind (ke.refl hS) fun a r0 S0 e0 c0 q0=>?_
  have hs0:=gq [91] rest;rw[e0] at hs0;have hx0:=hs0.1.trans hx;have g0:=c0.2.1;walk_at "pf";simp only[bS g0,true_and];refine⟨rfl,ca G.sees ⟨r,x,r0,d,_,rfl,g0,hx0,hl,?_⟩⟩;try walk_at "pf"
  have tail:∀(tb:Bool) (r1:List Nat) (S1:bR),ke r (lz x r1 d) S S1->r1 <:+ x->dC r x d S Q E (mapR U.str (mB tb r1)) ->
      qF Γ (.cons (.set 2 (.cA "Reader" "item" "Reader.item" (.var 0) .nil))
   (.cons (.yZ (.not (.cG (.cA "Reader" "sees" "Reader.sees" (.var 0) (.cons (.lit (.str [93])) .nil)))) (.cons (.aug 2 .add (.cA "Reader" "item" "Reader.item" (.var 0) .nil)) .nil))
   (.cons (.ex (.cA "Reader" "passes" "Reader.passes" (.var 0) (.cons (.lit (.str [93])) .nil)))
   (.cons (.ret (.zZ (.cG (.var 1)) (.call "all_but" (.cons (.var 2) .nil)) (.call "in_order" (.cons (.var 2) .nil)))) .nil)))) ⟨fun _ S1=>Q .bQ S1,Q,fun _=>E⟩ [some (.loc r),some (.bl tb),none] S1:=by
    intro tb r1 S1 c1 hx1 q1;unfold mB at q1;rw[iV] at q1;have g1:=c1.2.1;walk_at "pf";simp only[bS g1];refine⟨⟨by first | trivial | rfl,rfl⟩,ca G.it ⟨r,x,r1,rfl,g1,hx1,hl,?_⟩⟩;refine q1.bind c1 fun t r2 S2 e2 c2 q2=>?_
    have hs2:=pU r1;rw[e2] at hs2;have hx2:=hs2.1.trans hx1;have hlt:=t4 e2;have hr2:r2.length<=1000:=aR hx2.length_le hl;rw[iV] at q2;walk_at "pf";refine⟨r2.length + 1,t6 (S:=S) (E:=E) (env:=[some (.loc r),some (.bl tb),none]) G hl rfl _ _ ?_ ?_ (r2.length + 1) t r2 S2 (fun _ _=>.error []) (by omega) (by omega) hx2 c2 ?_ ?_⟩
    · intro taken S3 rest3 k g3 hx3 hk
      simp only[qh,qi];try walk_at "pf"
      simp only[bS g3,true_and];refine⟨rfl,ca G.sees ⟨r,x,rest3,d,_,rfl,g3,hx3,hl,?_⟩⟩;try walk_at "pf"
      exact hk
    · intro taken S3 rest3 k LX g3 hx3 hk
      simp only[qh,qi] at hk ⊢;try walk_at "pf"
      simp only[bS g3,true_and];refine⟨rfl,ca G.it ⟨r,x,rest3,rfl,g3,hx3,hl,?_⟩⟩;show dC r x d S3 _ E (mapR U.str (item rest3));cases z:item rest3 with
      | error r'=>rw[z] at hk;exact hk
      | ok v=>
        obtain⟨t3,r3⟩:=v;rw[z] at hk;intro S4 c4;obtain⟨t',e',hl',hk'⟩:=hk S4 c4;injection e' with e';subst e'
        rw[Mz]
        exact⟨by omega,Rest.go hk'⟩
    · intro t3 r3 S3 c3 hx3 hl3 e3
      rw[e3] at q2;simp only[bindR] at q2;have q2:dC r x d S Q E (mapR U.str (bindR (dB [93] r3) fun _ r4=>.ok (if tb then dA t3 else inOrder t3,r4))):=q2;rw[iV] at q2;have g3:=c3.2.1;simp only[qh,qi];try walk_at "pf"
      simp only[bS g3,true_and];refine⟨rfl,ca G.pass ⟨[93],d,r,x,r3,rfl,g3,hx3,hl,?_⟩⟩;refine q2.bind c3 fun b r4 S4 e4 c4 q4=>?_
      try walk_at "pf"
      cases tb with
      | true=>exact ca G.Ba ⟨t3,rfl,fun S5 x5=>q4 S5 (c4.trans (x5.chg c4.2.1))⟩
      | false=>exact ca G.NF ⟨t3,rfl,fun S5 x5=>q4 S5 (c4.trans (x5.chg c4.2.1))⟩
    · intro r' e3 S' o
      rw[e3] at q2;exact q2 S' o
  by_cases e:cu [94] r0=true
  · obtain⟨t,rfl⟩:=Gn e
    simp only[e,if_true];walk_at "pf";simp only[bS g0,true_and];refine⟨rfl,ca G.pass ⟨[94],d,r,x,_,rfl,g0,hx0,hl,?_⟩⟩;show dC r x d S0 _ E (mapR mR (.ok (94,t)));intro S1 c1;exact tail true t S1 (c0.trans c1) (xX hx0) q0
  · have e:cu [94] r0=false:=by simpa using e
    simp only[e,aq,if_false];rw[Gv e] at q0;exact tail false r0 S0 c0 hx0 q0
noncomputable def oj(k:List Nat)(ts:List U):U:=match ts with | [t]=>t | _=>.tup [.str k,.tup ts]
def jZ:Spec:=fun us S Q _=>∃k n ts,us = [.str k,.loc n]/\S[n]? = some (.lst ts)/\ts≠[]/\ts.length<=100000/\Q (oj k ts) S
theorem Dx(Γ:b7):Keeps Γ pJ 0 jZ:=by
 rintro us S Q E ⟨k,n,ts,rfl,hn,ne,hl,q⟩;unfold pJ;walk_at "pl";simp only[oG hn,hn];walk_at "pl";refine⟨by omega,?_⟩;cases ts with
 | nil=>exact absurd rfl ne
 | cons t ts=>
  cases ts with
  | nil=>
   simp only[fV];simp[lT,oj] at q ⊢;exact q
  | cons t2 ts=>
   have h1:((((t::t2::ts).length:Nat):Int)== 1)=false:=by
    simp only[aN,beq_eq_false_iff_ne];omega
   simp only[h1,aq,if_false];refine⟨by simp,?_⟩;exact q
noncomputable abbrev J0:List Nat:=[111,110,101]
noncomputable abbrev j0:List Nat:=[115,116,97,114]
noncomputable abbrev nG:List Nat:=[112,108,117,115]
noncomputable abbrev jv:List Nat:=[109,97,121,98,101]
noncomputable abbrev Bb:List Nat:=[114,111,119]
noncomputable abbrev OO:List Nat:=[111,114]
noncomputable def J1(l:List Nat):U:=.tup [.str J0,.str l]
noncomputable def Gx(c:Nat)(t:U):U:=.tup [.str (if c=42 then j0 else if c=43 then nG else jv),t]
noncomputable def k6:U->List Nat->U × List Nat
 | t,[]=>(t,[])
 | t,c::r=>if [42,43,63].contains c then k6 (Gx c t) r else(t,c::r)
noncomputable def OP(br:Option (List Nat->PR U))(rest:List Nat):PR U:=
 match br with
 | none=>.error rest
 | some p=>bindR (dB [40] rest) fun _ r=>bindR (p r) fun t r2=>bindR (dB [41] r2) fun _ r3=>.ok (t,r3)
noncomputable def pV(br:Option (List Nat->PR U))(rest:List Nat):PR U:=
 if cu [40] rest then OP br rest else if cu [91] rest then mapR J1 (cls rest) else if cu [46] rest then bindR (dB [46] rest) (fun _ r=>.ok (J1 (dA [10]),r)) else mapR (fun c=>J1 [c]) (jB MO rest)
noncomputable def iJ(br:Option (List Nat->PR U))(rest:List Nat):PR U:=bindR (pV br rest) fun t r=>.ok (k6 t r)
noncomputable def dg(stop:List Nat->Bool)(p:List Nat->PR U):Nat->List U->List Nat->PR (List U)
 | 0,_,rest=>.error rest
 | n + 1,acc,rest=>if stop rest then .ok (acc,rest) else bindR (p rest) fun t r=>dg stop p n (acc ++ [t]) r
noncomputable def iK(rest:List Nat):Bool:=rest.isEmpty || cu [124,41] rest
noncomputable def stopOr(rest:List Nat):Bool:=!cu [124] rest
noncomputable def uX(br:Option (List Nat->PR U))(rest:List Nat):PR U:=bindR (iJ br rest) fun t r=>bindR (dg iK (iJ br) (r.length + 1) [t] r) fun ts r2=>.ok (oj Bb ts,r2)
noncomputable def NH(br:Option (List Nat->PR U))(rest:List Nat):PR U:=bindR (dB [124] rest) fun _ r=>uX br r
noncomputable def gH(br:Option (List Nat->PR U))(rest:List Nat):PR U:=bindR (uX br rest) fun t r=>bindR (dg stopOr (NH br) (r.length + 1) [t] r) fun ts r2=>.ok (oj OO ts,r2)
noncomputable def rC:Nat->Option (List Nat->PR U)
 | 0=>none
 | k + 1=>some (gH (rC k))
noncomputable def rD(x:List Nat):PR U:=bindR (gH (rC 6) x) fun t r=>if r = [] then .ok (t,[]) else .error r
theorem zA:∀(t:U) (rest:List Nat),(k6 t rest).2 <:+ rest
 | t,[]=>bC _
 | t,c::r=>by
  unfold k6;split
  ·exact(zA _ r).trans (cV _ _)
  ·exact bC _
def mS(br:Option (List Nat->PR U)):Prop:=∀p,br=some p->∀rest,lA rest (p rest)
theorem NI{br:Option (List Nat->PR U)}(h:mS br)(rest:List Nat):lA rest (OP br rest):=by
 unfold OP;cases br with
 | none=>exact bC _
 | some p=>exact(gq _ _).bind fun a r _=>(h p rfl r).ND.bind fun t r2 _=>(gq _ _).ND.bind fun _ r3 _=>bC _
theorem lA.map{α β:Type}{rest:List Nat}{p:PR α}{f:α->β}(h:lA rest p):lA rest (mapR f p):=by
 cases p with
 | ok v=>exact h
 | error r=>exact h
theorem t8{br:Option (List Nat->PR U)}(h:mS br)(rest:List Nat):lA rest (pV br rest):=by
 unfold pV;split
 ·exact NI h rest
 ·split
  ·exact(JZ rest).map
  ·split
   ·exact(gq _ _).bind fun _ r _=>bC _
   ·exact(jP _ _).map
theorem mC(h:mS br)(rest:List Nat):lA rest (iJ br rest):=(t8 h rest).bind fun t r _=>zA t r
theorem mD(h:∀rest,lA rest (p rest)):∀(n:Nat) (acc:List U) (rest:List Nat),Suf rest (dg stop p n acc rest)
 | 0,_,rest=>bC _
 | n + 1,acc,rest=>by
  unfold dg;split
  ·exact bC _
  ·exact(h rest).ND.bind fun a r _=>mD h n _ r
theorem xZ(h:mS br)(rest:List Nat):lA rest (uX br rest):=(mC h rest).bind fun t r _=>(mD (mC h) _ _ _).bind fun ts r2 _=>bC _
theorem Gy(h:mS br)(rest:List Nat):lA rest (NH br rest):=(gq _ _).bind fun _ r _=>(xZ h r).ND
theorem t9(h:mS br)(rest:List Nat):lA rest (gH br rest):=(xZ h rest).bind fun t r _=>(mD (Gy h) _ _ _).bind fun ts r2 _=>bC _
theorem qM:∀k,mS (rC k)
 | 0=>fun p e=>nomatch e
 | k + 1=>fun p e rest=>by injection e with e;subst e;exact t9 (qM k) rest
theorem dC.K8{α:Type}{toU:α->U}{p:PR α}{f:α->List Nat->PR U}{r d d':Nat}{x rest:List Nat}{S S1:bR}{Q Q1:KU}{E:KX}(h:dC r x d S Q E (bindR p f))(st:ke r (lz x rest d') S S1)
  (k:∀a r1 S2,p = .ok (a,r1)->ke r (lz x r1 d') S S2->dC r x d S Q E (f a r1)->Q1 (toU a) S2):dC r x d' S1 Q1 E (mapR toU p):=by
 cases p with
 | error r'=>exact fun S' o=>h S' (st.old.trans o)
 | ok v=>
  obtain⟨a,r1⟩:=v;exact fun S' c=>k a r1 S' rfl (st.trans c) h
theorem dC.Cd{p:PR U}{f:U->List Nat->PR U}{r d d':Nat}{x rest:List Nat}{S S1:bR}{Q Q1:KU}{E:KX}(h:dC r x d S Q E (bindR p f))(st:ke r (lz x rest d') S S1)
  (k:∀a r1 S2,p = .ok (a,r1)->ke r (lz x r1 d') S S2->dC r x d S Q E (f a r1)->Q1 a S2):dC r x d' S1 Q1 E p:=by
 have:=dC.K8 (toU:=id) (Q1:=Q1) h st k;rw[JX] at this;exact this
theorem Ce{x t:List Nat}{z:U}{v:Nat}{d':Nat}(h:z = .int (d':Nat)):SO.ins "Reader" (fL "depth" z [("text",.str x),("at",.int (x.length - t.length:Nat)),("depth",.int v)])=lz x t d':=by subst h;rfl
def QH(br:Option (List Nat->PR U))(d:Nat):Spec:=fun us S Q E=>∃r x rest,us = [.loc r]/\S[r]? = some (lz x rest d)/\rest <:+ x/\x.length<=1000/\cu [40] rest=true/\dC r x d S Q E (OP br rest)
def QJ(Γ:b7)(br:Option (List Nat->PR U))(d:Nat):Prop:=
 (br=none/\d=6)\/∃p,br=some p/\d < 6/\mS br/\Γ "Reader.choice" = yz [] p (d + 1)
theorem QK(Γ:b7)(G:GR Γ)(br:Option (List Nat->PR U))(d:Nat)(hb:QJ Γ br d):Keeps Γ gD 1 (QH br d):=by
 rintro us S Q E ⟨r,x,rest,rfl,hS,hx,hl,hs,q⟩;unfold gD;walk_at "pf";simp only[<-fP,Gj hS];walk_at "pf";rcases hb with⟨rfl,rfl⟩ | ⟨p,rfl,hd,hbo,hch⟩
 ·have e:((((6:Nat):Int))== 6)=true:=by decide
  simp only[e,if_true];walk_at "pf";simp only[<-fP,vT hS];exact⟨rfl,q S .refl⟩
 ·have e:(((d:Nat):Int)== 6)=false:=by simp only[beq_eq_false_iff_ne];omega
  simp only[e,aq,if_false];walk_at "pf";simp only[bS hS,true_and];refine⟨rfl,ca G.pass ⟨[40],d,r,x,rest,rfl,hS,hx,hl,?_⟩⟩;unfold OP at q;refine q.bind (ke.refl hS) fun a r1 S1 e1 c1 q1=>?_
  have hs1:=gq [40] rest;rw[e1] at hs1;have hx1:=hs1.1.trans hx;have g1:=c1.2.1;walk_at "pf";simp only[bS g1];try walk_at "pf"
  simp only[bS g1,Ce (v:=d) (d':=d + 1) (t:=r1) (x:=x) (z:=.int ((d:Nat) + 1)) rfl];refine⟨by first | trivial | rfl,by simp,?_⟩;have c2:ke r (lz x r1 (d + 1)) S (S1.set r (lz x r1 (d + 1))):=c1.trans (ke.set g1);have g2:=c2.2.1;generalize S1.set r (lz x r1 (d + 1))=S2 at c2 g2;walk_at "pf";simp only[bS g2,true_and];refine⟨rfl,ca hch ⟨r,x,r1,rfl,g2,hx1,hl,?_⟩⟩;refine q1.Cd c2 fun t r2 S3 e3 c3 q3=>?_
  have hs3:=hbo p rfl r1;rw[e3] at hs3;have hx3:=hs3.1.trans hx1;have g3:=c3.2.1;try walk_at "pf"
  simp only[bS g3,true_and];refine⟨rfl,ca G.pass ⟨[41],d + 1,r,x,r2,rfl,g3,hx3,hl,?_⟩⟩;refine q3.K8 c3 fun a r3 S4 e4 c4 q4=>?_
  have g4:=c4.2.1;walk_at "pf";simp only[bS g4];try walk_at "pf"
  simp only[bS g4,Ce (v:=d + 1) (d':=d) (t:=r3) (x:=x) (z:=.int (((d + 1:Nat):Int) - 1)) (by congr 1;omega)];refine⟨by first | trivial | rfl,by simp,?_⟩;walk_at "pf";exact q4 _ (c4.trans (ke.set g4))
structure GA (Γ:b7) (br:Option (List Nat->PR U)) (d:Nat):Prop extends GR3 Γ d where
 cl:Γ "Reader.sign_class" = K7 d
 bk:Γ "Reader.bracket" = QH br d
theorem J2(Γ:b7)(br:Option (List Nat->PR U))(d:Nat)(G:GA Γ br d):Keeps Γ i3 0 (yz [] (pV br) d):=by
 rintro us S Q E ⟨r,x,rest,rfl,hS,hx,hl,q⟩;unfold i3;walk_at "pf";simp only[bS hS];refine⟨⟨by first | trivial | rfl,rfl⟩,ca G.sees ⟨r,x,rest,d,_,rfl,hS,hx,hl,?_⟩⟩;try walk_at "pf"
 unfold pV at q;by_cases e1:cu [40] rest=true
 ·simp only[e1,if_true] at q ⊢
  walk_at "pf";simp only[bS hS,true_and];exact⟨rfl,ca G.bk ⟨r,x,rest,rfl,hS,hx,hl,e1,q⟩⟩
 ·have e1':cu [40] rest=false:=by simpa using e1
  simp only[e1',aq,if_false] at q ⊢;walk_at "pf";simp only[bS hS,true_and];refine⟨rfl,ca G.sees ⟨r,x,rest,d,_,rfl,hS,hx,hl,?_⟩⟩;try walk_at "pf"
  by_cases e2:cu [91] rest=true
  ·simp only[e2,if_true] at q ⊢
   walk_at "pf";simp only[bS hS,true_and];refine⟨rfl,ca G.cl ⟨r,x,rest,rfl,hS,hx,hl,?_⟩⟩;rw[vU] at q;refine q.bind (toU:=U.str) (ke.refl hS) fun a r1 S1 _ c1 q1=>?_
   exact⟨by simp,q1 S1 c1⟩
  ·have e2':cu [91] rest=false:=by simpa using e2
   simp only[e2',aq,if_false] at q ⊢;walk_at "pf";simp only[bS hS,true_and];refine⟨rfl,ca G.sees ⟨r,x,rest,d,_,rfl,hS,hx,hl,?_⟩⟩;try walk_at "pf"
   by_cases e3:cu [46] rest=true
   ·simp only[e3,if_true] at q ⊢
    walk_at "pf";simp only[bS hS,true_and];refine⟨rfl,ca G.pass ⟨[46],d,r,x,rest,rfl,hS,hx,hl,?_⟩⟩;refine q.bind (ke.refl hS) fun a r1 S1 _ c1 q1=>?_
    walk_at "pf";refine ca G.Ba ⟨[10],rfl,fun S2 x2=>?_⟩;try walk_at "pf"
    exact⟨by simp,q1 S2 (c1.trans (x2.chg c1.2.1))⟩
   ·have e3':cu [46] rest=false:=by simpa using e3
    simp only[e3',aq,if_false] at q ⊢;walk_at "pf";simp only[bS hS,true_and];refine⟨rfl,ca G.ws ⟨MO,r,x,rest,rfl,hS,hx,hl,?_⟩⟩;rw[vU] at q;refine q.bind (ke.refl hS) fun a r1 S1 _ c1 q1=>?_
    unfold mR;exact⟨by simp,q1 S1 c1⟩
noncomputable def Wj:List (List Nat × List Nat):=[([42],j0),([43],nG),([63],jv)]
theorem Gz(h:[42,43,63].contains c=true):Wj.lookup [c] = some (if c=42 then j0 else if c=43 then nG else jv):=by
 have:c=42\/c=43\/c=63:=by simpa using h
 rcases this with rfl | rfl | rfl<;>rfl
structure GP (Γ:b7) (br:Option (List Nat->PR U)) (d:Nat):Prop extends GA Γ br d where
 at_:Γ "Reader.atom" = yz [] (pV br) d
theorem vW{Γ:b7}{r d:Nat}{x:List Nat}{S:bR}{fin:Env->bR->Prop}{e0:Option U}(hl:x.length<=1000)
  (cW:Env->bR->(Bool->bR->Prop)->Prop) (bW:Env->bR->(Env->bR->Prop)->Prop)
  (hc:∀t S1 rest k,S1[r]? = some (lz x rest d)->rest <:+ x->k (cu [42,43,63] rest) S1->cW [e0,some t] S1 k)
  (hb:∀t S1 c rest k,S1[r]? = some (lz x (c::rest) d)->(c::rest) <:+ x->[42,43,63].contains c=true->(∀S2,ke r (lz x rest d) S1 S2->k [e0,some (Gx c t)] S2)->bW [e0,some t] S1 k):
  ∀(rest:List Nat) (t:U) (S1:bR),rest <:+ x->ke r (lz x rest d) S S1->(∀S2,ke r (lz x (k6 t rest).2 d) S S2->fin [e0,some (k6 t rest).1] S2)->xH cW bW fin (rest.length + 1) [e0,some t] S1
 | [],t,S1,hx,c1,hf=>by
  refine hc t S1 [] _ c1.2.1 hx ?_;simp only[cu,aq,if_false];exact hf S1 c1
 | c::rest,t,S1,hx,c1,hf=>by
  refine hc t S1 _ _ c1.2.1 hx ?_;by_cases e:[42,43,63].contains c=true
  ·simp only[cu,e,if_true]
   refine hb t S1 c rest _ c1.2.1 hx e fun S2 c2=>?_
   refine vW (Γ:=Γ) hl cW bW hc hb rest _ S2 (xX hx) (c1.trans c2) ?_;have:k6 t (c::rest)=k6 (Gx c t) rest:=by
    conv=>lhs;unfold k6
    rw[if_pos e]
   rw[this] at hf;exact hf
  ·have e':[42,43,63].contains c=false:=by simpa using e
   simp only[cu,e',aq,if_false];have:k6 t (c::rest)=(t,c::rest):=by
    unfold k6;rw[if_neg e]
   rw[this] at hf;exact hf S1 c1
theorem Dy(Γ:b7)(br:Option (List Nat->PR U))(d:Nat)(hbo:mS br)(G:GP Γ br d):Keeps Γ ic 1 (yz [] (iJ br) d):=by
 rintro us S Q E ⟨r,x,rest,rfl,hS,hx,hl,q⟩;unfold ic;walk_at "pl";simp only[bS hS,G.at_];refine⟨⟨by first | trivial | rfl,rfl⟩,r,x,rest,rfl,hS,hx,hl,?_⟩;unfold iJ at q;refine q.Cd (ke.refl hS) fun t r1 S1 e1 c1 q1=>?_
 have hs1:=t8 hbo rest;rw[e1] at hs1;have hx1:=hs1.1.trans hx;refine⟨r1.length + 1,vW (Γ:=Γ) (S:=S) hl _ _ ?_ ?_ r1 t S1 hx1 c1 ?_⟩
 ·intro t2 S2 rest2 k g2 hx2 hk
  try walk_at "pl"
  simp only[bS g2,G.sees,true_and];refine⟨rfl,r,x,rest2,d,_,rfl,g2,hx2,hl,?_⟩;try walk_at "pl"
  exact hk
 ·intro t2 S2 c rest2 k g2 hx2 hc hk
  try walk_at "pl"
  simp only[bS g2,G.pass,true_and];refine⟨rfl,[42,43,63],d,r,x,_,rfl,g2,hx2,hl,?_⟩;have e2:dB [42,43,63] (c::rest2)= .ok (c,rest2):=by unfold dB;dsimp only;rw[if_pos hc]
  show dC r x d S2 _ E (mapR mR (dB [42,43,63] (c::rest2)))
  rw[e2]
  intro S3 c3;unfold mR;rw[xw]
  have:=Gz hc;unfold Wj at this;rw[this,aW]
  exact⟨by simp,hk S3 c3⟩
 ·intro S2 c2
  try walk_at "pl"
  exact q1 S2 c2
theorem qN(hp:∀rest,lA rest (p rest))
  (cW:Env->bR->(Bool->bR->Prop)->Prop) (bW:Env->bR->(Env->bR->Prop)->Prop) (h0:S.length<=n0) (h1:n0≠r)
  (hc:∀S1 rest k,S1[r]? = some (lz x rest d)->rest <:+ x->k (!stop rest) S1->cW env S1 k)
  (hb:∀S1 rest acc k,S1[r]? = some (lz x rest d)->S1[n0]? = some (.lst acc)->acc.length<=2000->rest <:+ x->stop rest=false->dC r x d S1 (fun t S2=>k env (S2.set n0 (.lst (acc ++ [t])))) E (p rest)->bW env S1 k):
  ∀(m:Nat) (acc:List U) (rest:List Nat) (S1:bR),rest.length < m->acc.length + rest.length<=2000->rest <:+ x->ke r (lz x rest d) S S1->S1[n0]? = some (.lst acc) ->
   (∀ts r2 S2,dg stop p m acc rest = .ok (ts,r2)->ke r (lz x r2 d) S S2->r2 <:+ x->S2[n0]? = some (.lst ts)->ts.length<=2000->acc.length<=ts.length->fin env S2)->(∀r',dg stop p m acc rest = .error r'->∀S',Old r S S'->E ⟨"BadRule",[.int 0,.int (x.length - r'.length:Nat)]⟩ S') ->
   xH cW bW fin m env S1
 | 0,_,_,_,h,_,_,_,_,_,_=>by omega
 | m + 1,acc,rest,S1,h,ht,hx,c1,hn,hf,he=>by
  refine hc S1 rest _ c1.2.1 hx ?_;by_cases e:stop rest=true
  ·simp only[e,bJ,aq,if_false]
   exact hf acc rest S1 (by unfold dg;rw[if_pos e]) c1 hx hn (by omega) (ax _)
  ·have e':stop rest=false:=by simpa using e
   simp only[e',cq,if_true];refine hb S1 rest acc _ c1.2.1 hn (by omega) hx e' ?_;have hs:=hp rest;cases q:p rest with
   | error r'=>
    intro S' o;exact he r' (by unfold dg;rw[if_neg e,q];rfl) S' (c1.old.trans o)
   | ok v=>
    obtain⟨t,r1⟩:=v;rw[q] at hs;intro S2 c2;have hE:dg stop p (m + 1) acc rest=dg stop p m (acc ++ [t]) r1:=by
     conv=>lhs;unfold dg
     rw[if_neg e,q];rfl
    have hn2:S2[n0]? = some (.lst acc):=(c2.2.2 n0 (cj hn) h1).trans hn;have c3:ke r (lz x r1 d) S (S2.set n0 (.lst (acc ++ [t]))):=by
     have c12:=c1.trans c2;refine⟨by simpa using c12.1,by rw[au h1];exact c12.2.1,fun m hm ne=>?_⟩;rw[au (by omega)]
     exact c12.2.2 m hm ne
    refine qN hp cW bW h0 h1 hc hb m (acc ++ [t]) r1 _ (by have:=hs.2;omega) (by simp;have:=hs.2;omega) (hs.1.trans hx) c3 (gs hn2) (fun ts r2 S3 e3 c4 h3 h4 h5 h6=>hf ts r2 S3 (by rw[hE];exact e3) c4 h3 h4 h5 (by simp at h6;omega)) (fun r' e3=>he r' (by rw[hE];exact e3))
structure GW (Γ:b7) (br:Option (List Nat->PR U)) (d:Nat):Prop extends GP Γ br d where
 rp:Γ "Reader.repeat" = yz [] (iJ br) d
 jn:Γ "joined" = jZ
theorem GB{x rest:List Nat}(h:rest <:+ x):decide (((x.length - rest.length:Nat):Int) < x.length)= !rest.isEmpty:=by
 have:=K6 h;cases rest with
 | nil=>simp at this ⊢
 | cons a b=>simp only[ne_eq,reduceCtorEq,not_false_eq_true,iff_true] at this;rw[decide_eq_true this];rfl
theorem NJ(Γ:b7)(br:Option (List Nat->PR U))(d:Nat)(hbo:mS br)(G:GW Γ br d):Keeps Γ jF 1 (yz [] (uX br) d):=by
 rintro us S Q E ⟨r,x,rest,rfl,hS,hx,hl,q⟩;unfold jF;walk_at "pl";simp only[bS hS,G.rp];refine⟨⟨by first | trivial | rfl,rfl⟩,r,x,rest,rfl,hS,hx,hl,?_⟩;unfold uX at q;refine q.Cd (ke.refl hS) fun t r1 S1 e1 c1 q1=>?_
 have hs1:=mC hbo rest;rw[e1] at hs1;have hx1:=hs1.1.trans hx;have hr1:r1.length<=1000:=aR hx1.length_le hl;refine⟨by simp,?_⟩;have hrl:=cj hS;have c2:ke r (lz x r1 d) S (S1 ++ [.lst [t]]):=c1.trans ((Ext.app _).chg c1.2.1);have hn:(S1 ++ [SO.lst [t]])[S1.length]? = some (.lst [t]):=by simp
 have hne:S1.length≠r:=by have:=c1.1;omega
 refine⟨r1.length + 1,qN (S:=S) (E:=E) (n0:=S1.length) (stop:=iK) (p:=iJ br) (mC hbo) _ _ c1.1 hne ?_ ?_ (r1.length + 1) [t] r1 _ (by omega) (by simp;omega) hx1 c2 hn ?_ ?_⟩
 ·intro S2 rest2 k g2 hx2 hk
  try walk_at "pl"
  simp only[<-fP,xW g2,vT g2];try walk_at "pl"
  refine⟨by omega,?_⟩;simp only[GB hx2];unfold iK at hk;cases rest2 with
  | nil=>simpa using hk
  | cons c t2=>
   simp only[Ew,cq,if_true];simp only[bS g2,G.sees,true_and];refine⟨rfl,r,x,_,d,_,rfl,g2,hx2,hl,?_⟩;try walk_at "pl"
   simpa using hk
 ·intro S2 rest2 acc k g2 hn2 ha hx2 hst hk
  try walk_at "pl"
  simp only[hn2,bS g2,G.rp,true_and];try walk_at "pl"
  refine⟨rfl,r,x,rest2,rfl,g2,hx2,hl,?_⟩;cases z:iJ br rest2 with
  | error r'=>rw[z] at hk;exact hk
  | ok v=>
   rw[z] at hk;intro S3 c3;have hn3:S3[S1.length]? = some (.lst acc):=(c3.2.2 _ (cj hn2) hne).trans hn2;simp only[hn3];try walk_at "pl"
   exact⟨by omega,hk S3 c3⟩
 ·intro ts r2 S2 e2 c3 hx2 hn2 hts ht1
  rw[e2] at q1;try walk_at "pl"
  simp only[G.jn];refine⟨Bb,S1.length,ts,rfl,hn2,?_,by omega,q1 S2 c3⟩;intro z;rw[z] at ht1;simp at ht1
 ·intro r' e2 S' o
  rw[e2] at q1;exact q1 S' o
structure GC (Γ:b7) (br:Option (List Nat->PR U)) (d:Nat):Prop extends GW Γ br d where
 SQ:Γ "Reader.row" = yz [] (uX br) d
theorem Dz(Γ:b7)(br:Option (List Nat->PR U))(d:Nat)(hbo:mS br)(G:GC Γ br d):Keeps Γ hU 1 (yz [] (gH br) d):=by
 rintro us S Q E ⟨r,x,rest,rfl,hS,hx,hl,q⟩;unfold hU;walk_at "pl";simp only[bS hS,G.SQ];refine⟨⟨by first | trivial | rfl,rfl⟩,r,x,rest,rfl,hS,hx,hl,?_⟩;unfold gH at q;refine q.Cd (ke.refl hS) fun t r1 S1 e1 c1 q1=>?_
 have hs1:=xZ hbo rest;rw[e1] at hs1;have hx1:=hs1.1.trans hx;have hr1:r1.length<=1000:=aR hx1.length_le hl;refine⟨by simp,?_⟩;have hrl:=cj hS;have c2:ke r (lz x r1 d) S (S1 ++ [.lst [t]]):=c1.trans ((Ext.app _).chg c1.2.1);have hn:(S1 ++ [SO.lst [t]])[S1.length]? = some (.lst [t]):=by simp
 have hne:S1.length≠r:=by have:=c1.1;omega
 refine⟨r1.length + 1,qN (S:=S) (E:=E) (n0:=S1.length) (stop:=stopOr) (p:=NH br) (Gy hbo) _ _ c1.1 hne ?_ ?_ (r1.length + 1) [t] r1 _ (by omega) (by simp;omega) hx1 c2 hn ?_ ?_⟩
 ·intro S2 rest2 k g2 hx2 hk
  try walk_at "pl"
  simp only[bS g2,G.sees,true_and];refine⟨rfl,r,x,_,d,_,rfl,g2,hx2,hl,?_⟩;try walk_at "pl"
  simpa[stopOr] using hk
 ·intro S2 rest2 acc k g2 hn2 ha hx2 hst hk
  try walk_at "pl"
  simp only[bS g2,G.pass,true_and];refine⟨rfl,[124],d,r,x,rest2,rfl,g2,hx2,hl,?_⟩;unfold NH at hk;refine dC.bind (f:=fun _ r=>uX br r) hk (ke.refl g2) fun a r3 S3 e3 c3 q3=>?_
  have hs3:=gq [124] rest2;rw[e3] at hs3;have hx3:=hs3.1.trans hx2;have g3:=c3.2.1;have hn3:S3[S1.length]? = some (.lst acc):=(c3.2.2 _ (cj hn2) hne).trans hn2;simp only[hn3,bS g3,G.SQ,true_and];try walk_at "pl"
  refine⟨rfl,r,x,r3,rfl,g3,hx3,hl,?_⟩;cases z:uX br r3 with
  | error r'=>rw[z] at q3;exact fun S' o=>q3 S' (c3.old.trans o)
  | ok v=>
   rw[z] at q3;intro S4 c4;have hn4:S4[S1.length]? = some (.lst acc):=(c4.2.2 _ (cj hn3) hne).trans hn3;simp only[hn4];try walk_at "pl"
   exact⟨by omega,q3 S4 (c3.trans c4)⟩
 ·intro ts r2 S2 e2 c3 hx2 hn2 hts ht1
  rw[e2] at q1;try walk_at "pl"
  simp only[G.jn];refine⟨OO,S1.length,ts,rfl,hn2,?_,by omega,q1 S2 c3⟩;intro z;rw[z] at ht1;simp at ht1
 ·intro r' e2 S' o
  rw[e2] at q1;exact q1 S' o
def mE:Spec:=fun us S Q _=>∃r x,us = [.loc r,.str x]/\S[r]? = some (.ins "Reader" [])/\Q .bQ (S.set r (lz x x 0))
theorem GD(Γ:b7):Keeps Γ iZ 0 mE:=by
 rintro us S Q E ⟨r,x,rfl,hS,q⟩;unfold iZ;walk_at "pl";have hr:=cj hS;simp only[hS,bf,fL];refine⟨by simp,?_⟩;have g1:=gs (o':=SO.ins "Reader" [("text",U.str x)]) hS;generalize hS1:S.set r (SO.ins "Reader" [("text",U.str x)])=S1 at g1;simp only[g1,bf];refine⟨by simp,?_⟩;have g2:=gs (o':=SO.ins "Reader" (fL "at" (U.int 0) [("text",U.str x)])) g1;generalize hS2:S1.set r (SO.ins "Reader" (fL "at" (U.int 0) [("text",U.str x)]))=S2 at g2;simp only[g2,bf];refine⟨by simp[fL],?_⟩;subst hS2;subst hS1;rw[rf,rf]
 have e:SO.ins "Reader" (fL "depth" (.int 0) (fL "at" (.int 0) [("text",.str x)]))=lz x x 0:=by
  unfold lz;rw[cf]
  rfl
 simpa[<-e] using q
def Bc:Spec:=fun us S Q E=>∃x,us = [.str x]/\x.length<=1000/\match rD x with
 | .ok (t,_)=>∀S',Ext S S'->Q t S'
 | .error r=>∀S',Ext S S'->E ⟨"BadRule",[.int 0,.int (x.length - r.length:Nat)]⟩ S'
theorem J4 (Γ:b7) (h1:Γ "Reader.__init__" = mE) (h2:Γ "Reader.choice" = yz [] (gH (rC 6)) 0):Keeps Γ xM 2 Bc:=by
 rintro us S Q E ⟨x,rfl,hl,q⟩;unfold xM;walk_at "pl";simp only[h1,h2];have hn:(S ++ [SO.ins "Reader" []])[S.length]? = some (.ins "Reader" []):=by simp
 refine⟨S.length,x,rfl,hn,rfl,?_⟩;try walk_at "pl"
 have g1:=gs (o':=lz x x 0) hn;have x1:Old S.length S ((S ++ [SO.ins "Reader" []]).set S.length (lz x x 0)):=by
  refine⟨by simp,fun n h ne=>?_⟩;rw[au (dJ ne),ak h]
 generalize (S ++ [SO.ins "Reader" []]).set S.length (lz x x 0)=S1 at g1 x1;simp only[bS g1,true_and];have toE:∀ {S'},Old S.length S S'->Ext S S':=fun o=>⟨o.1,fun n h=>o.2 n h (by omega)⟩
 refine⟨rfl,S.length,x,x,rfl,g1,bC _,hl,?_⟩;unfold rD at q;cases z:gH (rC 6) x with
 | error r'=>
  rw[z] at q;exact fun S' o=>q S' (toE (x1.trans o))
 | ok v=>
  obtain⟨t,r1⟩:=v;have hs:=t9 (qM 6) x;rw[z] at q hs;intro S2 c2;have g2:=c2.2.1;simp only[<-fP,vT g2];try walk_at "pl"
  refine⟨by omega,?_⟩;simp only[GB hs.1];simp only[bindR] at q;cases r1 with
  | nil=>
   simp only[List.isEmpty_nil,bJ,aq,if_false];try walk_at "pl"
   simp at q;exact q S2 (toE (x1.trans c2.old))
  | cons c t2=>
   simp only[Ew,cq,if_true];simp only[reduceCtorEq,if_false] at q;exact⟨rfl,q S2 (toE (x1.trans c2.old))⟩
section
variable {d f c:Nat} {r rest:List Nat}
def hd(rest:List Nat)(l:List Nat):Prop:=cu l rest=true
end
section
variable {α:Type}
theorem Ka(h0:0<=i)(h1:i < l.length):∃a,tw l i=some a/\a∈l:=by
 obtain⟨n,rfl⟩:∃n:Nat,i=n:=⟨i.toNat,by omega⟩
 have h2:n < l.length:=by omega
 exact⟨l[n],by rw[gZ,aa h2],bL h2⟩
theorem qO(h0:0<=i)(h1:i < l.length)(h:∀a∈l,r a):opt (tw l i) r:=by
 obtain⟨a,e,m⟩:=Ka h0 h1;rw[e];exact h a m
end
namespace pK
def Bd:Spec:=fun us S Q _=>∃ns k,us = [.pG ns,.int k]/\ns.length<=1000/\∀m,Q (.int m) S
theorem Kb(Γ:b7):Keeps Γ kN 0 Bd:=by
 rintro us S Q E ⟨ns,k,rfl,hl,q⟩;unfold kN;walk_at "pl";by_cases h:ns.length=0
 ·simp only[h,bne_self_eq_false,aq,if_false]
  try walk_at "pl"
  exact q 0
 ·have h':(ns.length != 0)=true:=by simpa using h
  simp only[h',if_true];try walk_at "pl"
  refine⟨by omega,by omega,by omega,?_⟩;exact qO (jR _ (by omega)) (iD _ (by omega)) (fun a _=>q a)
def vX:Spec:=fun us S Q _=>∃ns k,us = [.pG ns,.int k]/\ns.length<=1000/\∀m:Int,0<=m->m < 4294967231->Q (.int m) S
theorem NK (Γ:b7) (h1:Γ "_law_cell" = Bd):Keeps Γ mq 1 vX:=by
 rintro us S Q E ⟨ns,k,rfl,hl,q⟩;unfold mq;walk_at "pl";simp only[h1];refine⟨ns,k,rfl,hl,fun c=>?_⟩;walk_at "pl";refine⟨by omega,by omega,by omega,by omega,by omega,by omega,by omega,?_⟩;exact q _ (by omega) (by omega)
def ya:Spec:=fun us S Q _=>∃i,us = [.int i]/\Q (.bl true) S
theorem GF(Γ:b7):Keeps Γ mv 0 ya:=by
 rintro us S Q E ⟨i,rfl,q⟩;exact q
def GG:Spec:=fun us S Q _=>us = []/\∀G,G=SG->Q (.str G) S
theorem NL(Γ:b7):Keeps Γ mw 1 GG:=by
 rintro us S Q E ⟨rfl,q⟩;unfold mw;walk_at "pl";exact⟨by decide,q _ rfl⟩
end pK
namespace pK
end pK
theorem k7(I:Nat->Env->bR->Prop)
  (h:∀n env S k,I n env S->(∀m env' S',m < n->I m env' S'->k env' S')->cW env S (fun t S1=>if t=true then bW env S1 k else fin env S1)):
  ∀N n env S,n < N->I n env S->xH cW bW fin N env S
 | 0,_,_,_,hn,_=>by omega
 | N + 1,n,env,S,hn,hi=>h n env S _ hi fun m env' S' hm hi'=>k7 I h N m env' S' (by omega) hi'
theorem Cf(I:Nat->Env->bR->Prop)(hg:∀i env S,I i env S->g S)(l:List U)
  (h:∀i u env S k,l[i]? = some u->I i env S->(∀env' S',I (i + 1) env' S'->k env' S')->turn u env S k) (hf:∀env S,I l.length env S->fin env S):
  ∀n i env S,i + n=l.length->I i env S->tB g turn fin (l.drop i) env S
 | 0,i,env,S,e,hi=>by
  rw[fJ (by omega)]
  have:i=l.length:=by omega
  subst this;exact⟨hg _ _ _ hi,hf _ _ hi⟩
 | n + 1,i,env,S,e,hi=>by
  have hlt:i < l.length:=by omega
  rw[d6 hlt]
  exact⟨hg _ _ _ hi,h i _ env S _ (aa hlt) hi fun env' S' hi'=>Cf I hg l h hf n (i + 1) env' S' (by omega) hi'⟩
theorem eR{g:bR->Prop}{turn:U->Env->bR->(Env->bR->Prop)->Prop}{fin:Env->bR->Prop}(I:Nat->Env->bR->Prop)(hg:∀i env S,I i env S->g S)(l:List U)
  (h:∀i u env S k,l[i]? = some u->I i env S->(∀env' S',I (i + 1) env' S'->k env' S')->turn u env S k) (hf:∀env S,I l.length env S->fin env S)
  {env:Env} {S:bR} (hi:I 0 env S):tB g turn fin l env S:=Cf I hg l h hf l.length 0 env S (by omega) hi
theorem j5{n i:Nat}{u:U}(h:((cv n).map fun k=>U.int (k:Nat))[i]? = some u):u = .int i/\i < n:=by
 rw[aw] at h;have hl:i < n:=by
  rcases Nat.lt_or_ge i n with z | z
  ·exact z
  ·rw[nP (by simpa using z)] at h;simp at h
 rw[CJ hl] at h;simp at h;exact⟨h.symm,hl⟩
namespace pK
end pK
def ua(br:Option (List Nat->PR U))(x:List Nat)(t:U):Prop:=∀rest,pV br (x ++ rest)= .ok (t,rest)
noncomputable def Kc(t:U)(ms:List Nat):U:=ms.foldl (fun t c=>Gx c t) t
def ub(br:Option (List Nat->PR U))(x:List Nat)(t:U):Prop:=∃a ta ms,x=a ++ ms/\ua br a ta/\(∀c∈ms,c∈[42,43,63])/\t=Kc ta ms
theorem Cg:∀(ms:List Nat) (t:U) (rest:List Nat),(∀c∈ms,c∈[42,43,63])->cu [42,43,63] rest=false->k6 t (ms ++ rest)=(Kc t ms,rest)
 | [],t,rest,_,h=>by
  cases rest with
  | nil=>rfl
  | cons c r=>
   have h:[42,43,63].contains c=false:=h;rw[fN,k6,h]
   rfl
 | m::ms,t,rest,hm,h=>by
  have e:[42,43,63].contains m=true:=fW.mpr (hm m (ba ..));rw[rZ,k6,if_pos e,Cg ms _ rest (fun c hc=>hm c (aS _ hc)) h]
  rfl
theorem GH(h:ub br x t)(hr:cu [42,43,63] rest=false):iJ br (x ++ rest)= .ok (t,rest):=by
 obtain⟨a,ta,ms,rfl,ha,hm,rfl⟩:=h;unfold iJ;rw[bB,ha (ms ++ rest)]
 simp only[bindR];rw[Cg ms ta rest hm hr]
theorem DA(hb:mS br)(h:ua br x t):∃c r,x=c::r/\c ∉ [42,43,63,124,41]:=by
 have h0:=h [];have hs:=t8 hb (x ++ []);rw[h0] at hs;cases x with
 | nil=>have:=hs.2;simp at this
 | cons c r=>
  refine⟨c,r,rfl,fun hc=>?_⟩;have e1:cu [40] (c::r ++ [])=false:=(by decide:∀c∈[42,43,63,124,41],[40].contains c=false) c hc;have e2:cu [91] (c::r ++ [])=false:=(by decide:∀c∈[42,43,63,124,41],[91].contains c=false) c hc;have e3:cu [46] (c::r ++ [])=false:=(by decide:∀c∈[42,43,63,124,41],[46].contains c=false) c hc;have e4:cu [92] (c::r ++ [])=false:=(by decide:∀c∈[42,43,63,124,41],[92].contains c=false) c hc;unfold pV at h0;rw[e1,e2,e3] at h0;simp only[aq,if_false] at h0;rw[zx e4] at h0;have e5:dB (dA MO) (c::r ++ [])= .error (c::r ++ []):=by
   have hn:(dA MO).contains c=false:=by
    have:c∈MO:=(by decide:∀c∈[42,43,63,124,41],c∈MO) c hc;unfold dA;simp only[List.contains_eq_mem,decide_eq_false_iff_not];intro q;have:=(d8.mp q).2
    simp_all
   show(if (dA MO).contains c=true then _ else _)=_
   rw[if_neg (by rw[hn];simp)]
   rfl
  rw[e5] at h0;cases h0
theorem zB(hb:mS br)(h:ub br x t):∃c r,x=c::r/\c ∉ [42,43,63,124,41]:=by
 obtain⟨a,ta,ms,rfl,ha,hm,rfl⟩:=h;obtain⟨c,r,rfl,hc⟩:=DA hb ha;exact⟨c,r ++ ms,rfl,hc⟩
inductive pW (br:Option (List Nat->PR U)):List Nat->List U->Prop
 | nil:pW br [] []
 | cons {x y:List Nat} {t:U} {ts:List U}:ub br x t->pW br y ts->pW br (x ++ y) (t::ts)
theorem rE(hb:mS br)(h:pW br y ts)(hr:iK rest=true):cu [42,43,63] (y ++ rest)=false:=by
 cases h with
 | nil=>
  cases rest with
  | nil=>rfl
  | cons c r=>
   have:[124,41].contains c=true:=by simpa[iK,cu] using hr
   show [42,43,63].contains c=false
   simp at this ⊢;omega
 | cons a b=>
  obtain⟨c,r,rfl,hc⟩:=zB hb a;show [42,43,63].contains c=false;simp at hc ⊢;omega
theorem vY(hb:mS br)(hr:iK rest=true):∀ {y:List Nat} {ts:List U},pW br y ts->∀(n:Nat) (acc:List U),y.length < n->dg iK (iJ br) n acc (y ++ rest)= .ok (acc ++ ts,rest)
 | _,_,.nil,n,acc,hn=>by
  cases n with
  | zero=>omega
  | succ n=>rw[dg,fN,if_pos hr,aZ]
 | _,_,.cons (x:=x) (y:=y) (t:=t) (ts:=ts) a b,n,acc,hn=>by
  obtain⟨c,r,rfl,hc⟩:=zB hb a;cases n with
  | zero=>omega
  | succ n=>
   have hs:iK (c::r ++ y ++ rest)=false:=by
    unfold iK;have:[124,41].contains c=false:=by simp at hc ⊢;omega
    show(false || [124,41].contains c)=false
    rw[this];rfl
   rw[dg,if_neg (by rw[hs];simp),bB,GH a (rE hb b hr)]
   simp only[bindR];rw[vY hb hr b n (acc ++ [t]) (by simp at hn;omega),bB]
   rfl
def ud(br:Option (List Nat->PR U))(x:List Nat)(t:U):Prop:=∃ts,ts≠[]/\pW br x ts/\t=oj Bb ts
theorem GI(hb:mS br)(h:ud br x t)(hr:iK rest=true):uX br (x ++ rest)= .ok (t,rest):=by
 obtain⟨ts,hn,h,rfl⟩:=h;cases h with
 | nil=>exact absurd rfl hn
 | @cons x y t ts a b=>
  unfold uX;rw[bB,GH a (rE hb b hr)]
  simp only[bindR];rw[vY hb hr b _ [t] (by simp;omega)]
  rfl
inductive ue (br:Option (List Nat->PR U)):List Nat->List U->Prop
 | nil:ue br [] []
 | cons {x y:List Nat} {t:U} {ts:List U}:ud br x t->ue br y ts->ue br (124::x ++ y) (t::ts)
def DB(br:Option (List Nat->PR U))(x:List Nat)(t:U):Prop:=∃a b t0 ts,x=a ++ b/\ud br a t0/\ue br b ts/\t=oj OO (t0::ts)
def GJ(rest:List Nat):Prop:=rest = []\/∃r,rest=41::r
theorem vZ(h:ue br y ts)(hr:GJ rest):iK (y ++ rest)=true:=by
 cases h with
 | nil=>rcases hr with rfl | ⟨r,rfl⟩<;>rfl
 | cons a b=>rfl
theorem v5(hb:mS br)(hr:GJ rest):∀ {y:List Nat} {ts:List U},ue br y ts->∀(n:Nat) (acc:List U),y.length < n->dg stopOr (NH br) n acc (y ++ rest)= .ok (acc ++ ts,rest)
 | _,_,.nil,n,acc,hn=>by
  have e:stopOr rest=true:=by rcases hr with rfl | ⟨r,rfl⟩<;>rfl
  cases n with
  | zero=>omega
  | succ n=>rw[dg,fN,if_pos e,aZ]
 | _,_,.cons (x:=x) (y:=y) (t:=t) (ts:=ts) a b,n,acc,hn=>by
  cases n with
  | zero=>omega
  | succ n=>
   have e:NH br (124::x ++ y ++ rest)= .ok (t,y ++ rest):=by
    unfold NH;have:dB [124] (124::x ++ y ++ rest)= .ok (124,x ++ (y ++ rest)):=by
     rw[bB];rfl
    rw[this]
    simp only[bindR];exact GI hb a (vZ b hr)
   rw[dg,if_neg (by simp[stopOr,cu]),e]
   simp only[bindR];rw[v5 hb hr b n (acc ++ [t]) (by simp at hn;omega),bB]
   rfl
theorem v8(hb:mS br)(h:DB br x t)(hr:GJ rest):gH br (x ++ rest)= .ok (t,rest):=by
 obtain⟨a,b,t0,ts,rfl,ha,hb',rfl⟩:=h;unfold gH;rw[bB,GI hb ha (vZ hb' hr)]
 simp only[bindR];rw[v5 hb hr hb' _ [t0] (by simp;omega)]
 rfl
theorem Ci(h:DB (rC k) x t):ua (rC (k + 1)) (40::(x ++ [41])) t:=by
 intro rest;unfold pV;rw[if_pos (by rfl)]
 unfold OP rC;show bindR (dB [40] (40::(x ++ [41] ++ rest))) _=_;have e1:dB [40] (40::(x ++ [41] ++ rest))= .ok (40,x ++ (41::rest)):=by
  rw[bB];rfl
 rw[e1]
 simp only[bindR];rw[v8 (qM k) h (.inr ⟨rest,rfl⟩)]
 rfl
theorem Kd(h:DB (rC 6) x t):rD x = .ok (t,[]):=by
 unfold rD;have:=v8 (qM 6) h (rest:=[]) (.inl rfl);rw[aZ] at this;rw[this]
 rfl
end PL
namespace PL.jr
inductive Mk where | star | plus | may
inductive Tr where | one (n:Nat) (l:List Nat) | row (a b:Tr) | or (a b:Tr) | rep (m:Mk) (a:Tr)
section
noncomputable section
noncomputable def null:Tr->Bool
 | .one _ _=>false
 | .row a b=>null a && null b
 | .or a b=>null a || null b
 | .rep .plus a=>null a
 | .rep _ _=>true
noncomputable def dk(K:List Tr):Bool:=K.all null
noncomputable def FS:Tr->Nat->Bool
 | .one n _,p=>p == n
 | .row a b,p=>FS a p || (null a && FS b p)
 | .or a b,p=>FS a p || FS b p
 | .rep _ a,p=>FS a p
noncomputable def mK:List Tr->Nat->Bool
 | [],_=>false
 | t::K,p=>FS t p || (null t && mK K p)
noncomputable def IN:Tr->Nat->Bool
 | .one n _,p=>p == n
 | .row a b,p=>IN a p || IN b p
 | .or a b,p=>IN a p || IN b p
 | .rep _ a,p=>IN a p
noncomputable def sgn:Tr->Nat->List Nat
 | .one _ l,_=>l
 | .row a b,p=>if IN a p then sgn a p else sgn b p
 | .or a b,p=>if IN a p then sgn a p else sgn b p
 | .rep _ a,p=>sgn a p
noncomputable def more:Mk->Tr->List Tr
 | .may,_=>[]
 | _,a=>[.rep .star a]
noncomputable def cont:Tr->Nat->List Tr
 | .one _ _,_=>[]
 | .row a b,p=>if IN a p then cont a p ++ [b] else cont b p
 | .or a b,p=>if IN a p then cont a p else cont b p
 | .rep m a,p=>cont a p ++ more m a
noncomputable def ct(t:Tr)(p:Nat):List Tr:=if p=0 then [t] else cont t p
noncomputable def dF:Tr->Nat->List (List Tr)
 | .one _ l,c=>if l.contains c then [[]] else []
 | .or a b,c=>dF a c ++ dF b c
 | .row a b,c=>(dF a c).map (· ++ [b]) ++ if null a then dF b c else []
 | .rep m a,c=>(dF a c).map (· ++ more m a)
noncomputable def dR:List Tr->Nat->List (List Tr)
 | [],_=>[]
 | t::K,c=>(dF t c).map (· ++ K) ++ if null t then dR K c else []
noncomputable def size:Tr->Nat
 | .one _ _=>1
 | .row a b=>size a + size b
 | .or a b=>size a + size b
 | .rep _ a=>size a
noncomputable def bG:Tr->Nat
 | .one _ _=>0
 | .row a b=>max (bG a) (bG b) + 1
 | .or a b=>max (bG a) (bG b) + 1
 | .rep _ a=>bG a + 1
def mT:Nat->Tr->Prop
 | n,.one k _=>k=n
 | n,.row a b=>mT n a/\mT (n + size a) b
 | n,.or a b=>mT n a/\mT (n + size a) b
 | n,.rep _ a=>mT n a
noncomputable def nH:Tr->List (List Nat)
 | .one _ l=>[l]
 | .row a b=>nH a ++ nH b
 | .or a b=>nH a ++ nH b
 | .rep _ a=>nH a
end
theorem gI:∀t,(nH t).length=size t
 | .one _ _=>rfl
 | .row a b=>by simp[nH,size,gI a,gI b]
 | .or a b=>by simp[nH,size,gI a,gI b]
 | .rep _ a=>by simp[nH,size,gI a]
theorem eF:∀ {t n p},mT n t->(IN t p=true↔n<=p/\p < n + size t)
 | .one k l,n,p,h=>by
  have h:k=n:=h;subst h;simp only[IN,size,beq_iff_eq];omega
 | .row a b,n,p,h=>by
  simp only[IN,size,bb,eF h.1,eF h.2];omega
 | .or a b,n,p,h=>by
  simp only[IN,size,bb,eF h.1,eF h.2];omega
 | .rep m a,n,p,h=>eF (t:=a) h
theorem qP:∀ {t n p},mT n t->IN t p=true->(nH t)[p - n]? = some (sgn t p)
 | .one k l,n,p,h,i=>by
  have h:k=n:=h;subst h;have:p=k:=by simpa[IN] using i
  simp[this,nH,sgn]
 | .row a b,n,p,h,i=>by
  have e1:=eF (p:=p) h.1;have e2:=eF (p:=p) h.2;have l1:=gI a;simp only[nH,sgn];by_cases z:IN a p=true
  ·rw[if_pos z,ak (by have:=e1.mp z;omega)];exact qP h.1 z
  ·have z2:IN b p=true:=by simpa[IN,z] using i
   have:=e2.mp z2;rw[if_neg z,av (by omega),<-qP h.2 z2]
   congr 1;omega
 | .or a b,n,p,h,i=>by
  have e1:=eF (p:=p) h.1;have e2:=eF (p:=p) h.2;have l1:=gI a;simp only[nH,sgn];by_cases z:IN a p=true
  ·rw[if_pos z,ak (by have:=e1.mp z;omega)];exact qP h.1 z
  ·have z2:IN b p=true:=by simpa[IN,z] using i
   have:=e2.mp z2;rw[if_neg z,av (by omega),<-qP h.2 z2]
   congr 1;omega
 | .rep m a,n,p,h,i=>qP (t:=a) h i
theorem fF(h:mT n a/\mT (n + size a) b)(i:IN b p=true):¬IN a p=true:=fun z=>by
 have:=(eF h.1).mp z;have:=(eF h.2).mp i;omega
theorem iT:∀ {t p},FS t p=true->IN t p=true
 | .one k l,p,h=>h
 | .row a b,p,h=>by
  simp only[FS,bb,ag] at h;simp only[IN,bb];exact h.imp iT fun z=>iT z.2
 | .or a b,p,h=>by
  simp only[FS,bb] at h;simp only[IN,bb];exact h.imp iT iT
 | .rep m a,p,h=>iT (t:=a) h
theorem k8:∀ {K L:List Tr} {p:Nat},mK (K ++ L) p=(mK K p || (dk K && mK L p))
 | [],L,p=>by simp[mK,dk]
 | t::K,L,p=>by
  simp only[rZ,mK,k8,dk,bD];cases null t<;>cases FS t p<;>simp
theorem Be:∀ {K L:List Tr} {c:Nat},dR (K ++ L) c=(dR K c).map (· ++ L) ++ if dk K then dR L c else []
 | [],L,c=>by simp[dR,dk]
 | t::K,L,c=>by
  simp only[rZ,dR,Be,dk,bD];by_cases z:null t=true<;>simp[z,dk,d9,kr]
theorem uf:dk (K ++ L)=(dk K && dk L):=by simp[dk]
theorem GK:mK (more m a) p=true->FS a p=true:=by
 cases m<;>simp[more,mK,FS]
theorem fS:∀ {t q p},mK (cont t q) p=true->IN t p=true
 | .one k l,q,p,h=>by simp[cont,mK] at h
 | .row a b,q,p,h=>by
  simp only[cont] at h;simp only[IN,bb];split at h
  ·rw[k8] at h
   simp only[bb,ag] at h;rcases h with h | ⟨_,h⟩
   ·exact .inl (fS h)
   ·exact .inr (iT (by simpa[mK] using h))
  ·exact .inr (fS h)
 | .or a b,q,p,h=>by
  simp only[cont] at h;simp only[IN,bb];split at h
  ·exact .inl (fS h)
  ·exact .inr (fS h)
 | .rep m a,q,p,h=>by
  simp only[cont] at h;rw[k8] at h;simp only[bb,ag] at h;rcases h with h | ⟨_,h⟩
  ·exact fS (t:=a) h
  ·exact iT (t:=a) (GK h)
theorem ir:∀ {t n c x},mT n t->(x∈dF t c↔∃p,FS t p=true/\c∈sgn t p/\x=cont t p)
 | .one k l,n,c,x,h=>by
  simp only[dF,FS,sgn,cont,beq_iff_eq];by_cases z:c∈l
  ·simp[z]
  ·simp[z]
 | .row a b,n,c,x,h=>by
  simp only[dF,aQ,bT,FS,bb,ag];constructor
  ·rintro(⟨y,hy,rfl⟩ | hy)
   ·obtain⟨p,h1,h2,rfl⟩:=(ir h.1).mp hy
    have i:=iT h1;exact⟨p,.inl h1,by simp only[sgn,if_pos i];exact h2,by simp only[cont,if_pos i]⟩
   ·split at hy
    ·rename_i z
     obtain⟨p,h1,h2,rfl⟩:=(ir h.2).mp hy;have i:=fF h (iT h1);exact⟨p,.inr ⟨z,h1⟩,by simp only[sgn,if_neg i];exact h2,by simp only[cont,if_neg i]⟩
    ·simp at hy
  ·rintro⟨p,h1 | ⟨z,h1⟩,h2,rfl⟩
   ·have i:=iT h1
    simp only[sgn,if_pos i] at h2;exact .inl ⟨_,(ir h.1).mpr ⟨p,h1,h2,rfl⟩,by simp only[cont,if_pos i]⟩
   ·have i:=fF h (iT h1)
    simp only[sgn,if_neg i] at h2;rw[if_pos z]
    exact .inr ((ir h.2).mpr ⟨p,h1,h2,by simp only[cont,if_neg i]⟩)
 | .or a b,n,c,x,h=>by
  simp only[dF,aQ,FS,bb];constructor
  ·rintro(hy | hy)
   ·obtain⟨p,h1,h2,rfl⟩:=(ir h.1).mp hy
    have i:=iT h1;exact⟨p,.inl h1,by simp only[sgn,if_pos i];exact h2,by simp only[cont,if_pos i]⟩
   ·obtain⟨p,h1,h2,rfl⟩:=(ir h.2).mp hy
    have i:=fF h (iT h1);exact⟨p,.inr h1,by simp only[sgn,if_neg i];exact h2,by simp only[cont,if_neg i]⟩
  ·rintro⟨p,h1 | h1,h2,rfl⟩
   ·have i:=iT h1
    simp only[sgn,if_pos i] at h2;exact .inl ((ir h.1).mpr ⟨p,h1,h2,by simp only[cont,if_pos i]⟩)
   ·have i:=fF h (iT h1)
    simp only[sgn,if_neg i] at h2;exact .inr ((ir h.2).mpr ⟨p,h1,h2,by simp only[cont,if_neg i]⟩)
 | .rep m a,n,c,x,h=>by
  simp only[dF,bT,FS,sgn,cont];constructor
  ·rintro⟨y,hy,rfl⟩
   obtain⟨p,h1,h2,rfl⟩:=(ir (t:=a) h).mp hy;exact⟨p,h1,h2,rfl⟩
  ·rintro⟨p,h1,h2,rfl⟩
   exact⟨_,(ir (t:=a) h).mpr ⟨p,h1,h2,rfl⟩,rfl⟩
theorem yb:dR [t] c=dF t c:=by simp[dR]
theorem nI:∀ {t n c x q},mT n t->(x∈dR (cont t q) c↔∃p,mK (cont t q) p=true/\c∈sgn t p/\x=cont t p)
 | .one k l,n,c,x,q,h=>by simp[cont,dR,mK]
 | .row a b,n,c,x,q,h=>by
  by_cases z:IN a q=true
  ·have e:cont (.row a b) q=cont a q ++ [b]:=by simp only[cont,if_pos z]
   rw[e,Be,yb]
   simp only[k8,aQ,bT,bb,ag];constructor
   ·rintro(⟨y,hy,rfl⟩ | hy)
    ·obtain⟨p,h1,h2,rfl⟩:=(nI h.1).mp hy
     have i:=fS h1;exact⟨p,.inl h1,by simp only[sgn,if_pos i];exact h2,by simp only[cont,if_pos i]⟩
    ·split at hy
     ·rename_i z
      obtain⟨p,h1,h2,rfl⟩:=(ir h.2).mp hy;have i:=fF h (iT h1);exact⟨p,.inr ⟨z,by simp[mK,h1]⟩,by simp only[sgn,if_neg i];exact h2,by simp only[cont,if_neg i]⟩
     ·simp at hy
   ·rintro⟨p,h1 | ⟨z,h1⟩,h2,rfl⟩
    ·have i:=fS h1
     simp only[sgn,if_pos i] at h2;exact .inl ⟨_,(nI h.1).mpr ⟨p,h1,h2,rfl⟩,by simp only[cont,if_pos i]⟩
    ·have h1:FS b p=true:=by simpa[mK] using h1
     have i:=fF h (iT h1);simp only[sgn,if_neg i] at h2;rw[if_pos z]
     exact .inr ((ir h.2).mpr ⟨p,h1,h2,by simp only[cont,if_neg i]⟩)
  ·have e:cont (.row a b) q=cont b q:=by simp only[cont,if_neg z]
   rw[e,nI h.2]
   constructor
   ·rintro⟨p,h1,h2,rfl⟩
    have i:=fF h (fS h1);exact⟨p,h1,by simp only[sgn,if_neg i];exact h2,by simp only[cont,if_neg i]⟩
   ·rintro⟨p,h1,h2,rfl⟩
    have i:=fF h (fS h1);simp only[sgn,if_neg i] at h2;exact⟨p,h1,h2,by simp only[cont,if_neg i]⟩
 | .or a b,n,c,x,q,h=>by
  by_cases z:IN a q=true
  ·have e:cont (.or a b) q=cont a q:=by simp only[cont,if_pos z]
   rw[e,nI h.1]
   constructor
   ·rintro⟨p,h1,h2,rfl⟩
    have i:=fS h1;exact⟨p,h1,by simp only[sgn,if_pos i];exact h2,by simp only[cont,if_pos i]⟩
   ·rintro⟨p,h1,h2,rfl⟩
    have i:=fS h1;simp only[sgn,if_pos i] at h2;exact⟨p,h1,h2,by simp only[cont,if_pos i]⟩
  ·have e:cont (.or a b) q=cont b q:=by simp only[cont,if_neg z]
   rw[e,nI h.2]
   constructor
   ·rintro⟨p,h1,h2,rfl⟩
    have i:=fF h (fS h1);exact⟨p,h1,by simp only[sgn,if_neg i];exact h2,by simp only[cont,if_neg i]⟩
   ·rintro⟨p,h1,h2,rfl⟩
    have i:=fF h (fS h1);simp only[sgn,if_neg i] at h2;exact⟨p,h1,h2,by simp only[cont,if_neg i]⟩
 | .rep m a,n,c,x,q,h=>by
  have hm:x∈dR (more m a) c↔∃p,mK (more m a) p=true/\c∈sgn a p/\x=cont (.rep m a) p:=by
   cases m with
   | may=>simp[more,dR,mK]
   | star=>
    show x∈dR [.rep .star a] c↔_
    rw[yb,ir (t:=.rep .star a) h]
    simp[more,mK,FS,sgn]
   | plus=>
    show x∈dR [.rep .star a] c↔_
    rw[yb,ir (t:=.rep .star a) h]
    simp[more,mK,FS,sgn,cont]
  simp only[cont,Be,k8,aQ,bT,bb,ag,sgn];constructor
  ·rintro(⟨y,hy,rfl⟩ | hy)
   ·obtain⟨p,h1,h2,rfl⟩:=(nI (t:=a) h).mp hy
    exact⟨p,.inl h1,h2,rfl⟩
   ·split at hy
    ·rename_i z
     obtain⟨p,h1,h2,rfl⟩:=hm.mp hy;exact⟨p,.inr ⟨z,h1⟩,h2,rfl⟩
    ·simp at hy
  ·rintro⟨p,h1 | ⟨z,h1⟩,h2,rfl⟩
   ·exact .inl ⟨_,(nI (t:=a) h).mpr ⟨p,h1,h2,rfl⟩,rfl⟩
   ·rw[if_pos z]
    exact .inr (hm.mpr ⟨p,h1,h2,rfl⟩)
end
noncomputable def mF:Mk->List Nat
 | .star=>j0
 | .plus=>nG
 | .may=>jv
noncomputable def enc:Tr->U
 | .one _ l=>.tup [.str J0,.str l]
 | .row a b=>.tup [.str Bb,.tup [enc a,enc b]]
 | .or a b=>.tup [.str OO,.tup [enc a,enc b]]
 | .rep m a=>.tup [.str (mF m),enc a]
noncomputable def cD(K:List Tr):U:=.tup (K.map enc)
noncomputable def DC(K:List Tr):U:=.tup [.str Bb,cD K]
theorem ug(h:mK (ct t q) p=true):IN t p=true:=by
 unfold ct at h;split at h
 ·simp only[mK,bb,ag,aq,and_false,or_false] at h
  exact iT h
 ·exact fS h
theorem Bf(h:mT n t)(n0:0 < n)(i:IN t p=true):p≠0:=by
 have:=(eF h).mp i;omega
theorem GL(h:mT n t)(n0:0 < n):x∈dR (ct t q) c↔∃p,mK (ct t q) p=true/\c∈sgn t p/\x=ct t p:=by
 have key:∀p,mK (ct t q) p=true->ct t p=cont t p:=fun p hp=>by
  unfold ct;rw[if_neg (Bf h n0 (ug hp))]
 have e:x∈dR (ct t q) c↔∃p,mK (ct t q) p=true/\c∈sgn t p/\x=cont t p:=by
  unfold ct;split
  ·rw[yb,ir h]
   simp[mK]
  ·exact nI h
 rw[e]
 constructor
 ·rintro⟨p,h1,h2,h3⟩;exact⟨p,h1,h2,h3.trans (key p h1).symm⟩
 ·rintro⟨p,h1,h2,h3⟩;exact⟨p,h1,h2,h3.trans (key p h1)⟩
def QL(t:Tr)(c:Nat)(H:Nat->Prop):Nat->Prop:=fun p=>∃q,H q/\mK (ct t q) p=true/\c∈sgn t p
def hs(t:Tr)(w:List Nat):Nat->Prop:=w.foldl (fun H c=>QL t c H) (fun p=>p=0)
def En(t:Tr)(H:Nat->Prop):Prop:=∃p,H p/\dk (ct t p)=true
theorem k9:hs t (w ++ [c])=QL t c (hs t w):=by unfold hs;rw[lJ];rfl
theorem QM(h:hs t w p):p=0\/IN t p=true:=by
 by_cases z:w = []
 ·subst z;exact .inl h
 ·rw[<-uu z,k9] at h
  obtain⟨q,_,h,_⟩:=h;exact .inr (ug h)
theorem take_snoc{w:List Nat}{k c:Nat}(h:w[k]? = some c):w.take (k + 1)=w.take k ++ [c]:=by
 rw[bZ,h];rfl
theorem Ke{t:Tr}{w:List Nat}{k:Nat}(h:∀p,¬hs t (w.take k) p):∀j,k<=j->∀p,¬hs t (w.take j) p:=by
 intro j hj;obtain⟨i,rfl⟩:∃i,j=k + i:=⟨j - k,by omega⟩
 induction i with
 | zero=>exact h
 | succ i ih=>
  intro p hp;cases e:w[k + i]? with
  | none=>
   have:=List.getElem?_eq_none_iff.mp e;rw[dD (by omega)] at hp;refine ih (by omega) p ?_;rw[dD (by omega)];exact hp
  | some c=>
   rw[<-Nat.add_assoc,take_snoc e,k9] at hp;obtain⟨q,hq,_⟩:=hp;exact ih (by omega) q hq
def K9(t:Tr)(H:Nat->Prop)(X:List U):Prop:=(∀x,x∈X↔∃p,H p/\x=cD (ct t p))/\X.Nodup
theorem DD(t:Tr):K9 t (hs t []) [cD [t]]:=by
 refine⟨fun x=>?_,by simp⟩;simp only[hs,vm,fH,exists_eq_left]
 rfl
def Nn(ts:List Tr)(w:List Nat)(j i:Nat):Prop:=∀t,ts[i]? = some t->¬En t (hs t (w.take j))
def v9(ts:List Tr)(w:List Nat)(k:Nat):Option (Nat × Nat)->Prop
 | none=>∀j i,1<=j->j<=k->Nn ts w j i
 | some (i,j)=>(1<=j/\j<=k)/\¬Nn ts w j i/\(∀i',i' < i->Nn ts w j i')/\∀j' i',j < j'->j'<=k->Nn ts w j' i'
theorem si(h:v9 ts w k r)(h':v9 ts w k r'):r=r':=by
 have half:∀ {i j i' j'},v9 ts w k (some (i,j))->v9 ts w k (some (i',j'))->¬j < j':=fun h h' l=>h'.2.1 (h.2.2.2 _ _ l h'.1.2)
 have no:∀ {i j},v9 ts w k (some (i,j))->¬v9 ts w k none:=fun h h'=>h.2.1 (h' _ _ h.1.1 h.1.2)
 have small:∀ {i i' j},v9 ts w k (some (i,j))->v9 ts w k (some (i',j))->¬i < i':=fun h h' l=>h.2.1 (h'.2.2.1 _ l)
 rcases r with _ | ⟨i,j⟩<;>rcases r' with _ | ⟨i',j'⟩
 ·rfl
 ·exact absurd h (no h')
 ·exact absurd h' (no h)
 ·have a1:=half h h'
  have a2:=half h' h;have ej:j=j':=by omega
  subst ej;have b1:=small h h';have b2:=small h' h;have ei:i=i':=by omega
  subst ei;rfl
theorem pX(h:v9 ts w k r)(hl:k<=l)(hn:∀j i,k < j->j<=l->Nn ts w j i):v9 ts w l r:=by
 have go:∀ {j i},(j<=k->Nn ts w j i)->j<=l->Nn ts w j i:=fun {j i} a b=>by
  by_cases z:j<=k
  ·exact a z
  ·exact hn j i (by omega) b
 rcases r with _ | ⟨i,j⟩
 ·exact fun j i h1 h2=>go (fun z=>h j i h1 z) h2
 ·exact⟨⟨h.1.1,by have:=h.1.2;omega⟩,h.2.1,h.2.2.1,fun j' i' h1 h2=>go (fun z=>h.2.2.2 j' i' h1 z) h2⟩
theorem Cj(h:¬Nn ts w (k + 1) i)(hn:∀i',i' < i->Nn ts w (k + 1) i'):v9 ts w (k + 1) (some (i,k + 1)):=
 ⟨⟨by omega,by omega⟩,h,hn,fun j' i' h1 h2=>absurd h1 (by omega)⟩
noncomputable def uR:Option (Nat × Nat)->U
 | none=>.bQ
 | some (i,j)=>.tup [.int (i:Nat),.int (j:Nat)]
inductive yA (ts:List Tr) (x:List Nat):Nat->Option Nat->List U->Prop where
 | done {a}:x.length<=a->yA ts x a none []
 | stop {a}:a < x.length->v9 ts (x.drop a) (x.drop a).length none->yA ts x a (some a) []
 | go {a i j f l}:a < x.length->v9 ts (x.drop a) (x.drop a).length (some (i,j))->yA ts x (a + j) f l->yA ts x a f (.tup [.int (i:Nat),.str (nA x (some (a:Nat)) (some ((a + j:Nat):Int)))]::l)
theorem sj(h:yA ts x a f l):∀ {f' l'},yA ts x a f' l'->f=f'/\l=l':=by
 induction h with
 | done h=>
  intro f' l' h';cases h' with
  | done _=>exact⟨rfl,rfl⟩
  | stop z _=>omega
  | go z _ _=>omega
 | stop h b=>
  intro f' l' h';cases h' with
  | done _=>omega
  | stop z _=>exact⟨rfl,rfl⟩
  | go z b' _=>exact nomatch si b b'
 | go h b _ ih=>
  intro f' l' h';cases h' with
  | done _=>omega
  | stop z b'=>exact nomatch si b b'
  | go z b' t=>
   have:=si b b';injection this with this
   injection this with e1 e2
   subst e1;subst e2;obtain⟨rfl,rfl⟩:=ih t;exact⟨rfl,rfl⟩
section
variable {S:bR} {Q:KU} {a b p:Nat}
theorem AN:jt .bor (.int (a:Nat)) (.int (b:Nat)) S Q=Q (.int ((a ||| b:Nat):Int)) S:=by
 rw[MC,eq_true (show(0:Int)<=a/\(0:Int)<=b from ⟨by omega,by omega⟩),true_and];rfl
theorem xK:jt .band (.int (a:Nat)) (.int (b:Nat)) S Q=Q (.int ((a &&& b:Nat):Int)) S:=by
 rw[I0,eq_true (show(0:Int)<=a/\(0:Int)<=b from ⟨by omega,by omega⟩),true_and];rfl
theorem SR:jt .band (.int (a:Nat)) (.int 1) S Q=Q (.int ((a &&& 1:Nat):Int)) S:=xK (b:=1)
theorem NM:jt .shl (.int 1) (.int (p:Nat)) S Q=(p<=1000/\Q (.int ((1 <<< p:Nat):Int)) S):=by
 rw[MD]
 have e:(1:Int) * (2:Int) ^ ((p:Int).toNat)=((1 <<< p:Nat):Int):=by
  rw[rL];simp
 rw[e]
 exact propext ⟨fun h=>⟨by omega,h.2⟩,fun h=>⟨by omega,h.2⟩⟩
theorem U4:jt .shr (.int (a:Nat)) (.int (p:Nat)) S Q=Q (.int ((a >>> p:Nat):Int)) S:=by
 rw[ME,eq_true (show(0:Int)<=a/\(0:Int)<=p from ⟨by omega,by omega⟩),true_and]
 have e:(a:Int) / (2:Int) ^ ((p:Int).toNat)=((a >>> p:Nat):Int):=by
  rw[Nat.shiftRight_eq_div_pow];simp
 rw[e]
theorem Wk:rR .sum [.loc n] S Q=(∃is:List Int,S[n]? = some (.lst (is.map .int))/\Q (.int is.sum) S):=rfl
end
theorem QN:(((a >>> p &&& 1:Nat):Int) != 0)=a.testBit p:=by
 unfold Nat.testBit;rw[Nat.and_comm]
 by_cases h:1 &&& a >>> p=0
 ·simp[h]
 ·have:¬(((1 &&& a >>> p:Nat):Int)=0):=by omega
  rw[bne_iff_ne.mpr this,bne_iff_ne.mpr h]
theorem Bg{a:Nat}:((a:Int) != 0)=true↔∃p,a.testBit p=true:=by
 constructor
 ·intro h
  have:a≠0:=by
   have:=bne_iff_ne.mp h;omega
  exact Nat.exists_testBit_of_ne_zero this
 ·rintro⟨p,h⟩
  refine bne_iff_ne.mpr fun z=>?_
  have:a=0:=by omega
  subst this;simp at h
theorem NN(h:b.testBit p=true):p < rq b:=by
 have g:=Nat.ge_two_pow_of_testBit h;have b0:b≠0:=by
  have:0 < 2 ^ p:=Nat.two_pow_pos p;omega
 unfold rq;rw[if_neg b0]
 have:=(Nat.le_log2 b0).mpr g;omega
theorem bits_le(h:b < 2 ^ n):rq b<=n:=by
 unfold rq;split
 ·omega
 ·rename_i z
  have:=(Nat.log2_lt z).mpr h;omega
theorem j6(h:∀p,b.testBit p=true->p < n):b < 2 ^ n:=Nat.lt_of_not_le fun z=>by
 obtain⟨i,hi,ti⟩:=Nat.exists_ge_and_testBit_of_ge_two_pow z;have:=h i ti;omega
noncomputable def qQ(b:Nat):List Nat:=(cv (rq b)).filter b.testBit
theorem j7:p∈qQ b↔b.testBit p=true:=by
 unfold qQ;rw[d8,u9]
 exact⟨fun h=>h.2,fun h=>⟨NN h,h⟩⟩
noncomputable abbrev bc(n:Nat):U:=.int (n:Nat)
theorem fG(l:List U)(I:Nat->List U->bR->Prop)(hg:∀i acc S,i<=l.length->I i acc S->g S/\acc.length < 1000000)
  (h:∀i u acc S (k:List U->bR->Prop),l[i]? = some u->I i acc S->(∀acc' S',I (i + 1) acc' S'->k acc' S')->c u S fun b S1=>if b=true then e u S1 fun v S2=>k (acc ++ [v]) S2 else k acc S1) (hf:∀acc S,I l.length acc S->Q acc S) {S:bR} (h0:I 0 [] S):nB g c e Q l [] S:=by
 have key:∀n i acc S,i + n=l.length->I i acc S->nB g c e Q (l.drop i) acc S:=by
  intro n;induction n with
  | zero=>
   intro i acc S e hi;rw[fJ (by omega)]
   have ei:i=l.length:=by omega
   subst ei;exact⟨(hg _ _ _ (ax _) hi).1,(hg _ _ _ (ax _) hi).2,hf _ _ hi⟩
  | succ n ih=>
   intro i acc S e hi;have hl:i < l.length:=by omega
   rw[d6 hl]
   exact⟨(hg _ _ _ (by omega) hi).1,(hg _ _ _ (by omega) hi).2,h i _ acc S _ (aa hl) hi fun acc' S' h'=>ih (i + 1) acc' S' (by omega) h'⟩
 exact key l.length 0 [] S (by omega) h0
theorem wa(l:List U)(p:U->Bool)(f:U->U)(hg:g S)(hl:l.length < 1000000)
  (h:∀u k,u∈l->((p u=true->k true S)/\(p u=false->k false S)->c u S k)) (he:∀u k,u∈l->p u=true->k (f u) S->e u S k) (q:Q ((l.filter p).map f) S):nB g c e Q l [] S:=by
 refine fG l (fun i acc S'=>S'=S/\acc=((l.take i).filter p).map f) (fun i acc S' hi h=>⟨h.1 ▸ hg,?_⟩) (fun i u acc S' k hu hi hk=>?_) (fun acc S' h=>?_) ⟨rfl,rfl⟩
 ·rw[h.2,ar]
  have:=Ad p (l.take i);rw[jo] at this;omega
 ·obtain⟨rfl,rfl⟩:=hi
  have hm:=aB hu;have et:l.take (i + 1)=l.take i ++ [u]:=by rw[bZ,hu];rfl
  refine h u _ hm ⟨fun z=>?_,fun z=>?_⟩
  ·rw[if_pos rfl]
   exact he u _ hm z (hk _ _ ⟨rfl,by rw[et,D6,d9,List.filter_cons_of_pos z];rfl⟩)
  ·rw[if_neg (by simp)]
   exact hk _ _ ⟨rfl,by rw[et,D6,List.filter_cons_of_neg (by simp[z])];simp⟩
 ·obtain⟨rfl,rfl⟩:=h
  rw[cF];exact q
end PL.jr
open PL.jr
local macro_rules | `(tactic| walk_at "qpk") => do let a:=((wN0++" Uy V7 Wb Wc Wd We UB Wf Uk Wk AN xK SR NM U4 Ul VO Sx Um getD_some Int.toNat_natCast Bool.false_eq_true if_false if_true Bool.not_true Bool.not_false").splitOn " ").toArray.map fun s=>Lean.mkIdent s.toName;`(tactic| simp only [$[$a:ident],*])
local macro_rules | `(tactic| walk_at "pk") => `(tactic| ((try refine Rest.go ?_); walk_at "qpk"; repeat ((refine Rest.go ?_); walk_at "qpk")))
namespace PL.jr
def zC:Spec:=fun us S Q _=>∃b:Nat,us = [bc b]/\b < 2 ^ 100/\∀n S',Ext S S'->S.length<=n->S'[n]? = some (.lst ((qQ b).map bc))->Q (.loc n) S'
theorem NO(Γ:b7):Keeps Γ oa 0 zC:=by
 rintro us S Q E ⟨b,rfl,hb,q⟩;unfold oa;walk_at "pk";have hl:=bits_le hb;refine⟨by omega,by omega,by omega,?_⟩;refine wa (S:=S) _ (fun u=>match u with | .int i=>b.testBit i.toNat | _=>false) id trivial (by simp;omega) (fun u k hu h=>?_) (fun u k _ _ h=>h) ?_
 ·obtain⟨p,_,rfl⟩:=bT.mp hu
  walk_at "pk";rw[QN]
  cases z:b.testBit p with
  | true=>exact h.1 z
  | false=>exact h.2 z
 ·refine q _ _ (Ext.app _) (ax _) ?_
  have:((cv (rq b)).map fun k=>U.int (k:Nat)).filter (fun u=>match u with | .int i=>b.testBit i.toNat | _=>false)=(qQ b).map bc:=by
   rw[List.filter_map];rfl
  rw[List.map_id,this];simp
noncomputable def HG(e:Bool)(F Z:Nat):SO:=.ins "Part" [("empty",.bl e),("firsts",bc F),("lasts",bc Z)]
section
variable {S:bR} {p F Z:Nat} {e:Bool} {r:U->Prop} (h:S[p]? = some (HG e F Z))
include h
theorem DE:kC (.loc p) "empty" S r=r (.bl e):=by rw[fP,h];rfl
theorem zD:kC (.loc p) "firsts" S r=r (bc F):=by rw[fP,h];rfl
theorem zE:kC (.loc p) "lasts" S r=r (bc Z):=by rw[fP,h];rfl
end
def yc:Spec:=fun us S Q _=>∃p e F Z,us = [.loc p,.bl e,bc F,bc Z]/\S[p]? = some (.ins "Part" [])/\Q .bQ (S.set p (HG e F Z))
theorem QP(Γ:b7):Keeps Γ kP 0 yc:=by
 rintro us S Q E ⟨p,e,F,Z,rfl,h,q⟩;unfold kP;walk_at "pk";rw[h]
 simp only[bf];refine⟨by simp,?_⟩;have g1:=gs (o':=SO.ins "Part" (fL "empty" (U.bl e) [])) h;walk_at "pk";rw[g1]
 simp only[bf];refine⟨by simp[fL],?_⟩;have g2:=gs (o':=SO.ins "Part" (fL "firsts" (bc F) (fL "empty" (U.bl e) []))) g1;walk_at "pk";rw[g2]
 simp only[bf];refine⟨by simp[fL],?_⟩;walk_at "pk";rw[rf,rf]
 exact q
theorem oJ {Γ:b7} (h1:Γ "Part.__init__" = yc) {e:Bool} {F Z:Nat} {S:bR} {R:KU} {E:KX} (q:∀S',Ext S S'->S'[S.length]? = some (HG e F Z)->R .bQ S'):
  Γ "Part.__init__" [.loc S.length,.bl e,bc F,bc Z] (S ++ [.ins "Part" []]) R E:=by
 have g:(S ++ [SO.ins "Part" []])[S.length]? = some (.ins "Part" []):=by simp
 refine ca h1 ⟨S.length,e,F,Z,rfl,g,q _ ⟨by simp,fun n hn=>?_⟩ (gs g)⟩;rw[au (by omega),ak hn]
def pb(f:Bool->Nat->Nat->Bool->Nat->Nat->Bool × Nat × Nat):Spec:=fun us S Q _=>∃p1 e1 F1 Z1 p2 e2 F2 Z2,us = [.loc p1,.loc p2]/\S[p1]? = some (HG e1 F1 Z1)/\S[p2]? = some (HG e2 F2 Z2) /\
 ∀S',Ext S S'->S'[S.length]? = some (HG (f e1 F1 Z1 e2 F2 Z2).1 (f e1 F1 Z1 e2 F2 Z2).2.1 (f e1 F1 Z1 e2 F2 Z2).2.2)->Q (.loc S.length) S'
noncomputable def qR(e1:Bool)(F1 Z1:Nat)(e2:Bool)(F2 Z2:Nat):Bool × Nat × Nat:=(e1 && e2,if e1 then F1 ||| F2 else F1,if e2 then Z1 ||| Z2 else Z2)
noncomputable def QQ(e1:Bool)(F1 Z1:Nat)(e2:Bool)(F2 Z2:Nat):Bool × Nat × Nat:=(e1 || e2,F1 ||| F2,Z1 ||| Z2)
theorem NP (Γ:b7) (h1:Γ "Part.__init__" = yc):Keeps Γ fq 2 (pb qR):=by
 rintro us S Q E ⟨p1,e1,F1,Z1,p2,e2,F2,Z2,rfl,g1,g2,q⟩;unfold fq;walk_at "pk";cases e1<;>cases e2<;>(repeat first | walk_at "pk" | simp only[DE g1,DE g2,zD g1,zD g2,zE g1,zE g2])
 ·exact oJ h1 fun S' x g=>⟨rfl,q S' x g⟩
 ·exact oJ h1 fun S' x g=>⟨rfl,q S' x g⟩
 ·exact oJ h1 fun S' x g=>⟨rfl,q S' x g⟩
 ·exact oJ h1 fun S' x g=>⟨rfl,q S' x g⟩
theorem QR (Γ:b7) (h1:Γ "Part.__init__" = yc):Keeps Γ iF 0 (pb QQ):=by
 rintro us S Q E ⟨p1,e1,F1,Z1,p2,e2,F2,Z2,rfl,g1,g2,q⟩;unfold iF;cases e1<;>(repeat first | walk_at "pk" | simp only[DE g1,DE g2,zD g1,zD g2,zE g1,zE g2])
 ·exact oJ h1 fun S' x g=>⟨rfl,q S' x g⟩
 ·exact oJ h1 fun S' x g=>⟨rfl,q S' x g⟩
structure pY (S:bR) (L:Nat) (sg:List (List Nat)) (bh en:List Nat):Prop where
 o:S[L]? = some (.ins "Layout" [("signs",.loc (L + 1)),("behind",.loc (L + 2)),("ends",.loc (L + 3))])
 s:S[L + 1]? = some (.lst (sg.map .str))
 b:S[L + 2]? = some (.lst (bh.map bc))
 e:S[L + 3]? = some (.lst (en.map bc))
def Fr(L:Nat)(S S':bR):Prop:=S.length<=S'.length/\∀n,n < S.length->n<=L\/L + 4<=n->S'[n]? = S[n]?
section
variable {S S1 S2:bR} {L:Nat} {sg:List (List Nat)} {bh en:List Nat} {r:U->Prop} {q:KU}
theorem Fr.refl:Fr L S S:=⟨ax _,fun _ _ _=>rfl⟩
theorem Fr.trans(a:Fr L S S1)(b:Fr L S1 S2):Fr L S S2:=⟨aR a.1 b.1,fun n h z=>(b.2 n (aL h a.1) z).trans (a.2 n h z)⟩
theorem Ext.fr(a:Ext S S1):Fr L S S1:=⟨a.1,fun n h _=>a.2 n h⟩
theorem Fr.get(a:Fr L S S1){n:Nat}{o:SO}(h:S[n]? = some o)(z:L + 4<=n):S1[n]? = some o:=(a.2 n (cj h) (.inr z)).trans h
theorem Fr.set(a:Fr L S S1)(h1:L < n)(h2:n < L + 4):Fr L S (S1.set n o):=⟨by rw[df];exact a.1,fun m h z=>by rw[au (by omega)];exact a.2 m h z⟩
variable (h:pY S L sg bh en)
include h
theorem pY.ext(x:Ext S S1):pY S1 L sg bh en:=⟨x.get h.o,x.get h.s,x.get h.b,x.get h.e⟩
theorem pY.len:L + 4<=S.length:=cj h.e
theorem GN:kC (.loc L) "signs" S r=r (.loc (L + 1)):=by rw[fP,h.o];rfl
theorem GO:kC (.loc L) "behind" S r=r (.loc (L + 2)):=by rw[fP,h.o];rfl
theorem NQ:kC (.loc L) "ends" S r=r (.loc (L + 3)):=by rw[fP,h.o];rfl
theorem pY.U5:pY (S.set (L + 1) (.lst (sg'.map .str))) L sg' bh en:=
 ⟨by rw[au (by omega)];exact h.o,gs h.s,by rw[au (by omega)];exact h.b,by rw[au (by omega)];exact h.e⟩
theorem pY.setB:pY (S.set (L + 2) (.lst (bh'.map bc))) L sg bh' en:=
 ⟨by rw[au (by omega)];exact h.o,by rw[au (by omega)];exact h.s,gs h.b,by rw[au (by omega)];exact h.e⟩
theorem pY.U6:pY (S.set (L + 3) (.lst (en'.map bc))) L sg bh en':=
 ⟨by rw[au (by omega)];exact h.o,by rw[au (by omega)];exact h.s,by rw[au (by omega)];exact h.b,gs h.e⟩
end
def NR:Spec:=fun us S Q _=>∃L,us = [.loc L]/\S[L]? = some (.ins "Layout" [])/\S.length=L + 1/\∀S',(∀n,n < L->S'[n]? = S[n]?)->pY S' L [[]] [0] []->Q .bQ S'
theorem QS(Γ:b7):Keeps Γ i8 0 NR:=by
 rintro us S Q E ⟨L,rfl,h,hl,q⟩;unfold i8;walk_at "pk";refine⟨by simp,?_⟩;have g0:(S ++ [SO.lst [U.str []]])[L]? = some (.ins "Layout" []):=by rw[ak (by omega)];exact h
 rw[g0]
 simp only[bf];refine⟨by simp,?_⟩;have g1:=gs (o':=SO.ins "Layout" (fL "signs" (U.loc S.length) [])) g0;walk_at "pk";refine⟨by simp,?_⟩;rw[ak (by simp;omega),g1]
 simp only[bf];refine⟨by simp[fL],?_⟩;walk_at "pk";refine⟨by simp,?_⟩;rw[ak (by simp;omega),gs (by rw[ak (by simp;omega)];exact g1)]
 simp only[bf];refine⟨by simp[fL],?_⟩;walk_at "pk";refine q _ (fun n hn=>?_) ⟨?_,?_,?_,?_⟩
 ·simp[gM,iS,hl,kg hn,cP hn,cP (cP hn),cP (cP (cP hn))]
 ·rw[bP (by simp;omega)]
  simp[fL,hl]
 ·rw[au (by omega)]
  simp[gM,iS,hl]
 ·rw[au (by omega)]
  simp[gM,iS,hl]
 ·rw[au (by omega)]
  simp[gM,iS,hl]
def NS:Spec:=fun us S Q _=>∃L sg bh en,us = [.loc L]/\pY S L sg bh en/\sg.length<=1000/\Q (.int (sg.length - 1:Int)) S
theorem QT(Γ:b7):Keeps Γ fQ 0 NS:=by
 rintro us S Q E ⟨L,sg,bh,en,rfl,h,hl,q⟩;unfold fQ;walk_at "pk";rw[GN h,oG h.s]
 simp only[aW,ar];exact⟨by omega,q⟩
theorem sk{l:List Nat}{k B:Nat}{r:U->Prop}(h:l[k]? = some B)(z:r (bc B)):opt ((l.map bc)[k]?) r:=by
 rw[aw,h];exact z
def NT:Spec:=fun us S Q _=>∃L sg bh en p e F Z B bt,us = [.loc L,.loc p]/\pY S L sg bh en/\bh=B::bt/\S[p]? = some (HG e F Z)/\L + 4<=p/\en.length<=1000/\∀S',Fr L S S'->pY S' L sg ((B ||| F)::bt) (en ++ [Z])->Q .bQ S'
theorem QW(Γ:b7):Keeps Γ eL 0 NT:=by
 rintro us S Q E ⟨L,sg,bh,en,p,e,F,Z,B,bt,rfl,h,rfl,hp,pl,hn,q⟩;unfold eL;walk_at "pk";rw[GO h]
 walk_at "pk";rw[h.b]
 simp only[aF];refine⟨Int.le_refl _,?_⟩;simp only[Int.toNat_zero];refine sk (B:=B) rfl ?_;rw[zD hp]
 walk_at "pk";rw[h.b]
 simp only[aF];refine⟨by simp,?_⟩;have h1:=h.setB (bh':=(B ||| F)::bt);have e1:(cX bc (B::bt)).set 0 (U.int ((B ||| F:Nat):Int))=cX bc ((B ||| F)::bt):=by simp
 rw[e1]
 have f1:=(Fr.refl (L:=L) (S:=S)).set (n:=L + 2) (o:=.lst (cX bc ((B ||| F)::bt))) (by omega) (by omega);have hp1:=f1.get hp pl;generalize S.set (L + 2) (.lst (cX bc ((B ||| F)::bt)))=S1 at h1 f1 hp1;walk_at "pk";rw[NQ h1]
 walk_at "pk";rw[h1.e]
 simp only[aF];walk_at "pk";rw[zE hp1]
 refine⟨by simp;omega,?_⟩;walk_at "pk";have e2:cX bc en ++ [bc Z] = cX bc (en ++ [Z]):=by simp
 rw[e2]
 exact q _ (f1.set (by omega) (by omega)) h1.U6
def QY(Z F:Nat)(bh bh':List Nat):Prop:=bh'.length=bh.length/\∀(q B:Nat),bh[q]? = some B->∃B',bh'[q]? = some B'/\∀r,B'.testBit r=(B.testBit r || (Z.testBit q && F.testBit r))
def GQ:Spec:=fun us S Q _=>∃L sg bh en Z F,us = [.loc L,bc Z,bc F]/\pY S L sg bh en/\bh.length<=100/\(∀p,Z.testBit p=true->p < bh.length)/\∀S' bh',Fr L S S'->pY S' L sg bh' en->QY Z F bh bh'->Q .bQ S'
theorem QZ (Γ:b7) (h1:Γ "members" = zC):Keeps Γ i9 1 GQ:=by
 rintro us S Q E ⟨L,sg,bh,en,Z,F,rfl,h,hl,hz,q⟩;unfold i9;walk_at "pk";refine ca h1 ⟨Z,rfl,aL (j6 hz) (bw (by omega) hl),fun n S1 x1 hn g1=>?_⟩;walk_at "pk";rw[g1]
 simp only[aF];have hln:=h.len;refine eR (fun i env S2=>∃bh2 x3,env = [some (.loc L),some (bc Z),some (bc F),x3]/\Fr L S1 S2/\pY S2 L sg bh2 en/\bh2.length=bh.length/\∀(q B:Nat),bh[q]? = some B->∃B',bh2[q]? = some B'/\∀r,B'.testBit r=(B.testBit r || (decide (q∈(qQ Z).take i) && F.testBit r)))
  (fun i env S2 ⟨_,_,_,f,_⟩=>f.get g1 (by omega)) _ ?_ ?_ ⟨bh,none,rfl,.refl,h.ext x1,rfl,fun q B e=>⟨B,e,fun r=>by simp⟩⟩
 ·rintro i u env S2 K hu ⟨bh2,x3,rfl,f2,h2,l2,inv⟩ hK
  rw[aw] at hu;obtain⟨p,hp,rfl⟩:=af.mp hu;have pz:=j7.mp (aB hp);have pl:=hz p pz;obtain⟨B',e',b'⟩:=inv p _ (aa pl);walk_at "pk";rw[GO h2]
  walk_at "pk";rw[h2.b]
  simp only[aF];refine⟨by omega,sk e' ?_⟩;walk_at "pk";rw[h2.b]
  simp only[aF];refine⟨by simp;omega,?_⟩;have ee:(cX bc bh2).set p (U.int ((B' ||| F:Nat):Int))=cX bc (bh2.set p (B' ||| F)):=by rw[List.map_set]
  rw[ee]
  walk_at "pk";refine hK _ _ ⟨_,_,rfl,f2.set (by omega) (by omega),h2.setB,by simp[l2],fun q B e=>?_⟩;have et:(qQ Z).take (i + 1)=(qQ Z).take i ++ [p]:=by rw[bZ,hp];rfl
  rw[et]
  by_cases z:q=p
  ·subst z
   rw[aa pl] at e;injection e with e;subst e
   refine⟨B' ||| F,by rw[bP (by omega)],fun r=>?_⟩;rw[cY,b']
   simp only[aQ,fH,or_true,decide_true,yw];cases bh[q].testBit r<;>cases F.testBit r<;>simp
  ·obtain⟨B2,e2,b2⟩:=inv q B e
   refine⟨B2,by rw[au (dJ z)];exact e2,fun r=>?_⟩;rw[b2]
   simp[z]
 ·rintro env S2 ⟨bh2,x3,rfl,f2,h2,l2,inv⟩
  walk_at "pk";refine q _ _ (Ext.fr x1 |>.trans f2) h2 ⟨l2,fun q B e=>?_⟩;obtain⟨B',e',b'⟩:=inv q B e;refine⟨B',e',fun r=>?_⟩;rw[b',ar,cF]
  congr 2
  by_cases z:Z.testBit q=true
  ·rw[z];exact decide_eq_true (j7.mpr z)
  ·rw[fh _ |>.mp z];exact decide_eq_false fun m=>z (j7.mp m)
structure rT (t:Tr) (bh:List Nat) (F Z:Nat) (bh':List Nat):Prop where
 f:∀p,F.testBit p=FS t p
 z:∀p,Z.testBit p=(IN t p && dk (cont t p))
 len:bh'.length=bh.length + size t
 old:∀q,q < bh.length->bh'[q]? = bh[q]?
 new:∀q,IN t q=true->∃B:Nat,bh'[q]? = some B/\∀p,B.testBit p=mK (cont t q) p
def gU(D:Tr->U->Prop):Spec:=fun us S Q _=>∃L sg bh en t u,us = [.loc L,u]/\D t u/\pY S L sg bh en/\mT sg.length t/\bh.length=sg.length/\sg.length + size t<=100 /\
 ∀S' p F Z bh',Fr L S S'->L + 4<=p->S'[p]? = some (HG (null t) F Z)->pY S' L (sg ++ nH t) bh' en->rT t bh F Z bh'->Q (.loc p) S'
theorem so:(1 <<< n).testBit p=(p == n):=by
 rw[rL,Nat.testBit_two_pow]
 by_cases z:n=p
 ·subst z;simp
 ·rw[decide_eq_false z]
  have:¬p=n:=fun e=>z e.symm
  simp[this]
theorem Q0 (Γ:b7) (h1:Γ "Part.__init__" = yc):Keeps Γ fu 1 (gU fun t u=>∃n l,t = .one n l/\u = .str l):=by
 rintro us S Q E ⟨L,sg,bh,en,t,u,rfl,⟨n,l,rfl,rfl⟩,h,hp,hb,hl,q⟩;have hp:n=sg.length:=hp;subst hp;have hl:sg.length + 1<=100:=hl;unfold fu;walk_at "pk";rw[GN h,oG h.s]
 simp only[aW,ar,NM];refine⟨by omega,by omega,?_⟩;walk_at "pk";rw[GN h]
 walk_at "pk";rw[h.s]
 simp only[aF,true_and];refine⟨by simp;omega,?_⟩;have e1:cX U.str sg ++ [U.str l] = cX U.str (sg ++ [l]):=by simp
 rw[e1]
 have h2:=h.U5 (sg':=sg ++ [l]);have f2:=(Fr.refl (L:=L) (S:=S)).set (n:=L + 1) (o:=.lst (cX U.str (sg ++ [l]))) (by omega) (by omega);generalize S.set (L + 1) (.lst (cX U.str (sg ++ [l])))=S2 at h2 f2;walk_at "pk";rw[GO h2]
 walk_at "pk";rw[h2.b]
 simp only[aF,true_and];refine⟨by simp;omega,?_⟩;have e2:cX bc bh ++ [U.int 0] = cX bc (bh ++ [0]):=by simp
 rw[e2]
 have h3:=h2.setB (bh':=bh ++ [0]);have f3:=f2.set (n:=L + 2) (o:=.lst (cX bc (bh ++ [0]))) (by omega) (by omega);generalize S2.set (L + 2) (.lst (cX bc (bh ++ [0])))=S3 at h3 f3;walk_at "pk";refine oJ h1 fun S4 x4 g4=>⟨rfl,?_⟩
 have:=h3.len;refine q S4 _ _ _ _ (f3.trans (Ext.fr x4)) (by omega) g4 (h3.ext x4) ⟨fun p=>so,fun p=>?_,by simp[size],fun q hq=>ak hq,fun q hq=>?_⟩
 ·rw[so];simp[IN,cont,dk]
 ·have:q=sg.length:=by simpa[IN] using hq
  subst this;refine⟨0,by rw[av (by omega),hb];simp,fun p=>by simp[cont,mK]⟩
def Tu(d:Nat)(t:Tr)(u:U):Prop:=bG t < d/\u=enc t
noncomputable def Q2:du:=(.cons (.set 4 (.cA "Layout" "lay" "Layout.lay" (.var 0) (.cons (.var 3) .nil)))
     (.cons (.ex (.cA "Layout" "link" "Layout.link" (.var 0) (.cons (.fld (.var 2) "lasts") (.cons (.fld (.var 4) "firsts") .nil))))
     (.cons (.set 2 (.call "one_behind_other" (.cons (.var 2) (.cons (.var 4) .nil)))) .nil)))
theorem zF (Γ:b7) (h2:Γ "Layout.lay" = gU (Tu d)) (h3:Γ "Layout.link" = GQ) (h4:Γ "one_behind_other" = pb qR)
  (da:bG a < d) (h:pY S L sg bh en) (hp:mT sg.length a) (hb:bh.length=sg.length) (hl:sg.length + size a<=100) (g:S[pw]? = some (HG e0 F0 Z0)) (pl:L + 4<=pw) (hz:∀p,Z0.testBit p=true->p < bh.length)
  (q:∀S' p F Z bh1 bh2 x,Fr L S S'->L + 4<=p->S'[p]? = some (HG (qR e0 F0 Z0 (null a) F Z).1 (qR e0 F0 Z0 (null a) F Z).2.1 (qR e0 F0 Z0 (null a) F Z).2.2)->pY S' L (sg ++ nH a) bh2 en->rT a bh F Z bh1->QY Z0 F bh1 bh2 ->
   D.nx [some (.loc L),some v1,some (.loc p),some (enc a),x] S'):Rest Γ Q2 D [some (.loc L),some v1,some (.loc pw),some (enc a),x4] S:=by
 unfold Q2;walk_at "pk";rw[h.o,bf]
 refine⟨⟨rfl,rfl⟩,?_⟩;refine ca h2 ⟨L,sg,bh,en,a,_,rfl,⟨da,rfl⟩,h,hp,hb,hl,fun S1 p F Z bh1 f1 pl1 g1 la1 r1=>?_⟩;have g0:=f1.get g pl;walk_at "pk";rw[la1.o,bf]
 refine⟨⟨rfl,rfl⟩,?_⟩;rw[zE g0,zD g1]
 refine ca h3 ⟨L,_,bh1,en,Z0,F,rfl,la1,by rw[r1.len];omega,fun p hp=>by rw[r1.len];have:=hz p hp;omega,fun S2 bh2 f2 la2 lk=>?_⟩;walk_at "pk";refine ca h4 ⟨pw,e0,F0,Z0,p,null a,F,Z,rfl,f2.get g0 pl,f2.get g1 pl1,fun S3 x3 g3=>?_⟩;walk_at "pk";have:=la2.len;exact q _ _ F Z bh1 bh2 _ ((f1.trans f2).trans (Ext.fr x3)) (by omega) g3 (la2.ext x3) r1 lk
theorem Q3:qR true 0 0 e F Z=(e,F,Z):=by
 unfold qR;rw[uv,uv]
 cases e<;>rfl
theorem U7:QQ false 0 0 e F Z=(e,F,Z):=by
 unfold QQ;rw[uv,uv];rfl
theorem Kf(hp:mT n a/\mT (n + size a) b)(hb:bh.length=n)(ra:rT a bh Fa Za bh1)(lk2:QY 0 Fa bh1 bh2)(rb:rT b bh2 Fb Zb bh3)(lk4:QY Za Fb bh3 bh4):
  rT (.row a b) bh (qR (null a) Fa Za (null b) Fb Zb).2.1 (qR (null a) Fa Za (null b) Fb Zb).2.2 bh4:=by
 have l1:=ra.len;have l2:=rb.len;have l3:=lk2.1;have l4:=lk4.1;have e12:∀q,q < bh1.length->bh2[q]? = bh1[q]?:=fun q hq=>by
  obtain⟨B',e1,e2⟩:=lk2.2 q _ (aa hq);rw[e1,aa hq]
  congr 1
  exact jD fun r=>by simp[e2]
 have e14:∀q B,q < bh1.length->bh1[q]? = some B->∃B',bh4[q]? = some B'/\∀r,B'.testBit r=(B.testBit r || (Za.testBit q && Fb.testBit r)):=fun q B hq e=>lk4.2 q B (by rw[rb.old q (by omega),e12 q hq];exact e)
 refine⟨fun p=>?_,fun p=>?_,by simp only[size];omega,fun q hq=>?_,fun q hq=>?_⟩
 ·simp only[qR,FS]
  cases null a<;>simp[cY,ra.f,rb.f]
 ·simp only[qR,IN,cont]
  by_cases z:IN a p=true
  ·have z2:IN b p=false:=by
    cases e:IN b p with
    | false=>rfl
    | true=>exact absurd z (fF hp e)
   have nb:dk [b] = null b:=by simp[dk]
   simp only[uf,nb,if_pos z];cases null b<;>simp[cY,ra.z,rb.z,z,z2]
  ·have z:IN a p=false:=by simpa using z
   cases null b<;>simp[cY,ra.z,rb.z,z]
 ·obtain⟨B',h1,h2⟩:=e14 q _ (by omega) ((ra.old q hq).trans (aa hq))
  rw[h1,aa hq]
  congr 1
  refine jD fun r=>?_
  have:IN a q=false:=by
   cases e:IN a q with
   | false=>rfl
   | true=>have:=(eF hp.1).mp e;omega
  rw[h2,ra.z,this];simp
 ·by_cases z:IN a q=true
  ·obtain⟨B,h1,h2⟩:=ra.new q z
   have:=(eF hp.1).mp z;obtain⟨B',h3,h4⟩:=e14 q B (by omega) h1;refine⟨B',h3,fun p=>?_⟩;have ec:cont (.row a b) q=cont a q ++ [b]:=by simp only[cont,if_pos z]
   rw[ec,k8,h4,h2,ra.z,rb.f,z]
   simp[mK]
  ·have z2:IN b q=true:=by simpa[IN,z] using hq
   obtain⟨B,h1,h2⟩:=rb.new q z2;obtain⟨B',h3,h4⟩:=lk4.2 q B h1;refine⟨B',h3,fun p=>?_⟩;have z:IN a q=false:=by simpa using z
   rw[h4,ra.z,z,h2]
   simp[cont,z]
theorem Q4 (Γ:b7) (d:Nat) (h1:Γ "Part.__init__" = yc) (h2:Γ "Layout.lay" = gU (Tu d)) (h3:Γ "Layout.link" = GQ) (h4:Γ "one_behind_other" = pb qR):
  Keeps Γ gE 3 (gU fun t u=>∃a b,t = .row a b/\bG a < d/\bG b < d/\u = .tup [enc a,enc b]):=by
 rintro us S Q E ⟨L,sg,bh,en,t,u,rfl,⟨a,b,rfl,da,db,rfl⟩,h,hp,hb,hl,q⟩;have hl:sg.length + (size a + size b)<=100:=hl;have hp:mT sg.length a/\mT (sg.length + size a) b:=hp;have ll:=gI a;unfold gE;walk_at "pk";refine oJ h1 (F:=0) (Z:=0) fun S1 x1 g1=>⟨rfl,?_⟩
 have p1:L + 4<=S.length:=h.len;have h':=h.ext x1;generalize S.length=pw at g1 p1;walk_at "pk";refine⟨by simp,?_⟩;simp only[tB];refine⟨trivial,zF Γ h2 h3 h4 da h' hp.1 hb (by omega) g1 p1 (by simp) fun S2 p2 Fa Za bh1 bh2 x f2 pl2 g2 la2 ra lk2=>?_⟩;rw[Q3] at g2;refine⟨trivial,zF Γ h2 h3 h4 db la2 (by rw[aC,ll];exact hp.2) (by rw[lk2.1,ra.len,hb];simp[ll]) (by simp;omega) g2 pl2 (fun p hp'=>?_) fun S3 p3 Fb Zb bh3 bh4 x' f3 pl3 g3 la3 rb lk4=>⟨trivial,?_⟩⟩
 ·rw[ra.z,ag] at hp'
  have:=(eF hp.1).mp hp'.1;rw[lk2.1,ra.len];omega
 ·walk_at "pk"
  exact q _ _ _ _ _ ((Ext.fr x1 |>.trans f2).trans f3) pl3 g3 (by rw[bB] at la3;exact la3) (Kf hp hb ra lk2 rb lk4)
theorem NU(hp:mT n a/\mT (n + size a) b)(hb:bh.length=n)(ra:rT a bh Fa Za bh1)(rb:rT b bh1 Fb Zb bh2):rT (.or a b) bh (Fa ||| Fb) (Za ||| Zb) bh2:=by
 have l1:=ra.len;have l2:=rb.len;refine⟨fun p=>by rw[cY,ra.f,rb.f];rfl,fun p=>?_,by simp only[size];omega,fun q hq=>(rb.old q (by omega)).trans (ra.old q hq),fun q hq=>?_⟩
 ·rw[cY,ra.z,rb.z]
  simp only[IN,cont];by_cases z:IN a p=true
  ·have z2:IN b p=false:=by
    cases e:IN b p with
    | false=>rfl
    | true=>exact absurd z (fF hp e)
   simp[z,z2]
  ·have z:IN a p=false:=by simpa using z
   simp[z]
 ·by_cases z:IN a q=true
  ·obtain⟨B,h1,h2⟩:=ra.new q z
   have:=(eF hp.1).mp z;exact⟨B,(rb.old q (by omega)).trans h1,fun p=>by rw[h2];simp[cont,z]⟩
  ·have z2:IN b q=true:=by simpa[IN,z] using hq
   obtain⟨B,h1,h2⟩:=rb.new q z2;exact⟨B,h1,fun p=>by rw[h2];simp[cont,z]⟩
theorem Q5 (Γ:b7) (d:Nat) (h1:Γ "Part.__init__" = yc) (h2:Γ "Layout.lay" = gU (Tu d)) (h4:Γ "one_or_other" = pb QQ):
  Keeps Γ eM 2 (gU fun t u=>∃a b,t = .or a b/\bG a < d/\bG b < d/\u = .tup [enc a,enc b]):=by
 rintro us S Q E ⟨L,sg,bh,en,t,u,rfl,⟨a,b,rfl,da,db,rfl⟩,h,hp,hb,hl,q⟩;have hl:sg.length + (size a + size b)<=100:=hl;have hp:mT sg.length a/\mT (sg.length + size a) b:=hp;have ll:=gI a;unfold eM;walk_at "pk";refine oJ h1 (F:=0) (Z:=0) fun S1 x1 g1=>⟨rfl,?_⟩
 have p1:L + 4<=S.length:=h.len;have h':=h.ext x1;generalize S.length=pw at g1 p1;walk_at "pk";refine⟨by simp,?_⟩;simp only[tB];refine⟨trivial,?_⟩;walk_at "pk";rw[h'.o,bf]
 refine⟨⟨rfl,rfl⟩,?_⟩;refine ca h2 ⟨L,sg,bh,en,a,_,rfl,⟨da,rfl⟩,h',hp.1,hb,by omega,fun S2 p2 Fa Za bh1 f2 pl2 g2 la2 ra=>?_⟩;refine ca h4 ⟨pw,_,_,_,p2,_,_,_,rfl,f2.get g1 p1,g2,fun S3 x3 g3=>?_⟩;rw[U7] at g3;have la3:=la2.ext x3;have p3:=la2.len;generalize S2.length=p3' at g3 p3;walk_at "pk";rw[la3.o,bf]
 refine⟨⟨rfl,rfl⟩,?_⟩;refine ca h2 ⟨L,_,bh1,en,b,_,rfl,⟨db,rfl⟩,la3,by rw[aC,ll];exact hp.2,by rw[ra.len,hb];simp[ll],by simp;omega,fun S4 p4 Fb Zb bh2 f4 pl4 g4 la4 rb=>?_⟩;refine ca h4 ⟨p3',_,_,_,p4,_,_,_,rfl,f4.get g3 p3,g4,fun S5 x5 g5=>?_⟩;have p5:=la4.len;walk_at "pk";exact q _ _ _ _ _ (((((Ext.fr x1).trans f2).trans (Ext.fr x3)).trans f4).trans (Ext.fr x5)) p5 g5 (by have:=la4.ext x5;rw[bB] at this;exact this) (NU hp hb ra rb)
noncomputable def DF:Mk->Bool
 | .may=>false
 | _=>true
noncomputable def DG:Mk->Bool
 | .plus=>false
 | _=>true
structure La (t:Tr) (ms:List Mk) (a:Tr):Prop where
 fs:∀p,FS t p=FS a p
 nl:null t=(null a || ms.any DG)
 U8:∀p,IN t p=IN a p
 ct:∀p,∃R,cont t p=cont a p ++ R/\dk R=true/\∀r,mK R r=(ms.any DF && FS a r)
 sz:size t=size a
 lv:nH t=nH a
 pl:∀n,mT n t->mT n a
theorem La.zero(t:Tr):La t [] t:=⟨fun _=>rfl,by simp,fun _=>rfl,fun p=>⟨[],by simp,rfl,fun r=>by simp[mK]⟩,rfl,rfl,fun _ h=>h⟩
theorem La.next(h:La t ms (.rep m a)):La t (ms ++ [m]) a:=by
 refine⟨h.fs,?_,h.U8,fun p=>?_,h.sz,h.lv,h.pl⟩
 ·rw[h.nl]
  cases m<;>simp[null,DG]
 ·obtain⟨R,h1,h2,h3⟩:=h.ct p
  refine⟨more m a ++ R,by rw[h1];simp[cont],?_,fun r=>?_⟩
  ·rw[uf,h2];cases m<;>simp[more,dk,null]
  ·rw[k8,h3]
   cases m<;>simp[more,mK,FS,dk,null,DF]
theorem Ck(k:La t ms a)(hp:mT n a)(hb:bh.length=n)(ra:rT a bh F Z bh1)
  (lk:if ms.any DF=true then QY Z F bh1 bh2 else bh2=bh1):rT t bh F Z bh2:=by
 have eZ:∀p,dk (cont t p)=dk (cont a p):=fun p=>by
  obtain⟨R,h1,h2,_⟩:=k.ct p;rw[h1,uf,h2,yx]
 have l1:=ra.len;have key:∀(q B:Nat),bh1[q]? = some B->∃B',bh2[q]? = some B'/\∀r,B'.testBit r=(B.testBit r || (ms.any DF && (Z.testBit q && F.testBit r))):=fun q B e=>by
  split at lk
  ·rename_i z
   obtain⟨B',e1,e2⟩:=lk.2 q B e;exact⟨B',e1,fun r=>by rw[e2,z,yw]⟩
  ·rename_i z
   subst lk;exact⟨B,e,fun r=>by simp[fh _ |>.mp z]⟩
 have l2:bh2.length=bh1.length:=by
  split at lk
  ·exact lk.1
  ·rw[lk]
 refine⟨fun p=>by rw[ra.f,k.fs],fun p=>by rw[ra.z,k.U8,eZ],by rw[l2,l1,k.sz],fun q hq=>?_,fun q hq=>?_⟩
 ·obtain⟨B',h1,h2⟩:=key q _ ((ra.old q hq).trans (aa hq))
  rw[h1,aa hq]
  congr 1
  refine jD fun r=>?_
  have:IN a q=false:=by
   cases e:IN a q with
   | false=>rfl
   | true=>have:=(eF hp).mp e;omega
  rw[h2,ra.z,this];simp
 ·rw[k.U8] at hq
  obtain⟨B,h1,h2⟩:=ra.new q hq;obtain⟨B',h3,h4⟩:=key q B h1;refine⟨B',h3,fun p=>?_⟩;obtain⟨R,e1,e2,e3⟩:=k.ct q;rw[h4,h2,e1,k8,e3,ra.z,ra.f,hq,yw]
  cases mK (cont a q) p<;>cases dk (cont a q)<;>cases FS a p<;>simp
theorem Wl:pH (.str k) [.str j0,.str nG,.str jv] q=q (j0 == k || (nG == k || jv == k)):=by
 have:=anyS (a:=k) (l:=[j0,nG,jv]) (q:=q);simpa using this
theorem GU(ms:List Mk)(a b:List Nat):(ms.any fun m=>mF m == a || mF m == b)=(((ms.map mF).any (· == a)) || ((ms.map mF).any (· == b))):=by
 induction ms with
 | nil=>rfl
 | cons m ms ih=>
  rw[dG,aE,dG,dG,ih]
  cases (mF m == a)<;>cases (mF m == b)<;>simp
theorem NV(ms:List Mk):ms.any DF=(((ms.map mF).any (· == j0)) || ((ms.map mF).any (· == nG))):=by
 rw[<-GU]
 congr 1;funext m
 cases m<;>rfl
theorem NW(ms:List Mk):ms.any DG=(((ms.map mF).any (· == j0)) || ((ms.map mF).any (· == jv))):=by
 rw[<-GU]
 congr 1;funext m
 cases m<;>rfl
theorem Kg(m:Mk):(j0 == mF m || (nG == mF m || jv == mF m))=true:=by cases m<;>rfl
noncomputable def SS:du:=(.cons (.set 5 (.or (.fld (.var 4) "empty") (.or (.cmp .isin (.lit (.str [115,116,97,114])) (.var 2)) (.cmp .isin (.lit (.str [109,97,121,98,101])) (.var 2)))))
   (.cons (.ret (.mk "Part" "Part.__init__" (.cons (.var 5) (.cons (.fld (.var 4) "firsts") (.cons (.fld (.var 4) "lasts") .nil))))) .nil))
noncomputable def U9:du:=(.cons (.ex (.cA "Layout" "link" "Layout.link" (.var 0) (.cons (.fld (.var 4) "lasts") (.cons (.fld (.var 4) "firsts") .nil)))) .nil)
noncomputable def Va:du:=(.cons (.set 4 (.cA "Layout" "lay" "Layout.lay" (.var 0) (.cons (.var 3) .nil)))
   (.cons (.ifs (.or (.cG (.cmp .isin (.lit (.str [115,116,97,114])) (.var 2))) (.cG (.cmp .isin (.lit (.str [112,108,117,115])) (.var 2)))) U9 .nil) SS))
theorem Q6 (Γ:b7) (d:Nat) (hd:d<=100) (h1:Γ "Part.__init__" = yc) (h2:Γ "Layout.lay" = gU (Tu d)) (h3:Γ "Layout.link" = GQ):
  Keeps Γ eO 4 (gU fun t u=>∃m a,t = .rep m a/\bG a < d/\u=enc t):=by
 rintro us S Q E ⟨L,sg,bh,en,t,u,rfl,⟨m0,a0,et,da,rfl⟩,h,hp,hb,hl,q⟩;have sl:=h.len;have fin:∀(ms:List Mk) (a:Tr) (S2:bR),La t ms a->bG a < d->(∀n,n < S.length->S2[n]? = S[n]?)->S2[S.length]? = some (.lst (ms.map fun m=>U.str (mF m)))->Rest Γ Va ⟨fun _ S1=>Q .bQ S1,Q,fun _=>E⟩ [some (.loc L),some (enc t),some (.loc S.length),some (enc a),none,none] S2:=by
  intro ms a S2 mk da e2 g2;have x2:Ext S S2:=⟨rJ (cj g2),e2⟩
  have la:=h.ext x2;have sz:=mk.sz;have hpa:=mk.pl _ hp;unfold Va;walk_at "pk";rw[la.o,bf]
  refine⟨⟨rfl,rfl⟩,?_⟩;refine ca h2 ⟨L,sg,bh,en,a,_,rfl,⟨da,rfl⟩,la,hpa,hb,by omega,fun S3 p F Z bh1 f3 pl3 g3 la3 ra=>?_⟩;have gm:∀S4,Fr L S3 S4->S4[S.length]? = some (.lst ((ms.map mF).map .str)):=fun S4 f4=>by rw[bI];exact f4.get (f3.get g2 sl) sl
  have fin2:∀S4 bh2,Fr L S3 S4->pY S4 L (sg ++ nH a) bh2 en->rT t bh F Z bh2->Rest Γ SS ⟨fun _ S1=>Q .bQ S1,Q,fun _=>E⟩ [some (.loc L),some (enc t),some (.loc S.length),some (enc a),some (.loc p),none] S4:=by
   intro S4 bh2 f4 la4 r4;have g4:=f4.get g3 pl3;have en4:∀e,e=null t->Rest Γ (.cons (.ret (.mk "Part" "Part.__init__" (.cons (.var 5) (.cons (.fld (.var 4) "firsts") (.cons (.fld (.var 4) "lasts") .nil))))) .nil) ⟨fun _ S1=>Q .bQ S1,Q,fun _=>E⟩ [some (.loc L),some (enc t),some (.loc S.length),some (enc a),some (.loc p),some (.bl e)] S4:=by
    rintro e rfl;walk_at "pk";rw[zD g4,zE g4]
    refine oJ h1 fun S5 x5 g5=>⟨rfl,?_⟩
    exact q _ _ _ _ _ (((Ext.fr x2).trans f3).trans (f4.trans (Ext.fr x5))) la4.len g5 (by rw[mk.lv];exact la4.ext x5) r4
   have nl:=mk.nl;rw[NW] at nl;unfold SS;walk_at "pk";rw[DE g4]
   walk_at "pk";rw[gm S4 f4]
   simp only[aF,anyS,Fi];cases e1:null a<;>cases e2:(ms.map mF).any (· == j0)<;>simp only[e1,e2,aq,if_false,if_true,aF,anyS]<;>refine en4 _ ?_<;>rw[nl,e1,e2]<;>simp
  have hs:=NV ms;have lnk:ms.any DF=true->Rest Γ U9 ⟨fun en S4=>Rest Γ SS ⟨fun _ S1=>Q .bQ S1,Q,fun _=>E⟩ en S4,Q,fun _=>E⟩ [some (.loc L),some (enc t),some (.loc S.length),some (enc a),some (.loc p),none] S3:=by
   intro z;unfold U9;walk_at "pk";rw[la3.o,bf]
   refine⟨⟨rfl,rfl⟩,?_⟩;rw[zE g3,zD g3]
   refine ca h3 ⟨L,_,bh1,en,Z,F,rfl,la3,by rw[ra.len];omega,fun p hp'=>?_,fun S4 bh2 f4 la4 lk=>?_⟩
   ·rw[ra.z,ag] at hp'
    have:=(eF hpa).mp hp'.1;rw[ra.len];omega
   ·exact Rest.go (fin2 S4 bh2 f4 la4 (Ck mk hpa hb ra (by rw[if_pos z];exact lk)))
  walk_at "pk";rw[gm S3 .refl]
  simp only[aF,anyS];cases e1:(ms.map mF).any (· == j0)<;>cases e2:(ms.map mF).any (· == nG)<;>rw[e1,e2] at hs<;>simp only[e1,e2,aq,if_false,if_true,aF,anyS]
  ·exact Rest.go (fin2 S3 bh1 .refl la3 (Ck mk hpa hb ra (by rw[if_neg (by simp[hs])])))
  ·exact lnk hs
  ·exact lnk hs
  ·exact lnk hs
 unfold eO;walk_at "pk";refine⟨by simp,?_⟩;walk_at "pk";have x0:Ext S (S ++ [SO.lst []]):=Ext.app _;have g0:(S ++ [SO.lst []])[S.length]? = some (.lst (([]:List Mk).map fun m=>U.str (mF m))):=by simp
 have dt:bG t<=d:=by rw[et];exact da
 refine⟨bG t + 1,k7 (fun n env S2=>∃ms a,n=bG a/\La t ms a/\(a=t\/bG a < d)/\ms.length + bG a<=200/\env = [some (.loc L),some (enc t),some (.loc S.length),some (enc a),none,none]/\(∀n,n < S.length->S2[n]? = S[n]?)/\S2[S.length]? = some (.lst (ms.map fun m=>U.str (mF m)))) ?_ _ (bG t) _ _ (by omega) ⟨[],t,rfl,.zero t,.inl rfl,by simp;omega,rfl,x0.2,g0⟩⟩;rintro n env S2 K ⟨ms,a,rfl,mk,hda,hms,rfl,e2,g2⟩ hK;have out:(∀m a',a≠.rep m a')->bG a < d:=fun z=>by
  rcases hda with rfl | z2
  ·exact absurd et (z m0 a0)
  ·exact z2
 have stop:∀k x,enc a = .tup [.str k,x]->(j0 == k || (nG == k || jv == k))=false->bG a < d->WT Γ (.cG (.cmp .isin (.ix (.var 3) (.lit (.int 0))) (.tup (.cons (.lit (.str [115,116,97,114])) (.cons (.lit (.str [112,108,117,115])) (.cons (.lit (.str [109,97,121,98,101])) .nil)))))) [some (.loc L),some (enc t),some (.loc S.length),some (enc a),none,none] S2
   (fun t1 S1=>if t1=true then Rest Γ (.cons (.ex (.kH .append (.var 2) (.cons (.ix (.var 3) (.lit (.int 0))) .nil))) (.cons (.set 3 (.ix (.var 3) (.lit (.int 1)))) .nil)) ⟨K,Q,fun _=>E⟩ [some (.loc L),some (enc t),some (.loc S.length),some (enc a),none,none] S1 else Rest Γ Va ⟨fun _ S1=>Q .bQ S1,Q,fun _=>E⟩ [some (.loc L),some (enc t),some (.loc S.length),some (enc a),none,none] S1) E:=by
  intro k x ek ek2 da;have:=fin ms a S2 mk da e2 g2;rw[ek] at this ⊢;walk_at "pk";rw[lT,aW]
  refine⟨by simp,by simp,?_⟩;rw[Wl,ek2]
  exact this
 cases a with
 | one k l=>exact stop _ _ rfl rfl (out fun _ _ z=>nomatch z)
 | row a b=>exact stop _ _ rfl rfl (out fun _ _ z=>nomatch z)
 | or a b=>exact stop _ _ rfl rfl (out fun _ _ z=>nomatch z)
 | rep m a=>
  have ek:enc (.rep m a)= .tup [.str (mF m),enc a]:=rfl;have dr:bG (.rep m a)=bG a + 1:=rfl;rw[ek]
  walk_at "pk";rw[lT,aW]
  refine⟨by simp,by simp,?_⟩;rw[Wl,Kg]
  walk_at "pk";rw[g2]
  simp only[aF,lT,jj,aW];refine⟨trivial,by simp,by simp;omega,?_⟩;walk_at "pk";simp only[jj,aW];refine⟨by simp,?_⟩;try walk_at "pk"
  refine hK (bG a) _ _ (by omega) ⟨ms ++ [m],a,rfl,mk.next,.inr (by rcases hda with rfl | z<;>omega),by simp;omega,rfl,fun n hn=>?_,by rw[gs g2];simp⟩;rw[au (by omega)];exact e2 n hn
section
variable {Γ:b7} {D:Ends} {env:Env} {S:bR} {i:Nat} {k k':List Nat} {x:U} {a b ss:du}
theorem p9(h:env[i]? = some (some (.tup [.str k,x])))(e:(k == k')=true)(q:Rest Γ a ⟨fun en S1=>Rest Γ ss D en S1,D.rt,D.ex⟩ env S):Rest Γ (.cons (.ifs (.cG (.cmp .eq (.ix (.var i) (.lit (.int 0))) (.lit (.str k')))) a b) ss) D env S:=by
 walk_at "pk";rw[h]
 simp only[vG,BX,lT,aW,P2,e,if_true];exact⟨by simp,q⟩
theorem iL(h:env[i]? = some (some (.tup [.str k,x])))(e:(k == k')=false)(q:Rest Γ ss D env S):Rest Γ (.cons (.ifs (.cG (.cmp .eq (.ix (.var i) (.lit (.int 0))) (.lit (.str k')))) a .nil) ss) D env S:=by
 walk_at "pk";rw[h]
 simp only[vG,BX,lT,aW,P2,e,aq,if_false];exact⟨by simp,q⟩
end
theorem NX (Γ:b7) (d:Nat) (h1:Γ "Layout.lay_place" = gU fun t u=>∃n l,t = .one n l/\u = .str l) (h2:Γ "Layout.lay_row" = gU fun t u=>∃a b,t = .row a b/\bG a < d/\bG b < d/\u = .tup [enc a,enc b])
  (h3:Γ "Layout.lay_choice" = gU fun t u=>∃a b,t = .or a b/\bG a < d/\bG b < d/\u = .tup [enc a,enc b]) (h4:Γ "Layout.lay_repeat" = gU fun t u=>∃m a,t = .rep m a/\bG a < d/\u=enc t):Keeps Γ jH 0 (gU (Tu (d + 1))):=by
 rintro us S Q E ⟨L,sg,bh,en,t,u,rfl,⟨dt,rfl⟩,h,hp,hb,hl,q⟩;unfold jH;cases t with
 | one n l=>
  refine p9 rfl rfl ?_;simp only[enc];walk_at "pk";rw[h.o,bf,jj]
  exact⟨⟨rfl,rfl⟩,by simp,ca h1 ⟨L,sg,bh,en,_,_,rfl,⟨n,l,rfl,rfl⟩,h,hp,hb,hl,q⟩⟩
 | row a b=>
  have dt:max (bG a) (bG b) + 1 < d + 1:=dt;refine iL rfl rfl (p9 rfl rfl ?_);simp only[enc];walk_at "pk";rw[h.o,bf,jj]
  exact⟨⟨rfl,rfl⟩,by simp,ca h2 ⟨L,sg,bh,en,_,_,rfl,⟨a,b,rfl,by omega,by omega,rfl⟩,h,hp,hb,hl,q⟩⟩
 | or a b=>
  have dt:max (bG a) (bG b) + 1 < d + 1:=dt;refine iL rfl rfl (iL rfl rfl (p9 rfl rfl ?_));simp only[enc];walk_at "pk";rw[h.o,bf,jj]
  exact⟨⟨rfl,rfl⟩,by simp,ca h3 ⟨L,sg,bh,en,_,_,rfl,⟨a,b,rfl,by omega,by omega,rfl⟩,h,hp,hb,hl,q⟩⟩
 | rep m a=>
  have dt:bG a + 1 < d + 1:=dt;have k1:(mF m == J0)=false/\(mF m == Bb)=false/\(mF m == OO)=false:=by cases m<;>exact⟨rfl,rfl,rfl⟩
  refine iL rfl k1.1 (iL rfl k1.2.1 (iL rfl k1.2.2 ?_));walk_at "pk";rw[h.o,bf]
  exact⟨⟨rfl,rfl⟩,ca h4 ⟨L,sg,bh,en,_,_,rfl,⟨m,a,rfl,by omega,rfl⟩,h,hp,hb,hl,q⟩⟩
noncomputable def oA(f:List Nat->Bool)(sg:List (List Nat))(p:Nat):Bool:=((sg[p]?).map f).getD false
theorem wb(f:List Nat->Bool)(sg:List (List Nat))(hg:g S)(hl:sg.length<=100)
  (hc:∀(i:Nat) l k,k (f l) S->c (.tup [bc i,.str l]) S k) (he:∀(i:Nat) l k,i<=100->k (bc (1 <<< i)) S->e (.tup [bc i,.str l]) S k)
  (q:∀(is:List Int) (b:Nat),is.sum=b->(∀p,b.testBit p=oA f sg p)->Q (is.map .int) S):nB g c e Q ((sg.map U.str).mapIdx fun i u=>.tup [.int (i:Nat),u]) [] S:=by
 refine fG _ (fun i acc S'=>S'=S/\∃(is:List Int) (b:Nat),acc=is.map .int/\is.sum=b/\b < 2 ^ i/\is.length<=i/\∀p,b.testBit p=(decide (p < i) && oA f sg p)) (fun i acc S' hi h=>?_) (fun i u acc S' k hu hi hk=>?_) (fun acc S' h=>?_) ⟨rfl,[],0,rfl,rfl,by simp,by simp,by simp⟩
 ·obtain⟨rfl,is,b,rfl,_,_,hl',_⟩:=h
  simp at hi;exact⟨hg,by simp;omega⟩
 ·obtain⟨rfl,is,b,rfl,h1,h2,h3,h4⟩:=hi
  simp only[jz,aw] at hu;cases es:sg[i]? with
  | none=>rw[es] at hu;simp at hu
  | some l=>
   rw[es] at hu;simp only[jw,ow] at hu;subst hu;have il:=(ae.mp es).1;have hi:oA f sg i=f l:=by unfold oA;rw[es];rfl
   refine hc i l _ ?_;cases z:f l with
   | false=>
    rw[if_neg (by simp)]
    refine hk _ _ ⟨rfl,is,b,rfl,h1,by rw[fK];omega,by omega,fun p=>?_⟩;rw[h4]
    by_cases zp:p=i
    ·subst zp;simp[hi,z]
    ·have:(p < i)↔(p < i + 1):=by omega
     simp only[this]
   | true=>
    rw[if_pos rfl]
    refine he i l _ (by omega) (hk _ _ ⟨rfl,is ++ [((1 <<< i:Nat):Int)],2 ^ i + b,by simp,?_,by rw[fK];omega,by simp;omega,fun p=>?_⟩)
    ·rw[HY,h1,rL];simp;omega
    ·by_cases zp:p=i
     ·subst zp
      rw[Nat.testBit_two_pow_add_eq,Ae h2];simp[hi,z]
     ·by_cases zl:p < i
      ·rw[Nat.testBit_two_pow_add_gt zl,h4]
       simp[zl,cP zl]
      ·rw[Ae (aL (show 2 ^ i + b < 2 ^ (i + 1) by rw[fK];omega) (bw (by omega) (by omega)))]
       have:¬p < i + 1:=by omega
       simp[this]
 ·obtain⟨rfl,is,b,rfl,h1,_,_,h4⟩:=h
  refine q is b h1 fun p=>?_
  rw[h4]
  simp only[D7,ar];by_cases z:p < sg.length
  ·simp[z]
  ·unfold oA
   rw[nP (by omega)];simp
theorem zG(h:oA f sg p=true):∃l,sg[p]? = some l/\f l=true:=by
 unfold oA at h;cases e:sg[p]? with
 | none=>rw[e] at h;simp at h
 | some l=>rw[e] at h;exact⟨l,rfl,h⟩
def Lb:Spec:=fun us S Q _=>∃L sg bh en c,us = [.loc L,.str [c]]/\pY S L sg bh en/\sg.length<=100/\∀(b:Nat) S',Ext S S'->(∀p,b.testBit p=oA (·.contains c) sg p)->Q (bc b) S'
theorem NY(Γ:b7):Keeps Γ fw 0 Lb:=by
 rintro us S Q E ⟨L,sg,bh,en,c,rfl,h,hl,q⟩;unfold fw;walk_at "pk";rw[GN h]
 walk_at "pk";rw[h.s,aF]
 refine wb (·.contains c) sg h.s hl (fun i l k z=>?_) (fun i l k hi z=>?_) fun is b e hb=>?_
 ·walk_at "pk"
  exact z
 ·walk_at "pk"
  exact⟨by omega,z⟩
 ·exact⟨is,by simp,by rw[e];exact q b _ (Ext.app _) hb⟩
noncomputable def DH(l:List Nat):Bool:=!(l == [])
structure Kh (sg:List (List Nat)) (bh en:List Nat) (u:Nat):Prop where
 e:∀(Z p:Nat),Z∈en->Z.testBit p=true->oA DH sg p=true->u.testBit p=true
 b:∀(q B p:Nat),oA DH sg q=true->bh[q]? = some B->B.testBit p=true->u.testBit p=true->u.testBit q=true
def Q7:Spec:=fun us S Q _=>∃L sg bh en,us = [.loc L]/\pY S L sg bh en/\sg.length<=100/\bh.length=sg.length/\∀(u:Nat) S',Ext S S'->Kh sg bh en u->Q (bc u) S'
theorem Q8 (Γ:b7) (h1:Γ "members" = zC):Keeps Γ ie 5 Q7:=by
 rintro us S Q E ⟨L,sg,bh,en,rfl,h,hl,hb,q⟩;unfold ie;walk_at "pk";rw[GN h]
 walk_at "pk";rw[h.s,aF]
 refine wb DH sg h.s hl (fun i l k z=>?_) (fun i l k hi z=>?_) fun is T e hT=>⟨is,by simp,?_⟩
 ·walk_at "pk"
  exact z
 ·walk_at "pk"
  exact⟨by omega,z⟩
 rw[e]
 have x0:Ext S (S ++ [SO.lst (is.map U.int)]):=Ext.app _;have h':=h.ext x0;generalize S ++ [SO.lst (is.map U.int)] = S0 at x0 h';have Tlt:∀p,T.testBit p=true->p < sg.length:=fun p hp=>by
  rw[hT] at hp;obtain⟨l,e,_⟩:=zG hp;exact(ae.mp e).1
 have Tl:T < 2 ^ sg.length:=j6 Tlt;walk_at "pk";rw[NQ h']
 walk_at "pk";rw[h'.e,aF]
 refine eR (fun i env S2=>S2=S0/\∃(gr:Nat) (x3:Option U),env = [some (.loc L),some (bc T),some (bc gr),x3,none,none]/\gr < 2 ^ sg.length/\∀(Z p:Nat),Z∈en.take i->Z.testBit p=true->T.testBit p=true->gr.testBit p=true) (fun i env S2 z=>z.1 ▸ h'.e) _ ?_ ?_ ⟨rfl,0,none,rfl,Nat.two_pow_pos _,by simp⟩
 ·rintro i u env S2 K hu ⟨rfl,gr,x3,rfl,hgr,inv⟩ hK
  rw[aw] at hu;obtain⟨Z,hZ,rfl⟩:=af.mp hu;walk_at "pk";have et:en.take (i + 1)=en.take i ++ [Z]:=by rw[bZ,hZ];rfl
  refine hK _ _ ⟨rfl,gr ||| (Z &&& T),_,rfl,Hx hgr (j6 fun p hp=>?_),fun Z' p m h1 h2=>?_⟩
  ·rw[cR,ag] at hp;exact Tlt p hp.2
  ·rw[et] at m
   rw[cY,cR]
   rcases aQ.mp m with m | m
   ·rw[inv Z' p m h1 h2];rfl
   ·simp at m;subst m;rw[h1,h2];simp
 ·rintro env S2 ⟨rfl,gr,x3,rfl,hgr,inv⟩
  walk_at "pk";rw[ar,cF] at inv;have out:∀ {S3:bR} {u:Nat},Ext S S3->(∀p,gr.testBit p=true->u.testBit p=true)->(∀(q B p:Nat),T.testBit q=true->bh[q]? = some B->B.testBit p=true->u.testBit p=true->u.testBit q=true)->Q (bc u) S3:=fun x3 a b=>
   q _ _ x3 ⟨fun Z p m z1 z2=>a p (inv Z p m z1 (by rw[hT];exact z2)),fun q B p z1=>b q B p (by rw[hT];exact z1)⟩
  refine⟨2 ^ sg.length + 1,k7 (fun n env S3=>∃(g2 u:Nat) (x3 x5:Option U),n=2 ^ sg.length - u/\env = [some (.loc L),some (bc T),some (bc g2),x3,some (bc u),x5]/\Ext S S3/\pY S3 L sg bh en/\u<=g2/\g2 < 2 ^ sg.length/\(∀p,gr.testBit p=true->g2.testBit p=true) /\
   ∀(q B p:Nat),T.testBit q=true->bh[q]? = some B->B.testBit p=true->u.testBit p=true->g2.testBit q=true) ?_ _ (2 ^ sg.length) _ _ (by omega) ⟨gr,0,x3,none,by omega,rfl,x0,h',by omega,hgr,fun _ z=>z,fun q B p _ _ _ z=>by simp at z⟩⟩
  rintro n env S3 K ⟨g2,u,x3,x5,rfl,rfl,x3',h3,hu,hg,ia,ib⟩ hK;walk_at "pk";by_cases z:g2=u
  ·subst z
   simp only[beq_self_eq_true,bJ,aq,if_false];walk_at "pk";exact out x3' ia ib
  ·have:((g2:Int)== (u:Int))=false:=by
    rw[beq_eq_false_iff_ne];omega
   simp only[this,cq,if_true];walk_at "pk";refine ca h1 ⟨T,rfl,aL Tl (bw (by omega) hl),fun m S4 x4 hm g4=>?_⟩;walk_at "pk";rw[g4,aF]
   have h4:=h3.ext x4;refine eR (fun i env S5=>S5=S4/\∃(g3:Nat) (x5:Option U),env = [some (.loc L),some (bc T),some (bc g3),x3,some (bc g2),x5]/\g2<=g3/\g3 < 2 ^ sg.length/\(∀p,g2.testBit p=true->g3.testBit p=true) /\
    ∀(q B p:Nat),q∈(qQ T).take i->bh[q]? = some B->B.testBit p=true->g2.testBit p=true->g3.testBit q=true) (fun i env S5 z=>z.1 ▸ g4) _ ?_ ?_ ⟨rfl,g2,x5,rfl,ax _,hg,fun _ z=>z,by simp⟩
   ·rintro i v env S5 K' hv ⟨rfl,g3,x5,rfl,j1,j2,j3,j4⟩ hK'
    rw[aw] at hv;obtain⟨p,hp,rfl⟩:=af.mp hv;have pT:=j7.mp (aB hp);have pl:=Tlt p pT;have et:(qQ T).take (i + 1)=(qQ T).take i ++ [p]:=by rw[bZ,hp];rfl
    walk_at "pk";rw[GO h4]
    walk_at "pk";rw[h4.b,aF,gZ]
    refine sk (aa (by omega)) ?_;walk_at "pk";by_cases w:(((bh[p]'(by omega) &&& g2:Nat):Int) != 0)=true
    ·rw[if_pos w]
     walk_at "pk";refine⟨by omega,?_⟩;try walk_at "pk"
     refine hK' _ _ ⟨rfl,g3 ||| 1 <<< p,_,rfl,aR j1 Nat.left_le_or,Hx j2 (j6 fun r hr=>?_),fun r hr=>by rw[cY,j3 r hr];rfl,fun q B r m e1 e2 e3=>?_⟩
     ·rw[so] at hr;have:=eq_of_beq hr;omega
     ·rw[et] at m
      rw[cY,so]
      rcases aQ.mp m with m | m
      ·rw[j4 q B r m e1 e2 e3];rfl
      ·simp at m;subst m;simp
    ·rw[if_neg w]
     walk_at "pk";refine hK' _ _ ⟨rfl,g3,_,rfl,j1,j2,j3,fun q B r m e1 e2 e3=>?_⟩;rw[et] at m;rcases aQ.mp m with m | m
     ·exact j4 q B r m e1 e2 e3
     ·simp at m;subst m
      refine absurd (Bg.mpr ⟨r,?_⟩) w;rw[aa (by omega)] at e1;injection e1 with e1
      rw[e1,cR,e2,e3];rfl
   ·rintro env S5 ⟨rfl,g3,x5,rfl,j1,j2,j3,j4⟩
    rw[ar,cF] at j4;walk_at "pk";exact hK (2 ^ sg.length - g2) _ _ (by omega) ⟨g3,g2,_,_,rfl,rfl,x3'.trans x4,h4,j1,j2,fun p hp=>j3 p (ia p hp),fun q B p z1=>j4 q B p (j7.mpr z1)⟩
noncomputable def jm(f:List Nat->Bool):List (List Nat)->Nat
 | []=>0
 | l::r=>(if f l=true then 1 else 0) + 2 * jm f r
theorem uh:∀ {sg:List (List Nat)} {p:Nat},(jm f sg).testBit p=oA f sg p
 | [],p=>by simp[jm,oA]
 | l::r,0=>by
  unfold jm oA;rw[Nat.testBit_zero]
  cases z:f l<;>simp[z]<;>omega
 | l::r,p + 1=>by
  unfold jm;have e:((if f l=true then 1 else 0) + 2 * jm f r) / 2=jm f r:=by split<;>omega
  rw[Nat.testBit_succ,e,uh]
  rfl
section
variable {S S1 S2:bR} {r n:Nat} {o:SO}
theorem mU(a:Old r S S1)(h:S[n]? = some o)(ne:n≠r):S1[n]? = some o:=(a.2 n (cj h) ne).trans h
theorem NZ(a:Old r S S1)(b:Ext S1 S2):Old r S S2:=a.trans (Ext.old b)
theorem uY{c f:String}{fs:List (String × U)}{v:U}{K:bR->Prop}(h:S[r]? = some (.ins c fs))(hl:fs.length < 100)(q:∀S',Old r S S'->S'.length=S.length->S'[r]? = some (.ins c (fL f v fs))->K S'):
  mP S[r]? fun c fs=>fs.length < 100/\K (S.set r (.ins c (fL f v fs))):=by
 rw[h,bf]
 exact⟨hl,q _ (ke.set h).old (by simp) (gs h)⟩
end
structure Ed (S:bR) (P:Nat) (bh en:List Nat) (tk:Nat->Nat):Prop where
 o:∃b e k,S[P]? = some (.ins "Places" [("behind",.loc b),("ends",.loc e),("takers",.loc k)])/\S[b]? = some (.lst (bh.map bc))/\S[e]? = some (.lst (en.map bc))/\S[k]? = some (.uz (SG.map fun c=>(.str [c],bc (tk c))))
theorem Ed.ext(h:Ed S P bh en tk)(x:Ext S S'):Ed S' P bh en tk:=by
 obtain⟨b,e,k,h1,h2,h3,h4⟩:=h.o;exact⟨b,e,k,x.get h1,x.get h2,x.get h3,x.get h4⟩
def N0:Spec:=fun us S Q _=>∃P L sg bh en,us = [.loc P,.loc L]/\S[P]? = some (.ins "Places" [])/\S.length=P + 1/\pY S L sg bh en/\sg.length<=100/\bh.length=sg.length/\en.length<=100 /\
 ∀u S',Kh sg bh en u->(∀n,n < P->S'[n]? = S[n]?)->Ed S' P (bh.map (· &&& u)) en (fun c=>jm (·.contains c) sg)->Q .bQ S'
theorem Q9:(SG.map fun c=>[c]).Nodup:=by decide
theorem Ra (Γ:b7) (h1:Γ "useful_places" = Q7) (h2:Γ "places_that_take" = Lb):Keeps Γ ja 1 N0:=by
 rintro us S Q E ⟨P,L,sg,bh,en,rfl,hP,hs,h,hl,hb,he,q⟩;unfold ja;have nd:=Q9;generalize hG:SG=G at nd;have gl:G.length=95:=by rw[<-hG];rfl
 walk_at "pk";refine ca h1 ⟨L,sg,bh,en,rfl,h,hl,hb,fun u S1 x1 hu=>?_⟩;have la:=h.ext x1;have hP1:=x1.get hP;have ne:L + 4<=P:=by
  have:=h.len;have n0:¬L=P:=fun z=>by rw[z] at h;rw[h.o] at hP;simp at hP
  have n1:¬L + 1=P:=fun z=>by rw[<-z,h.s] at hP;simp at hP
  have n2:¬L + 2=P:=fun z=>by rw[<-z,h.b] at hP;simp at hP
  have n3:¬L + 3=P:=fun z=>by rw[<-z,h.e] at hP;simp at hP
  omega
 walk_at "pk";rw[GO la]
 walk_at "pk";rw[la.b,aF]
 refine wa (S:=S1) _ (fun _=>true) (fun v=>match v with | .int i=>bc (i.toNat &&& u) | v=>v) la.b (by simp;omega) (fun v k _ z=>z.1 rfl) (fun v k hv _ z=>?_) ?_
 ·obtain⟨B,_,rfl⟩:=bT.mp hv
  walk_at "pk";exact z
 have e1:(List.filter (fun _=>true) (bh.map bc)).map (fun v=>match v with | .int i=>bc (i.toNat &&& u) | v=>v)=(bh.map (· &&& u)).map bc:=by
  rw[List.filter_eq_self.mpr (fun _ _=>rfl),bI,bI];rfl
 rw[e1]
 have x2:Ext S1 (S1 ++ [SO.lst ((bh.map (· &&& u)).map bc)]):=Ext.app _;have g2:(S1 ++ [SO.lst ((bh.map (· &&& u)).map bc)])[S1.length]? = some (.lst ((bh.map (· &&& u)).map bc)):=by simp
 have n2:S1.length≠P:=by have:=x1.1;omega
 generalize S1.length=b at g2 n2;generalize S1 ++ [SO.lst ((bh.map (· &&& u)).map bc)] = S2 at g2 x2;refine uY (x2.get hP1) (by simp) fun S3 o3 l3 hP3=>?_
 have la3:pY S3 L sg bh en:=by
  have:=la.ext x2;exact⟨mU o3 this.o (by omega),mU o3 this.s (by omega),mU o3 this.b (by omega),mU o3 this.e (by omega)⟩
 have g3:=mU o3 g2 n2;have o13:=(Ext.old (r:=P) (x1.trans x2)).trans o3;walk_at "pk";rw[NQ la3]
 walk_at "pk";rw[la3.e,aF]
 have x4:Ext S3 (S3 ++ [SO.lst (en.map bc)]):=Ext.app _;have g4:(S3 ++ [SO.lst (en.map bc)])[S3.length]? = some (.lst (en.map bc)):=by simp
 have n4:S3.length≠P:=by have:=o13.1;omega
 generalize S3.length=e at g4 n4;generalize S3 ++ [SO.lst (en.map bc)] = S4 at g4 x4;refine uY (x4.get hP3) (by simp[fL]) fun S5 o5 l5 hP5=>?_
 have la5:pY S5 L sg bh en:=by
  have:=la3.ext x4;exact⟨mU o5 this.o (by omega),mU o5 this.s (by omega),mU o5 this.b (by omega),mU o5 this.e (by omega)⟩
 have o15:=(NZ o13 x4).trans o5;have g35:=mU o5 (x4.get g3) n2;have g45:=mU o5 g4 n4;walk_at "pk";refine fG _ (fun i acc S6=>i<=G.length/\Ext S5 S6/\acc=(G.take i).map fun c=>.tup [.str [c],bc (jm (·.contains c) sg)]) (fun i acc S6 hi z=>⟨trivial,?_⟩) (fun i v acc S6 k hv hi hk=>?_) (fun acc S6 z=>?_) ⟨by omega,.refl,rfl⟩
 ·rw[z.2.2];simp;omega
 ·obtain⟨_,x6,rfl⟩:=hi
  rw[aw] at hv;obtain⟨c,hc,rfl⟩:=af.mp hv;have et:G.take (i + 1)=G.take i ++ [c]:=by rw[bZ,hc];rfl
  walk_at "pk";refine ca h2 ⟨L,sg,bh,en,c,rfl,la5.ext x6,hl,fun b S7 x7 hb=>⟨by simp,?_⟩⟩;have eb:b=jm (·.contains c) sg:=jD fun p=>by rw[hb,uh]
  subst eb;exact hk _ _ ⟨(ae.mp hc).1,x6.trans x7,by rw[et,d9];rfl⟩
 obtain⟨_,x6,rfl⟩:=z;rw[ar,cF]
 refine⟨G.map fun c=>([c],bc (jm (·.contains c) sg)),by simp[kr],by rw[bI];exact nd,?_⟩;rw[bI]
 have x7:Ext S6 (S6 ++ [SO.lst (G.map fun c=>.tup [.str [c],bc (jm (·.contains c) sg)])] ++ [SO.uz (G.map ((fun p=>(U.str p.1,p.2)) ∘ fun c=>([c],bc (jm (·.contains c) sg))))]):=(Ext.app _).trans (Ext.app _);have g7:(S6 ++ [SO.lst (G.map fun c=>.tup [.str [c],bc (jm (·.contains c) sg)])] ++ [SO.uz (G.map ((fun p=>(U.str p.1,p.2)) ∘ fun c=>([c],bc (jm (·.contains c) sg))))])[(S6 ++ [SO.lst (G.map fun c=>.tup [.str [c],bc (jm (·.contains c) sg)])]).length]? = some (.uz (G.map fun c=>(.str [c],bc (jm (·.contains c) sg)))):=by
  rw[av (ax _),cf];rfl
 have n7:(S6 ++ [SO.lst (G.map fun c=>.tup [.str [c],bc (jm (·.contains c) sg)])]).length≠P:=by
  have:=o15.1;have:=x6.1;rw[aC];omega
 generalize (S6 ++ [SO.lst (G.map fun c=>.tup [.str [c],bc (jm (·.contains c) sg)])]).length=k at g7 n7;generalize S6 ++ [SO.lst (G.map fun c=>.tup [.str [c],bc (jm (·.contains c) sg)])] ++ [SO.uz (G.map ((fun p=>(U.str p.1,p.2)) ∘ fun c=>([c],bc (jm (·.contains c) sg))))] = S7 at g7 x7;refine uY ((x6.trans x7).get hP5) (by simp[fL]) fun S8 o8 l8 hP8=>?_
 walk_at "pk";subst hG;exact q u S8 hu (fun n hn=>((NZ o15 (x6.trans x7)).trans o8).2 n (by omega) (by omega)) ⟨b,e,k,hP8,mU o8 ((x6.trans x7).get g35) n2,mU o8 ((x6.trans x7).get g45) n4,mU o8 g7 n7⟩
def Rb(bh:List Nat)(h r:Nat):Prop:=∀p,r.testBit p=true↔∃q B,h.testBit q=true/\bh[q]? = some B/\B.testBit p=true
def N1:Spec:=fun us S Q _=>∃P bh en tk h,us = [.loc P,bc h]/\Ed S P bh en tk/\bh.length<=100/\(∀p,h.testBit p=true->p < bh.length)/\∀r S',Rb bh h r->Ext S S'->Q (bc r) S'
theorem Rc (Γ:b7) (h1:Γ "members" = zC):Keeps Γ ig 2 N1:=by
 rintro us S Q E ⟨P,bh,en,tk,h,rfl,pa,hl,hh,q⟩;unfold ig;walk_at "pk";refine ca h1 ⟨h,rfl,aL (j6 hh) (bw (by omega) hl),fun n S1 x1 hn g1=>?_⟩;obtain⟨b,e,k,o,gb,_,_⟩:=(pa.ext x1).o;have fb:∀ {r},kC (.loc P) "behind" S1 r=r (.loc b):=by intro r;rw[fP,o];rfl
 walk_at "pk";rw[g1,aF]
 refine eR (fun i env S2=>S2=S1/\∃(r:Nat) (x3:Option U),env = [some (.loc P),some (bc h),some (bc r),x3]/\∀p,r.testBit p=true↔∃q B,q∈(qQ h).take i/\bh[q]? = some B/\B.testBit p=true) (fun i env S2 z=>z.1 ▸ g1) _ ?_ ?_ ⟨rfl,0,none,rfl,by simp⟩
 ·rintro i u env S2 K hu ⟨rfl,r,x3,rfl,inv⟩ hK
  rw[aw] at hu;obtain⟨p,hp,rfl⟩:=af.mp hu;have pl:=hh p (j7.mp (aB hp));have et:(qQ h).take (i + 1)=(qQ h).take i ++ [p]:=by rw[bZ,hp];rfl
  walk_at "pk";rw[fb]
  walk_at "pk";rw[gb,aF,gZ]
  refine sk (aa pl) ?_;walk_at "pk";refine hK _ _ ⟨rfl,_,_,rfl,fun p'=>?_⟩;rw[cY,bb,inv,et]
  constructor
  ·rintro(⟨q,B,m,e1,e2⟩ | e2)
   ·exact⟨q,B,bO _ m,e1,e2⟩
   ·exact⟨p,_,aT _ (by simp),aa pl,e2⟩
  ·rintro⟨q,B,m,e1,e2⟩
   rcases aQ.mp m with m | m
   ·exact .inl ⟨q,B,m,e1,e2⟩
   ·simp at m;subst m
    rw[aa pl] at e1;injection e1 with e1
    exact .inr (by rw[e1];exact e2)
 ·rintro env S2 ⟨rfl,r,x3,rfl,inv⟩
  walk_at "pk";refine q r _ (fun p=>?_) x1;rw[inv,ar,cF]
  simp only[j7]
def Ov(h:Nat)(en:List Nat)(i:Nat):Prop:=∃Z,en[i]? = some Z/\∃p,h.testBit p=true/\Nat.testBit Z p=true
noncomputable def uN:Option Nat->U
 | none=>.bQ
 | some i=>bc i
def Wm(h:Nat)(en:List Nat):Option Nat->Prop
 | none=>∀i,¬Ov h en i
 | some i=>Ov h en i/\∀i',i' < i->¬Ov h en i'
def Rf:Spec:=fun us S Q _=>∃P bh en tk h,us = [.loc P,bc h]/\Ed S P bh en tk/\∀r,Wm h en r->Q (uN r) S
theorem Rg(Γ:b7):Keeps Γ eP 2 Rf:=by
 rintro us S Q E ⟨P,bh,en,tk,h,rfl,pa,q⟩;unfold eP;obtain⟨b,e,k,o,_,ge,_⟩:=pa.o;have fe:∀ {r},kC (.loc P) "ends" S r=r (.loc e):=by intro r;rw[fP,o];rfl
 walk_at "pk";rw[fe]
 walk_at "pk";rw[ge,aF]
 refine eR (fun i env S2=>S2=S/\∃(x2 x3:Option U),env = [some (.loc P),some (bc h),x2,x3]/\∀i',i' < i->¬Ov h en i') (fun i env S2 z=>z.1 ▸ ge) _ ?_ ?_ ⟨rfl,none,none,rfl,by simp⟩
 ·rintro i u env S2 K hu ⟨rfl,x2,x3,rfl,inv⟩ hK
  simp only[jz,aw,Hy] at hu;obtain⟨Z,hZ,rfl⟩:=af.mp hu;simp only[kr];walk_at "pk";by_cases w:(((h &&& Z:Nat):Int) != 0)=true
  ·rw[if_pos w]
   walk_at "pk";obtain⟨p,hp⟩:=Bg.mp w;rw[cR,ag] at hp;exact q (some i) ⟨⟨Z,hZ,p,hp.1,hp.2⟩,inv⟩
  ·rw[if_neg w]
   walk_at "pk";refine hK _ _ ⟨rfl,_,_,rfl,fun i' hi=>?_⟩;by_cases z:i'=i
   ·subst z
    rintro⟨Z',e1,p,e2,e3⟩;rw[hZ] at e1;injection e1 with e1;subst e1
    exact w (Bg.mpr ⟨p,by rw[cR,e2,e3];rfl⟩)
   ·exact inv i' (by omega)
 ·rintro env S2 ⟨rfl,x2,x3,rfl,inv⟩
  walk_at "pk";refine q none fun i ov=>?_
  obtain⟨Z,e1,_⟩:=ov;exact inv i (by have:=(ae.mp e1).1;simpa using this) ⟨Z,e1,‹_›⟩
theorem Vb{S:bR}{r k:Nat}{c f:String}{fs:List (String × U)}{K:bR->Prop}(h:S[r]? = some (.ins c fs))(hv:fs.lookup f=some (bc k))(hl:fs.length < 100)(q:∀S',Old r S S'->S'.length=S.length->S'[r]? = some (.ins c (fL f (bc (k + 1)) fs))->K S'):
  mP S[r]? fun c fs=>opt (fs.lookup f) fun v=>uP .add v (.int 1) S fun z S3=>mP S3[r]? fun c' fs'=>c'=c/\fs'.length < 100/\K (S3.set r (.ins c (fL f z fs'))):=by
 rw[h,bf,hv]
 show mP S[r]? _
 rw[h,bf]
 exact⟨rfl,hl,q _ (ke.set h).old (by simp) (gs h)⟩
noncomputable def Ee(P:Nat)(r k:Nat)(f:U):SO:=.ins "Walk" [("places",.loc P),("reach",bc r),("passed",bc k),("found",f)]
section
variable {S:bR} {w P r k:Nat} {f:U} {R:U->Prop} (h:S[w]? = some (Ee P r k f))
include h
theorem N2:kC (.loc w) "places" S R=R (.loc P):=by rw[fP,h];rfl
theorem Rh:kC (.loc w) "reach" S R=R (bc r):=by rw[fP,h];rfl
theorem N3:kC (.loc w) "passed" S R=R (bc k):=by rw[fP,h];rfl
theorem Vc:kC (.loc w) "found" S R=R f:=by rw[fP,h];rfl
end
theorem Ed.old(h:Ed S P bh en tk)(x:Old r S S')(hr:S[r]? = some (.ins c fs))(ne:P≠r):Ed S' P bh en tk:=by
 obtain⟨b,e,k,h1,h2,h3,h4⟩:=h.o;exact⟨b,e,k,mU x h1 ne,mU x h2 (fun z=>by rw[z,hr] at h2;simp at h2),mU x h3 (fun z=>by rw[z,hr] at h3;simp at h3),mU x h4 (fun z=>by rw[z,hr] at h4;simp at h4)⟩
def Ri:Spec:=fun us S Q _=>∃w P bh en tk,us = [.loc w,.loc P]/\S[w]? = some (.ins "Walk" [])/\Ed S P bh en tk/\P≠w/\bh.length<=100/\1<=bh.length/\∀r S',Rb bh 1 r->Old w S S'->S'[w]? = some (Ee P r 0 .bQ)->Q .bQ S'
theorem Rj (Γ:b7) (h1:Γ "Places.beyond" = N1):Keeps Γ kQ 0 Ri:=by
 rintro us S Q E ⟨w,P,bh,en,tk,rfl,hw,pa,ne,hl,h0,q⟩;unfold kQ;walk_at "pk";refine uY hw (by simp) fun S1 o1 l1 g1=>?_
 have pa1:=pa.old o1 hw ne;obtain⟨b,e,k,oP,_⟩:=pa1.o;walk_at "pk";rw[oP,bf]
 refine⟨⟨rfl,rfl⟩,ca h1 ⟨P,bh,en,tk,1,rfl,pa1,hl,fun p hp=>?_,fun r S2 hr x2=>?_⟩⟩
 ·have:=oz.mp hp;omega
 refine uY (x2.get g1) (by simp[fL]) fun S3 o3 l3 g3=>?_
 walk_at "pk";refine uY g3 (by simp[fL]) fun S4 o4 l4 g4=>?_
 walk_at "pk";refine uY g4 (by simp[fL]) fun S5 o5 l5 g5=>?_
 walk_at "pk";exact q r S5 hr ((((NZ o1 x2).trans o3).trans o4).trans o5) g5
def Rk:Spec:=fun us S Q _=>∃w P r k f,us = [.loc w]/\S[w]? = some (Ee P r k f)/\Q (.bl (!((r:Int)== 0))) S
theorem Rl(Γ:b7):Keeps Γ gF 0 Rk:=by
 rintro us S Q E ⟨w,P,r,k,f,rfl,hw,q⟩;unfold gF;walk_at "pk";rw[Rh hw]
 walk_at "pk";exact q
theorem zH{α:Type}{f:Nat->α}:∀ {l:List Nat} {c:Nat},c∈l->(l.map fun c=>([c],f c)).lookup [c] = some (f c)
 | x::l,c,h=>by
  rw[aE,aY]
  by_cases z:c=x
  ·subst z;simp
  ·have:(([c]:List Nat)== [x])=false:=by simp[z]
   rw[this]
   exact zH (by rcases aX.mp h with h | h;exact absurd h z;exact h)
noncomputable def uF(r:Option Nat)(k:Nat)(f:U):U:=match r with | none=>f | some i=>.tup [bc i,bc k]
def Rm:Spec:=fun us S Q _=>∃w P r k f c bh en tk,us = [.loc w,.str [c]]/\S[w]? = some (Ee P r k f)/\Ed S P bh en tk/\P≠w/\bh.length<=100/\c∈SG/\(∀p,r.testBit p=true->p < bh.length) /\
 ∀r' i S',Rb bh (r &&& tk c) r'->Wm (r &&& tk c) en i->Old w S S'->S'[w]? = some (Ee P r' (k + 1) (uF i (k + 1) f))->Q .bQ S'
theorem Rn (Γ:b7) (h1:Γ "Places.beyond" = N1) (h2:Γ "Places.first_rule" = Rf):Keeps Γ kR 2 Rm:=by
 rintro us S Q E ⟨w,P,r,k,f,c,bh,en,tk,rfl,hw,pa,ne,hl,hc,hr,q⟩;unfold kR;obtain⟨b,e,t,oP,_,_,gt⟩:=pa.o;have ft:∀ {R},kC (.loc P) "takers" S R=R (.loc t):=by intro R;rw[fP,oP];rfl
 walk_at "pk";rw[Rh hw,N2 hw,ft]
 walk_at "pk";rw[gt]
 simp only[getD_some,true_and];refine⟨SG.map fun c=>([c],bc (tk c)),by rw[bI];rfl,?_⟩;rw[zH hc]
 simp only[dh];walk_at "pk";rw[N2 hw]
 walk_at "pk";rw[oP,bf]
 refine⟨⟨rfl,rfl⟩,ca h1 ⟨P,bh,en,tk,r &&& tk c,rfl,pa,hl,fun p hp=>hr p ?_,fun r' S1 hr' x1=>?_⟩⟩
 ·rw[cR,ag] at hp;exact hp.1
 refine uY (x1.get hw) (by simp) fun S2 o2 l2 g2=>?_
 have g2:S2[w]? = some (Ee P r' k f):=g2;have pa2:=(pa.ext x1).old o2 (x1.get hw) ne;walk_at "pk";refine Vb (k:=k) g2 rfl (by simp) fun S3 o3 l3 g3=>?_
 have pa3:=pa2.old o3 g2 ne;have g3:S3[w]? = some (Ee P r' (k + 1) f):=g3;obtain⟨_,_,_,oP3,_⟩:=pa3.o;walk_at "pk";rw[N2 g3]
 walk_at "pk";rw[oP3,bf]
 refine⟨⟨rfl,rfl⟩,ca h2 ⟨P,bh,en,tk,r &&& tk c,rfl,pa3,fun i hi=>?_⟩⟩;have oo:=((Ext.old (r:=w) x1).trans o2).trans o3;cases i with
 | none=>
  unfold uN;walk_at "pk";exact q r' none S3 hr' hi oo g3
 | some i=>
  unfold uN;walk_at "pk";rw[N3 g3]
  refine⟨by simp,uY g3 (by simp) fun S4 o4 l4 g4=>?_⟩;walk_at "pk";exact q r' (some i) S4 hr' hi (oo.trans o4) g4
structure Bh (ts:List Tr) (sg:List (List Nat)) (bh en:List Nat):Prop where
 len:bh.length=sg.length
 GV:en.length=ts.length
 Wn:∀(i j:Nat) t t' p,ts[i]? = some t->ts[j]? = some t'->IN t p=true->IN t' p=true->i=j
 pos:∀t∈ts,∃n,0 < n/\mT n t
 sgn:∀t∈ts,∀p,IN t p=true->sg[p]? = some (sgn t p)
 b0:∃B,bh[0]? = some B/\∀p,B.testBit p=true↔∃t∈ts,FS t p=true
 b:∀t∈ts,∀q,IN t q=true->∃B,bh[q]? = some B/\∀p,B.testBit p=mK (cont t q) p
 e:∀(i:Nat) t,ts[i]? = some t->∃Z,en[i]? = some Z/\∀p,Z.testBit p=(IN t p && dk (cont t p))
 nl:∀t∈ts,null t=false
section
variable {ts:List Tr} {sg:List (List Nat)} {bh en:List Nat} {u r r' c:Nat} {w:List Nat}
def HH(ts:List Tr)(u:Nat)(w:List Nat)(r:Nat):Prop:=∀p,r.testBit p=true↔(∃t∈ts,∃q,hs t w q/\mK (ct t q) p=true)/\u.testBit p=true
theorem Cm{q B:Nat}(h:(bh.map (· &&& u))[q]? = some B):∃B',bh[q]? = some B'/\B=B' &&& u:=by
 rw[aw] at h;obtain⟨B',h1,h2⟩:=af.mp h;exact⟨B',h1,h2.symm⟩
theorem Wo:ct t 0 = [t]:=rfl
theorem OQ(h:p≠0):ct t p=cont t p:=by unfold ct;rw[if_neg h]
theorem Ro:mK [t] p=FS t p:=by simp[mK]
theorem DI(A:Bh ts sg bh en)(h:Rb (bh.map (· &&& u)) 1 r):HH ts u [] r:=by
 intro p;obtain⟨B,e0,b0⟩:=A.b0;rw[h p]
 constructor
 ·rintro⟨q,B',h1,h2,h3⟩
  have q0:=oz.mp h1;subst q0;obtain⟨B2,e2,rfl⟩:=Cm h2;rw[e0] at e2;injection e2 with e2;subst e2
  rw[cR,ag,b0] at h3;obtain⟨⟨t,m,f⟩,z⟩:=h3;exact⟨⟨t,m,0,rfl,by rw[Wo,Ro];exact f⟩,z⟩
 ·rintro⟨⟨t,m,q,hq,f⟩,z⟩
  have hq:q=0:=hq;subst hq;rw[Wo,Ro] at f;exact⟨0,B &&& u,rfl,by rw[aw,e0];rfl,by rw[cR,(b0 p).mpr ⟨t,m,f⟩,z];rfl⟩
theorem qb(A:Bh ts sg bh en)(h:HH ts u w r)(p:Nat):(r &&& jm (·.contains c) sg).testBit p=true↔(∃t∈ts,hs t (w ++ [c]) p)/\u.testBit p=true:=by
 rw[cR,ag,h p,uh]
 constructor
 ·rintro⟨⟨⟨t,m,q,hq,f⟩,z⟩,k⟩
  obtain⟨l,e1,e2⟩:=zG k;rw[A.sgn t m p (ug f)] at e1;injection e1 with e1;subst e1
  exact⟨⟨t,m,by rw[k9];exact⟨q,hq,f,fW.mp e2⟩⟩,z⟩
 ·rintro⟨⟨t,m,hq⟩,z⟩
  rw[k9] at hq;obtain⟨q,hq,f,k⟩:=hq;refine⟨⟨⟨t,m,q,hq,f⟩,z⟩,?_⟩;unfold oA;rw[A.sgn t m p (ug f)]
  exact fW.mpr k
theorem om(A:Bh ts sg bh en)(m:t∈ts)(h:hs t (w ++ [c]) p):IN t p=true/\p≠0/\oA DH sg p=true:=by
 rw[k9] at h;obtain⟨q,_,f,k⟩:=h;have i:=ug f;obtain⟨n,n0,pl⟩:=A.pos t m;refine⟨i,Bf pl n0 i,?_⟩;unfold oA;rw[A.sgn t m p i]
 show DH (sgn t p)=true
 unfold DH;cases e:jr.sgn t p with
 | nil=>rw[e] at k;simp at k
 | cons a l=>rfl
theorem zI(A:Bh ts sg bh en)(U:Kh sg bh en u)(m:t∈ts)(h:hs t (w ++ [c]) q)(f:mK (ct t q) p=true)(z:u.testBit p=true):u.testBit q=true:=by
 obtain⟨i,q0,k⟩:=om A m h;obtain⟨B,e1,e2⟩:=A.b t m q i;rw[OQ q0] at f;exact U.b q B p k e1 (by rw[e2];exact f) z
theorem GX(A:Bh ts sg bh en)(U:Kh sg bh en u)(h:HH ts u w r)(hr:Rb (bh.map (· &&& u)) (r &&& jm (·.contains c) sg) r'):HH ts u (w ++ [c]) r':=by
 intro p;rw[hr p]
 constructor
 ·rintro⟨q,B',h1,h2,h3⟩
  obtain⟨⟨t,m,hq⟩,_⟩:=(qb A h q).mp h1;obtain⟨i,q0,_⟩:=om A m hq;obtain⟨B2,e2,rfl⟩:=Cm h2;obtain⟨B,e1,b1⟩:=A.b t m q i;rw[e1] at e2;injection e2 with e2;subst e2
  rw[cR,ag,b1] at h3;exact⟨⟨t,m,q,hq,by rw[OQ q0];exact h3.1⟩,h3.2⟩
 ·rintro⟨⟨t,m,q,hq,f⟩,z⟩
  have uq:=zI A U m hq f z;obtain⟨i,q0,_⟩:=om A m hq;obtain⟨B,e1,b1⟩:=A.b t m q i;rw[OQ q0] at f;exact⟨q,B &&& u,(qb A h q).mpr ⟨⟨t,m,hq⟩,uq⟩,by rw[aw,e1];rfl,by rw[cR,b1,f,z];rfl⟩
theorem Cn(A:Bh ts sg bh en)(U:Kh sg bh en u)(m:t∈ts)(h:hs t (w ++ [c]) p)(n:dk (ct t p)=true):u.testBit p=true:=by
 obtain⟨i,p0,k⟩:=om A m h;rw[OQ p0] at n;obtain⟨j,ej⟩:=cC m;obtain⟨Z,e1,e2⟩:=A.e j t ej;exact U.e Z p (aB e1) (by rw[e2,i,n];rfl) k
theorem GY(A:Bh ts sg bh en)(U:Kh sg bh en u)(h:HH ts u w r)(i:Nat):Ov (r &&& jm (·.contains c) sg) en i↔∃t,ts[i]? = some t/\En t (hs t (w ++ [c])):=by
 constructor
 ·rintro⟨Z,e1,p,h1,h2⟩
  have hi:i < ts.length:=by rw[<-A.GV];exact(ae.mp e1).1
  obtain⟨Z',e2,b2⟩:=A.e i _ (aa hi);rw[e1] at e2;injection e2 with e2;subst e2
  rw[b2,ag] at h2;obtain⟨⟨t,m,hq⟩,_⟩:=(qb A h p).mp h1;obtain⟨ip,p0,_⟩:=om A m hq;obtain⟨j,ej⟩:=cC m;have:=A.Wn i j _ t p (aa hi) ej h2.1 ip;subst this;rw[aa hi] at ej;injection ej with ej;subst ej
  exact⟨_,aa hi,p,hq,by rw[OQ p0];exact h2.2⟩
 ·rintro⟨t,ei,p,hq,n⟩
  have m:=aB ei;obtain⟨Z,e1,e2⟩:=A.e i t ei;obtain⟨ip,p0,_⟩:=om A m hq;have up:=Cn A U m hq n;rw[OQ p0] at n;exact⟨Z,e1,p,(qb A h p).mpr ⟨⟨t,m,hq⟩,up⟩,by rw[e2,ip,n];rfl⟩
theorem GZ(A:Bh ts sg bh en)(U:Kh sg bh en u)(h:HH ts u w 0)(m:t∈ts):∀(v:List Nat) (c p:Nat),hs t (w ++ v ++ [c]) p->¬u.testBit p=true:=by
 intro v;generalize hn:v.length=n;induction n generalizing v with
 | zero=>
  intro c p hp z;rw[yF.mp hn,aZ,k9] at hp;obtain⟨q,hq,f,_⟩:=hp;have:=(h p).mpr ⟨⟨t,m,q,hq,f⟩,z⟩;simp at this
 | succ n ih=>
  intro c p hp z;rw[k9] at hp;obtain⟨q,hq,f,_⟩:=hp;have nn:v≠[]:=fun e=>by rw[e] at hn;simp at hn
  rw[<-uu nn,<-bB] at hq;exact ih v.dropLast (by simp[hn]) _ q hq (zI A U m hq f z)
theorem G6(A:Bh ts sg bh en)(U:Kh sg bh en u)(h:HH ts u (x.take k) 0)(hj:k < j)(hx:j<=x.length):Nn ts x j i:=by
 rintro t e ⟨p,hp,n⟩;have m:=aB e;obtain⟨j',rfl⟩:∃j',j=j' + 1:=⟨j - 1,by omega⟩
 have e1:x.take (j' + 1)=x.take k ++ (x.drop k).take (j' - k) ++ [x[j']'(by omega)]:=by
  rw[take_snoc (aa (by omega))]
  congr 1
  obtain⟨d,rfl⟩:∃d,j'=k + d:=⟨j' - k,by omega⟩
  rw[List.take_add];simp
 rw[e1] at hp;exact GZ A U h m _ _ p hp (Cn A U m hp n)
end
structure HI (S:bR) (P:Nat) (ts:List Tr) (u:Nat):Prop where
 o:∃sg bh en,Ed S P (bh.map (· &&& u)) en (fun c=>jm (·.contains c) sg)/\Bh ts sg bh en/\Kh sg bh en u/\sg.length<=100
theorem HI.ext(h:HI S P ts u)(x:Ext S S'):HI S' P ts u:=by
 obtain⟨sg,bh,en,pa,A,U,l⟩:=h.o;exact⟨sg,bh,en,pa.ext x,A,U,l⟩
theorem HI.old(h:HI S P ts u)(x:Old r S S')(hr:S[r]? = some (.ins c fs))(ne:P≠r):HI S' P ts u:=by
 obtain⟨sg,bh,en,pa,A,U,l⟩:=h.o;exact⟨sg,bh,en,pa.old x hr ne,A,U,l⟩
theorem N4(A:Bh ts sg bh en)(h:HH ts u w r)(p:Nat)(hp:r.testBit p=true):p < (bh.map (· &&& u)).length:=by
 obtain⟨⟨t,m,q,_,f⟩,_⟩:=(h p).mp hp;have:=(ae.mp (A.sgn t m p (ug f))).1;rw[ar,A.len];exact this
def Rp:Spec:=fun us S Q _=>∃w P r x ts u,us = [.loc w,.str x]/\S[w]? = some (Ee P r 0 .bQ)/\HI S P ts u/\P≠w/\HH ts u [] r/\(∀c∈x,c∈SG)/\x.length<=1000 /\
 ∀f r' k S',v9 ts x x.length f->Old w S S'->S'[w]? = some (Ee P r' k (uR f))->Q .bQ S'
theorem Rr (Γ:b7) (h1:Γ "Walk.may_go_on" = Rk) (h2:Γ "Walk.step" = Rm):Keeps Γ jI 0 Rp:=by
 rintro us S Q E ⟨w,P,r,x,ts,u,rfl,hw,pa,ne,hr,hx,hl,q⟩;unfold jI;walk_at "pk";refine⟨x.length + 1,k7 (fun n env S1=>∃k r f,n=x.length - k/\k<=x.length/\env = [some (.loc w),some (.str x)]/\Old w S S1/\S1[w]? = some (Ee P r k (uR f))/\HI S1 P ts u/\HH ts u (x.take k) r/\v9 ts x k f) ?_ _ x.length _ _ (by omega) ⟨0,r,none,by omega,by omega,rfl,.refl,hw,pa,hr,fun j i h1 h2=>by omega⟩⟩;rintro n env S1 K ⟨k,r,f,rfl,hk,rfl,o1,g1,pa1,wr,bs⟩ hK;walk_at "pk";have g1':=g1;unfold Ee at g1';rw[g1',bf]
 refine⟨⟨rfl,rfl⟩,ca h1 ⟨w,P,r,k,_,rfl,g1,?_⟩⟩;obtain⟨sg,bh,en,pp,A,U,l⟩:=pa1.o;walk_at "pk";by_cases z:r=0
 ·subst z
  have:((((0:Nat):Int))== 0)=true:=rfl;simp only[this,bJ,aq,if_false];walk_at "pk";exact q f _ k S1 (pX bs hk fun j i h1 h2=>G6 A U wr h1 h2) o1 g1
 ·have:((r:Int)== 0)=false:=by rw[beq_eq_false_iff_ne];omega
  simp only[this,cq,if_true];rw[N3 g1]
  walk_at "pk";refine⟨by omega,?_⟩;by_cases y:k < x.length
  ·have:((k:Int) < (x.length:Int)):=by omega
   simp only[this,decide_true,if_true];walk_at "pk";rw[g1',bf]
   refine⟨⟨rfl,rfl⟩,?_⟩;rw[N3 g1]
   walk_at "pk";rw[gZ,aa y,aW]
   have hc:x[k]? = some x[k]:=aa y;refine⟨by omega,ca h2 ⟨w,P,r,k,_,x[k],_,en,_,rfl,g1,pp,ne,by rw[ar,A.len];exact l,hx _ (bL y),N4 A wr,fun r' i S2 hb hf o2 g2=>?_⟩⟩;walk_at "pk";have wr':=GX A U wr hb;rw[<-take_snoc hc] at wr';have nn:∀i,Nn ts x (k + 1) i↔¬Ov (r &&& jm (·.contains x[k]) sg) en i:=fun i=>by
    rw[GY A U wr i,<-take_snoc hc]
    exact⟨fun h ⟨t,e,z⟩=>h t e z,fun h t e z=>h ⟨t,e,z⟩⟩
   cases i with
   | none=>exact hK (x.length - (k + 1)) _ _ (by omega) ⟨k + 1,r',f,rfl,by omega,rfl,o1.trans o2,g2,pa1.old o2 g1' ne,wr',pX bs (by omega) fun j i h1 h2=>by
     have:j=k + 1:=by omega
     subst this;exact(nn i).mpr (hf i)⟩
   | some i=>exact hK (x.length - (k + 1)) _ _ (by omega) ⟨k + 1,r',some (i,k + 1),rfl,by omega,rfl,o1.trans o2,g2,pa1.old o2 g1' ne,wr',Cj (fun h=>(nn i).mp h hf.1) fun i' hi=>(nn i').mpr (hf.2 i' hi)⟩
  ·have:¬((k:Int) < (x.length:Int)):=by omega
   simp only[this,decide_false,aq,if_false];walk_at "pk";have ek:k=x.length:=by omega
   subst ek;exact q f _ _ S1 bs o1 g1
noncomputable def SU(P:Nat):SO:=.ins "Lexer" [("places",.loc P)]
structure Lc (S:bR) (X:Nat) (ts:List Tr):Prop where
 o:∃P u,S[X]? = some (SU P)/\HI S P ts u
theorem Lc.ext(h:Lc S X ts)(x:Ext S S'):Lc S' X ts:=by
 obtain⟨P,u,g,pa⟩:=h.o;exact⟨P,u,x.get g,pa.ext x⟩
def Ki:Spec:=fun us S Q _=>∃X x a ts,us = [.loc X,.str x,bc a]/\Lc S X ts/\(∀c∈x,c∈SG)/\x.length<=1000/\∀f S',v9 ts (x.drop a) (x.drop a).length f->Ext S S'->Q (uR f) S'
theorem G7:nA x (some (a:Nat)) none=x.drop a:=by
 unfold nA;simp only[dh,iY,rM,Aa];by_cases h:a<=x.length
 ·rw[Nat.min_eq_left h,dD (by simp)]
 ·rw[sG (by omega),rW,fJ (by omega)];simp
theorem Rt (Γ:b7) (h1:Γ "Walk.__init__" = Ri) (h2:Γ "Walk.along" = Rp):Keeps Γ jb 1 Ki:=by
 rintro us S Q E ⟨X,x,a,ts,rfl,lx,hx,hl,q⟩;unfold jb;obtain⟨P,u,g,pa⟩:=lx.o;have fp:kC (.loc X) "places" S=fun R=>R (.loc P):=by funext R;rw[fP,g];rfl
 walk_at "pk";rw[fp]
 obtain⟨sg,bh,en,pp,A,U,l⟩:=pa.o;have hP:P < S.length:=by obtain⟨_,_,_,h,_⟩:=pp.o;exact cj h
 have gw:(S ++ [SO.ins "Walk" []])[S.length]? = some (.ins "Walk" []):=by simp
 have b1:1<=bh.length:=by obtain⟨B,e,_⟩:=A.b0;exact(ae.mp e).1
 refine ca h1 ⟨S.length,P,_,en,_,rfl,gw,pp.ext (Ext.app _),by omega,by rw[ar,A.len];exact l,by rw[ar];exact b1,fun r S1 hr o1 g1=>⟨rfl,?_⟩⟩;have x1:Ext S S1:=⟨by have:=o1.1;simp at this;omega,fun n hn=>by rw[o1.2 n (by simp;omega) (by omega),ak hn]⟩
 walk_at "pk";have g1':=g1;unfold Ee at g1';rw[g1',bf]
 refine⟨⟨rfl,rfl⟩,?_⟩;simp only[IV,G7];refine⟨⟨fun i e=>by injection e with e;omega,fun i e=>by cases e⟩,by omega,?_⟩;refine ca h2 ⟨S.length,P,r,_,ts,u,rfl,g1,pa.ext x1,by omega,DI A hr,fun c hc=>hx c (List.mem_of_mem_drop hc),by simp;omega,fun f r' k S2 bs o2 g2=>?_⟩;walk_at "pk";rw[Vc g2]
 exact q f S2 bs ⟨by have:=x1.1;have:=o2.1;omega,fun n hn=>by rw[o2.2 n (by have:=x1.1;omega) (by omega),x1.2 n hn]⟩
def N5:Spec:=fun us S Q E=>∃X x ts,us = [.loc X,.str x]/\Lc S X ts/\(∀c∈x,c∈SG)/\x.length<=1000/\(∀l n S',yA ts x 0 none l->Ext S S'->S'[n]? = some (.lst l)->Q (.loc n) S')/\∀a l S',yA ts x 0 (some a) l->Ext S S'->E ⟨"NoToken",[bc a]⟩ S'
theorem Ru (Γ:b7) (h1:Γ "Lexer.token" = Ki):Keeps Γ iG 3 N5:=by
 rintro us S Q E ⟨X,x,ts,rfl,lx,hx,hl,q,qe⟩;unfold iG;walk_at "pk";refine⟨by simp,?_⟩;walk_at "pk";have x0:Ext S (S ++ [SO.lst []]):=Ext.app _;refine⟨x.length + 1,k7 (fun n env S1=>∃(a:Nat) (acc:List U) (x4:Option U),n=x.length - a/\a<=x.length/\acc.length<=a/\env = [some (.loc X),some (.str x),some (.loc S.length),some (bc a),x4]/\Ext S S1/\Lc S1 X ts/\S1[S.length]? = some (.lst acc)/\∀f l,yA ts x a f l->yA ts x 0 f (acc ++ l))
  ?_ _ x.length _ _ (by omega) ⟨0,[],none,by omega,by omega,by simp,rfl,x0,lx.ext x0,by simp,fun f l h=>h⟩⟩
 rintro n env S1 K ⟨a,acc,x4,rfl,ha,hacc,rfl,x1,lx1,g1,inv⟩ hK;walk_at "pk";refine⟨by omega,?_⟩;by_cases z:a < x.length
 ·have:((a:Int) < (x.length:Int)):=by omega
  simp only[this,decide_true,if_true];obtain⟨P,u,gx,pa⟩:=lx1.o;have gx':=gx;unfold SU at gx';walk_at "pk";rw[gx',bf]
  refine⟨⟨rfl,rfl⟩,ca h1 ⟨X,x,a,ts,rfl,lx1,hx,hl,fun f S2 bs x2=>?_⟩⟩;rcases f with _ | ⟨i,j⟩
  ·unfold uR
   walk_at "pk";refine⟨rfl,qe a acc _ ?_ (x1.trans x2)⟩;have:=inv _ _ (.stop z bs)
   rwa [aZ] at this
  ·have jl:=bs.1
   rw[mH] at jl;unfold uR;walk_at "pk";rw[x2.get g1,aF]
   simp only[true_and,lT,jj,aW];refine⟨by simp,by simp,?_⟩;simp only[IV];walk_at "pk";have e1:((a:Int) + ((j:Nat):Int))=((a + j:Nat):Int):=by omega
   rw[e1]
   refine⟨⟨fun i e=>by injection e with e;omega,fun i e=>by injection e with e;omega⟩,by omega,by simp,?_⟩;rw[x2.get g1,aF]
   refine⟨by omega,?_⟩;walk_at "pk";simp only[jj,aW];refine⟨by simp,?_⟩;walk_at "pk";rw[e1]
   have x3:Ext S (S2.set S.length (.lst (acc ++ [.tup [.int (i:Nat),.str (nA x (some (a:Nat)) (some ((a + j:Nat):Int)))]]))):=by
    have:=x1.trans x2;exact⟨by rw[df];exact this.1,fun n hn=>by rw[au (by omega)];exact this.2 n hn⟩
   refine hK (x.length - (a + j)) _ _ (by omega) ⟨a + j,_,_,rfl,by omega,by simp;omega,rfl,x3,lx.ext x3,gs (x2.get g1),fun f l h=>?_⟩;have:=inv _ _ (.go z bs h)
   rwa [bB]
 ·have:¬((a:Int) < (x.length:Int)):=by omega
  simp only[this,decide_false,aq,if_false];walk_at "pk";refine q acc _ _ ?_ x1 g1;have:=inv _ _ (.done (by omega))
  rwa [aZ] at this
noncomputable def iM(ts:List Tr):Nat:=(ts.map size).sum
def Kj:Nat->List Tr->Prop
 | _,[]=>True
 | n,t::ts=>mT n t/\Kj (n + size t) ts
theorem yd:∀ {ts:List Tr} {n i:Nat} {t:Tr},Kj n ts->ts[i]? = some t->mT (n + iM (ts.take i)) t
 | [],n,i,t,h,e=>by simp at e
 | a::ts,n,0,t,h,e=>by
  have:a=t:=by simpa using e
  subst this;exact h.1
 | a::ts,n,i + 1,t,h,e=>by
  have:=yd (i:=i) h.2 (by simpa using e);simpa[iM,Nat.add_assoc] using this
theorem Kk:Bh [] [[]] [0] []:=
 ⟨rfl,rfl,fun i j t t' p h=>by simp at h,fun t h=>by simp at h,fun t h=>by simp at h,⟨0,rfl,fun p=>by simp⟩,fun t h=>by simp at h,fun i t h=>by simp at h,fun t h=>by simp at h⟩
theorem G8(A:Bh ts sg bh en)(s0:0 < sg.length)(hp:mT sg.length t)(nt:null t=false)(l:rT t bh F Z (B::bt)):Bh (ts ++ [t]) (sg ++ nH t) ((B ||| F)::bt) (en ++ [Z]):=by
 have lt:∀t'∈ts,∀p,IN t' p=true->p < sg.length:=fun t' m p i=>(ae.mp (A.sgn t' m p i)).1
 have ge:∀p,IN t p=true->sg.length<=p/\p < sg.length + size t:=fun p i=>(eF hp).mp i
 have ll:=gI t;have l1:=l.len;have l2:=A.len;have bs:∀(q C:Nat),0 < q->(B::bt)[q]? = some C->((B ||| F)::bt)[q]? = some C:=fun q C h e=>by
  cases q with
  | zero=>omega
  | succ q=>exact e
 have mem:∀ {t'},t'∈ts ++ [t]->t'∈ts\/t'=t:=fun h=>by simpa using h
 have at_:∀ {i:Nat} {t'},(ts ++ [t])[i]? = some t'->ts[i]? = some t'\/(i=ts.length/\t'=t):=fun {i t'} h=>by
  rw[gM] at h;split at h
  ·exact .inl h
  ·rename_i z
   have il:i=ts.length:=by
    have:=(ae.mp h).1;simp at this;omega
   subst il;simp at h;exact .inr ⟨rfl,h.symm⟩
 refine⟨?_,?_,?_,?_,?_,?_,?_,?_,?_⟩
 ·rw[aC,ll]
  simp only[aN] at l1 ⊢;omega
 ·simp[A.GV]
 ·intro i j t1 t2 p e1 e2 i1 i2
  rcases at_ e1 with f1 | ⟨f1,g1⟩<;>rcases at_ e2 with f2 | ⟨f2,g2⟩
  ·exact A.Wn i j _ _ p f1 f2 i1 i2
  ·have:=lt _ (aB f1) p i1;rw[g2] at i2;have:=ge p i2;omega
  ·have:=lt _ (aB f2) p i2;rw[g1] at i1;have:=ge p i1;omega
  ·omega
 ·intro t' m
  rcases mem m with m | rfl
  ·exact A.pos t' m
  ·exact⟨_,s0,hp⟩
 ·intro t' m p i
  rcases mem m with m | rfl
  ·rw[ak (lt t' m p i)];exact A.sgn t' m p i
  ·rw[av (ge p i).1];exact qP hp i
 ·obtain⟨B',e,b⟩:=A.b0
  have:=l.old 0 (by omega);rw[e] at this;have eB:B=B':=by simpa using this
  subst eB;refine⟨B ||| F,rfl,fun p=>?_⟩;rw[cY,bb,b,l.f]
  constructor
  ·rintro(⟨t',m,f⟩ | f)
   ·exact⟨t',by simp[m],f⟩
   ·exact⟨t,by simp,f⟩
  ·rintro⟨t',m,f⟩
   rcases mem m with m | rfl
   ·exact .inl ⟨t',m,f⟩
   ·exact .inr f
 ·intro t' m q i
  rcases mem m with m | rfl
  ·obtain⟨C,e,b⟩:=A.b t' m q i
   have ql:=lt t' m q i;obtain⟨n,n0,pl⟩:=A.pos t' m;have q0:=Bf pl n0 i;exact⟨C,bs q C (by omega) ((l.old q (by omega)).trans e),b⟩
  ·obtain⟨C,e,b⟩:=l.new q i
   have:=ge q i;exact⟨C,bs q C (by omega) e,b⟩
 ·intro i t' e
  rcases at_ e with e | ⟨rfl,rfl⟩
  ·obtain⟨Z',e1,b⟩:=A.e i t' e
   exact⟨Z',by rw[ak (ae.mp e1).1];exact e1,b⟩
  ·exact⟨Z,by rw[<-A.GV];simp,l.z⟩
 ·intro t' m
  rcases mem m with m | rfl
  ·exact A.nl t' m
  ·exact nt
def Rv:Spec:=fun us S Q _=>∃x v t r,us = [.str x,v]/\x.length<=1000/\rD x = .ok (t,r)/\∀S',Ext S S'->Q t S'
theorem Rw (Γ:b7) (h1:Γ "read" = Bc):Keeps Γ n9 1 Rv:=by
 rintro us S Q E ⟨x,v,t,r,rfl,hl,hr,q⟩;unfold n9;walk_at "pk";refine ca h1 ⟨x,rfl,hl,?_⟩;rw[hr]
 exact q
def Wq(ts:List Tr)(xs:List (List Nat)):Prop:=xs.length=ts.length/\∀(i:Nat) t x,ts[i]? = some t->xs[i]? = some x->x.length<=1000/\∃r,rD x = .ok (enc t,r)
structure DJ (ts:List Tr):Prop where
 len:ts.length<=4
 pl:Kj 1 ts
 nl:∀t∈ts,null t=false
 dp:∀t∈ts,bG t < 4
 sz:iM ts<=24
theorem size_take(e:ts[i]? = some t):iM (ts.take (i + 1))=iM (ts.take i) + size t/\iM (ts.take (i + 1))<=iM ts:=by
 have h1:ts.take (i + 1)=ts.take i ++ [t]:=by rw[bZ,e];rfl
 refine⟨by rw[h1];simp[iM],?_⟩;have:iM ts=iM (ts.take (i + 1)) + iM (ts.drop (i + 1)):=by
  unfold iM;rw[<-HY,<-d9,List.take_append_drop]
 omega
def Rx:Spec:=fun us S Q _=>∃n xs ts,us = [.loc n,.int 24]/\S[n]? = some (.lst (xs.map .str))/\Wq ts xs/\DJ ts/\∀P u S',HI S' P ts u->Ext S S'->Q (.loc P) S'
theorem Ry (Γ:b7) (h1:Γ "Layout.__init__" = NR) (h2:Γ "Layout.lay" = gU (Tu 4)) (h3:Γ "tree_of" = Rv) (h4:Γ "Layout.how_many" = NS) (h5:Γ "Layout.close_rule" = NT) (h6:Γ "Places.__init__" = N0):Keeps Γ kO 4 Rx:=by
 rintro us S Q E ⟨n,xs,ts,rfl,gn,hR,hT,q⟩;unfold kO;have gL:(S ++ [SO.ins "Layout" []])[S.length]? = some (.ins "Layout" []):=by simp
 have nS:=cj gn;walk_at "pk";refine ca h1 ⟨S.length,rfl,gL,by simp,fun S1 e1 la1=>⟨rfl,?_⟩⟩;have x1:∀n,n < S.length->S1[n]? = S[n]?:=fun n hn=>by rw[e1 n hn,ak hn]
 have gn1:S1[n]? = some (.lst (xs.map .str)):=by rw[x1 n nS];exact gn
 have xl:xs.length<=4:=by rw[hR.1];exact hT.len
 walk_at "pk";simp only[IV];rw[gn1,aF]
 have ec:nA (xs.map U.str) none (some 6)=xs.map U.str:=by
  unfold nA;simp only[iY,dh,Int.toNat_zero,Nat.zero_min,kF,Nat.sub_zero,ar];rw[sG (by show xs.length<=6;omega)]
  exact dD (by simp)
 rw[ec]
 refine⟨⟨fun i e=>(by cases e),fun i e=>(by injection e with e;omega)⟩,?_⟩;have x2:Ext S1 (S1 ++ [SO.lst (xs.map U.str)]):=Ext.app _;have g2:(S1 ++ [SO.lst (xs.map U.str)])[S1.length]? = some (.lst (xs.map .str)):=by simp
 have l1:=la1.len;generalize S1.length=m at g2 l1;generalize S1 ++ [SO.lst (xs.map U.str)] = S2 at g2 x2;walk_at "pk";rw[g2,aF]
 refine eR (fun i env S3=>∃(sg:List (List Nat)) (bh en:List Nat) (x3 x4 x5:Option U),env = [some (.loc n),some (.int 24),some (.loc S.length),x3,x4,x5]/\Fr S.length S2 S3/\pY S3 S.length sg bh en/\Bh (ts.take i) sg bh en/\sg.length=1 + iM (ts.take i)/\i<=ts.length) (fun i env S3 ⟨_,_,_,_,_,_,_,f,_⟩=>f.get g2 l1) _ ?_ ?_
  ⟨[[]],[0],[],none,none,none,rfl,.refl,la1.ext x2,Kk,rfl,by omega⟩
 ·rintro i u env S3 K hu ⟨sg,bh,en,x3,x4,x5,rfl,f3,la3,A,hsg,hi⟩ hK
  simp only[jz,aw,Hy] at hu;obtain⟨x,hx,rfl⟩:=af.mp hu;have il:i < ts.length:=by rw[<-hR.1];exact(ae.mp hx).1
  have ht:ts[i]? = some ts[i]:=aa il;have hm:ts[i]∈ts:=bL il;generalize ts[i] = t at ht hm;obtain⟨xle,r,hr⟩:=hR.2 i t x ht hx;have pt:=yd hT.pl ht;rw[<-hsg] at pt;obtain⟨s1,s2⟩:=size_take ht;have sz:=hT.sz;have nt:=hT.nl t hm;simp only[kr];walk_at "pk";rw[la3.o,bf]
  refine⟨⟨rfl,rfl⟩,ca h3 ⟨x,_,enc t,r,rfl,xle,hr,fun S4 x4=>?_⟩⟩;have la4:=la3.ext x4;refine ca h2 ⟨S.length,sg,bh,en,t,_,rfl,⟨hT.dp t hm,rfl⟩,la4,pt,A.len,by omega,fun S5 p F Z bh' f5 pl5 g5 la5 lr=>?_⟩;rw[nt] at g5;walk_at "pk";rw[DE g5]
  walk_at "pk";rw[la5.o,bf]
  refine⟨⟨rfl,rfl⟩,ca h4 ⟨S.length,_,bh',en,rfl,la5,by rw[aC,gI];omega,?_⟩⟩;have:¬(24 < (((sg ++ nH t).length:Nat):Int) - 1):=by rw[aC,gI];omega
  walk_at "pk";simp only[this,decide_false,aq,if_false];walk_at "pk";rw[la5.o,bf]
  have bl:=lr.len;cases bh' with
  | nil=>have:=A.len;simp at bl;omega
  | cons B bt=>
   refine⟨⟨rfl,rfl⟩,ca h5 ⟨S.length,_,_,en,p,false,F,Z,B,bt,rfl,la5,rfl,g5,pl5,by rw[A.GV];simp;have:=hT.len;omega,fun S6 f6 la6=>?_⟩⟩;walk_at "pk";have et:ts.take (i + 1)=ts.take i ++ [t]:=by rw[bZ,ht];rfl
   refine hK _ _ ⟨_,_,_,_,_,_,rfl,((f3.trans (Ext.fr x4)).trans f5).trans f6,la6,by rw[et];exact G8 A (by omega) pt nt lr,by rw[aC,gI,s1];omega,il⟩
 ·rintro env S3 ⟨sg,bh,en,x3,x4,x5,rfl,f3,la3,A,hsg,hi⟩
  rw[D7,ar,hR.1,cF] at A hsg;have gn3:S3[n]? = some (.lst (xs.map .str)):=by
   rw[f3.2 n (by have:=x2.1;have:=cj gn1;omega) (.inl (by omega)),x2.2 n (cj gn1)];exact gn1
  walk_at "pk";rw[oG gn3]
  simp only[aW,ar];have:¬((6:Int) < (xs.length:Int)):=by omega
  refine⟨by omega,?_⟩;simp only[this,decide_false,aq,if_false];walk_at "pk";have gP:(S3 ++ [SO.ins "Places" []])[S3.length]? = some (.ins "Places" []):=by simp
  have sz:=hT.sz;have sl3:=la3.len;refine ca h6 ⟨S3.length,S.length,sg,bh,en,rfl,gP,by simp,la3.ext (Ext.app _),by omega,A.len,by rw[A.GV];have:=hT.len;omega,fun u S4 hu e4 pa=>⟨rfl,?_⟩⟩;obtain⟨_,_,_,oP,_⟩:=pa.o;refine q _ u S4 ⟨sg,bh,en,pa,A,hu,by omega⟩ ⟨?_,fun n hn=>?_⟩
  ·have:=cj oP;omega
  ·have:=x2.1
   have:=la1.len;rw[e4 n (by omega),ak (by omega),f3.2 n (by omega) (.inl (by omega)),x2.2 n (by omega)];exact x1 n hn
def Rz:Spec:=fun us S Q _=>∃X n xs ts,us = [.loc X,.loc n]/\S[X]? = some (.ins "Lexer" [])/\S[n]? = some (.lst (xs.map .str))/\Wq ts xs/\DJ ts/\∀S',Lc S' X ts->Old X S S'->Q .bQ S'
theorem RA (Γ:b7) (h1:Γ "places_of" = Rx):Keeps Γ jJ 0 Rz:=by
 rintro us S Q E ⟨X,n,xs,ts,rfl,gX,gn,hR,hT,q⟩;unfold jJ;walk_at "pk";refine ca h1 ⟨n,xs,ts,rfl,gn,hR,hT,fun P u S1 pa x1=>?_⟩;have gX1:=x1.get gX;have ne:P≠X:=fun z=>by
  obtain⟨_,_,_,pp,_⟩:=pa.o;obtain⟨_,_,_,h,_⟩:=pp.o;rw[z,gX1] at h;simp at h
 refine uY gX1 (by simp) fun S2 o2 l2 g2=>?_
 walk_at "pk";exact q S2 ⟨P,u,g2,pa.old o2 gX1 ne⟩ ((Ext.old x1).trans o2)
noncomputable def er:Tr->Tr
 | .one _ l=>.one 0 l
 | .row a b=>.row (er a) (er b)
 | .or a b=>.or (er a) (er b)
 | .rep m a=>.rep m (er a)
theorem qS:∀t,enc (er t)=enc t
 | .one _ l=>rfl
 | .row a b=>by simp only[er,enc,qS a,qS b]
 | .or a b=>by simp only[er,enc,qS a,qS b]
 | .rep m a=>by simp only[er,enc,qS a]
theorem lg:∀t,null (er t)=null t
 | .one _ l=>rfl
 | .row a b=>by simp only[er,null,lg a,lg b]
 | .or a b=>by simp only[er,null,lg a,lg b]
 | .rep m a=>by cases m<;>simp only[er,null,lg a]
theorem Kl:more m (er a)=(more m a).map er:=by cases m<;>rfl
theorem wd:∀t c,dF (er t) c=(dF t c).map (cX er)
 | .one _ l,c=>by simp only[er,dF];split<;>rfl
 | .row a b,c=>by
  simp only[er,dF,wd a,wd b,lg,d9,bI]
  congr 1
  ·congr 1;funext x;simp
  ·split<;>rfl
 | .or a b,c=>by simp only[er,dF,wd a,wd b,d9]
 | .rep m a,c=>by
  simp only[er,dF,wd a,Kl,bI]
  congr 1;funext x;simp
theorem Ld:∀(K:List Tr) c,dR (K.map er) c=(dR K c).map (cX er)
 | [],c=>rfl
 | t::K,c=>by
  simp only[aE,dR,wd,Ld K,lg,d9,bI]
  congr 1
  ·congr 1;funext x;simp
  ·split<;>rfl
theorem ye(K:List Tr):cD (K.map er)=cD K:=by
 unfold cD;rw[bI]
 congr 2;funext t
 exact qS t
theorem eqT(h:nv (.tup [.str k,x]) (.tup [.str k',y])=true):k=k'/\nv x y=true:=by
 have h:((k == k') && (nv x y && true))=true:=h;rw[yx,ag] at h;exact⟨eq_of_beq h.1,h.2⟩
theorem eqQ(h:nv (.tup [x,x']) (.tup [y,y'])=true):nv x y=true/\nv x' y'=true:=by
 have h:(nv x y && (nv x' y' && true))=true:=h;rw[yx,ag] at h;exact h
theorem Km(h:nv x y=true):nv (.tup [.str k,x]) (.tup [.str k,y])=true:=by
 show((k == k) && (nv x y && true))=true
 rw[h];simp
theorem N6(h:nv x y=true)(h':nv x' y'=true):nv (.tup [x,x']) (.tup [y,y'])=true:=by
 show(nv x y && (nv x' y' && true))=true
 rw[h,h'];rfl
theorem oK(m:Mk):mF m≠J0/\mF m≠Bb/\mF m≠OO:=by cases m<;>decide
theorem mk_inj(h:mF m=mF m'):m=m':=by
 revert h
 cases m<;>cases m'<;>first | exact fun _=>rfl | exact fun h=>absurd h (by decide)
theorem qT:∀a b,nv (enc a) (enc b)=true->er a=er b
 | .one _ l,.one _ l',h=>by
  have:l=l':=eq_of_beq (show(l == l')=true from (eqT h).2);rw[this];rfl
 | .one _ _,.row _ _,h=>absurd (eqT h).1 (by decide)
 | .one _ _,.or _ _,h=>absurd (eqT h).1 (by decide)
 | .one _ _,.rep m _,h=>absurd (eqT h).1.symm (oK m).1
 | .row _ _,.one _ _,h=>absurd (eqT h).1 (by decide)
 | .row a1 a2,.row b1 b2,h=>by
  have h:=eqQ (eqT h).2;simp only[er,qT a1 b1 h.1,qT a2 b2 h.2]
 | .row _ _,.or _ _,h=>absurd (eqT h).1 (by decide)
 | .row _ _,.rep m _,h=>absurd (eqT h).1.symm (oK m).2.1
 | .or _ _,.one _ _,h=>absurd (eqT h).1 (by decide)
 | .or _ _,.row _ _,h=>absurd (eqT h).1 (by decide)
 | .or a1 a2,.or b1 b2,h=>by
  have h:=eqQ (eqT h).2;simp only[er,qT a1 b1 h.1,qT a2 b2 h.2]
 | .or _ _,.rep m _,h=>absurd (eqT h).1.symm (oK m).2.2
 | .rep m _,.one _ _,h=>absurd (eqT h).1 (oK m).1
 | .rep m _,.row _ _,h=>absurd (eqT h).1 (oK m).2.1
 | .rep m _,.or _ _,h=>absurd (eqT h).1 (oK m).2.2
 | .rep m a,.rep m' b,h=>by
  have e:=mk_inj (eqT h).1;subst e;simp only[er,qT a b (eqT h).2]
theorem lU:∀a,nv (enc a) (enc a)=true
 | .one _ l=>Km (show(l == l)=true by simp)
 | .row a b=>Km (N6 (lU a) (lU b))
 | .or a b=>Km (N6 (lU a) (lU b))
 | .rep m a=>Km (lU a)
theorem yf:∀K L:List Tr,uO (K.map enc) (L.map enc)=true->K.map er=L.map er
 | [],[],_=>rfl
 | [],_::_,h=>by simp[uO] at h
 | _::_,[],h=>by simp[uO] at h
 | a::K,b::L,h=>by
  simp only[aE,uO,ag] at h ⊢;rw[qT a b h.1,yf K L h.2]
theorem we:∀K:List Tr,uO (K.map enc) (K.map enc)=true
 | []=>rfl
 | a::K=>by simp[uO,lU a,we K]
theorem yg:nv (cD K) (cD L)=true↔cD K=cD L:=by
 constructor
 ·intro h
  rw[<-ye K,<-ye L,yf K L h]
 ·intro h
  rw[<-h];exact we K
theorem Le(h:cD K=cD L):K.map er=L.map er:=yf K L (yg.mpr h)
theorem G9(h:cD K=cD L):dk K=dk L:=by
 have key:∀M:List Tr,dk (M.map er)=dk M:=fun M=>by unfold dk;rw[zW];congr 1;funext t;exact lg t
 rw[<-key K,<-key L,Le h]
theorem N7(h:cD K=cD L):(dR K c).map cD=(dR L c).map cD:=by
 have key:∀M:List Tr,(dR (M.map er) c).map cD=(dR M c).map cD:=fun M=>by
  rw[Ld,bI];congr 1;funext x;exact ye x
 rw[<-key K,<-key L,Le h]
theorem wg:∀t,tq (enc t)=true
 | .one _ l=>rfl
 | .row a b=>by simp[enc,tq,kB,wg a,wg b]
 | .or a b=>by simp[enc,tq,kB,wg a,wg b]
 | .rep m a=>by simp[enc,tq,kB,wg a]
theorem oq:∀t,dep (enc t)<=2 * bG t + 1
 | .one _ l=>by simp[enc,dep,mQ]
 | .row a b=>by
  have:=oq a;have:=oq b;simp only[enc,dep,mQ,bG];omega
 | .or a b=>by
  have:=oq a;have:=oq b;simp only[enc,dep,mQ,bG];omega
 | .rep m a=>by
  have:=oq a;simp only[enc,dep,mQ,bG];omega
theorem Bj:∀K:List Tr,kB (K.map enc)=true
 | []=>rfl
 | t::K=>by simp[kB,wg t,Bj K]
theorem zJ:∀K:List Tr,(∀t∈K,bG t<=d)->mQ (K.map enc)<=2 * d + 1
 | [],_=>by simp[mQ]
 | t::K,h=>by
  have h1:=oq t;have h2:=h t (ba ..);have h3:=zJ K fun t m=>h t (aS _ m)
  simp only[aE,mQ];omega
noncomputable def iN(K:List Tr):Nat:=(K.map size).sum
theorem ui:iN (K ++ L)=iN K + iN L:=by simp[iN]
theorem lV:∀t p,(cont t p).length<=bG t/\(∀x∈cont t p,bG x<=bG t)/\iN (cont t p)<=size t * bG t
 | .one _ _,p=>by simp[cont,bG,iN]
 | .row a b,p=>by
  have ha:=lV a p;have hb:=lV b p;have m1:size a * bG a<=size a * max (bG a) (bG b):=kb _ (by omega);have m2:size b * bG b<=size b * max (bG a) (bG b):=kb _ (by omega);have m3:(size a + size b) * (max (bG a) (bG b) + 1)=size a * max (bG a) (bG b) + size b * max (bG a) (bG b) + size a + size b:=by
   rw[CK,Nat.add_mul];omega
  simp only[cont,bG,size];split
  ·refine⟨by simp;omega,fun x hx=>?_,?_⟩
   ·rcases aQ.mp hx with h | h
    ·have:=ha.2.1 x h;omega
    ·simp at h;subst h;omega
   ·rw[ui,m3]
    have:iN [b] = size b:=by simp[iN]
    omega
  ·exact⟨by omega,fun x hx=>by have:=hb.2.1 x hx;omega,by rw[m3];omega⟩
 | .or a b,p=>by
  have ha:=lV a p;have hb:=lV b p;have m1:size a * bG a<=size a * max (bG a) (bG b):=kb _ (by omega);have m2:size b * bG b<=size b * max (bG a) (bG b):=kb _ (by omega);have m3:(size a + size b) * (max (bG a) (bG b) + 1)=size a * max (bG a) (bG b) + size b * max (bG a) (bG b) + size a + size b:=by
   rw[CK,Nat.add_mul];omega
  simp only[cont,bG,size];split
  ·exact⟨by omega,fun x hx=>by have:=ha.2.1 x hx;omega,by rw[m3];omega⟩
  ·exact⟨by omega,fun x hx=>by have:=hb.2.1 x hx;omega,by rw[m3];omega⟩
 | .rep m a,p=>by
  have ha:=lV a p;have m3:size a * (bG a + 1)=size a * bG a + size a:=by rw[CK];omega
  simp only[cont,bG,size];refine⟨?_,fun x hx=>?_,?_⟩
  ·cases m<;>simp[more]<;>omega
  ·rcases aQ.mp hx with h | h
   ·have:=ha.2.1 x h;omega
   ·cases m<;>simp[more] at h<;>subst h<;>simp[bG]
  ·rw[ui,m3]
   have:iN (more m a)<=size a:=by cases m<;>simp[more,iN,size]
   omega
theorem Bk(h:bG t < 4)(hs:size t<=100):(ct t p).length<=4/\(∀x∈ct t p,bG x < 4)/\iN (ct t p)<=400:=by
 unfold ct;split
 ·exact⟨by simp,by simpa using h,by simp[iN];omega⟩
 ·have:=lV t p
  have m:size t * bG t<=100 * 4:=Nat.mul_le_mul hs (by omega);exact⟨by omega,fun x hx=>by have:=this.2.1 x hx;omega,by omega⟩
theorem lB:∀t c,(dF t c).length<=size t/\∀x∈dF t c,x.length<=bG t
 | .one _ l,c=>by simp only[dF];split<;>simp[size]
 | .row a b,c=>by
  have ha:=lB a c;have hb:=lB b c;simp only[dF,size,bG];refine⟨by rw[aC,ar];split<;>(try simp)<;>omega,fun x hx=>?_⟩;rcases aQ.mp hx with h | h
  ·obtain⟨y,hy,rfl⟩:=bT.mp h
   have:=ha.2 y hy;simp;omega
  ·split at h
   ·have:=hb.2 x h;omega
   ·simp at h
 | .or a b,c=>by
  have ha:=lB a c;have hb:=lB b c;simp only[dF,size,bG];refine⟨by simp;omega,fun x hx=>?_⟩;rcases aQ.mp hx with h | h
  ·have:=ha.2 x h;omega
  ·have:=hb.2 x h;omega
 | .rep m a,c=>by
  have ha:=lB a c;simp only[dF,size,bG];refine⟨by simp;omega,fun x hx=>?_⟩;obtain⟨y,hy,rfl⟩:=bT.mp hx;have:=ha.2 y hy;cases m<;>simp[more]<;>omega
theorem Ha:∀(K:List Tr) c,(dR K c).length<=iN K
 | [],c=>by simp[dR]
 | t::K,c=>by
  have h1:=(lB t c).1;have h2:=Ha K c;simp only[dR,iN,aE,yu,aC,ar] at h2 ⊢;split<;>(try simp)<;>omega
theorem lh{g:bR->Prop}{c:U->bR->(Bool->bR->Prop)->Prop}{e:U->bR->KU->Prop}{Q:List U->bR->Prop}{S:bR}(l vs:List U)(hv:vs.length=l.length)(hl:l.length < 1000000)(hg:∀S',Ext S S'->g S')(hc:∀u S' k,k true S'->c u S' k)
  (he:∀(i:Nat) u v,l[i]? = some u->vs[i]? = some v->∀S' k,Ext S S'->(∀S2,Ext S' S2->k v S2)->e u S' k) (q:∀S',Ext S S'->Q vs S'):nB g c e Q l [] S:=by
 refine fG l (fun i acc S'=>Ext S S'/\acc=vs.take i) (fun i acc S' hi h=>⟨hg _ h.1,?_⟩) (fun i u acc S' k hu hi hk=>?_) (fun acc S' h=>?_) ⟨.refl,rfl⟩
 ·rw[h.2,jo];omega
 ·obtain⟨x,rfl⟩:=hi
  have il:i < vs.length:=by rw[hv];exact(ae.mp hu).1
  refine hc _ _ _ ?_;rw[if_pos rfl]
  refine he i u _ hu (aa il) S' _ x fun S2 x2=>hk _ _ ⟨x.trans x2,?_⟩
  rw[bZ,aa il];rfl
 ·obtain⟨x,rfl⟩:=h
  rw[<-hv,cF];exact q S' x
def uZ(d:Nat):Spec:=fun us S Q _=>∃u,us = [u]/\((∃t,u=enc t/\bG t < d/\∀S',Ext S S'->Q (.bl (null t)) S')\/∃K,u=DC K/\0 < d/\(∀t∈K,bG t + 1 < d)/\K.length<=1000/\∀S',Ext S S'->Q (.bl (dk K)) S')
theorem yh{K:List Tr}{f:Tr->U}{i:Nat}{u v:U}(hu:(K.map enc)[i]? = some u)(hv:(K.map f)[i]? = some v):∃t,t∈K/\u=enc t/\v=f t:=by
 rw[aw] at hu hv;obtain⟨t,e,rfl⟩:=af.mp hu;rw[e] at hv;exact⟨t,aB e,rfl,(aG hv).symm⟩
theorem Hb {Γ:b7} {d:Nat} (h1:Γ "_law_nothing" = uZ d) {S:bR} {Q:KU} {D:Ends} (hD:D.rt=Q) {K:List Tr} (hK:∀t∈K,bG t < d) (hl:K.length<=1000) (q:∀S',Ext S S'->Q (.bl (dk K)) S'):
  Rest Γ (.cons (.ret (.blt .all (.cons (.comp false (.call "_law_nothing" (.cons (.var 0) .nil)) (.val (.ix (.var 0) (.lit (.int 1)))) (.cG (.lit (.bl true))) []) .nil))) .nil) D [some (DC K)] S:=by
 subst hD;unfold DC cD;walk_at "pk";simp only[jj,aW];refine⟨by simp,by simp;omega,?_⟩;refine lh _ (K.map fun t=>.bl (null t)) (by simp) (by simp;omega) (fun _ _=>trivial) (fun u S' k h=>h) (fun i u v hu hv S' k x hk=>?_) fun S' x=>?_
 ·obtain⟨t,m,rfl,rfl⟩:=yh hu hv
  exact ca h1 ⟨_,rfl,.inl ⟨t,rfl,hK t m,hk⟩⟩
 ·refine⟨K.map null,by simp,?_⟩
  have:(K.map null).all id=dk K:=by unfold dk;rw[zW];rfl
  rw[this]
  exact q _ (x.trans (Ext.app _))
theorem RB (Γ:b7) (d:Nat) (h1:Γ "_law_nothing" = uZ d):Keeps Γ iH 0 (uZ (d + 1)):=by
 rintro us S Q E ⟨u,rfl,h⟩;unfold iH;rcases h with⟨t,rfl,dt,q⟩ | ⟨K,rfl,-,dK,hl,q⟩
 ·cases t with
  | one n l=>exact p9 rfl rfl (q S .refl)
  | row a b=>
   have dt:max (bG a) (bG b) + 1 < d + 1:=dt;refine iL rfl rfl (p9 rfl rfl (Hb (K:=[a,b]) h1 rfl (fun t m=>?_) (by simp) fun S' x=>?_))
   ·rcases aX.mp m with rfl | m
    ·omega
    ·simp at m;subst m;omega
   ·have:=q S' x
    simpa[dk,null] using this
  | or a b=>
   have dt:max (bG a) (bG b) + 1 < d + 1:=dt;refine iL rfl rfl (iL rfl rfl (p9 rfl rfl ?_));unfold enc;walk_at "pk";simp only[jj,aW];refine⟨by simp,by simp,?_⟩;refine lh _ [.bl (null a),.bl (null b)] (by simp) (by simp) (fun _ _=>trivial) (fun u S' k h=>h) (fun i u v hu hv S' k x hk=>?_) fun S' x=>?_
   ·obtain⟨t,m,rfl,rfl⟩:=yh (K:=[a,b]) (f:=fun t=>.bl (null t)) hu hv
    refine ca h1 ⟨_,rfl,.inl ⟨t,rfl,?_,hk⟩⟩;rcases aX.mp m with rfl | m
    ·omega
    ·simp at m;subst m;omega
   ·refine⟨[null a,null b],by simp,?_⟩
    have:[null a,null b].any id=null (.or a b):=by simp[null]
    rw[this]
    exact q _ (x.trans (Ext.app _))
  | rep m a=>
   have dt:bG a + 1 < d + 1:=dt;have k1:=oK m;refine iL rfl (beq_eq_false_iff_ne.mpr k1.1) (iL rfl (beq_eq_false_iff_ne.mpr k1.2.1) (iL rfl (beq_eq_false_iff_ne.mpr k1.2.2) ?_));unfold enc;walk_at "pk";simp only[lT,jj,aW];refine⟨by simp,by simp,?_⟩;have e2:∀q:Bool->Prop,pH (.str (mF m)) [.str j0,.str jv] q=q (DG m):=fun q=>by
    have:=anyS (a:=mF m) (l:=[j0,jv]) (q:=q);cases m<;>simpa[DG,mF] using this
   rw[e2]
   cases m<;>simp only[DG,Fi,aq,if_false,if_true]
   ·exact q S .refl
   ·exact⟨by simp,ca h1 ⟨_,rfl,.inl ⟨a,rfl,by omega,q⟩⟩⟩
   ·exact q S .refl
 ·exact iL rfl rfl (p9 rfl rfl (Hb h1 rfl (fun t m=>by have:=dK t m;omega) hl q))
theorem wj{α:Type}{x:List α}{a:Nat}:nA x (some (a:Nat)) none=x.drop a:=by
 unfold nA;simp only[dh,iY,rM,Aa];by_cases h:a<=x.length
 ·rw[Nat.min_eq_left h,dD (by simp)]
 ·rw[sG (by omega),rW,fJ (by omega)];simp
def Bl(d:Nat):Spec:=fun us S Q _=>∃u c,us = [u,.str [c]]/\((∃t,u=enc t/\bG t < d/\size t<=1000/\∀n S',Ext S S'->S.length<=n->S'[n]? = some (.lst ((dF t c).map cD))->Q (.loc n) S') \/
 ∃K,u=DC K/\0 < d/\(∀t∈K,bG t + 1 < d)/\K.length<=1000/\iN K<=1000/\∀n S',Ext S S'->S.length<=n->S'[n]? = some (.lst ((dR K c).map cD))->Q (.loc n) S')
noncomputable def Wr:du:=(.cons (.set 2 (.lst .nil))
     (.cons (.ji (.name 4) (.range (.blt .len (.cons (.ix (.var 0) (.lit (.int 1))) .nil))) (.cons (.set 2 (.bin .add (.var 2) (.comp false (.bin .add (.var 0) (.sl (.ix (.var 1) (.lit (.int 1))) (.e (.bin .add (.var 2) (.lit (.int 1)))) .no)) (.val (.call "_law_behind" (.cons (.ix (.ix (.var 0) (.lit (.int 1))) (.var 4)) (.cons (.var 1) .nil)))) (.cG (.lit (.bl true))) [0,4])))
       (.cons (.ifs (.not (.cG (.call "_law_nothing" (.cons (.ix (.ix (.var 0) (.lit (.int 1))) (.var 4)) .nil)))) (.cons (.ret (.var 2)) .nil) .nil) .nil)))
     (.cons (.ret (.var 2)) .nil)))
theorem Hc{K:List Tr}{t:Tr}(m:t∈K):size t<=iN K:=by
 obtain⟨a,b,rfl⟩:=D8 m;rw[ui]
 simp[iN];omega
theorem Hd {Γ:b7} {d:Nat} (hd:d<=100) (h1:Γ "_law_behind" = Bl d) (h2:Γ "_law_nothing" = uZ d) {S:bR} {Q:KU} {D:Ends} (hD:D.rt=Q) {K:List Tr} {c:Nat} (hK:∀t∈K,bG t < d) (hl:K.length<=1000) (hs:iN K<=1000)
  (q:∀n S',Ext S S'->S.length<=n->S'[n]? = some (.lst ((dR K c).map cD))->Q (.loc n) S'):Rest Γ Wr D [some (DC K),some (.str [c]),none,none,none,none] S:=by
 subst hD;unfold Wr DC;walk_at "pk";refine⟨by simp,?_⟩;have x0:Ext S (S ++ [SO.lst []]):=Ext.app _;have g0:(S ++ [SO.lst []])[S.length]? = some (.lst ((([]:List (List Tr))).map cD)):=by simp
 generalize S ++ [SO.lst []] = S0 at x0 g0;walk_at "pk";simp only[jj,aW];have el:∀S,oY S (cD K)=some K.length:=fun S=>by simp[cD,oY]
 rw[el,aW]
 refine⟨by simp,by omega,by omega,by omega,?_⟩;refine eR (fun i env S1=>∃(acc:List (List Tr)) (m:Nat) (x4:Option U),env = [some (.tup [.str [114,111,119],cD K]),some (.str [c]),some (.loc m),none,x4,none]/\Ext S S1/\S.length<=m/\S1[m]? = some (.lst (acc.map cD))/\acc ++ dR (K.drop i) c=dR K c) (fun _ _ _ _=>trivial) _ ?_ ?_ ⟨[],S.length,none,rfl,x0,ax _,g0,rfl⟩
 ·rintro i u env S1 K' hu ⟨acc,m,x4,rfl,x1,ml,g1,inv⟩ hK'
  obtain⟨rfl,hi⟩:=j5 hu;have hi:i < K.length:=by simpa using hi
  have ht:K[i]? = some K[i]:=aa hi;have hd':K.drop i=K[i]::K.drop (i + 1):=d6 hi;have hm:K[i]∈K:=bL hi;generalize K[i] = t at ht hd' hm;have tl:=hK t hm;have ts:=Hc hm;have ai:∀ {r:U->Prop},opt (tw (K.map enc) ((i:Nat):Int)) r=r (enc t):=fun {r}=>by rw[gZ,aw,ht];rfl
  have bl:=Ha K c;rw[<-inv,aC] at bl;rw[hd',dR] at inv;have fl:=lB t c;walk_at "pk";simp only[jj,aW];unfold cD;simp only[BX,ai,ar];refine⟨by simp,by omega,ca h1 ⟨_,c,rfl,.inl ⟨t,rfl,tl,by omega,fun n S2 x2 nl g2=>?_⟩⟩⟩;walk_at "pk";rw[g2,aF]
  refine lh (S:=S2) _ (((dF t c).map (· ++ K.drop (i + 1))).map cD) (by simp) (by simp;omega) (fun S' x=>x.get g2) (fun u S' k h=>h) (fun j u v hu hv S' k x hk=>?_) fun S3 x3=>?_
  ·rw[aw] at hu
   obtain⟨y,e,rfl⟩:=af.mp hu;rw[aw,aw,e] at hv;have hv:=aG hv;subst hv;have yl:=fl.2 y (aB e);refine⟨by simp,?_⟩;have e1:((i:Int) + 1)=((i + 1:Nat):Int):=by omega
   simp only[IV,e1,wj];refine⟨⟨fun i e=>(by injection e with e;omega),fun i e=>(by cases e)⟩,⟨by simp;omega,?_,by simp⟩,?_⟩
   ·intro z
    have:=congrArg cU z;simp at this;rw[this] at hi;simp at hi
   ·unfold cD
    rw[MA]
    refine⟨by simp;omega,?_⟩;have:cX enc y ++ List.drop (i + 1) (cX enc K)=cX enc (y ++ List.drop (i + 1) K):=by simp[List.map_drop]
    rw[this]
    exact hk S' .refl
  ·have x13:Ext S1 S3:=x2.trans x3
   generalize hW:((dF t c).map (· ++ K.drop (i + 1)))=W at inv;have wl:W.length<=1000:=by rw[<-hW];simp;omega
   rw[ak (cj (x13.get g1)),x13.get g1,aF]
   rw[av (ax _),cf]
   simp only[List.getElem?_cons_zero,aF];refine⟨by simp;omega,?_⟩;have x4:Ext S3 (S3 ++ [SO.lst (W.map cD)] ++ [SO.lst (acc.map cD ++ W.map cD)]):=(Ext.app _).trans (Ext.app _);have g4:(S3 ++ [SO.lst (W.map cD)] ++ [SO.lst (acc.map cD ++ W.map cD)])[(S3 ++ [SO.lst (W.map cD)]).length]? = some (.lst ((acc ++ W).map cD)):=by
    rw[av (ax _),cf,d9];rfl
   have l4:S.length<=(S3 ++ [SO.lst (W.map cD)]).length:=by have:=(x1.trans x13).1;rw[aC];omega
   generalize (S3 ++ [SO.lst (W.map cD)]).length=m4 at g4 l4;generalize S3 ++ [SO.lst (W.map cD)] ++ [SO.lst (acc.map cD ++ W.map cD)] = S4 at x4 g4;walk_at "pk";simp only[jj,aW,BX,ai,ar];refine⟨by simp,by omega,ca h2 ⟨_,rfl,.inl ⟨t,rfl,tl,fun S5 x5=>?_⟩⟩⟩;walk_at "pk";have xx:Ext S S5:=(x1.trans x13).trans (x4.trans x5);cases nt:null t with
   | false=>
    rw[nt] at inv;simp only[cq,if_true];walk_at "pk";refine q m4 S5 xx l4 (by rw[<-inv];simp;have:=x5.get g4;simpa using this)
   | true=>
    rw[nt] at inv;simp only[bJ,aq,if_false];walk_at "pk";exact hK' _ _ ⟨acc ++ W,m4,_,rfl,xx,l4,x5.get g4,by rw[<-inv];simp⟩
 ·rintro env S1 ⟨acc,m,x4,rfl,x1,ml,g1,inv⟩
  walk_at "pk";have:K.drop (cX (fun k=>U.int ((k:Nat):Int)) (cv K.length)).length = []:=fJ (by simp);rw[this,dR,aZ] at inv;exact q m S1 x1 ml (by rw[<-inv];exact g1)
theorem RC (Γ:b7) (d:Nat) (hd:d<=100) (h1:Γ "_law_behind" = Bl d) (h2:Γ "_law_nothing" = uZ d):Keeps Γ jc 4 (Bl (d + 1)):=by
 rintro us S Q E ⟨u,c,rfl,h⟩;unfold jc;rcases h with⟨t,rfl,dt,sz,q⟩ | ⟨K,rfl,-,dK,hl,hs,q⟩
 ·cases t with
  | one n l=>
   refine p9 rfl rfl ?_;unfold enc;walk_at "pk";simp only[jj,aW];refine⟨by simp,?_⟩;walk_at "pk";by_cases z:l.contains c=true
   ·rw[if_pos z]
    refine⟨by simp,by simp,q _ _ (Ext.app _) (ax _) ?_⟩;have e:dF (.one n l) c = [[]]:=by simp only[dF,if_pos z]
    rw[e];simp[cD]
   ·rw[if_neg z]
    refine⟨by simp,q _ _ (Ext.app _) (ax _) ?_⟩;have e:dF (.one n l) c = []:=by simp only[dF,if_neg z]
    rw[e];simp
  | row a b=>
   have dt:max (bG a) (bG b) + 1 < d + 1:=dt;have sz:size a + size b<=1000:=sz;refine iL rfl rfl (iL rfl rfl (p9 rfl rfl ?_));refine Hd (K:=[a,b]) hd h1 h2 rfl (fun t m=>?_) (by simp) (by simp[iN];omega) fun n S' x nl g=>q n S' x nl ?_
   ·rcases aX.mp m with rfl | m
    ·omega
    ·simp at m;subst m;omega
   ·rw[g];simp[dR,dF]
  | or a b=>
   have dt:max (bG a) (bG b) + 1 < d + 1:=dt;have sz:size a + size b<=1000:=sz;have la:=lB a c;have lb:=lB b c;refine iL rfl rfl (p9 rfl rfl ?_);unfold enc;walk_at "pk";refine⟨by simp,?_⟩;have g0:(S ++ [SO.lst []])[S.length]? = some (.lst []):=by simp
   have x0:Ext S (S ++ [SO.lst []]):=Ext.app _;generalize S.length=m0 at g0;generalize S ++ [SO.lst []] = S0 at g0 x0;walk_at "pk";simp only[jj,aW,W3,tB];refine⟨by simp,by simp,trivial,?_⟩;walk_at "pk";refine ca h1 ⟨_,c,rfl,.inl ⟨a,rfl,by omega,by omega,fun n S1 x1 nl g1=>?_⟩⟩;walk_at "pk";rw[x1.get g0,g1]
   simp only[aF,fN];refine⟨by simp;omega,?_⟩;have g2:(S1 ++ [SO.lst ((dF a c).map cD)])[S1.length]? = some (.lst ((dF a c).map cD)):=by simp
   have x2:Ext S1 (S1 ++ [SO.lst ((dF a c).map cD)]):=Ext.app _;generalize S1.length=m2 at g2;generalize S1 ++ [SO.lst ((dF a c).map cD)] = S2 at g2 x2;walk_at "pk";refine ca h1 ⟨_,c,rfl,.inl ⟨b,rfl,by omega,by omega,fun n3 S3 x3 nl3 g3=>?_⟩⟩;walk_at "pk";rw[x3.get g2,g3]
   simp only[aF];refine⟨by simp;omega,?_⟩;walk_at "pk";have xx:=((x0.trans x1).trans x2).trans x3;exact q _ _ (xx.trans (Ext.app _)) xx.1 (by simp[dF])
  | rep m a=>
   have dt:bG a + 1 < d + 1:=dt;have sz:size a<=1000:=sz;have k1:=oK m;have la:=lB a c;refine iL rfl (beq_eq_false_iff_ne.mpr k1.1) (iL rfl (beq_eq_false_iff_ne.mpr k1.2.2) (iL rfl (beq_eq_false_iff_ne.mpr k1.2.1) ?_));have go:Rest Γ (.cons (.ret (.comp false (.bin .add (.var 0) (.var 1)) (.val (.call "_law_behind" (.cons (.ix (.var 0) (.lit (.int 1))) (.cons (.var 1) .nil)))) (.cG (.lit (.bl true))) [5])) .nil) ⟨fun _ S1=>Q .bQ S1,Q,fun _=>E⟩ [some (enc (.rep m a)),some (.str [c]),none,none,none,some (cD (more m a))] S:=by
    unfold enc;walk_at "pk";simp only[jj,aW];refine⟨by simp,ca h1 ⟨_,c,rfl,.inl ⟨a,rfl,by omega,by omega,fun n S1 x1 nl g1=>?_⟩⟩⟩;walk_at "pk";rw[g1,aF]
    refine lh (S:=S1) _ (((dF a c).map (· ++ more m a)).map cD) (by simp) (by simp;omega) (fun S' x=>x.get g1) (fun u S' k h=>h) (fun j u v hu hv S' k x hk=>?_) fun S3 x3=>?_
    ·rw[aw] at hu
     obtain⟨y,e,rfl⟩:=af.mp hu;rw[aw,aw,e] at hv;have hv:=aG hv;subst hv;have yl:=la.2 y (aB e);unfold cD;walk_at "pk";have ml:(more m a).length<=1:=by cases m<;>simp[more]
     refine⟨by simp;omega,?_⟩;have:=hk S' .refl;unfold cD at this;simpa using this
    ·have x13:=x1.trans x3
     exact q _ _ (x13.trans (Ext.app _)) x13.1 (by simp[dF])
   have ek:enc (.rep m a)= .tup [.str (mF m),enc a]:=rfl;rw[ek] at go ⊢;walk_at "pk";simp only[lT,jj,aW];refine⟨by simp,?_⟩;walk_at "pk";cases m with
   | may=>
    rw[if_pos (by simp[mF])]
    exact⟨by simp,go⟩
   | star=>
    rw[if_neg (by simp[mF])]
    exact⟨by simp,by simp,by simp,go⟩
   | plus=>
    rw[if_neg (by simp[mF])]
    exact⟨by simp,by simp,by simp,go⟩
 ·exact iL rfl rfl (iL rfl rfl (p9 rfl rfl (Hd hd h1 h2 rfl (fun t m=>by have:=dK t m;omega) hl hs q)))
def N8:Spec:=fun us S Q _=>∃n c X t H n0,us = [.loc n,.str [c]]/\S[n]? = some (.lst X)/\K9 t H X/\mT n0 t/\0 < n0/\bG t < 4/\size t<=100/\X.length<=1000/\∀m Y S',Ext S S'->S'[m]? = some (.lst Y)->K9 t (QL t c H) Y->Q (.loc m) S'
theorem Bm{α:Type}:∀ {l l':List α},l.Nodup->(∀x∈l,x∈l')->l.length<=l'.length
 | [],_,_,_=>by simp
 | a::l,l',nd,h=>by
  obtain⟨s,t,rfl⟩:=D8 (h a (ba ..));rw[jO] at nd;have:=Bm (l':=s ++ t) nd.2 fun x m=>by
   have hx:=h x (aS _ m);simp only[aQ,aX] at hx ⊢;rcases hx with z | z | z
   ·exact .inl z
   ·subst z;exact absurd m nd.1
   ·exact .inr z
  simp only[aC,aN] at this ⊢;omega
theorem RD (Γ:b7) (h1:Γ "_law_behind" = Bl 5):Keeps Γ jK 3 N8:=by
 rintro us S Q E ⟨n,c,X,t,H,n0,rfl,g,rp,pl,n1,dt,sz,hX,q⟩;unfold jK;walk_at "pk";refine⟨by simp,?_⟩;have x0:Ext S (S ++ [SO.lst []]):=Ext.app _;have g0:(S ++ [SO.lst []])[S.length]? = some (.lst []):=by simp
 walk_at "pk";rw[x0.get g,aF]
 have nS:=cj g
 let P:U->Prop:=fun y=>∃p,QL t c H p/\y=cD (ct t p)
 have fd:∀ {Y:List U},(∀y∈Y,P y)->kB Y=true/\mQ Y<=100:=by
  intro Y;induction Y with
  | nil=>intro _;exact⟨rfl,by simp[mQ]⟩
  | cons y Y ih=>
   intro h;obtain⟨p,_,rfl⟩:=h y (ba ..);obtain⟨i1,i2⟩:=ih fun z m=>h z (aS _ m)
   have e1:=Bj (ct t p);have e2:=zJ (d:=3) (ct t p) fun x m=>by have:=(Bk (p:=p) dt sz).2.1 x m;omega
   constructor
   ·show(kB _ && kB Y)=true
    rw[e1,i1];rfl
   ·show max (mQ _ + 1) (mQ Y)<=100
    omega
 have fl:∀ {Y:List U},Y.Nodup->(∀y∈Y,P y)->Y.length<=100:=fun {Y} nd h=>by
  have:=Bm (l':=(List.range' n0 (size t)).map fun p=>cD (ct t p)) nd fun y m=>by
   obtain⟨p,⟨q,_,f,_⟩,rfl⟩:=h y m;exact bT.mpr ⟨p,Ey.mpr ((eF pl).mp (ug f)),rfl⟩
  simp at this;omega
 refine eR (fun i env S1=>∃(Y:List U) (x3 x4:Option U),env = [some (.loc n),some (.str [c]),some (.loc S.length),x3,x4]/\Ext S S1/\S1[S.length]? = some (.lst Y)/\Y.Nodup/\(∀y∈Y,P y)/\∀(j:Nat) p,j < i->X[j]? = some (cD (ct t p))->∀y∈dR (ct t p) c,cD y∈Y) (fun i env S1 ⟨_,_,_,_,x,_⟩=>x.get g) _ ?_ ?_ ⟨[],none,none,rfl,x0,g0,by simp,by simp,by omega⟩
 ·rintro i u env S1 K hu ⟨Y,x3,x4,rfl,x1,g1,nd,hP,inv⟩ hK
  obtain⟨p,hp,rfl⟩:=(rp.1 u).mp (aB hu);obtain⟨l1,l2,l3⟩:=Bk (p:=p) dt sz;walk_at "pk";refine⟨by simp,ca h1 ⟨_,c,rfl,.inr ⟨ct t p,rfl,by omega,fun x m=>by have:=l2 x m;omega,by omega,by omega,fun m S2 x2 ml g2=>?_⟩⟩⟩;have ml:S.length < m:=by have:=cj g1;omega
  walk_at "pk";rw[g2,aF]
  refine eR (fun j env S3=>∃(Z:List U) (x4:Option U),env = [some (.loc n),some (.str [c]),some (.loc S.length),some (cD (ct t p)),x4]/\Ext S S3/\S3[m]? = some (.lst ((dR (ct t p) c).map cD))/\S3[S.length]? = some (.lst Z)/\Z.Nodup/\(∀y∈Z,P y)/\(∀y∈Y,y∈Z)/\∀k y,k < j->(dR (ct t p) c)[k]? = some y->cD y∈Z) (fun j env S3 ⟨_,_,_,_,g,_⟩=>g) _ ?_ ?_ ⟨Y,x4,rfl,x1.trans x2,g2,x2.get g1,nd,hP,fun _ h=>h,by omega⟩
  ·rintro j u env S3 K' hu ⟨Z,x4,rfl,x3,g3,gz,nd,hP,hY,inv'⟩ hK'
   rw[aw] at hu;obtain⟨y,hy,rfl⟩:=af.mp hu;obtain⟨p',f1,f2,rfl⟩:=(GL pl n1).mp (aB hy);have st:QL t c H p':=⟨p,hp,f1,f2⟩
   have zl:=fl nd hP;have fz:=fd hP;have eb:(Z.any fun w=>nv w (cD (ct t p')))=true↔cD (ct t p')∈Z:=by
    rw[jq]
    constructor
    ·rintro⟨w,m,e⟩
     obtain⟨p2,_,rfl⟩:=hP w m;rw[yg.mp e] at m;exact m
    ·intro m;exact⟨_,m,yg.mpr rfl⟩
   have ev:cD (ct t p')= .tup ((ct t p').map enc):=rfl;rw[ev] at eb ⊢;walk_at "pk";rw[gz,aF]
   refine⟨⟨Bj _,fz.1,fz.2⟩,?_⟩;by_cases z:(Z.any fun w=>nv w (.tup ((ct t p').map enc)))=true
   ·rw[z]
    simp only[bJ,aq,if_false];walk_at "pk";refine hK' _ _ ⟨Z,_,rfl,x3,g3,gz,nd,hP,hY,fun k y hk ey=>?_⟩;by_cases e:k=j
    ·subst e;rw[hy] at ey;cases ey;exact eb.mp z
    ·exact inv' k y (by omega) ey
   ·rw[fh _ |>.mp z]
    simp only[cq,if_true];walk_at "pk";rw[gz,aF]
    refine⟨trivial,by omega,?_⟩;walk_at "pk";have nz:¬U.tup ((ct t p').map enc)∈Z:=fun m=>z (eb.mpr m)
    refine hK' _ _ ⟨Z ++ [.tup ((ct t p').map enc)],_,rfl,⟨by rw[df];exact x3.1,fun k hk=>?_⟩,by rw[au (by omega)];exact g3,gs gz,?_,fun y m=>?_,fun y m=>bO _ (hY y m),fun k y hk ey=>?_⟩
    ·rw[au (by omega)];exact x3.2 k hk
    ·rw[lI]
     exact⟨nd,by simp,fun a ma b mb e=>by simp at mb;subst mb;subst e;exact nz ma⟩
    ·rcases aQ.mp m with m | m
     ·exact hP y m
     ·simp at m;exact⟨p',st,m⟩
    ·by_cases e:k=j
     ·subst e;rw[hy] at ey;cases ey;exact aT _ (by simp[cD])
     ·exact bO _ (inv' k y (by omega) ey)
  ·rintro env S3 ⟨Z,x4,rfl,x3,g3,gz,nd,hP,hY,inv'⟩
   walk_at "pk";refine hK _ _ ⟨Z,_,_,rfl,x3,gz,nd,hP,fun j p2 hj ej y my=>?_⟩;by_cases e:j=i
   ·subst e
    rw[hu] at ej;have e2:=N7 (c:=c) (aG ej);have:cD y∈(dR (ct t p2) c).map cD:=bT.mpr ⟨y,my,rfl⟩;rw[<-e2] at this;obtain⟨y2,m2,e3⟩:=bT.mp this;obtain⟨k,hk⟩:=cC m2;rw[<-e3]
    exact inv' k y2 (by have:=(ae.mp hk).1;simpa using this) hk
   ·exact hY _ (inv j p2 (by omega) ej y my)
 ·rintro env S1 ⟨Y,x3,x4,rfl,x1,g1,nd,hP,inv⟩
  walk_at "pk";refine q _ Y S1 x1 g1 ⟨fun y=>⟨fun m=>hP y m,?_⟩,nd⟩;rintro⟨p,⟨q',hq,f1,f2⟩,rfl⟩;obtain⟨j,hj⟩:=cC ((rp.1 _).mpr ⟨q',hq,rfl⟩);exact inv j q' (ae.mp hj).1 hj _ ((GL pl n1).mpr ⟨p,f1,f2,rfl⟩)
def N9:Spec:=fun us S Q _=>∃n X t H,us = [.loc n]/\S[n]? = some (.lst X)/\K9 t H X/\bG t < 4/\size t<=100/\X.length<=1000/\∀b S',(b=true↔En t H)->Ext S S'->Q (.bl b) S'
theorem RE (Γ:b7) (h1:Γ "_law_nothing" = uZ 5):Keeps Γ kS 0 N9:=by
 rintro us S Q E ⟨n,X,t,H,rfl,g,rp,dt,sz,hl,q⟩;unfold kS;walk_at "pk";rw[g,aF]
 refine fG X (fun i acc S1=>Ext S S1/\∃bs:List Bool,acc=bs.map .bl/\bs.length=i/\∀(j:Nat) p,j < i->X[j]? = some (cD (ct t p))->bs[j]? = some (dk (ct t p))) (fun i acc S1 hi ⟨x,bs,e1,e2,_⟩=>⟨x.get g,by rw[e1,ar];omega⟩) (fun i u acc S1 k hu hi hk=>?_) (fun acc S1 h=>?_) ⟨.refl,[],rfl,rfl,by omega⟩
 ·obtain⟨x,bs,rfl,e2,inv⟩:=hi
  obtain⟨p,hp,rfl⟩:=(rp.1 u).mp (aB hu);obtain⟨l1,l2,l3⟩:=Bk (p:=p) dt sz;walk_at "pk";refine⟨by simp,ca h1 ⟨_,rfl,.inr ⟨ct t p,rfl,by omega,fun y m=>by have:=l2 y m;omega,by omega,fun S2 x2=>?_⟩⟩⟩;refine hk _ _ ⟨x.trans x2,bs ++ [dk (ct t p)],by simp,by simp[e2],fun j p2 hj ej=>?_⟩;by_cases z:j=i
  ·subst z
   rw[hu] at ej;rw[av (by omega),e2,cf,G9 (aG ej)];rfl
  ·rw[ak (by omega)];exact inv j p2 (by omega) ej
 ·obtain⟨x,bs,rfl,e2,inv⟩:=h
  refine⟨bs,by simp,q _ _ ?_ (x.trans (Ext.app _))⟩;rw[jq]
  constructor
  ·rintro⟨b,m,hb⟩
   obtain⟨j,hj⟩:=cC m;have jl:j < X.length:=by rw[<-e2];exact(ae.mp hj).1
   obtain⟨p,hp,e⟩:=(rp.1 _).mp (bL jl);have:=inv j p jl (by rw[aa jl,e]);rw[hj] at this;have:=aG this;exact⟨p,hp,by rw[<-this];exact hb⟩
  ·rintro⟨p,hp,hn⟩
   obtain⟨j,hj⟩:=cC ((rp.1 _).mpr ⟨p,hp,rfl⟩);have:=inv j p (ae.mp hj).1 hj;exact⟨_,aB this,by rw[hn];rfl⟩
theorem Co(pl:mT n0 t)(h:K9 t (hs t w) X):X.length<=size t + 1:=by
 have:=Bm (l':=(0::List.range' n0 (size t)).map fun p=>cD (ct t p)) h.2 fun y m=>by
  obtain⟨p,hp,rfl⟩:=(h.1 y).mp m;refine bT.mpr ⟨p,?_,rfl⟩;rcases QM hp with z | z
  ·subst z;simp
  ·exact aS _ (Ey.mpr ((eF pl).mp z))
 simpa using this
def Oa(ts:List Tr)(w:List Nat)(S:bR)(m:Nat):Prop:=∃rs:List Nat,S[m]? = some (.lst (rs.map .loc))/\rs.length=ts.length/\∀(i:Nat) t r,ts[i]? = some t->rs[i]? = some r->∃X,S[r]? = some (.lst X)/\K9 t (hs t w) X
theorem He(h:DJ ts)(m:t∈ts):∃n,mT n t/\0 < n/\size t<=100/\bG t < 4:=by
 obtain⟨i,e⟩:=cC m;have:=size_take e;have:=h.sz;exact⟨_,yd h.pl e,by omega,by omega,h.dp t m⟩
theorem yi(h:Oa ts w S m)(x:Ext S S'):Oa ts w S' m:=by
 obtain⟨rs,g,l,h⟩:=h;refine⟨rs,x.get g,l,fun i t r e1 e2=>?_⟩;obtain⟨X,h1,h2⟩:=h i t r e1 e2;exact⟨X,x.get h1,h2⟩
def Hf:Spec:=fun us S Q _=>∃n x a ts,us = [.loc n,.str x,bc a]/\S[n]? = some (.lst (ts.map enc))/\DJ ts/\x.length<=1000/\a<=x.length/\∀f S',v9 ts (x.drop a) (x.drop a).length f->Ext S S'->Q (uR f) S'
noncomputable def Ws:du:=(.cons (.set 4 (.comp false (.call "_law_rests" (.cons (.var 0) (.cons (.ix (.var 1) (.bin .add (.var 2) (.var 3))) .nil))) (.val (.var 4)) (.cG (.lit (.bl true))) [1,2,5]))
     (.cons (.set 5 (.bin .add (.var 5) (.lit (.int 1))))
     (.cons (.set 6 (.comp false (.var 0) (.range (.blt .len (.cons (.var 4) .nil))) (.cG (.call "_law_ends" (.cons (.ix (.var 1) (.var 0)) .nil))) [4]))
     (.cons (.ifs (.cG (.var 6)) (.cons (.set 3 (.tup (.cons (.ix (.var 6) (.lit (.int 0))) (.cons (.var 5) .nil)))) .nil) .nil) .nil))))
theorem Kn (Γ:b7) (h1:Γ "_law_rests" = N8) (h2:Γ "_law_ends" = N9) (hT:DJ ts) (hx:x.length<=1000) (hk:a + k < x.length)
  (SQ:Oa ts ((x.drop a).take k) S m) (bs:v9 ts (x.drop a) k f) (q:∀f' m' x6' S',Ext S S'->Oa ts ((x.drop a).take (k + 1)) S' m'->v9 ts (x.drop a) (k + 1) f'->D.nx [some (.loc n),some (.str x),some (bc a),some (uR f'),some (.loc m'),some (bc (k + 1)),x6'] S'):
  Rest Γ Ws D [some (.loc n),some (.str x),some (bc a),some (uR f),some (.loc m),some (bc k),x6] S:=by
 unfold Ws;obtain⟨rs,g,rl,hr⟩:=SQ;have tl:=hT.len;have hc:(x.drop a)[k]? = some (x[a + k]'hk):=by rw[List.getElem?_drop,aa hk]
 walk_at "pk";rw[g,aF]
 refine fG (rs.map .loc) (fun i acc S1=>Ext S S1/\∃rs':List Nat,acc=rs'.map .loc/\rs'.length=i/\∀(j:Nat) t r,ts[j]? = some t->rs'[j]? = some r->∃X,S1[r]? = some (.lst X)/\K9 t (hs t ((x.drop a).take (k + 1))) X) (fun i acc S1 hi ⟨x,rs',e1,e2,_⟩=>⟨x.get g,by rw[e1,ar];simp at hi;omega⟩) (fun i u acc S1 k' hu hi hk'=>?_) (fun acc S1 h=>?_) ⟨.refl,[],rfl,rfl,fun j t r _ e=>by simp at e⟩
 ·obtain⟨x1,rs',rfl,e2,inv⟩:=hi
  rw[aw] at hu;obtain⟨r,er,rfl⟩:=af.mp hu;have it:i < ts.length:=by rw[<-rl];exact(ae.mp er).1
  have et:ts[i]? = some ts[i]:=aa it;obtain⟨X,gX,rX⟩:=hr i _ r et er;obtain⟨n0,pl,n1,sz,dt⟩:=He hT (bL it);have Xl:=Co pl rX;have ea:((a:Int) + (k:Int))=((a + k:Nat):Int):=by omega
  walk_at "pk";rw[ea,gZ,aa hk,aW]
  refine⟨by omega,ca h1 ⟨r,_,X,ts[i],_,n0,rfl,x1.get gX,rX,pl,n1,dt,sz,by omega,fun m2 Y S2 x2 gY rY=>?_⟩⟩;rw[<-k9,<-take_snoc hc] at rY;refine hk' _ _ ⟨x1.trans x2,rs' ++ [m2],by simp,by simp[e2],fun j t r' e3 e4=>?_⟩;by_cases z:j=i
  ·subst z
   rw[av (by omega),e2,cf] at e4;cases e4;rw[et] at e3;cases e3;exact⟨Y,gY,rY⟩
  ·have jl:j < i:=by
    have:=(ae.mp e4).1;simp at this;omega
   rw[ak (by omega)] at e4;obtain⟨X',h1,h2⟩:=inv j t r' e3 e4;exact⟨X',x2.get h1,h2⟩
 ·obtain⟨x1,rs',rfl,e2,inv⟩:=h
  rw[ar] at e2;have R1:Oa ts ((x.drop a).take (k + 1)) (S1 ++ [SO.lst (rs'.map .loc)]) S1.length:=⟨rs',by simp,by omega,fun j t r e3 e4=>by
   obtain⟨X,h1,h2⟩:=inv j t r e3 e4;exact⟨X,(Ext.app _).get h1,h2⟩⟩
  have x2:Ext S (S1 ++ [SO.lst (rs'.map .loc)]):=x1.trans (Ext.app _);generalize S1.length=m1 at R1;generalize S1 ++ [SO.lst (rs'.map .loc)] = S2 at R1 x2;have R1':=R1;obtain⟨rs2,g2,rl2,hr2⟩:=R1';walk_at "pk";rw[oG g2]
  simp only[aW,ar,IT,rM];refine⟨by omega,by omega,by omega,?_⟩;refine fG _ (fun i acc S3=>Ext S2 S3/\acc.length<=i/\((acc = []/\∀j,j < i->Nn ts (x.drop a) (k + 1) j)\/∃g r,acc=bc g::r/\¬Nn ts (x.drop a) (k + 1) g/\∀j,j < g->Nn ts (x.drop a) (k + 1) j)) (fun i acc S3 hi ⟨x,e1,_⟩=>⟨trivial,by simp at hi;omega⟩) (fun i u acc S3 k' hu hi hk'=>?_) (fun acc S3 h=>?_) ⟨.refl,by simp,.inl ⟨rfl,by omega⟩⟩
  ·obtain⟨x3,al,inv⟩:=hi
   obtain⟨rfl,it⟩:=j5 hu;have it:i < ts.length:=by omega
   have et:ts[i]? = some ts[i]:=aa it;have er:rs2[i]? = some (rs2[i]'(by omega)):=aa (by omega);obtain⟨X,gX,rX⟩:=hr2 i _ _ et er;obtain⟨n0,pl,n1,sz,dt⟩:=He hT (bL it);have Xl:=Co pl rX;walk_at "pk";rw[x3.get g2,aF,gZ,aw,er]
   simp only[jw,aW];refine ca h2 ⟨_,X,ts[i],_,rfl,x3.get gX,rX,dt,sz,by omega,fun b S4 hb x4=>?_⟩;have nn:b=true↔¬Nn ts (x.drop a) (k + 1) i:=by
    rw[hb]
    constructor
    ·intro e z;exact z _ et e
    ·intro z
     exact r6 fun e=>z fun t e1 e2=>by rw[et] at e1;cases e1;exact e e2
   walk_at "pk";cases b with
   | true=>
    rw[if_pos rfl]
    refine hk' _ _ ⟨x3.trans x4,by simp;omega,.inr ?_⟩;rcases inv with⟨rfl,h⟩ | ⟨g,r,rfl,h3,h4⟩
    ·exact⟨i,[],rfl,nn.mp rfl,h⟩
    ·exact⟨g,r ++ [bc i],rfl,h3,h4⟩
   | false=>
    rw[if_neg (by simp)]
    have ni:Nn ts (x.drop a) (k + 1) i:=r6 fun z=>by have:=nn.mpr z;simp at this
    refine hk' _ _ ⟨x3.trans x4,by omega,?_⟩;rcases inv with⟨rfl,h⟩ | h
    ·refine .inl ⟨rfl,fun j hj=>?_⟩
     by_cases z:j=i
     ·subst z;exact ni
     ·exact h j (by omega)
    ·exact .inr h
  ·obtain⟨x3,al,inv⟩:=h
   simp only[ar,qZ] at al inv;have g5:(S3 ++ [SO.lst acc])[S3.length]? = some (.lst acc):=by simp
   have x5:Ext S2 (S3 ++ [SO.lst acc]):=x3.trans (Ext.app _);generalize S3.length=m5 at g5;generalize S3 ++ [SO.lst acc] = S5 at g5 x5;walk_at "pk";rw[P6 g5,aW]
   rcases inv with⟨rfl,h⟩ | ⟨g,r,rfl,h3,h4⟩
   ·simp only[eh,bne_self_eq_false,aq,if_false]
    walk_at "pk";refine q f _ _ S5 (x2.trans x5) (yi R1 x5) (pX bs (by omega) fun j i h1 h2=>?_);have:j=k + 1:=by omega
    subst this;by_cases z:i < ts.length
    ·exact h i (by omega)
    ·intro t e;have:=(ae.mp e).1;omega
   ·have:((bc g::r).length != 0)=true:=rfl
    rw[this,if_pos rfl]
    walk_at "pk";rw[g5,aF,lT,aW]
    refine⟨by simp,?_⟩;walk_at "pk";exact q (some (g,k + 1)) _ _ S5 (x2.trans x5) (yi R1 x5) (Cj h3 h4)
theorem Ob (Γ:b7) (h1:Γ "_law_rests" = N8) (h2:Γ "_law_ends" = N9):Keeps Γ jL 4 Hf:=by
 rintro us S Q E ⟨n,x,a,ts,rfl,gn,hT,hx,ha,q⟩;unfold jL;have tl:=hT.len;walk_at "pk";rw[gn,aF]
 refine fG (ts.map enc) (fun i acc S1=>Ext S S1/\∃rs':List Nat,acc=rs'.map .loc/\rs'.length=i/\∀(j:Nat) t r,ts[j]? = some t->rs'[j]? = some r->∃X,S1[r]? = some (.lst X)/\K9 t (hs t []) X) (fun i acc S1 hi ⟨x,rs',e1,e2,_⟩=>⟨x.get gn,by rw[e1,ar];simp at hi;omega⟩) (fun i u acc S1 k' hu hi hk'=>?_) (fun acc S1 h=>?_) ⟨.refl,[],rfl,rfl,fun j t r _ e=>by simp at e⟩
 ·obtain⟨x1,rs',rfl,e2,inv⟩:=hi
  rw[aw] at hu;obtain⟨t,et,rfl⟩:=af.mp hu;walk_at "pk";refine⟨by simp,by simp,hk' _ _ ⟨x1.trans (Ext.app _),rs' ++ [S1.length],by simp,by simp[e2],fun j t' r' e3 e4=>?_⟩⟩;by_cases z:j=i
  ·subst z
   rw[av (by omega),e2,cf] at e4;cases e4;rw[et] at e3;cases e3;exact⟨_,by simp;rfl,DD t⟩
  ·have jl:j < i:=by
    have:=(ae.mp e4).1;simp at this;omega
   rw[ak (by omega)] at e4;obtain⟨X',h1,h2⟩:=inv j t' r' e3 e4;exact⟨X',(Ext.app _).get h1,h2⟩
 obtain⟨x1,rs',rfl,e2,inv⟩:=h;have R1:Oa ts [] (S1 ++ [SO.lst (rs'.map .loc)]) S1.length:=⟨rs',by simp,by simpa using e2,fun j t r e3 e4=>by
  obtain⟨X,h1,h2⟩:=inv j t r e3 e4;exact⟨X,(Ext.app _).get h1,h2⟩⟩
 have x2:Ext S (S1 ++ [SO.lst (rs'.map .loc)]):=x1.trans (Ext.app _);generalize S1.length=m1 at R1;generalize S1 ++ [SO.lst (rs'.map .loc)] = S2 at R1 x2;walk_at "pk";have dl:(x.drop a).length=x.length - a:=by simp
 refine⟨x.length + 1,k7 (fun N env S3=>∃(k m:Nat) (f:Option (Nat × Nat)) (x6:Option U),N=x.length - (a + k)/\a + k<=x.length/\env = [some (.loc n),some (.str x),some (bc a),some (uR f),some (.loc m),some (bc k),x6]/\Ext S S3/\Oa ts ((x.drop a).take k) S3 m/\v9 ts (x.drop a) k f) ?_ _ (x.length - a) _ _ (by omega) ⟨0,m1,none,none,by omega,by omega,rfl,x2,R1,fun j i h1 h2=>by omega⟩⟩;rintro N env S3 K ⟨k,m,f,x6,rfl,hk,rfl,x3,R3,bs⟩ hK;have ea:((a:Int) + (k:Int))=((a + k:Nat):Int):=by omega
 walk_at "pk";rw[ea]
 refine⟨by omega,?_⟩;by_cases y:a + k < x.length
 ·have:(((a + k:Nat):Int) < (x.length:Int)):=by omega
  simp only[this,decide_true,if_true];have R3':=R3;obtain⟨rs,g,rl,hr⟩:=R3';rw[g,aF]
  refine fG (rs.map .loc) (fun i acc S4=>Ext S3 S4/\∃bs:List Bool,acc=bs.map .bl/\bs.length=i/\∀(j:Nat) t,j < i->ts[j]? = some t->bs[j]? = some false->∀p,¬hs t ((x.drop a).take k) p) (fun i acc S4 hi ⟨x,bs,e1,e2,_⟩=>⟨x.get g,by rw[e1,ar];simp at hi;omega⟩) (fun i u acc S4 k' hu hi hk'=>?_) (fun acc S4 h=>?_) ⟨.refl,[],rfl,rfl,by omega⟩
  ·obtain⟨x4,bs,rfl,e2,inv⟩:=hi
   rw[aw] at hu;obtain⟨r,er,rfl⟩:=af.mp hu;have it:i < ts.length:=by rw[<-rl];exact(ae.mp er).1
   obtain⟨X,gX,rX⟩:=hr i _ r (aa it) er;walk_at "pk";rw[(x4.trans (Ext.app _)).get gX,aF]
   refine⟨by simp,by simp,hk' _ _ ⟨x4.trans (Ext.app _),bs ++ [!X.isEmpty],by simp,by simp[e2],fun j t hj et ej p hp=>?_⟩⟩;by_cases z:j=i
   ·subst z
    rw[av (by omega),e2,cf] at ej;have ej:(!X.isEmpty)=false:=by simpa using ej
    rw[aa it] at et;cases et;have:=(rX.1 _).mpr ⟨p,hp,rfl⟩;cases X with
    | nil=>simp at this
    | cons a b=>simp at ej
   ·rw[ak (by omega)] at ej
    exact inv j t (by omega) et ej p hp
  ·obtain⟨x4,bs',rfl,e2,inv⟩:=h
   rw[ar] at e2 inv;refine⟨bs',by simp,?_⟩;have x5:Ext S3 (S4 ++ [SO.lst (bs'.map U.bl)]):=x4.trans (Ext.app _);generalize S4 ++ [SO.lst (bs'.map U.bl)] = S5 at x5;by_cases z:bs'.any id=true
   ·rw[if_pos z]
    exact Kn Γ h1 h2 hT hx y (yi R3 x5) bs fun f' m' x6' S6 x6 R6 b6=>hK (x.length - (a + (k + 1))) _ _ (by omega) ⟨k + 1,m',f',x6',rfl,by omega,rfl,x3.trans (x5.trans x6),R6,b6⟩
   ·rw[if_neg z]
    walk_at "pk";refine q f _ (pX bs (by omega) fun j i h1 h2 t et ⟨p,hp,_⟩=>?_) (x3.trans x5);have il:i < bs'.length:=by rw[e2,rl];exact(ae.mp et).1
    have eb:bs'[i]? = some false:=by
     rw[aa il]
     cases e:bs'[i] with
     | false=>rfl
     | true=>exact absurd (jq.mpr ⟨true,by rw[<-e];exact bL il,rfl⟩) z
    exact Ke (inv i t (by omega) et eb) j (by omega) p hp
 ·have:¬(((a + k:Nat):Int) < (x.length:Int)):=by omega
  simp only[this,decide_false,aq,if_false];walk_at "pk";have ek:(x.drop a).length=k:=by omega
  rw[ek] at q;exact q f _ bs x3
noncomputable def yB(m:List Nat)(c:Nat):List Nat:=if m.contains c=true then [92,c] else [c]
theorem Bn(m:List Nat)(c:Nat):(yB m c).length<=2:=by unfold yB;split<;>simp
noncomputable def OR(R:List Nat):List Nat:=yB MW (R.headD 0) ++ [45] ++ yB MW (R.getLastD 0)
noncomputable def Lf(R:List Nat):List (List Nat):=if (R.map (yB MW)).flatten.length<=(OR R).length then R.map (yB MW) else [OR R]
noncomputable def Vd(st:List (List Nat) × List Nat)(c:Nat):List (List Nat) × List Nat:=if iq (st.2 ++ [c]) SG=true then(st.1,st.2 ++ [c]) else(st.1 ++ [st.2],[c])
noncomputable def OS(l:List Nat):List (List Nat):=(l.foldl Vd ([],[])).1 ++ [(l.foldl Vd ([],[])).2]
noncomputable def DK(l:List Nat):List (List Nat):=(OS l).flatMap Lf
noncomputable def Oc:List (List Nat)->List Nat
 | []=>[]
 | x::r=>if [94].isPrefixOf x=true then(if r.isEmpty=true then 92::x else r.flatten ++ x) else(x::r).flatten
noncomputable def OT(l:List Nat):List (List Nat):=(if l == [] then [] else [[91] ++ Oc (DK l) ++ [93]]) ++ if l == SG then [] else [[91,94] ++ (DK (dA l)).flatten ++ [93]]
noncomputable def Ve:List (List Nat)->List Nat
 | []=>[]
 | t::ts=>ts.foldl (fun b x=>if x.length < b.length then x else b) t
noncomputable def HJ(l:List Nat):List Nat:=if l.length=1 then yB MO (l.headD 0) else Ve (OT l)
noncomputable def DL(l:List Nat):Bool:=decide (l.length<=95) && ((OS l).all fun R=>!(R == []) && decide (R.length<=95)) && decide ((OS l).length<=100) && decide ((DK l).length<=200) && decide ((DK l).flatten.length<=400) && !(DK l == [])
def Od:Spec:=fun us S Q _=>∃c m,us = [.str [c],.str m]/\Q (.str (yB m c)) S
theorem RF(Γ:b7):Keeps Γ kL 0 Od:=by
 rintro us S Q E ⟨c,m,rfl,q⟩;unfold kL;walk_at "pk";unfold yB at q;by_cases z:m.contains c=true
 ·rw[if_pos z] at q ⊢
  exact⟨by simp,q⟩
 ·rw[if_neg z] at q ⊢
  exact q
theorem qU:∀ts:List (List Nat),kJ [] ts=ts.flatten
 | []=>rfl
 | [x]=>by simp[kJ]
 | x::y::r=>by
  rw[kJ,qU (y::r)]
  ·simp
  ·simp
theorem yj(ts:List (List Nat)):(ts.map cU).sum + ts.length * ([]:List Nat).length=ts.flatten.length:=by rw[List.length_flatten];simp
def RG:Spec:=fun us S Q _=>∃R,us = [.str R]/\R≠[]/\R.length<=95/\∀n S',Ext S S'->S'[n]? = some (.lst ((Lf R).map .str))->Q (.loc n) S'
theorem Hg(m:List Nat):∀R:List Nat,(R.map (yB m)).flatten.length<=2 * R.length
 | []=>by simp
 | c::r=>by
  have:=Hg m r;have:=Bn m c;rw[aE,lK,aC,aN];omega
theorem RH (Γ:b7) (h1:Γ "sign_text" = Od):Keeps Γ kM 2 RG:=by
 rintro us S Q E ⟨R,rfl,ne,hl,q⟩;unfold kM;have f2:=Hg MW R;walk_at "pk";refine lh (S:=S) _ ((R.map (yB MW)).map .str) (by simp) (by simp;omega) (fun _ _=>trivial) (fun u S' k h=>h) (fun i u v hu hv S' k x hk=>?_) fun S1 x1=>?_
 ·rw[aw] at hu
  obtain⟨c,e,rfl⟩:=af.mp hu;rw[aw,aw,e] at hv;cases hv;exact ca h1 ⟨c,MW,rfl,hk S' .refl⟩
 have g2:(S1 ++ [SO.lst ((R.map (yB MW)).map U.str)])[S1.length]? = some (.lst ((R.map (yB MW)).map U.str)):=by simp
 have x2:Ext S (S1 ++ [SO.lst ((R.map (yB MW)).map U.str)]):=x1.trans (Ext.app _);generalize S1.length=m at g2;generalize S1 ++ [SO.lst ((R.map (yB MW)).map U.str)] = S2 at g2 x2;have t1:=Bn MW (R.headD 0);have t2:=Bn MW (R.getLastD 0);have wl:(OR R).length<=5:=by unfold OR;rw[aC,aC];simp only[aN,eh];omega
 have e0:tw R 0=some (R.headD 0):=by
  cases R with
  | nil=>exact absurd rfl ne
  | cons a r=>exact lT
 have el:tw R (-1)=some (R.getLastD 0):=by
  have:0 < R.length:=CI.mpr ne;unfold tw Mu;rw[if_neg (by omega),if_pos (by omega)]
  simp only[D1];rw[List.getLastD_eq_getLast?,List.getLast?_eq_getElem?]
  have e:((-1:Int) + (R.length:Int)).toNat=R.length - 1:=by omega
  rw[e,aa (by omega)]
  rfl
 walk_at "pk";rw[e0,el]
 simp only[aW];refine⟨by omega,ca h1 ⟨_,MW,rfl,⟨by rw[fV];omega,by omega,ca h1 ⟨_,MW,rfl,⟨by rw[aC,fV];omega,?_⟩⟩⟩⟩⟩;have ew:yB MW (R.headD 0) ++ [45] ++ yB MW (R.getLastD 0)=OR R:=rfl;rw[ew]
 walk_at "pk";refine⟨_,g2,by rw[yj];omega,?_⟩;rw[qU]
 refine⟨by omega,by omega,?_⟩;unfold Lf at q;by_cases z:(R.map (yB MW)).flatten.length<=(OR R).length
 ·rw[if_pos z] at q
  rw[if_pos (by simpa using z)]
  exact q _ _ x2 g2
 ·rw[if_neg z] at q
  rw[if_neg (by simpa using z)]
  exact⟨by simp,q _ _ (x2.trans (Ext.app _)) (by simp)⟩
def RI:Spec:=fun us S Q _=>∃l,us = [.str l]/\l.length<=95/\∀n S',Ext S S'->S.length<=n->S'[n]? = some (.lst ((OS l).map .str))->Q (.loc n) S'
theorem RJ(Γ:b7):Keeps Γ xN 3 RI:=by
 rintro us S Q E ⟨l,rfl,hl,q⟩;unfold OS Vd at q;unfold xN;generalize hG:SG=G at q ⊢;walk_at "pk";refine⟨by simp,?_⟩;have x0:Ext S (S ++ [SO.lst []]):=Ext.app _;have g0:(S ++ [SO.lst []])[S.length]? = some (.lst []):=by simp
 walk_at "pk";have keep:∀ {S1:bR} {o:SO},Ext S S1->Ext S (S1.set S.length o):=fun x=>⟨by rw[df];exact x.1,fun n hn=>by rw[au (by omega)];exact x.2 n hn⟩
 refine eR (fun i env S1=>∃(st:List (List Nat) × List Nat) (x3:Option U),env = [some (.str l),some (.loc S.length),some (.str st.2),x3]/\S1[S.length]? = some (.lst (st.1.map .str))/\Ext S S1/\st.1.length<=i/\st.2.length<=i/\i<=l.length/\st=(l.take i).foldl (fun st c=>if iq (st.2 ++ [c]) G=true then(st.1,st.2 ++ [c]) else(st.1 ++ [st.2],[c])) ([],[])) (fun _ _ _ _=>trivial) _ ?_ ?_ ⟨([],[]),none,rfl,g0,x0,by simp,by simp,by omega,rfl⟩
 ·rintro i u env S1 K hu ⟨st,x3,rfl,g1,x1,l1,l2,hi,e⟩ hK
  rw[aw] at hu;obtain⟨c,hc,rfl⟩:=af.mp hu;have il:=(ae.mp hc).1;have et:l.take (i + 1)=l.take i ++ [c]:=by rw[bZ,hc];rfl
  walk_at "pk";refine⟨by simp;omega,?_⟩;show(if (!iq (st.2 ++ [c]) G)=true then _ else _)
  by_cases z:iq (st.2 ++ [c]) G=true
  ·rw[z]
   simp only[bJ,aq,if_false];walk_at "pk";refine⟨by simp;omega,?_⟩;walk_at "pk";refine hK _ _ ⟨(st.1,st.2 ++ [c]),_,rfl,g1,x1,by simp;omega,by simp;omega,il,?_⟩;rw[et,lJ,<-e]
   simp only[ur,vm,if_pos z]
  ·rw[fh _ |>.mp z]
   simp only[cq,if_true];walk_at "pk";rw[g1,aF]
   refine⟨trivial,by simp;omega,?_⟩;walk_at "pk";refine⟨by simp,?_⟩;walk_at "pk";refine hK _ _ ⟨(st.1 ++ [st.2],[c]),_,rfl,by rw[gs g1];simp,keep x1,by simp;omega,by simp,il,?_⟩;rw[et,lJ,<-e]
   simp only[ur,vm,if_neg z]
 ·rintro env S1 ⟨st,x3,rfl,g1,x1,l1,l2,hi,e⟩
  walk_at "pk";rw[g1,aF]
  rw[ar] at l1 e;rw[cF] at e;refine⟨trivial,by simp;omega,?_⟩;walk_at "pk";exact q _ _ (keep x1) (ax _) (by rw[gs g1,<-e];simp)
def RK:Spec:=fun us S Q _=>∃l,us = [.str l]/\DL l=true/\∀n S',Ext S S'->S'[n]? = some (.lst ((DK l).map .str))->Q (.loc n) S'
theorem Cp{α β:Type}(f:α->List β):∀(l:List α) (i:Nat),((l.take i).flatMap f).length<=(l.flatMap f).length
 | [],i=>by simp
 | a::l,0=>by simp
 | a::l,i + 1=>by
  have:=Cp f l i;rw[CC,Ez,Ez,aC,aC];omega
theorem RL (Γ:b7) (h1:Γ "runs" = RI) (h2:Γ "run_items" = RG):Keeps Γ i7 2 RK:=by
 rintro us S Q E ⟨l,rfl,ok,q⟩;unfold DL at ok;simp only[ag,decide_eq_true_eq] at ok;obtain⟨⟨⟨⟨⟨o1,o2⟩,o3⟩,o4⟩,o5⟩,o6⟩:=ok;rw[bY] at o2;unfold DK at q o4;unfold i7;walk_at "pk";refine⟨by simp,?_⟩;have x0:Ext S (S ++ [SO.lst []]):=Ext.app _;have g0:(S ++ [SO.lst []])[S.length]? = some (.lst []):=by simp
 have l0:(S ++ [SO.lst []]).length=S.length + 1:=by simp
 generalize S ++ [SO.lst []] = S1 at x0 g0 l0;walk_at "pk";refine ca h1 ⟨l,rfl,o1,fun n S2 x2 nl g2=>?_⟩;generalize OS l=Rs at o2 o3 o4 q g2;walk_at "pk";rw[g2,aF]
 refine eR (fun i env S3=>∃x,env = [some (.str l),some (.loc S.length),x]/\S3[S.length]? = some (.lst (((Rs.take i).flatMap Lf).map .str))/\S3[n]? = some (.lst (Rs.map .str))/\Ext S S3) (fun i env S3 ⟨_,_,_,h,_⟩=>h) _ ?_ ?_ ⟨none,rfl,by simpa using x2.get g0,g2,x0.trans x2⟩
 ·rintro i u env S3 K hu ⟨x,rfl,g3,g4,x3⟩ hK
  rw[aw] at hu;obtain⟨R,hc,rfl⟩:=af.mp hu;have hR:=o2 R (aB hc);simp only[ag,decide_eq_true_eq,fZ,beq_eq_false_iff_ne] at hR;have tk:(Rs.take (i + 1)).flatMap Lf=(Rs.take i).flatMap Lf ++ Lf R:=by rw[bZ,hc];simp
  have tl:=Cp Lf Rs (i + 1);rw[tk,aC] at tl;walk_at "pk";rw[g3,aF]
  refine⟨trivial,ca h2 ⟨R,rfl,hR.1,hR.2,fun m S4 x4 g5=>?_⟩⟩;walk_at "pk";rw[x4.get g3,g5,aF,aF]
  refine⟨by rw[ar,ar];omega,?_⟩;walk_at "pk";refine hK _ _ ⟨_,rfl,by rw[gs (x4.get g3),tk];simp,?_,?_⟩
  ·rw[au (by omega)];exact x4.get g4
  ·have:=x3.trans x4
   exact⟨by rw[df];exact this.1,fun n hn=>by rw[au (by omega)];exact this.2 n hn⟩
 ·rintro env S3 ⟨x,rfl,g3,g4,x3⟩
  rw[ar,cF] at g3;walk_at "pk";exact q _ _ x3 g3
theorem Lg(x:List Nat)(r:List (List Nat)):Oc (x::r)=if [94].isPrefixOf x=true then(if r.isEmpty=true then 92::x else r.flatten ++ x) else(x::r).flatten:=rfl
def RM:Spec:=fun us S Q _=>∃n its,us = [.loc n]/\S[n]? = some (.lst (its.map .str))/\its≠[]/\its.length<=200/\its.flatten.length<=400/\∀S',Ext S S'->Q (.str (Oc its)) S'
theorem RO(Γ:b7):Keeps Γ n8 0 RM:=by
 rintro us S Q E ⟨n,its,rfl,g,ne,hl,hf,q⟩;unfold n8;cases its with
 | nil=>exact absurd rfl ne
 | cons x r=>
  rw[lK,aC] at hf;simp only[aN] at hl;have a0:∀ {R:U->Prop},opt (tw ((x::r).map U.str) 0) R=R (.str x):=by intro R;rw[aE,lT];rfl
  walk_at "pk";rw[g,aF]
  rw[a0]
  walk_at "pk";rw[Lg] at q;by_cases z:[94].isPrefixOf x=true
  ·rw[if_pos z] at q
   rw[z]
   simp only[bJ,aq,if_false];walk_at "pk";rw[oG g]
   simp only[aW,ar,aN];refine⟨by omega,?_⟩;cases r with
   | nil=>
    have q:∀S',Ext S S'->Q (.str (92::x)) S':=q;rw[if_pos (by simp)]
    walk_at "pk";rw[g,aF]
    rw[a0]
    walk_at "pk";exact⟨by simp at hf ⊢;omega,q S .refl⟩
   | cons y r=>
    rw[if_neg (by simp)] at q;rw[if_neg (by simp;omega)]
    walk_at "pk";simp only[IV];rw[g,aF]
    have ec:nA ((x::y::r).map U.str) (some 1) none=(y::r).map U.str:=wj (a:=1);rw[ec]
    refine⟨⟨fun i e=>(by injection e with e;omega),fun i e=>(by cases e)⟩,y::r,by simp,by rw[yj];omega,?_⟩;rw[qU]
    show getL (S ++ _)[n]? _
    rw[(Ext.app _:Ext S _).get g,aF,a0]
    walk_at "pk";exact⟨by omega,q _ (Ext.app _)⟩
  ·rw[if_neg z] at q
   rw[fh _ |>.mp z]
   simp only[cq,if_true];walk_at "pk";refine⟨x::r,g,by rw[yj,lK,aC];omega,?_⟩;rw[qU]
   exact q S .refl
theorem Oe(its:List (List Nat)):(Oc its).length<=its.flatten.length + 1:=by
 cases its with
 | nil=>simp[Oc]
 | cons x r=>
  rw[Lg]
  split
  ·split
   ·rename_i z;have:r = []:=by simpa using z
    subst this;simp
   ·simp;omega
  ·simp
noncomputable def Of(l:List Nat):Bool:=(l == [] || DL l) && (l == SG || DL (dA l))
def RP:Spec:=fun us S Q _=>∃l,us = [.str l]/\Of l=true/\∀n S',Ext S S'->S'[n]? = some (.lst ((OT l).map .str))->Q (.loc n) S'
theorem zK(h:DL l=true):(DK l).length<=200/\(DK l).flatten.length<=400/\DK l≠[]:=by
 unfold DL at h;simp only[ag,decide_eq_true_eq,fZ,beq_eq_false_iff_ne] at h;exact⟨h.1.1.2,h.1.2,h.2⟩
noncomputable def Wt:du:=(.cons (.ifs (.cG (.cmp .ne (.var 0) (.lit (.str SG)))) (.cons (.ex (.kH .append (.var 1) (.cons (.bin .add (.bin .add (.lit (.str [91,94])) (.kH .join (.lit (.str [])) (.cons (.call "class_items" (.cons (.call "all_but" (.cons (.var 0) .nil)) .nil)) .nil))) (.lit (.str [93]))) .nil))) .nil) .nil)
   (.cons (.ret (.var 1)) .nil))
theorem RQ (Γ:b7) (h1:Γ "class_items" = RK) (h2:Γ "guarded" = RM) (h3:Γ "all_but" = spT dA):Keeps Γ i6 1 RP:=by
 rintro us S Q E ⟨l,rfl,ok,q⟩;unfold Of at ok;rw[ag,bb,bb] at ok;have keep:∀ {S1:bR} {o:SO},Ext S S1->Ext S (S1.set S.length o):=fun x=>⟨by rw[df];exact x.1,fun n hn=>by rw[au (by omega)];exact x.2 n hn⟩
 have fin:∀S1 acc,Ext S S1->S1[S.length]? = some (.lst (acc.map .str))->acc.length<=10->acc=(if l == [] then [] else [[91] ++ Oc (DK l) ++ [93]])->Rest Γ Wt ⟨fun _ S1=>Q .bQ S1,Q,fun _=>E⟩ [some (.str l),some (.loc S.length)] S1:=by
  intro S1 acc x1 g1 al ea;unfold OT at q;rw[<-ea] at q;unfold Wt;have ok2:=ok.2;generalize SG=G at q ok2;walk_at "pk";by_cases z:(l == G)=true
  ·rw[z]
   rw[if_pos z,aZ] at q;simp only[bJ,aq,if_false];walk_at "pk";exact q _ _ x1 g1
  ·rw[fh _ |>.mp z]
   rw[if_neg z] at q;simp only[cq,if_true];have ck:=ok2.resolve_left z;obtain⟨f1,f2,f3⟩:=zK ck;walk_at "pk";rw[g1,aF]
   refine⟨trivial,ca h3 ⟨l,rfl,fun S2 x2=>ca h1 ⟨_,rfl,ck,fun n S3 x3 g3=>⟨_,g3,by rw[yj];omega,?_⟩⟩⟩⟩;rw[qU]
   refine⟨by simp only[aN,eh];omega,by rw[aC];simp only[aN,eh];omega,?_⟩;show getL S3[S.length]? _;rw[(x2.trans x3).get g1,aF]
   refine⟨by rw[ar];omega,?_⟩;walk_at "pk";exact q _ _ (keep (x1.trans (x2.trans x3))) (by rw[gs ((x2.trans x3).get g1)];simp)
 unfold i6;walk_at "pk";refine⟨by simp,?_⟩;have x0:Ext S (S ++ [SO.lst []]):=Ext.app _;have g0:(S ++ [SO.lst []])[S.length]? = some (.lst []):=by simp
 generalize S ++ [SO.lst []] = S0 at x0 g0;walk_at "pk";by_cases z:(l == [])=true
 ·rw[z]
  simp only[bJ,aq,if_false];exact Rest.go (fin S0 [] x0 g0 (by simp) (by rw[if_pos z]))
 ·rw[fh _ |>.mp z]
  simp only[cq,if_true];have ck:=ok.1.resolve_left z;obtain⟨f1,f2,f3⟩:=zK ck;have gl:=Oe (DK l);walk_at "pk";rw[g0,aF]
  refine⟨trivial,ca h1 ⟨l,rfl,ck,fun n S2 x2 g2=>ca h2 ⟨n,_,rfl,g2,f3,f1,f2,fun S3 x3=>?_⟩⟩⟩;walk_at "pk";refine⟨by simp only[aN,eh];omega,by simp only[aN,eh];omega,?_⟩;rw[(x2.trans x3).get g0,aF]
  refine⟨by simp,?_⟩;exact Rest.go (fin _ [[91] ++ Oc (DK l) ++ [93]] (keep (x0.trans (x2.trans x3))) (by rw[gs ((x2.trans x3).get g0)];simp) (by simp) (by rw[if_neg z]))
noncomputable abbrev CL:List (List Nat):=[[97],[98],[99],[97,98],[98,99],SG,[48],[]]
theorem Hh:∀l∈CL,l.length=1\/(Of l=true/\(l == dA [10])=false/\OT l≠[]/\(OT l).all (fun x=>decide (x.length<=1000))=true):=by
 decide +kernel
def Ko:Spec:=fun us S Q _=>∃l,us = [.str l]/\l∈CL/\∀S',Ext S S'->Q (.str (HJ l)) S'
theorem RS (Γ:b7) (h1:Γ "sign_text" = Od) (h2:Γ "all_but" = spT dA) (h3:Γ "class_texts" = RP):Keeps Γ jG 0 Ko:=by
 rintro us S Q E ⟨l,rfl,hl,q⟩;have fa:=Hh l hl;have ll:l.length<=95:=by
  have:∀l∈CL,l.length<=95:=by decide
  exact this l hl
 unfold jG;unfold HJ at q;walk_at "pk";refine⟨by omega,?_⟩;by_cases z:l.length=1
 ·rw[if_pos z] at q
  rw[if_pos (by rw[z];rfl)]
  obtain⟨c,rfl⟩:∃c,l = [c]:=iR.mp z;walk_at "pk";exact ca h1 ⟨c,MO,rfl,q S .refl⟩
 ·rw[if_neg z] at q
  rw[if_neg (by simp;omega)]
  obtain⟨f1,f2,f3,f4⟩:=fa.resolve_left z;walk_at "pk";refine ca h2 ⟨_,rfl,fun S1 x1=>?_⟩;walk_at "pk";rw[f2]
  simp only[aq,if_false];walk_at "pk";refine ca h3 ⟨l,rfl,f1,fun n S2 x2 g2=>?_⟩;cases e:OT l with
  | nil=>exact absurd e f3
  | cons t ts=>
   rw[e] at g2 q f4;refine⟨t,ts,g2,fun u hu=>?_,q S2 (x1.trans x2)⟩;have:=bY.mp f4 u hu;simp at this;omega
theorem Og:∀l∈CL,(HJ l).length<=10:=by decide +kernel
theorem sr:HJ [97,98] = [91,97,98,93]/\HJ [98,99] = [91,98,99,93]/\HJ SG = [91,10,45,126,93]/\HJ [] = [91,94,10,45,126,93]:=by decide +kernel
set_option maxRecDepth 100000 in
theorem Kp(h:l∈CL)(br:Option (List Nat->PR U)):ua br (HJ l) (J1 l):=by
 intro rest;simp only[aX,bK,or_false] at h;rcases h with rfl | rfl | rfl | rfl | rfl | rfl | rfl | rfl
 ·rfl
 ·rfl
 ·rfl
 ·rw[sr.1];rfl
 ·rw[sr.2.1];rfl
 ·rw[sr.2.2.1];rfl
 ·rfl
 ·rw[sr.2.2.2];rfl
noncomputable def num:Nat->Tr->Tr
 | n,.one _ l=>.one n l
 | n,.row a b=>.row (num n a) (num (n + size a) b)
 | n,.or a b=>.or (num n a) (num (n + size a) b)
 | n,.rep m a=>.rep m (num n a)
theorem qV:∀t n,enc (num n t)=enc t/\size (num n t)=size t/\bG (num n t)=bG t/\null (num n t)=null t/\nH (num n t)=nH t/\mT n (num n t)
 | .one _ l,n=>⟨rfl,rfl,rfl,rfl,rfl,rfl⟩
 | .row a b,n=>by
  obtain⟨a1,a2,a3,a4,a5,a6⟩:=qV a n;obtain⟨b1,b2,b3,b4,b5,b6⟩:=qV b (n + size a);simp only[num,enc,size,bG,null,nH,mT,a1,a2,a3,a4,a5,b1,b2,b3,b4,b5];exact⟨trivial,trivial,trivial,trivial,trivial,a6,b6⟩
 | .or a b,n=>by
  obtain⟨a1,a2,a3,a4,a5,a6⟩:=qV a n;obtain⟨b1,b2,b3,b4,b5,b6⟩:=qV b (n + size a);simp only[num,enc,size,bG,null,nH,mT,a1,a2,a3,a4,a5,b1,b2,b3,b4,b5];exact⟨trivial,trivial,trivial,trivial,trivial,a6,b6⟩
 | .rep m a,n=>by
  obtain⟨a1,a2,a3,a4,a5,a6⟩:=qV a n;cases m<;>simp only[num,enc,size,bG,null,nH,mT,a1,a2,a3,a4,a5]<;>exact⟨trivial,trivial,trivial,trivial,trivial,a6⟩
noncomputable def u5:Nat->List Tr->List Tr
 | _,[]=>[]
 | n,t::ts=>num n t::u5 (n + size t) ts
theorem Cq:∀ts n,(u5 n ts).map enc=ts.map enc/\Kj n (u5 n ts)/\iM (u5 n ts)=iM ts/\∀t∈u5 n ts,∃t'∈ts,bG t=bG t'/\null t=null t'/\nH t=nH t'
 | [],n=>⟨rfl,trivial,rfl,by simp[u5]⟩
 | t::ts,n=>by
  obtain⟨a1,a2,a3,a4,a5,a6⟩:=qV t n;obtain⟨b1,b2,b3,b4⟩:=Cq ts (n + size t);refine⟨by simp only[u5,aE,a1,b1],⟨a6,by rw[a2];exact b2⟩,by simp only[iM] at b3 ⊢;simp only[u5,aE,yu,a2,b3],fun t' m=>?_⟩;rcases aX.mp m with rfl | m
  ·exact⟨t,ba ..,a3,a4,a5⟩
  ·obtain⟨t2,m2,h⟩:=b4 t' m
   exact⟨t2,aS _ m2,h⟩
def qW(t:Tr):Prop:=∀l∈nH t,l∈CL
theorem lW:∀t,size t<=2 ^ bG t
 | .one _ _=>by simp[size,bG]
 | .row a b=>by
  have h1:=lW a;have h2:=lW b;have p1:2 ^ bG a<=2 ^ max (bG a) (bG b):=bw (by omega) (by omega);have p2:2 ^ bG b<=2 ^ max (bG a) (bG b):=bw (by omega) (by omega);simp only[size,bG,fK];omega
 | .or a b=>by
  have h1:=lW a;have h2:=lW b;have p1:2 ^ bG a<=2 ^ max (bG a) (bG b):=bw (by omega) (by omega);have p2:2 ^ bG b<=2 ^ max (bG a) (bG b):=bw (by omega) (by omega);simp only[size,bG,fK];omega
 | .rep m a=>by
  have h1:=lW a;simp only[size,bG,fK];omega
def Kq(D:Nat):Spec:=fun us S Q _=>∃(ns:List Int) (b:Int) (d:Nat),us = [.pG ns,.int b,bc d]/\ns.length<=1000/\d < D/\∀t S',bG t<=d->qW t->Ext S S'->Q (enc t) S'
theorem Hi (Γ:b7) (D:Nat) (h1:Γ "_law_mix" = pK.vX) (h2:Γ "_law_all" = pK.GG) (h3:Γ "_law_small" = Kq D):Keeps Γ jM 3 (Kq (D + 1)):=by
 rintro us S Q E ⟨ns,b,d,rfl,hl,hd,q⟩;unfold jM;walk_at "pk";refine ca h1 ⟨ns,b,rfl,hl,fun m m0 m1=>?_⟩;walk_at "pk";refine⟨by omega,?_⟩;walk_at "pk";have leaf:Rest Γ (.cons (.ret (.tup (.cons (.lit (.str [111,110,101])) (.cons (.ix (.lst (.cons (.lit (.str [97])) (.cons (.lit (.str [98])) (.cons (.lit (.str [99])) (.cons (.lit (.str [97,98])) (.cons (.lit (.str [98,99])) (.cons (.call "_law_all" .nil) (.cons (.lit (.str [97])) (.cons (.lit (.str [98])) (.cons (.lit (.str [48])) (.cons (.lit (.str [])) .nil))))))))))) (.bin .mod (.bin .fdiv (.var 3) (.lit (.int 9))) (.lit (.int 10)))) .nil)))) .nil) ⟨fun _ S1=>Q .bQ S1,Q,fun _=>E⟩ [some (.pG ns),some (.int b),some (bc d),some (.int m),some (.int (m % 9)),none] S:=by
  walk_at "pk";refine ca h2 ⟨rfl,fun G hG=>?_⟩;refine⟨by simp,by omega,by omega,?_⟩;have gl:(S ++ [SO.lst [U.str [97],U.str [98],U.str [99],U.str [97,98],U.str [98,99],U.str G,U.str [97],U.str [98],U.str [48],U.str []]])[S.length]? = some (.lst ([[97],[98],[99],[97,98],[98,99],G,[97],[98],[48],[]].map U.str)):=by simp
  rw[gl,aF]
  refine qO (jR _ (by omega)) (by simp;exact iD _ (by omega)) fun u hu=>?_
  obtain⟨l,ml,rfl⟩:=bT.mp hu;refine⟨by simp,q (.one 0 l) _ (dM _) (fun l' m'=>?_) (Ext.app _)⟩;have:l'=l:=by simpa[nH] using m'
  subst this;rw[hG] at ml
  revert ml
  simp only[aX];rintro(h | h | h | h | h | h | h | h | h | h | h)<;>simp_all
 by_cases z:d=0\/m % 9 < 4
 ·have z1:((d:Int)== 0)=true\/(((d:Int)== 0)=false/\decide (m % 9 < 4)=true):=by
   by_cases y:d=0
   ·subst y;exact .inl rfl
   ·refine .inr ⟨by rw[beq_eq_false_iff_ne];omega,decide_eq_true (by omega)⟩
  rcases z1 with z1 | ⟨z1,z2⟩
  ·simp only[z1,if_true];exact leaf
  ·simp only[z1,z2,aq,if_false,if_true];exact leaf
 ·have z1:((d:Int)== 0)=false:=by rw[beq_eq_false_iff_ne];omega
  have z2:decide (m % 9 < 4)=false:=decide_eq_false (by omega);obtain⟨d,rfl⟩:∃d',d=d' + 1:=⟨d - 1,by omega⟩
  have ed:(((d + 1:Nat):Int) - 1)=(d:Int):=by omega
  simp only[z1,z2,aq,if_false];walk_at "pk";by_cases y:m % 9 < 7
  ·simp only[y,decide_true,if_true]
   walk_at "pk";refine⟨by omega,by omega,?_⟩;refine fG _ (fun i acc S1=>Ext S S1/\∃l:List Tr,acc=l.map enc/\l.length=i/\∀t∈l,bG t<=d/\qW t) (fun i acc S1 hi ⟨x,l,e1,e2,_⟩=>⟨trivial,by rw[e1,ar];simp at hi;omega⟩) (fun i u acc S1 k hu hi hk=>?_) (fun acc S1 h=>?_) ⟨.refl,[],rfl,rfl,by simp⟩
   ·obtain⟨x1,l,rfl,e2,inv⟩:=hi
    obtain⟨rfl,_⟩:=j5 (n:=2) hu;walk_at "pk";rw[ed]
    refine⟨.inl (by omega),ca h3 ⟨ns,_,d,rfl,hl,by omega,fun t S2 dt lt x2=>hk _ _ ⟨x1.trans x2,l ++ [t],by simp,by simp[e2],fun t' m'=>?_⟩⟩⟩;rcases aQ.mp m' with m' | m'
    ·exact inv t' m'
    ·simp at m';subst m';exact⟨dt,lt⟩
   ·obtain⟨x1,l,rfl,e2,inv⟩:=h
    have e2:l.length=2:=e2;obtain⟨a,b,rfl⟩:∃a b,l = [a,b]:=by
     match l,e2 with
     | [a,b],_=>exact⟨a,b,rfl⟩
    have ia:=inv a (by simp);have ib:=inv b (by simp);have g2:(S1 ++ [SO.lst ([a,b].map enc)])[S1.length]? = some (.lst [enc a,enc b]):=by simp
    have x2:Ext S (S1 ++ [SO.lst ([a,b].map enc)]):=x1.trans (Ext.app _);generalize S1.length=m2 at g2;generalize S1 ++ [SO.lst ([a,b].map enc)] = S2 at g2 x2;walk_at "pk";refine⟨by simp,?_⟩;have gl:(S2 ++ [SO.lst [U.str [114,111,119],U.str [111,114],U.str [114,111,119]]])[S2.length]? = some (.lst [U.str [114,111,119],U.str [111,114],U.str [114,111,119]]):=by simp
    rw[gl,aF,(Ext.app _:Ext S2 _).get g2]
    refine qO (by omega) (by simp;omega) fun u hu=>⟨by simp,?_⟩
    have lv:∀l∈nH a ++ nH b,l∈CL:=fun l hl=>(aQ.mp hl).elim (ia.2 l) (ib.2 l)
    simp only[aX,bK,or_false] at hu;have dd:max (bG a) (bG b) + 1<=d + 1:=by omega
    rcases hu with rfl | rfl | rfl
    ·exact q (.row a b) _ dd lv (x2.trans (Ext.app _))
    ·exact q (.or a b) _ dd lv (x2.trans (Ext.app _))
    ·exact q (.row a b) _ dd lv (x2.trans (Ext.app _))
  ·simp only[y,decide_false,aq,if_false]
   walk_at "pk";refine⟨by simp,by omega,by omega,?_⟩;have gl:(S ++ [SO.lst [U.str [115,116,97,114],U.str [112,108,117,115],U.str [109,97,121,98,101]]])[S.length]? = some (.lst [U.str [115,116,97,114],U.str [112,108,117,115],U.str [109,97,121,98,101]]):=by simp
   rw[gl,aF]
   refine qO (jR _ (by omega)) (by simp;exact iD _ (by omega)) fun u hu=>?_
   rw[ed]
   refine⟨.inl (by omega),ca h3 ⟨ns,_,d,rfl,hl,by omega,fun t S2 dt lt x2=>⟨by simp,?_⟩⟩⟩;have xx:Ext S S2:=(Ext.app _).trans x2;have dd:bG t + 1<=d + 1:=by omega
   simp only[aX,bK,or_false] at hu;rcases hu with rfl | rfl | rfl
   ·exact q (.rep .star t) _ dd lt xx
   ·exact q (.rep .plus t) _ dd lt xx
   ·exact q (.rep .may t) _ dd lt xx
def Oh:Spec:=fun us S Q _=>∃(ns:List Int) (k:Int),us = [.pG ns,.int 0,.int k,.int 2]/\ns.length<=1000/\0<=k/\k<=4/\∀ts n S',DJ ts->(∀t∈ts,qW t)->Ext S S'->S'[n]? = some (.lst (ts.map enc))->Q (.loc n) S'
theorem RT (Γ:b7) (h1:Γ "_law_small" = Kq 3) (h2:Γ "_law_nothing" = uZ 5):Keeps Γ jN 3 Oh:=by
 rintro us S Q E ⟨ns,k,rfl,hl,k0,k4,q⟩;unfold jN;walk_at "pk";refine⟨by simp,?_⟩;have x0:Ext S (S ++ [SO.lst []]):=Ext.app _;have g0:(S ++ [SO.lst []])[S.length]? = some (.lst []):=by simp
 walk_at "pk";refine⟨by omega,by omega,?_⟩;refine eR (fun i env S1=>∃(l:List Tr) (x5 x6:Option U),env = [some (.pG ns),some (.int 0),some (.int k),some (.int 2),some (.loc S.length),x5,x6]/\Ext S S1/\S1[S.length]? = some (.lst (l.map enc))/\l.length=i/\iM l<=5 * i/\∀t∈l,bG t < 4/\null t=false/\qW t) (fun _ _ _ _=>trivial) _ ?_ ?_ ⟨[],none,none,rfl,x0,g0,rfl,by simp[iM],by simp⟩
 ·rintro i u env S1 K hu ⟨l,x5,x6,rfl,x1,g1,ll,sl,inv⟩ hK
  obtain⟨rfl,hi⟩:=j5 hu;walk_at "pk";refine⟨.inl (by omega),ca h1 ⟨ns,_,2,rfl,hl,by omega,fun t S2 dt lt x2=>?_⟩⟩;have st:size t<=4:=aR (lW t) (bw (n:=2) (by omega) dt);have g2:=x2.get g1;walk_at "pk";refine ca h2 ⟨_,rfl,.inl ⟨t,rfl,by omega,fun S3 x3=>?_⟩⟩;have g3:=x3.get g2;have fin:∀(t':Tr) (x5 x6:Option U),bG t' < 4->null t'=false->qW t'->size t'<=5->x6=some (enc t')->Rest Γ (.cons (.ex (.kH .append (.var 4) (.cons (.var 6) .nil))) .nil) ⟨K,Q,fun _=>E⟩ [some (.pG ns),some (.int 0),some (.int k),some (.int 2),some (.loc S.length),x5,x6] S3:=by
   rintro t' x5 x6 d1 d2 d3 d4 rfl;walk_at "pk";rw[g3,aF]
   refine⟨trivial,by simp;omega,?_⟩;walk_at "pk";have x13:=(x1.trans x2).trans x3;refine hK _ _ ⟨l ++ [t'],_,_,rfl,⟨by rw[df];exact x13.1,fun n hn=>by rw[au (by omega)];exact x13.2 n hn⟩,by rw[gs g3];simp,by simp[ll],by simp[iM] at sl ⊢;omega,fun t2 m2=>?_⟩;rcases aQ.mp m2 with m2 | m2
   ·exact inv t2 m2
   ·simp at m2;subst m2;exact⟨d1,d2,d3⟩
  walk_at "pk";cases nt:null t with
  | false=>
   simp only[aq,if_false];exact fin t _ _ (by omega) nt lt (by omega) rfl
  | true=>
   simp only[if_true];walk_at "pk";refine⟨by omega,by simp,?_⟩;refine qO (jR _ (by omega)) (by simp;exact iD _ (by omega)) fun c hc=>⟨by simp,by simp,by simp,?_⟩
   refine fin (.row (.one 0 [c]) t) _ _ ?_ (by simp[null]) (fun l hl=>?_) (by simp only[size];omega) rfl
   ·show max 0 (bG t) + 1 < 4;omega
   ·rcases aQ.mp hl with h | h
    ·have:l = [c]:=by simpa[nH] using h
     subst this;simp only[aX,bK,or_false] at hc;rcases hc with rfl | rfl | rfl<;>simp
    ·exact lt l h
 ·rintro env S1 ⟨l,x5,x6,rfl,x1,g1,ll,sl,inv⟩
  walk_at "pk";have ll:l.length<=4:=by rw[ll];simp;omega
  obtain⟨e1,e2,e3,e4⟩:=Cq l 1;have el:(u5 1 l).length=l.length:=by have:=congrArg cU e1;simpa using this
  refine q (u5 1 l) _ S1 ⟨by omega,e2,fun t m=>?_,fun t m=>?_,by rw[e3];simp only[ar,qZ] at sl;omega⟩ (fun t m=>?_) x1 (by rw[e1];exact g1)
  ·obtain⟨t',m',h⟩:=e4 t m;rw[h.2.1];exact(inv t' m').2.1
  ·obtain⟨t',m',h⟩:=e4 t m;rw[h.1];exact(inv t' m').1
  ·obtain⟨t',m',h⟩:=e4 t m
   intro l hl;rw[h.2.2] at hl;exact(inv t' m').2.2 l hl
def Oi:Spec:=fun us S Q _=>∃(ns:List Int) (b k:Int),us = [.pG ns,.int b,.int k]/\ns.length<=1000/\0<=k/\k<=10/\∀x S',(∀c∈x,c∈SG)->x.length<=10->Ext S S'->Q (.str x) S'
theorem RV (Γ:b7) (h1:Γ "_law_mix" = pK.vX):Keeps Γ kU 0 Oi:=by
 rintro us S Q E ⟨ns,b,k,rfl,hl,k0,k10,q⟩;unfold kU;walk_at "pk";refine⟨by omega,by omega,?_⟩;refine fG _ (fun i acc S1=>S1=S/\∃x:List Nat,acc=(x.map fun c=>[c]).map U.str/\x.length=i/\∀c∈x,c∈SG) (fun i acc S1 hi ⟨x,l,e1,e2,_⟩=>⟨trivial,by rw[e1];simp at hi ⊢;omega⟩) (fun i u acc S1 k' hu hi hk=>?_) (fun acc S1 h=>?_) ⟨rfl,[],rfl,rfl,by simp⟩
 ·obtain⟨rfl,x,rfl,e2,inv⟩:=hi
  obtain⟨rfl,hi⟩:=j5 hu;walk_at "pk";refine ca h1 ⟨ns,_,rfl,hl,fun m m0 m1=>?_⟩;walk_at "pk";refine⟨by omega,by simp,?_⟩;refine qO (jR _ (by omega)) (by simp;exact iD _ (by omega)) fun c hc=>hk _ _ ⟨rfl,x ++ [c],by simp,by simp[e2],fun c' m'=>?_⟩
  rcases aQ.mp m' with m' | m'
  ·exact inv c' m'
  ·simp at m';subst m'
   have:∀c∈[97,97,98,98,99,48,97,10,98,97,98],c∈SG:=by decide
   exact this _ hc
 ·obtain⟨rfl,x,rfl,e2,inv⟩:=h
  have xl:x.length<=10:=by rw[e2];simp;omega
  refine⟨x.map fun c=>[c],by simp,?_,?_⟩
  ·have:∀l:List Nat,((l.map fun c=>[c]).map cU).sum=l.length:=fun l=>by induction l with
    | nil=>rfl
    | cons a l ih=>simp at ih ⊢;omega
   rw[this];simp;omega
  ·have e:∀l:List Nat,(l.map fun c=>[c]).flatten=l:=fun l=>by induction l with
    | nil=>rfl
    | cons a l ih=>rw[aE,lK,ih];rfl
   rw[qU,e]
   exact q x _ inv xl (Ext.app _)
noncomputable def Oj:Mk->Nat
 | .star=>42
 | .plus=>43
 | .may=>63
noncomputable def tx:Tr->List Nat × List Nat
 | .one _ l=>(HJ l,HJ l)
 | .rep m a=>((tx a).1 ++ [Oj m],(tx a).1 ++ [Oj m])
 | .row a b=>(40::((tx a).1 ++ (tx b).1 ++ [41]),(tx a).1 ++ (tx b).1)
 | .or a b=>(40::((tx a).2 ++ 124::(tx b).2 ++ [41]),40::((tx a).2 ++ 124::(tx b).2 ++ [41]))
noncomputable def wr:Tr->List Nat
 | .or a b=>(tx a).2 ++ 124::(tx b).2
 | t=>(tx t).2
theorem cZ:∀t,qW t->(tx t).1.length + 3<=13 * 2 ^ bG t/\(tx t).2.length<=(tx t).1.length/\(wr t).length<=(tx t).1.length
 | .one _ l,h=>by
  have:=Og l (h l (by simp[nH]));simp only[tx,wr,bG];omega
 | .rep m a,h=>by
  have:=cZ a h;simp only[tx,wr,bG,fK,aC,fV];omega
 | .row a b,h=>by
  have h1:=cZ a fun l m=>h l (bO _ m)
  have h2:=cZ b fun l m=>h l (aT _ m)
  have p1:2 ^ bG a<=2 ^ max (bG a) (bG b):=bw (by omega) (by omega);have p2:2 ^ bG b<=2 ^ max (bG a) (bG b):=bw (by omega) (by omega);simp only[tx,wr,bG,fK,aC,aN,eh];omega
 | .or a b,h=>by
  have h1:=cZ a fun l m=>h l (bO _ m)
  have h2:=cZ b fun l m=>h l (aT _ m)
  have p1:2 ^ bG a<=2 ^ max (bG a) (bG b):=bw (by omega) (by omega);have p2:2 ^ bG b<=2 ^ max (bG a) (bG b):=bw (by omega) (by omega);simp only[tx,wr,bG,fK,aC,aN,eh];omega
theorem j8(h:qW t)(d:bG t < 4):(tx t).1.length<=200/\(tx t).2.length<=200/\(wr t).length<=200:=by
 have:=cZ t h;have p:2 ^ bG t<=2 ^ 3:=bw (by omega) (by omega);omega
section
variable {br:Option (List Nat->PR U)} {x:List Nat} {t:U}
theorem qc(h:ub br x t):ud br x t:=⟨[t],by simp,by have:=pW.cons h .nil;rwa [aZ] at this,rfl⟩
theorem yk(h:ud br x t):DB br x t:=⟨x,[],t,[],by simp,h,.nil,rfl⟩
theorem uj(h:ua br x t):ub br x t:=⟨x,t,[],by simp,h,by simp,rfl⟩
end
theorem ou:∀t k,qW t->bG t<=k->ub (rC k) (tx t).1 (enc t)/\ud (rC k) (tx t).2 (enc t)/\DB (rC k) (wr t) (enc t)
 | .one _ l,k,h,d=>by
  have a:=uj (Kp (h l (by simp[nH])) (rC k));exact⟨a,qc a,yk (qc a)⟩
 | .rep m a,k,h,d=>by
  have d:bG a + 1<=k:=d;obtain⟨x,ta,ms,e,ia,hm,et⟩:=(ou a k h (by omega)).1;have r:ub (rC k) ((tx a).1 ++ [Oj m]) (enc (.rep m a)):=by
   refine⟨x,ta,ms ++ [Oj m],by rw[e,bB],ia,fun c hc=>?_,?_⟩
   ·rcases aQ.mp hc with h | h
    ·exact hm c h
    ·simp at h;subst h;cases m<;>decide
   ·unfold Kc
    rw[lJ]
    show enc (.rep m a)=Gx (Oj m) (Kc ta ms)
    rw[<-et]
    cases m<;>rfl
  exact⟨r,qc r,yk (qc r)⟩
 | .row a b,k,h,d=>by
  have d:max (bG a) (bG b) + 1<=k:=d;have key:∀k,max (bG a) (bG b)<=k->ud (rC k) ((tx a).1 ++ (tx b).1) (enc (.row a b)):=fun k hk=>by
   have h1:=(ou a k (fun l m=>h l (bO _ m)) (by omega)).1;have h2:=(ou b k (fun l m=>h l (aT _ m)) (by omega)).1;exact⟨[enc a,enc b],by simp,by have:=pW.cons h1 (pW.cons h2 .nil);rwa [aZ] at this,rfl⟩
  obtain⟨k,rfl⟩:∃k',k=k' + 1:=⟨k - 1,by omega⟩
  have r:=uj (Ci (yk (key k (by omega))));exact⟨r,key _ (by omega),yk (key _ (by omega))⟩
 | .or a b,k,h,d=>by
  have d:max (bG a) (bG b) + 1<=k:=d;have key:∀k,max (bG a) (bG b)<=k->DB (rC k) ((tx a).2 ++ 124::(tx b).2) (enc (.or a b)):=fun k hk=>by
   have h1:=(ou a k (fun l m=>h l (bO _ m)) (by omega)).2.1;have h2:=(ou b k (fun l m=>h l (aT _ m)) (by omega)).2.1;exact⟨(tx a).2,124::(tx b).2,enc a,[enc b],rfl,h1,by have:=ue.cons h2 .nil;rwa [aZ] at this,rfl⟩
  obtain⟨k,rfl⟩:∃k',k=k' + 1:=⟨k - 1,by omega⟩
  have r:=uj (Ci (key k (by omega)));exact⟨r,qc r,key _ (by omega)⟩
theorem Kr(h:qW t)(d:bG t < 4):rD (wr t)= .ok (enc t,[]):=Kd (ou t 6 h (by omega)).2.2
def Cr(D:Tr->Prop)(f:Tr->List Nat):Spec:=fun us S Q _=>∃t,us = [enc t]/\D t/\qW t/\bG t < 4/\∀S',Ext S S'->Q (.str (f t)) S'
def zL:Tr->Prop
 | .row _ _=>True
 | .or _ _=>True
 | _=>False
def Hj:Tr->Prop
 | .rep _ _=>False
 | _=>True
theorem Ol (Γ:b7) (k:Nat) (D:Tr->Prop) (hD:∀t,bG t<=k->zL t->D t) (h1:Γ "place_text" = Ko) (h2:Γ "written" = Cr D wr):Keeps Γ kK 0 (Cr (fun t=>bG t<=k/\Hj t) fun t=>(tx t).1):=by
 rintro us S Q E ⟨t,rfl,⟨dt,nr⟩,lt,d4,q⟩;have q:∀S',Ext S S'->Q (.str (tx t).1) S':=q;unfold kK;have sm:=j8 lt d4;have go:zL t->(tx t).1=40::(wr t ++ [41])->Rest Γ (.cons (.ret (.bin .add (.bin .add (.lit (.str [40])) (.call "written" (.cons (.var 0) .nil))) (.lit (.str [41])))) .nil) ⟨fun _ S1=>Q .bQ S1,Q,fun _=>E⟩ [some (enc t)] S:=by
  intro ro e;walk_at "pk";refine ca h2 ⟨t,rfl,hD t dt ro,lt,d4,fun S1 x1=>?_⟩;walk_at "pk";refine⟨by simp;omega,by simp;omega,?_⟩;rw[<-e]
  exact q S1 x1
 cases t with
 | one n l=>
  refine p9 rfl rfl ?_;unfold enc;walk_at "pk";simp only[jj,aW];exact⟨by simp,ca h1 ⟨l,rfl,lt l (by simp[nH]),q⟩⟩
 | row a b=>exact iL rfl rfl (go trivial (by simp[tx,wr]))
 | or a b=>exact iL rfl rfl (go trivial (by simp[tx,wr]))
 | rep m a=>exact nr.elim
noncomputable abbrev SV:List (List Nat × List Nat):=[([115,116,97,114],[42]),([112,108,117,115],[43]),([109,97,121,98,101],[63])]
theorem Om (Γ:b7) (k:Nat) (hk:k<=10) (h1:Γ "atom_text" = Cr (fun t=>bG t<=k/\Hj t) fun t=>(tx t).1):Keeps Γ i5 2 (Cr (fun t=>bG t<=k) fun t=>(tx t).1):=by
 rintro us S Q E ⟨t,rfl,dt,lt,d4,q⟩;have q:∀S',Ext S S'->Q (.str (tx t).1) S':=q;unfold i5;have sm:=j8 lt d4;walk_at "pk";refine⟨bG t + 1,k7 (fun n env S1=>S1=S/\∃a ms,n=bG a/\bG a<=bG t/\qW a/\ms.length + bG a<=bG t/\(tx t).1=(tx a).1 ++ ms/\env = [some (enc t),some (.str ms),some (enc a)]) ?_ _ (bG t) _ _ (by omega) ⟨rfl,t,[],rfl,ax _,lt,by simp,by simp,rfl⟩⟩;rintro n env S1 K ⟨rfl,a,ms,rfl,da,la,ml,e,rfl⟩ hK;have stop:∀kk x,enc a = .tup [.str kk,x]->(SV.lookup kk).isSome=false->Hj a->WT Γ (.cG (.cmp .isin (.ix (.var 2) (.lit (.int 0))) (.lit (.tab SV)))) [some (enc t),some (.str ms),some (enc a)] S1
   (fun t1 S2=>if t1=true then Rest Γ (.cons (.set 1 (.bin .add (.ix (.lit (.tab SV)) (.ix (.var 2) (.lit (.int 0)))) (.var 1))) (.cons (.set 2 (.ix (.var 2) (.lit (.int 1)))) .nil)) ⟨K,Q,fun _=>E⟩ [some (enc t),some (.str ms),some (enc a)] S2 else Rest Γ (.cons (.ret (.bin .add (.call "atom_text" (.cons (.var 2) .nil)) (.var 1))) .nil) ⟨fun _ S1=>Q .bQ S1,Q,fun _=>E⟩ [some (enc t),some (.str ms),some (enc a)] S2) E:=by
  intro kk x ek el nr;have fin:Rest Γ (.cons (.ret (.bin .add (.call "atom_text" (.cons (.var 2) .nil)) (.var 1))) .nil) ⟨fun _ S1=>Q .bQ S1,Q,fun _=>E⟩ [some (enc t),some (.str ms),some (enc a)] S1:=by
   walk_at "pk";refine ca h1 ⟨a,rfl,⟨by omega,nr⟩,la,by omega,fun S2 x2=>?_⟩;walk_at "pk";rw[<-e]
   refine⟨?_,q S2 x2⟩;rw[e,aC] at sm;omega
  rw[ek] at fin ⊢;walk_at "pk";rw[lT,aW,zb,el]
  exact⟨by simp,fin⟩
 cases a with
 | one n l=>exact stop _ _ rfl rfl trivial
 | row a b=>exact stop _ _ rfl rfl trivial
 | or a b=>exact stop _ _ rfl rfl trivial
 | rep m a=>
  have dr:bG (.rep m a)=bG a + 1:=rfl;have ek:enc (.rep m a)= .tup [.str (mF m),enc a]:=rfl;rw[ek]
  have el:SV.lookup (mF m)=some [Oj m]:=by cases m<;>rfl
  walk_at "pk";rw[lT,aW,zb,el]
  refine⟨by simp,?_⟩;simp only[Option.isSome_some,if_true];walk_at "pk";simp only[lT,aW,xw,el];walk_at "pk";refine⟨by simp,by simp;omega,?_⟩;walk_at "pk";simp only[jj,aW];refine⟨by simp,?_⟩;try walk_at "pk"
  exact hK (bG a) _ _ (by omega) ⟨rfl,a,Oj m::ms,rfl,by omega,la,by simp;omega,by rw[e];simp[tx],rfl⟩
def Ks:Tr->Prop
 | .row _ _=>True
 | _=>False
theorem two_get{a b:Tr}{f:Tr->List Nat}{i:Nat}{u v:U}(hu:[enc a,enc b][i]? = some u)(hv:[U.str (f a),U.str (f b)][i]? = some v):∃t,(t=a\/t=b)/\u=enc t/\v = .str (f t):=by
 obtain⟨t,m,h1,h2⟩:=yh (K:=[a,b]) (f:=fun t=>.str (f t)) hu hv;exact⟨t,by simpa using m,h1,h2⟩
theorem Oo (Γ:b7) (k:Nat) (h1:Γ "repeat_text" = Cr (fun t=>bG t<=k) fun t=>(tx t).1):Keeps Γ mn 0 (Cr (fun t=>bG t<=k\/(Ks t/\bG t<=k + 1)) fun t=>(tx t).2):=by
 rintro us S Q E ⟨t,rfl,dt,lt,d4,q⟩;have q:∀S',Ext S S'->Q (.str (tx t).2) S':=q;unfold mn;have go:¬Ks t->(tx t).2=(tx t).1->Rest Γ (.cons (.ret (.call "repeat_text" (.cons (.var 0) .nil))) .nil) ⟨fun _ S1=>Q .bQ S1,Q,fun _=>E⟩ [some (enc t)] S:=by
  intro nr e;walk_at "pk";rw[e] at q;exact ca h1 ⟨t,rfl,dt.resolve_right fun z=>nr z.1,lt,d4,q⟩
 cases t with
 | one n l=>exact iL rfl rfl (go (fun z=>z) rfl)
 | rep m a=>exact iL rfl (beq_eq_false_iff_ne.mpr (oK m).2.1) (go (fun z=>z) rfl)
 | or a b=>exact iL rfl rfl (go (fun z=>z) rfl)
 | row a b=>
  have dt:max (bG a) (bG b) + 1<=k + 1:=by rcases dt with z | z;exact Hz z;exact z.2
  have d4:max (bG a) (bG b) + 1 < 4:=d4;have lo:∀t,t=a\/t=b->qW t/\bG t<=k/\bG t < 4:=by
   rintro t (rfl | rfl)
   ·exact⟨fun l m=>lt l (bO _ m),by omega,by omega⟩
   ·exact⟨fun l m=>lt l (aT _ m),by omega,by omega⟩
  have sa:=(j8 (lo a (.inl rfl)).1 (lo a (.inl rfl)).2.2).1;have sb:=(j8 (lo b (.inr rfl)).1 (lo b (.inr rfl)).2.2).1;refine p9 rfl rfl ?_;unfold enc;walk_at "pk";simp only[jj,aW];refine⟨by simp,by simp,?_⟩;refine lh (S:=S) _ [.str (tx a).1,.str (tx b).1] (by simp) (by simp) (fun _ _=>trivial) (fun u S' k h=>h) (fun i u v hu hv S' k x hk=>?_) fun S1 x1=>?_
  ·obtain⟨t,m,rfl,rfl⟩:=two_get (f:=fun t=>(tx t).1) hu hv
   obtain⟨l1,l2,l3⟩:=lo t m;exact ca h1 ⟨t,rfl,l2,l1,l3,hk⟩
  ·refine⟨[(tx a).1,(tx b).1],by simp,by simp;omega,?_⟩
   have e:kJ [] [(tx a).1,(tx b).1] = (tx (.row a b)).2:=by simp[kJ,tx]
   rw[e]
   exact q _ (x1.trans (Ext.app _))
theorem Oq (Γ:b7) (k:Nat) (h1:Γ "row_text" = Cr (fun t=>bG t<=k\/(Ks t/\bG t<=k + 1)) fun t=>(tx t).2):Keeps Γ n6 0 (Cr (fun t=>bG t<=k\/(zL t/\bG t<=k + 1)) wr):=by
 rintro us S Q E ⟨t,rfl,dt,lt,d4,q⟩;unfold n6;have go:(zL t->Ks t)->wr t=(tx t).2->Rest Γ (.cons (.ret (.call "row_text" (.cons (.var 0) .nil))) .nil) ⟨fun _ S1=>Q .bQ S1,Q,fun _=>E⟩ [some (enc t)] S:=by
  intro nr e;walk_at "pk";rw[e] at q;exact ca h1 ⟨t,rfl,dt.imp_right fun z=>⟨nr z.1,z.2⟩,lt,d4,q⟩
 cases t with
 | one n l=>exact iL rfl rfl (go (fun z=>z) rfl)
 | rep m a=>exact iL rfl (beq_eq_false_iff_ne.mpr (oK m).2.2) (go (fun z=>z) rfl)
 | row a b=>exact iL rfl rfl (go (fun z=>z) rfl)
 | or a b=>
  have dt:max (bG a) (bG b) + 1<=k + 1:=by rcases dt with z | z;exact Hz z;exact z.2
  have d4:max (bG a) (bG b) + 1 < 4:=d4;have lo:∀t,t=a\/t=b->qW t/\bG t<=k/\bG t < 4:=by
   rintro t (rfl | rfl)
   ·exact⟨fun l m=>lt l (bO _ m),by omega,by omega⟩
   ·exact⟨fun l m=>lt l (aT _ m),by omega,by omega⟩
  have sa:=(j8 (lo a (.inl rfl)).1 (lo a (.inl rfl)).2.2).2.1;have sb:=(j8 (lo b (.inr rfl)).1 (lo b (.inr rfl)).2.2).2.1;refine p9 rfl rfl ?_;unfold enc;walk_at "pk";simp only[jj,aW];refine⟨by simp,by simp,?_⟩;refine lh (S:=S) _ [.str (tx a).2,.str (tx b).2] (by simp) (by simp) (fun _ _=>trivial) (fun u S' k h=>h) (fun i u v hu hv S' k x hk=>?_) fun S1 x1=>?_
  ·obtain⟨t,m,rfl,rfl⟩:=two_get (f:=fun t=>(tx t).2) hu hv
   obtain⟨l1,l2,l3⟩:=lo t m;exact ca h1 ⟨t,rfl,.inl l2,l1,l3,hk⟩
  ·refine⟨[(tx a).2,(tx b).2],by simp,by simp;omega,?_⟩
   have e:kJ [124] [(tx a).2,(tx b).2] = wr (.or a b):=by simp[kJ,wr]
   rw[e]
   exact q _ (x1.trans (Ext.app _))
def Ot:Spec:=fun us S Q _=>∃i v,us = [.tup [bc i,v],bc i,v]/\((∃j,v=bc j)\/∃x,v = .str x)/\Q (.bl true) S
theorem RW (Γ:b7) (h1:Γ "_law_whole" = pK.ya):Keeps Γ kW 0 Ot:=by
 rintro us S Q E ⟨i,v,rfl,hv,q⟩;unfold kW;have e1:jA S (.tup [bc i,v]) [.tuple] = some true:=rfl;walk_at "pk";rw[e1]
 simp only[aW,bJ,aq,if_false,lT];refine⟨by simp,?_⟩;rw[if_neg (by simp)]
 refine⟨by simp,ca h1 ⟨_,rfl,?_⟩⟩;walk_at "pk";refine⟨by simp,?_⟩;have ev:nv v v=true/\tq v=true/\dep v=0:=by
  rcases hv with⟨j,rfl⟩ | ⟨x,rfl⟩
  ·exact⟨by show((j:Int)== (j:Int))=true;simp,rfl,rfl⟩
  ·exact⟨by show(x == x)=true;simp,rfl,rfl⟩
 have ee:nv (.tup [bc i,v]) (.tup [bc i,v])=true:=N6 (by show((i:Int)== (i:Int))=true;simp) ev.1;refine(ew rfl ?_ ?_ ?_ ee).mpr q
 ·show(true && (tq v && true))=true;rw[ev.2.1];rfl
 ·show(true && (tq v && true))=true;rw[ev.2.1];rfl
 ·show max 0 (max (dep v) 0) + 1<=100;rw[ev.2.2];decide
def Lh:Spec:=fun us S Q _=>∃X x ts,us = [.loc X,.str x]/\Lc S X ts/\(∀c∈x,c∈SG)/\x.length<=1000/\(∀l n S',yA ts x 0 none l->Ext S S'->S'[n]? = some (.lst l)->Q (.loc n) S')/\∀a l S',yA ts x 0 (some a) l->Ext S S'->Q (bc a) S'
theorem Ou (Γ:b7) (h1:Γ "Lexer.tokens" = N5):Keeps Γ jd 4 Lh:=by
 rintro us S Q E ⟨X,x,ts,rfl,lx,hx,hl,q,qe⟩;unfold jd;obtain⟨P,u,gx,_⟩:=lx.o;unfold SU at gx;walk_at "pk";rw[gx,bf]
 refine⟨⟨rfl,rfl⟩,ca h1 ⟨X,x,ts,rfl,lx,hx,hl,fun l n S1 b x1 g1=>?_,fun a l S1 b x1=>⟨rfl,?_⟩⟩⟩
 ·walk_at "pk"
  exact q l n S1 b x1 g1
 ·walk_at "pk"
  have e1:jA S1 (.exc "NoToken" [bc a]) [.own "NoToken"] = some true:=rfl;have e2:jA S1 (.exc "NoToken" [bc a]) [.AH] = some true:=rfl;have e3:jA S1 (.exc "NoToken" [bc a]) [.own "BadRule",.own "TooMany"] = some false:=rfl;have e4:jA S1 (.exc "NoToken" [bc a]) [.own "TakesNothing"] = some false:=rfl;have e5:∀ {R},kC (.exc "NoToken" [bc a]) "at" S1 R=R (bc a):=fun {R}=>rfl
  repeat first | walk_at "pk" | simp only[oE,e1,e2,e3,e4,e5,aW]
  exact qe a l S1 b x1
theorem DM(h:yA ts x a f l):∀u∈l,∃(i:Nat) (y:List Nat),u = .tup [bc i,.str y]:=by
 induction h with
 | done _=>simp
 | stop _ _=>simp
 | go _ _ _ ih=>
  intro u m;rcases aX.mp m with rfl | m
  ·exact⟨_,_,rfl⟩
  ·exact ih u m
def Vf:Spec:=fun us _ Q _=>∃ns:List Int,us = [.pG ns]/\ns.length<=63/\∀S',Q (.bl true) S'
theorem Ow (Γ:b7) (h1:Γ "_law_mix" = pK.vX) (h2:Γ "_law_trees" = Oh) (h3:Γ "_law_text" = Oi) (h4:Γ "written" = Cr (fun t=>bG t<=3\/(zL t/\bG t<=3 + 1)) wr) (h5:Γ "Lexer.__init__" = Rz) (h6:Γ "Lexer.token" = Ki) (h7:Γ "_law_token" = Hf) (h8:Γ "_law_pair" = Ot) (h9:Γ "_law_tokens" = Lh):Keeps Γ zf 8 Vf:=by
 rintro us S Q E ⟨ns,rfl,hl,q⟩;unfold zf;walk_at "pk";refine ca h1 ⟨ns,50,rfl,by omega,fun m m0 m1=>⟨by omega,?_⟩⟩;refine ca h2 ⟨ns,_,rfl,by omega,by omega,by omega,fun ts nt S1 hT hV x1 g1=>?_⟩;walk_at "pk";refine ca h1 ⟨ns,61,rfl,by omega,fun m2 m3 m4=>⟨by omega,?_⟩⟩;refine ca h3 ⟨ns,51,_,rfl,by omega,by omega,by omega,fun x S2 hx xl x2=>?_⟩;have g2:=x2.get g1;have tl:=hT.len;walk_at "pk";rw[g2,aF]
 refine fG (ts.map enc) (fun i acc S3=>Ext S2 S3/\∃xs:List (List Nat),acc=xs.map .str/\xs.length=i/\∀(j:Nat) t y,ts[j]? = some t->xs[j]? = some y->y.length<=1000/\∃r,rD y = .ok (enc t,r)) (fun i acc S3 hi ⟨x,xs,e1,e2,_⟩=>⟨x.get g2,by rw[e1,ar];simp at hi;omega⟩) (fun i u acc S3 k hu hi hk=>?_) (fun acc S3 h=>?_) ⟨.refl,[],rfl,rfl,fun j t y _ e=>by simp at e⟩
 ·obtain⟨x3,xs,rfl,e2,inv⟩:=hi
  rw[aw] at hu;obtain⟨t,et,rfl⟩:=af.mp hu;have mt:=aB et;walk_at "pk";have d4:=hT.dp t mt;refine ca h4 ⟨t,rfl,.inl (by omega),hV t mt,d4,fun S4 x4=>hk _ _ ⟨x3.trans x4,xs ++ [wr t],by simp,by simp[e2],fun j t' y e3 e4=>?_⟩⟩;by_cases z':j=i
  ·subst z'
   rw[av (by omega),e2,cf] at e4;cases e4;rw[et] at e3;cases e3;exact⟨by have:=(j8 (hV t mt) d4).2.2;omega,[],Kr (hV t mt) d4⟩
  ·have jl:j < i:=by
    have:=(ae.mp e4).1;simp at this;omega
   rw[ak (by omega)] at e4;exact inv j t' y e3 e4
 obtain⟨x3,xs,rfl,e2,inv⟩:=h;rw[ar] at e2;have x4:Ext S2 (S3 ++ [SO.lst (xs.map U.str)]):=x3.trans (Ext.app _);have g4:(S3 ++ [SO.lst (xs.map U.str)])[S3.length]? = some (.lst (xs.map U.str)):=by simp
 generalize S3.length=n4 at g4;generalize S3 ++ [SO.lst (xs.map U.str)] = S4 at g4 x4;walk_at "pk";rw[g4,aF]
 have g5:(S4 ++ [SO.lst (xs.map U.str)])[S4.length]? = some (.lst (xs.map U.str)):=by simp
 have x5:Ext S2 (S4 ++ [SO.lst (xs.map U.str)]):=x4.trans (Ext.app _);generalize S4.length=n5 at g5;generalize S4 ++ [SO.lst (xs.map U.str)] = S5 at g5 x5;have gX:(S5 ++ [SO.ins "Lexer" []])[S5.length]? = some (.ins "Lexer" []):=by simp
 refine ca h5 ⟨S5.length,n5,xs,ts,rfl,gX,(Ext.app _).get g5,⟨by omega,inv⟩,hT,fun S6 lx o6=>⟨rfl,?_⟩⟩;have x6:Ext S2 S6:=by
  have:=x5.1;exact⟨by have:=o6.1;simp at this;omega,fun n hn=>by rw[o6.2 n (by simp;omega) (by omega),ak (by omega),x5.2 n hn]⟩
 generalize S5.length=X at lx;have g6:=x6.get g2;walk_at "pk";refine⟨by omega,by omega,by omega,?_⟩;refine eR (fun i env S7=>Ext S6 S7/\∃(y6 y7 y5:Option U),env = [some (.pG ns),some (.loc nt),some (.str x),some (.loc n4),some (.loc X),y5,y6,y7,none]) (fun _ _ _ _=>trivial) _ ?_ ?_ ⟨.refl,none,none,none,rfl⟩
 ·rintro i u env S7 K hu ⟨x7,y6,y7,y5,rfl⟩ hK
  obtain⟨rfl,hi⟩:=j5 hu;have hi:i<=x.length:=by omega
  obtain⟨P,u,gx,_⟩:=(lx.ext x7).o;unfold SU at gx;walk_at "pk";rw[gx,bf]
  refine⟨⟨rfl,rfl⟩,ca h6 ⟨X,x,i,ts,rfl,lx.ext x7,hx,by omega,fun f S8 b8 x8=>?_⟩⟩;walk_at "pk";refine ca h7 ⟨nt,x,i,ts,rfl,(x7.trans x8).get g6,hT,by omega,hi,fun f' S9 b9 x9=>?_⟩;have ef:=si b8 b9;subst ef;have xx:=x7.trans (x8.trans x9);walk_at "pk";rcases f with _ | ⟨a,j⟩
  ·unfold uR
   repeat first | walk_at "pk" | simp only[oE]
   exact hK _ _ ⟨xx,_,_,_,rfl⟩
  ·unfold uR
   repeat first | walk_at "pk" | simp only[oE,lT,jj,aW]
   refine⟨by simp,by simp,ca h8 ⟨a,_,rfl,.inl ⟨j,rfl⟩,?_⟩⟩;walk_at "pk";exact hK _ _ ⟨xx,_,_,_,rfl⟩
 rintro env S7 ⟨x7,y6,y7,y5,rfl⟩;walk_at "pk";refine⟨by simp,?_⟩;have g8:(S7 ++ [SO.lst []])[S7.length]? = some (.lst []):=by simp
 have x8:Ext S7 (S7 ++ [SO.lst []]):=Ext.app _;walk_at "pk";refine⟨x.length + 1,k7 (fun N env S9=>∃(a:Nat) (acc:List U) (y8:Option U),N=x.length - a/\a<=x.length/\acc.length<=a/\env = [some (.pG ns),some (.loc nt),some (.str x),some (.loc n4),some (.loc X),some (bc a),y6,some (.loc S7.length),y8]/\Ext S7 S9/\S9[S7.length]? = some (.lst acc)/\∀f l,yA ts x a f l->yA ts x 0 f (acc ++ l))
  ?_ _ x.length _ _ (by omega) ⟨0,[],none,by omega,by omega,by simp,rfl,x8,g8,fun f l h=>h⟩⟩
 rintro N env S9 K ⟨a,acc,y8,rfl,ha,hacc,rfl,x9,g9,inv'⟩ hK;have lx9:=lx.ext (x7.trans x9);walk_at "pk";refine⟨by omega,?_⟩;by_cases z:a < x.length
 ·have z1:((a:Int) < (x.length:Int)):=by omega
  have z2:((0:Int)<=(a:Int)):=by omega
  simp only[z1,z2,decide_true,if_true];walk_at "pk";refine ca h7 ⟨nt,x,a,ts,rfl,(x7.trans x9).get g6,hT,by omega,by omega,fun f SA bA xA=>?_⟩;walk_at "pk";rcases f with _ | ⟨i,j⟩
  ·unfold uR
   repeat first | walk_at "pk" | simp only[oE]
   have bg:=inv' _ _ (yA.stop z bA);rw[aZ] at bg;refine ca h9 ⟨X,x,ts,rfl,lx9.ext xA,hx,by omega,fun l n SB b xB gB=>?_,fun a' l SB b xB=>?_⟩
   ·exact nomatch (sj b bg).1
   ·have:=(sj b bg).1
    cases this;walk_at "pk";simp only[beq_self_eq_true];exact q SB
  ·have jl:=bA.1
   rw[mH] at jl;unfold uR
   repeat first | walk_at "pk" | simp only[oE,lT,jj,aW]
   rw[xA.get g9,aF]
   simp only[true_and,lT,jj,aW];refine⟨by simp,by simp,?_⟩;simp only[IV];have e1:((a:Int) + ((j:Nat):Int))=((a + j:Nat):Int):=by omega
   rw[e1]
   refine⟨⟨fun i e=>(by injection e with e;omega),fun i e=>(by injection e with e;omega)⟩,by omega,by simp,?_⟩;rw[xA.get g9,aF]
   refine⟨by omega,?_⟩;walk_at "pk";simp only[jj,aW];refine⟨by simp,?_⟩;try walk_at "pk"
   rw[e1]
   have x9A:=x9.trans xA;refine hK (x.length - (a + j)) _ _ (by omega) ⟨a + j,_,_,rfl,by omega,by simp;omega,rfl,⟨by rw[df];exact x9A.1,fun n hn=>by rw[au (by omega)];exact x9A.2 n hn⟩,gs (xA.get g9),fun f l h=>?_⟩;have:=inv' _ _ (yA.go z bA h)
   rwa [bB]
 ·have z1:¬((a:Int) < (x.length:Int)):=by omega
  simp only[z1,decide_false,aq,if_false];have bg:=inv' _ _ (yA.done (by omega));rw[aZ] at bg;walk_at "pk";refine ca h9 ⟨X,x,ts,rfl,lx9,hx,by omega,fun l n SB b xB gB=>?_,fun a' l SB b xB=>?_⟩
  ·have el:=(sj b bg).2
   subst el;have g9B:=xB.get g9;have e0:IW SB (.loc n) .list=some true:=(congrArg (BS · Ty.list) gB).trans rfl;have e1:jA SB (.loc n) [.list] = some true:=by simp[jA,e0]
   walk_at "pk";rw[e1]
   simp only[aW,bJ,aq,if_false];rw[oG gB,oG g9B]
   simp only[aW];refine⟨by omega,by omega,?_⟩;try walk_at "pk"
   simp only[beq_self_eq_true,bJ,aq,if_false];walk_at "pk";rw[oG g9B]
   simp only[aW];refine⟨by omega,by omega,by omega,?_⟩;refine lh (S:=SB) _ (cB l.length (.bl true)) (by simp) (by simp;omega) (fun _ _=>trivial) (fun u S' k h=>h) (fun i u v hu hv S' k xS hk=>?_) fun S' xS=>?_
   ·obtain⟨rfl,hi⟩:=j5 hu
    have hi:i < l.length:=by simpa using hi
    rw[mG,if_pos hi] at hv;cases hv;obtain⟨b1,y1,e3⟩:=DM bg _ (bL hi);have ei:l[i]? = some (.tup [bc b1,.str y1]):=by rw[aa hi,e3]
    walk_at "pk";rw[xS.get gB,xS.get g9B]
    simp only[aF,gZ,ei,aW];walk_at "pk";simp only[lT,jj,aW];exact⟨by simp,by simp,ca h8 ⟨b1,_,rfl,.inr ⟨y1,rfl⟩,hk S' .refl⟩⟩
   ·refine⟨cB l.length true,by simp,?_⟩
    have:(cB l.length true).all id=true:=bY.mpr fun b m=>(List.mem_replicate.mp m).2
    rw[this]
    exact q _
  ·exact nomatch (sj b bg).1
end PL.jr
end
section
namespace L2
open PySem PySem.Spec PyProof.Rows PySem.W
open PL (U SO bR Xn KU KX b7)
def u6:PL.Spec:=fun _ _ _ _=>False
def DN(Γ:b7)(x:String)(sp:PL.Spec):b7:=fun y=>if y=x then sp else Γ y
def Role(c:Ctx)(T:Tab)(x:String)(f:Addr):Prop:=
 (x∈T.fns/\c.mg (nm x)=some (.ref f))\/(∃p∈T.o7,x=p.2 ++ "." ++ p.1/\∃C,c.cls p.2=some C/\Meth c.K C (nm p.1) f)\/(∃y∈T.oZ,x=y ++ ".__init__"/\∃C,c.cls y=some C/\Mk c.K C f)
theorem FnAt.mono(F:FnAt c j f sp)(h:j<=k):FnAt c k f sp:=by
 obtain⟨fd,ps,F,B⟩:=F;exact⟨fd,ps,F.mono h,B⟩
theorem bz:DN Γ x sp x=sp:=if_pos rfl
theorem su(h:y≠x):DN Γ x sp y = Γ y:=if_neg h
theorem fR.add(G:fR c T Γ k)(h:k<=k')(F:∀f,Role c T x f->FnAt c k' f sp):fR c T (DN Γ x sp) k':=by
 refine⟨fun y hy=>?_,fun p hp=>?_,fun y hy=>?_⟩
 ·obtain⟨f,hm,kp,A⟩:=G.fns y hy
  refine⟨f,hm,kp,?_⟩;by_cases e:y=x
  ·subst e;rw[bz];exact F f (.inl ⟨hy,hm⟩)
  ·rw[su e];exact A.mono h
 ·obtain⟨C,f,hc,hm,A⟩:=G.OM p hp
  refine⟨C,f,hc,hm,?_⟩;by_cases e:p.2 ++ "." ++ p.1=x
  ·rw[e,bz];exact F f (.inr (.inl ⟨p,hp,e.symm,C,hc,hm⟩))
  ·rw[su e];exact A.mono h
 ·obtain⟨C,f,hc,hg,hm,A⟩:=G.cls y hy
  refine⟨C,f,hc,hg,hm,?_⟩;by_cases e:y ++ ".__init__" = x
  ·rw[e,bz];exact F f (.inr (.inr ⟨y,hy,e.symm,C,hc,hm⟩))
  ·rw[su e];exact A.mono h
theorem Kt (hm:c.mg (nm x)=some (.ref f0)) (h2:(T.o7.all fun p=>p.2 ++ "." ++ p.1 != x)=true) (h3:(T.oZ.all fun y=>y ++ ".__init__" != x)=true) (R:Role c T x f):f=f0:=by
 rcases R with⟨_,e⟩ | ⟨p,hp,e,_⟩ | ⟨y,hy,e,_⟩
 ·rw[hm] at e;cases e;rfl
 ·have:=bY.mp h2 p hp
  rw[e] at this;simp at this
 ·have:=bY.mp h3 y hy
  rw[e] at this;simp at this
theorem Ku (hc:c.cls cl=some C) (hm:Meth c.K C (nm m) f0) (h1:T.fns.contains (cl ++ "." ++ m)=false) (h2:(T.o7.all fun p=>p.2 ++ "." ++ p.1 != cl ++ "." ++ m || (p.1 == m && p.2 == cl))=true) (h3:(T.oZ.all fun y=>y ++ ".__init__" != cl ++ "." ++ m)=true) (R:Role c T (cl ++ "." ++ m) f):f=f0:=by
 rcases R with⟨h,_⟩ | ⟨p,hp,e,C',hc',hm'⟩ | ⟨y,hy,e,_⟩
 ·exact absurd (fW.mpr h) (by rw[h1];simp)
 ·have:=bY.mp h2 p hp
  rw[e] at this;simp at this;obtain⟨e1,e2⟩:=this;rw[e2,hc] at hc';cases hc';rw[e1] at hm';have:=hm.at_.symm.trans hm'.at_;cases this;rfl
 ·have:=bY.mp h3 y hy
  rw[e] at this;simp at this
theorem Kv (hc:c.cls cl=some C) (hm:Mk c.K C f0) (h1:T.fns.contains (cl ++ ".__init__")=false) (h2:(T.o7.all fun p=>p.2 ++ "." ++ p.1 != cl ++ ".__init__")=true) (h3:(T.oZ.all fun y=>y ++ ".__init__" != cl ++ ".__init__" || y == cl)=true) (R:Role c T (cl ++ ".__init__") f):f=f0:=by
 rcases R with⟨h,_⟩ | ⟨p,hp,e,C',hc',hm'⟩ | ⟨y,hy,e,C',hc',hm'⟩
 ·exact absurd (fW.mpr h) (by rw[h1];simp)
 ·have:=bY.mp h2 p hp
  rw[e] at this;simp at this
 ·have:=bY.mp h3 y hy
  rw[e] at this;simp at this;rw[this,hc] at hc';cases hc';have:=hm.init.symm.trans hm'.init;cases this;rfl
theorem RX(B:Binds c.K fd ps []):FnAt c k f u6:=
 ⟨fd,ps,⟨fun vs H Q E h=>by obtain⟨us,ρ,S0,QU,EU,r,R,w,q,qx⟩:=h;exact w.elim,fun A outer s H args us vs Q E hr he hb hv hs=>by obtain⟨us,ρ,S0,QU,EU,r,R,w,q,qx⟩:=hs;exact w.elim⟩,B⟩
structure Df (c:Ctx) (T:Tab) (st:Stmt) (f:Addr) (N ps:List Str) (b:PL.du) (m:Nat):Prop where
 fn:∃x qual fd,Aw c.K x qual st f fd/\Binds c.K fd ps []
 sc:fO N ps (a9 st)
 tx:∃n,HE T n ⟨(a9 st).names,N,true⟩ (dN st)=some b
 hm:N.length=ps.length + m
theorem Df.ok{c:Ctx}{T:Tab}{Γ:b7}{st:Stmt}{f:Addr}{N ps:List Str}{b:PL.du}{m k kx:Nat}{sp:PL.Spec}(D:Df c T st f N ps b m)(B:Base c T kx)(hkx:kx<=k)(G:fR c T Γ k)(hk:PL.Keeps Γ b m sp)(hl:∀us S Q E,sp us S Q E->us.length=ps.length):FnAt c (k + 2) f sp:=by
 obtain⟨x,qual,fd,F,Bi⟩:=D.fn;obtain⟨n,hc⟩:=D.tx;exact⟨fd,ps,K5 F D.sc B hkx G hc hk D.hm hl,Bi⟩
theorem Df.up{c:Ctx}{T:Tab}{Γ:b7}{st:Stmt}{f:Addr}{N ps:List Str}{b:PL.du}{m k kx:Nat}{x:String}{sp:PL.Spec}(D:Df c T st f N ps b m)(R:∀g,Role c T x g->g=f)(B:Base c T kx)(hkx:kx<=k)(G:fR c T Γ k)(hk:PL.Keeps Γ b m sp)(hl:∀us S Q E,sp us S Q E->us.length=ps.length):fR c T (DN Γ x sp) (k + 2):=
 G.add (by omega) fun g r=>by rw[R g r];exact D.ok B hkx G hk hl
def d5(Γ Γ':b7)(l:List String):Prop:=∀x,x ∉ l->Γ' x = Γ x
theorem d5.refl(Γ:b7)(l:List String):d5 Γ Γ l:=fun _ _=>rfl
theorem d5.up(h:d5 Γ Γ' l)(m:x∈l):d5 Γ (DN Γ' x sp) l:=fun y hy=>(su (fun e=>hy (by rw[e];exact m))).trans (h y hy)
theorem fR.none(h1:∀x∈T.fns,∃f,c.mg (nm x)=some (.ref f)/\ly c.K (.ref f)=true/\FnAt c k f u6)(h2:∀p∈T.o7,∃C f,c.cls p.2=some C/\Meth c.K C (nm p.1) f/\FnAt c k f u6)
  (h3:∀x∈T.oZ,∃C f,c.cls x=some C/\c.mg (nm x)=some (.ref C)/\Mk c.K C f/\FnAt c k f u6):fR c T (fun _=>u6) k:=⟨h1,h2,h3⟩
end L2
end
section
namespace L2
open PySem PySem.Spec PyProof.Rows PySem.W
open PL (U SO bR Xn KU KX b7)
noncomputable def RN:List String:=["in_order","all_but","is_ahead","stretch","read","joined","Reader.__init__","Reader.sees","Reader.passes","Reader.choice","Reader.row","Reader.repeat","Reader.atom","Reader.bracket","Reader.sign_class","Reader.item","Reader.written_sign"]
structure fX (c:Ctx) (T:Tab) (x:String) (n m:Nat) (b:PL.du):Prop where
 ex:∃st f N ps,Df c T st f N ps b m/\ps.length=n/\∀g,Role c T x g->g=f
structure GS (c:Ctx) (T:Tab) (kx:Nat) (Γ:b7) (k:Nat):Prop where
 le:kx<=k
 ok:fR c T Γ k
theorem fX.up(D:fX c T x n m b)(B:Base c T kx)(G:GS c T kx Γ k)(hk:PL.Keeps Γ b m sp)(hl:∀us S Q E,sp us S Q E->us.length=n):GS c T kx (DN Γ x sp) (k + 2):=by
 obtain⟨st,f,N,ps,D0,e,R⟩:=D.ex;exact⟨Nat.le_add_right_of_le G.le,L2.Df.up D0 R B G.le G.ok hk (fun us S Q E h=>(hl us S Q E h).trans e.symm)⟩
structure DO (c:Ctx) (T:Tab):Prop where
 NF:fX c T "in_order" 1 0 PL.mj
 Ba:fX c T "all_but" 1 0 PL.nY
 ahead:fX c T "is_ahead" 2 0 PL.mm
 Gq:fX c T "stretch" 2 0 PL.nZ
 read:fX c T "read" 1 2 PL.xM
 joined:fX c T "joined" 2 0 PL.pJ
 init:fX c T "Reader.__init__" 2 0 PL.iZ
 sees:fX c T "Reader.sees" 2 0 PL.i0
 passes:fX c T "Reader.passes" 2 0 PL.hJ
 choice:fX c T "Reader.choice" 1 1 PL.hU
 row:fX c T "Reader.row" 1 1 PL.jF
 repeat_:fX c T "Reader.repeat" 1 1 PL.ic
 atom:fX c T "Reader.atom" 1 0 PL.i3
 bracket:fX c T "Reader.bracket" 1 1 PL.gD
 cls:fX c T "Reader.sign_class" 1 2 PL.eJ
 item:fX c T "Reader.item" 1 3 PL.i4
 ws:fX c T "Reader.written_sign" 2 1 PL.dO
theorem rF(us:List U)(S:bR)(Q:KU)(E:KX)(h:PL.yz args p d us S Q E):us.length=args.length + 1:=by
 obtain⟨r,x,rest,rfl,_⟩:=h;rfl
theorem len_T(us:List U)(S:bR)(Q:KU)(E:KX)(h:PL.spT f us S Q E):us.length=1:=by
 obtain⟨l,rfl,_⟩:=h;rfl
theorem zM(R:DO c T)(B:Base c T kx)(G:GS c T kx Γ k):∃ Γ',GS c T kx Γ' (k + 16)/\d5 Γ Γ' RN/\PL.GR Γ'/\Γ' "joined" = PL.jZ/\Γ' "Reader.__init__" = PL.mE:=by
 have g1:=R.NF.up B G (PL.zu _) len_T;have g2:=R.Ba.up B g1 (PL.tX _) len_T;have g3:=R.ahead.up B g2 (PL.zw _) (fun us S Q E h=>by obtain⟨a,b,rfl,_⟩:=h;rfl);have g4:=R.Gq.up B g3 (PL.A9 _) (fun us S Q E h=>by obtain⟨a,b,rfl,_⟩:=h;rfl);have g5:=R.joined.up B g4 (PL.Dx _) (fun us S Q E h=>by obtain⟨a,b,t,rfl,_⟩:=h;rfl);have g6:=R.init.up B g5 (PL.GD _) (fun us S Q E h=>by obtain⟨a,b,rfl,_⟩:=h;rfl);have g7:=R.sees.up B g6 (PL.JV _) (fun us S Q E h=>by obtain⟨a,b,_,_,_,rfl,_⟩:=h;rfl);have g8:=R.passes.up B g7 (PL.JW _ bz) (fun us S Q E h=>by obtain⟨l,d,h⟩:=h;exact rF _ _ _ _ h);refine⟨_,g8,?_,⟨rfl,rfl,rfl,rfl,rfl,rfl⟩,rfl,rfl⟩;refine d5.up (d5.up (d5.up (d5.up (d5.up (d5.up (d5.up (d5.up (d5.refl _ _) ?_) ?_) ?_) ?_) ?_) ?_) ?_) ?_<;>decide
theorem RY (k d:Nat) (h:d + k=6) (hc:∀j,k=j + 1->Γ "Reader.choice" = PL.yz [] (PL.gH (PL.rC j)) (d + 1)):PL.QJ Γ (PL.rC k) d:=by
 cases k with
 | zero=>exact .inl ⟨rfl,by omega⟩
 | succ j=>exact .inr ⟨_,rfl,by omega,PL.qM (j + 1),hc j rfl⟩
theorem rG (R:DO c T) (B:Base c T kx) (G:GS c T kx Γ k) (Sm:d5 Γ0 Γ RN) (gr:PL.GR Γ) (gj:Γ "joined" = PL.jZ) (gi:Γ "Reader.__init__" = PL.mE) (n d:Nat) (hd:d + n=6)
  (hc:∀j,n=j + 1->Γ "Reader.choice" = PL.yz [] (PL.gH (PL.rC j)) (d + 1)):
  ∃ Γ',GS c T kx Γ' (k + 16)/\d5 Γ0 Γ' RN/\PL.GR Γ'/\Γ' "joined" = PL.jZ/\Γ' "Reader.__init__" = PL.mE/\Γ' "Reader.choice" = PL.yz [] (PL.gH (PL.rC n)) d:=by
 obtain⟨e1,e2,e3,e4,e5,e6⟩:=gr;have hbo:=PL.qM n;have g1:=R.bracket.up B G (PL.QK _ ⟨e1,e2,e3,e4,e5,e6⟩ (PL.rC n) d (RY n d hd hc)) (fun us S Q E h=>by obtain⟨a,b,_,rfl,_⟩:=h;rfl);have g2:=R.ws.up B g1 (PL.Gs _ ⟨e1,e2,e3,e4,e5,e6⟩ d) (fun us S Q E h=>by obtain⟨m,h⟩:=h;exact rF _ _ _ _ h);have g3:=R.item.up B g2 (PL.JY _ d ⟨⟨e1,e2,e3,e4,e5,e6⟩,rfl⟩) rF;have g4:=R.cls.up B g3 (PL.NG _ d ⟨⟨⟨e1,e2,e3,e4,e5,e6⟩,rfl⟩,rfl⟩) rF;have g5:=R.atom.up B g4 (PL.J2 _ (PL.rC n) d ⟨⟨⟨⟨e1,e2,e3,e4,e5,e6⟩,rfl⟩,rfl⟩,rfl,rfl⟩) rF;have g6:=R.repeat_.up B g5 (PL.Dy _ (PL.rC n) d hbo ⟨⟨⟨⟨⟨e1,e2,e3,e4,e5,e6⟩,rfl⟩,rfl⟩,rfl,rfl⟩,rfl⟩) rF;have g7:=R.row.up B g6 (PL.NJ _ (PL.rC n) d hbo ⟨⟨⟨⟨⟨⟨e1,e2,e3,e4,e5,e6⟩,rfl⟩,rfl⟩,rfl,rfl⟩,rfl⟩,rfl,gj⟩) rF;have g8:=R.choice.up B g7 (PL.Dz _ (PL.rC n) d hbo ⟨⟨⟨⟨⟨⟨⟨e1,e2,e3,e4,e5,e6⟩,rfl⟩,rfl⟩,rfl,rfl⟩,rfl⟩,rfl,gj⟩,rfl⟩) rF;refine⟨_,g8,?_,⟨e1,e2,e3,e4,e5,e6⟩,gj,gi,rfl⟩;refine d5.up (d5.up (d5.up (d5.up (d5.up (d5.up (d5.up (d5.up Sm ?_) ?_) ?_) ?_) ?_) ?_) ?_) ?_<;>decide
theorem uk (R:DO c T) (B:Base c T kx) (G:GS c T kx Γ k) (Sm:d5 Γ0 Γ RN) (gr:PL.GR Γ) (gj:Γ "joined" = PL.jZ) (gi:Γ "Reader.__init__" = PL.mE):
  ∀(n d:Nat),d + n=6->∃ Γ',GS c T kx Γ' (k + 16 * (n + 1))/\d5 Γ0 Γ' RN/\PL.GR Γ'/\Γ' "joined" = PL.jZ/\Γ' "Reader.__init__" = PL.mE/\Γ' "Reader.choice" = PL.yz [] (PL.gH (PL.rC n)) d
 | 0,d,h=>rG R B G Sm gr gj gi 0 d h (fun j e=>by omega)
 | n + 1,d,h=>by
  obtain⟨Γ1,G1,S1,r1,j1,i1,c1⟩:=uk R B G Sm gr gj gi n (d + 1) (by omega);obtain⟨Γ2,G2,z⟩:=rG R B G1 S1 r1 j1 i1 (n + 1) d h (fun j e=>by cases e;exact c1);exact⟨Γ2,G2,z⟩
theorem Bo(R:DO c T)(B:Base c T kx)(G:GS c T kx Γ k):∃ Γ',GS c T kx Γ' (k + 130)/\d5 Γ Γ' RN/\Γ' "read" = PL.Bc/\Γ' "all_but" = PL.spT PL.dA:=by
 obtain⟨Γ1,G1,S1,r1,j1,i1⟩:=zM R B G;obtain⟨Γ2,G2,S2,r2,j2,i2,c2⟩:=uk R B G1 S1 r1 j1 i1 6 0 rfl;have g:=R.read.up B G2 (PL.J4 _ i2 c2) (fun us S Q E h=>by obtain⟨x,rfl,_⟩:=h;rfl);exact⟨_,g,d5.up S2 (by decide),bz,r2.Ba⟩
end L2
end
section
namespace L2
open PySem PySem.Spec PyProof.Rows PySem.W
open PL (U SO bR Xn KU KX b7)
structure u7 where
 x:String
 q:String
 cl:String
 st:Stmt
 N:List Str
 ps:List Str
 b:PL.du
def um(K:Frag)(x qual:Str)(st:Stmt)(f:Addr):Prop:=∃(oc:Value) (od:Option Addr) (kV dc pm:Value) (an:Option Addr) (cd ct:Value) (sl:Array (Option Value)),
 K.lookup f=some ⟨oc,od,.func (fnOf x qual (jE st) (dN st) (a9 st) .none kV dc pm an cd ct),sl⟩/\codeIn K cd qual=true/\ly K (.ref f)=true
theorem um.fn{K:Frag}{x qual:Str}{st:Stmt}{f:Addr}(h:um K x qual st f):∃fd,Aw K x qual st f fd/\ly K (.ref f)=true:=by
 obtain⟨oc,od,kV,dc,pm,an,cd,ct,sl,h1,h2,h3⟩:=h;exact⟨_,EY h1 h2 h3,h3⟩
inductive zN (K:Frag) (CA:List (String × Addr)):u7->Prop
 | fn {q:String} {st:Stmt} {N ps:List Str} {b:PL.du} {f:Addr}:nsIn K bp (bX q)=some (some (.ref f))->um K (bX q) (bX q) st f->zN K CA ⟨q,q,"",st,N,ps,b⟩
 | mt {x q cl:String} {st:Stmt} {N ps:List Str} {b:PL.du} {f C:Addr}:(cl == "")=false->CA.lookup cl=some C->ik K (.ref C) (bX q)=some (some (.ref f))->isFn K (.ref f)=true->um K (bX q) (bX x) st f->zN K CA ⟨x,q,cl,st,N,ps,b⟩
def ym(r:u7):Prop:=∀(x qual:Str) (kV dc pm:Value) (an:Option Addr) (cd ct:Value) (us:List Value),us.length=r.ps.length->z6 (fnOf x qual (jE r.st) (dN r.st) (a9 r.st) .none kV dc pm an cd ct) ⟨us,[]⟩=pure (r.ps.zip us)
abbrev Hk(r:u7)(us:List Value):Prop:=∀(x qual:Str) (kV dc pm:Value) (an:Option Addr) (cd ct:Value),z6 (fnOf x qual (jE r.st) (dN r.st) (a9 r.st) .none kV dc pm an cd ct) ⟨us,[]⟩=pure (r.ps.zip us)
theorem Xc(e:r.ps.length=0)(h:Hk r []):ym r:=fun x q a b c d f g us hl=>by
 rw[e] at hl;obtain rfl:=yF.mp hl;exact h x q a b c d f g
theorem Xd(e:r.ps.length=1)(h:∀a,Hk r [a]):ym r:=fun x q a b c d f g us hl=>by
 rw[e] at hl
 match us,hl with
 | [u],_=>exact h u x q a b c d f g
theorem Xe(e:r.ps.length=2)(h:∀a b,Hk r [a,b]):ym r:=fun x q a b c d f g us hl=>by
 rw[e] at hl
 match us,hl with
 | [u,v],_=>exact h u v x q a b c d f g
theorem Xf(e:r.ps.length=3)(h:∀a b c,Hk r [a,b,c]):ym r:=fun x q a b c d f g us hl=>by
 rw[e] at hl
 match us,hl with
 | [u,v,w],_=>exact h u v w x q a b c d f g
theorem Xg(e:r.ps.length=4)(h:∀a b c d,Hk r [a,b,c,d]):ym r:=fun x q a b c d f g us hl=>by
 rw[e] at hl
 match us,hl with
 | [u,v,w,z],_=>exact h u v w z x q a b c d f g
noncomputable def DP(r:u7):Bool:=(a9 r.st).kind == .function && !(a9 r.st).isCoroutine && !(a9 r.st).isGenerator && decide r.N.Nodup && r.N.take r.ps.length == r.ps && (r.ps.all fun x=>(a9 r.st).names.lookup x == some .local || (a9 r.st).names.lookup x == some .cell) && ((a9 r.st).names.all fun y=>y.2 != .free) && decide (r.ps.length<=r.N.length)
theorem DP.sc(h:DP r=true):fO r.N r.ps (a9 r.st)/\r.ps.length<=r.N.length:=by
 unfold DP at h;simp only[ag,bY,decide_eq_true_eq,bb,beq_iff_eq,fZ,bne_iff_ne] at h;obtain⟨⟨⟨⟨⟨⟨⟨h1,h2⟩,h3⟩,h4⟩,h5⟩,h6⟩,h7⟩,h8⟩:=h;exact⟨⟨h1,h2,h3,h4,h5,h6,h7⟩,h8⟩
noncomputable def Oy(T:Tab)(r:u7):Bool:=
 if r.cl == "" then(T.o7.all fun p=>p.2 ++ "." ++ p.1 != r.x) && (T.oZ.all fun y=>y ++ ".__init__" != r.x)
 else !(T.fns.contains r.x) && r.x == r.cl ++ "." ++ r.q && if r.q == "__init__" then(T.o7.all fun p=>p.2 ++ "." ++ p.1 != r.x) && (T.oZ.all fun y=>y ++ ".__init__" != r.x || y == r.cl)
  else(T.o7.all fun p=>p.2 ++ "." ++ p.1 != r.x || (p.1 == r.q && p.2 == r.cl)) && (T.oZ.all fun y=>y ++ ".__init__" != r.x)
noncomputable def Hl(rows:List u7):List String:=(rows.filter fun r=>r.cl == "").map (·.x)
noncomputable def Hm(rows:List u7):List (String × String):=(rows.filter fun r=>r.cl != "" && r.q != "__init__").map fun r=>(r.q,r.cl)
structure Kw (K:Frag) (p:String × Addr) (fl:List String):Prop where
 ns:nsIn K bp (bX p.1)=some (some (.ref p.2))
 cl:BH K p.2
 ms:makesIn K p.2=true
 kp:ly K (.ref p.2)=true
 na:fl.map (fun f=>ik K (.ref p.2) (bX f))=fl.map fun _=>some none
theorem nJ{α:Type}{x:String}{a:α}:∀ {l:List (String × α)},l.lookup x=some a->(x,a)∈l
 | (k,v)::l,h=>by
  rw[aY] at h;split at h
  ·rename_i e
   have e:x=k:=eq_of_beq e;cases h;subst e;exact ba ..
  ·exact aS _ (nJ h)
theorem Li{K:Frag}{C:Addr}{fl:List String}(h:fl.map (fun f=>ik K (.ref C) (bX f))=fl.map fun _=>some none):∀f∈fl,fm K C (nm f):=fun f m=>eG.mp h f m
section
variable {c:Ctx} {T:Tab} {rows:List u7} {CA:List (String × Addr)} {h:Heap} {fl:List String}
theorem Kx(X:c.K.In h)(G:h.Ns bp c.mg)(hc:c.cls=fun x=>CA.lookup x)(hC:∀p∈CA,Kw c.K p fl)(R:∀r∈rows,zN c.K CA r)(bd:∀r∈rows,ym r)(sc:rows.all DP=true)(rl:rows.all (Oy T)=true)
  (tx:rows.map (fun r=>HE T 60 ⟨(a9 r.st).names,r.N,true⟩ (dN r.st))=rows.map fun r=>some r.b) (i:Nat) (r:u7) (e:rows[i]? = some r):fX c T r.x r.ps.length (r.N.length - r.ps.length) r.b:=by
 have m:=aB e;obtain⟨s1,s2⟩:=(bY.mp sc r m |> DP.sc)
 have t:=eG.mp tx r m;have b:=bd r m;have rr:=bY.mp rl r m;have ln:r.N.length=r.ps.length + (r.N.length - r.ps.length):=by omega
 cases R r m with
 | fn h1 h2=>
  obtain⟨fd,F,kp⟩:=h2.fn;refine⟨⟨_,_,_,_,⟨⟨_,_,fd,F,F.binds fun kV dc pm an cd ct us hl=>b _ _ kV dc pm an cd ct us hl⟩,s1,⟨60,t⟩,ln⟩,rfl,fun g ro=>?_⟩⟩;have rr:((T.o7.all fun p=>p.2 ++ "." ++ p.1 != _) && (T.oZ.all fun y=>y ++ ".__init__" != _))=true:=rr;rw[ag] at rr;exact Kt (kz X G h1) rr.1 rr.2 ro
 | @mt x q cl st N ps b' f C hn h0 h1 h2 h3=>
  obtain⟨fd,F,kp⟩:=h3.fn;refine⟨⟨_,_,_,_,⟨⟨_,_,fd,F,F.binds fun kV dc pm an cd ct us hl=>b _ _ kV dc pm an cd ct us hl⟩,s1,⟨60,t⟩,ln⟩,rfl,fun g ro=>?_⟩⟩;unfold Oy at rr;simp only[hn,aq,if_false,ag,fZ,beq_iff_eq] at rr;obtain⟨⟨r1,r2⟩,r3⟩:=rr;have hcl:c.cls cl=some C:=by rw[hc];exact h0
  have cm:=hC _ (nJ h0);subst r2;by_cases z:q = "__init__"
  ·subst z
   simp only[if_true,ag] at r3;have e:cl ++ "." ++ "__init__" = cl ++ ".__init__":=by rw[String.append_assoc];rfl
   have ro:Role c T (cl ++ "." ++ "__init__") g:=ro;rw[e] at r1 r3 ro;exact Kv (cl:=cl) hcl ⟨cm.ms,h1,h2,cm.kp⟩ r1 r3.1 r3.2 ro
  ·rw[if_neg z,ag] at r3
   exact Ku (m:=q) (cl:=cl) hcl ⟨h1,h2,kp⟩ r1 r3.1 r3.2 ro
theorem Bp(b:ym r)(h:um c.K x qual r.st f):FnAt c k f u6:=by
 obtain⟨fd,F,kp⟩:=h.fn;exact RX (F.binds fun kV dc pm an cd ct us hl=>b _ _ kV dc pm an cd ct us hl)
theorem Oz(X:c.K.In h)(G:h.Ns bp c.mg)(hc:c.cls=fun x=>CA.lookup x)(hC:∀p∈CA,Kw c.K p fl)(R:∀r∈rows,zN c.K CA r)(bd:∀r∈rows,ym r)
  (t1:T.fns=Hl rows) (t2:T.o7=Hm rows) (t3:∀x∈T.oZ,∃r∈rows,r.cl=x/\r.q = "__init__"/\(x == "")=false):fR c T (fun _=>u6) k:=by
 refine fR.none (fun x hx=>?_) (fun p hp=>?_) (fun x hx=>?_)
 ·rw[t1] at hx
  obtain⟨r,hr,rfl⟩:=bT.mp hx;obtain⟨m,e⟩:=d8.mp hr;have b:=bd r m;cases R r m with
  | @fn q st N ps b' f h1 h2=>
   obtain⟨fd,F,kp⟩:=h2.fn;exact⟨f,kz X G h1,kp,Bp b h2⟩
  | mt hn=>exact absurd e (by show ¬(_ == "")=true;rw[hn];simp)
 ·rw[t2] at hp
  obtain⟨r,hr,rfl⟩:=bT.mp hp;obtain⟨m,e⟩:=d8.mp hr;have b:=bd r m;cases R r m with
  | fn h1 h2=>simp at e
  | @mt x q cl st N ps b' f C hn h0 h1 h2 h3=>
   obtain⟨fd,F,kp⟩:=h3.fn;exact⟨C,f,by rw[hc];exact h0,⟨h1,h2,kp⟩,Bp b h3⟩
 ·obtain⟨r,m,rfl,eq,ne⟩:=t3 x hx
  have b:=bd r m;cases R r m with
  | fn h1 h2=>simp at ne
  | @mt x q cl st N ps b' f C hn h0 h1 h2 h3=>
   have eq:q = "__init__":=eq;subst eq;have cm:=hC _ (nJ h0);exact⟨C,f,by rw[hc];exact h0,kz X G cm.ns,⟨cm.ms,h1,h2,cm.kp⟩,Bp b h3⟩
theorem OA(hc:c.cls=fun x=>CA.lookup x)(hC:∀p∈CA,Kw c.K p fl)(x:String)(C:Addr)(h:c.cls x=some C):BH c.K C/\∀f∈fl,fm c.K C (nm f):=by
 rw[hc] at h;have:=hC _ (nJ h);exact⟨this.cl,Li this.na⟩
end
structure XF (K:Frag) (C:Addr) (bm:List Value):Prop where
 get:XGet K C
 is:Mp K C
 cls:nq K C bm
theorem RZ{K:Frag}{C N:Addr}{bm bs:List Value}{cd:ClassData}{nm q:Str}{sn:List Str}{sub:List Value}{ab:Bool}{col:Option Bool}{dd:Option Addr}{k0 k1 k2 k3 k5:Option Value}
  (ga:ik K (.ref C) "__getattribute__" = some (some (.builtin "BaseException.__getattribute__"))) (gh:ik K (.ref C) "__getattr__" = some none) (hb:mroIn K C (.type "BaseException")=some true) (hd:hasDictIn K C=true) (sa:ik K (.ref C) "__setattr__" = some (some (.builtin "object.__setattr__")))
  (cl:clsIn K C=some cd) (ob:K.lookup C=some (ko nm q C N bs bm true sn sub ab col dd k0 k1 k2 k3 k5 "ValueError.__new__")) (mr:cd.mro = .ref C::bm) (tl:tailIn K vE bm=true)
  (ha:ik K (.ref C) "__class__" = some (some (.builtin "object.__class__"))) (hn:specialIn K (.builtin "object.__class__") "__get__" = some (some (.builtin "getset_descriptor.__get__")))
  (LX:takesIn K (.builtin "object.__class__")=some true) (hm:mroIn K C (.type "object")=some true):XF K C bm:=
 ⟨⟨ga,gh,hb,hd,sa,cd,bm,cl,mr,tl⟩,⟨⟨ga,gh,hb,hd,sa,cd,bm,cl,mr,tl⟩,ha,hn,LX,hm⟩,⟨⟨nm,q,N,bs,sn,sub,ab,col,dd,k0,k1,k2,k3,k5,ob⟩,tl⟩⟩
theorem OB{K:Frag}{C:Addr}{b1 b2:List Value}(h1:nq K C b1)(h2:nq K C b2):b1=b2:=by
 obtain⟨nm,q,N,bs,sn,sub,ab,col,dd,k0,k1,k2,k3,k5,e1⟩:=h1.ob;obtain⟨nm',q',N',bs',sn',sub',ab',col',dd',k0',k1',k2',k3',k5',e2⟩:=h2.ob;have e:=e1.symm.trans e2;unfold ko at e;cases e
 rfl
abbrev R7:=String × Addr × List Value
structure Vg (K:Frag) (fl:List String) (p:R7):Prop where
 ns:nsIn K bp (bX p.1)=some (some (.ref p.2.1))
 xf:XF K p.2.1 p.2.2
 na:fl.map (fun f=>ik K (.ref p.2.1) (bX f))=fl.map fun _=>some none
noncomputable def yn(EA:List R7)(x:String):Option Addr:=(EA.lookup x).map (·.1)
structure Xs (K:Frag) (fl:List String) (EA:List R7):Prop where
 xs:∀p∈EA,Vg K fl p
 q:EA.map (fun p=>EA.map fun r=>qr K (.ref p.2.1) (.ref r.2.1))=EA.map fun p=>EA.map fun r=>some ((PL.lR p.1).contains r.1)
 v:EA.map (fun p=>qr K (.ref p.2.1) (.type "ValueError"))=EA.map fun _=>some true
 u:EA.map (fun p=>EA.map fun r=>!(PL.lR p.1).contains r.1 || (aO p.2.1::p.2.2).contains (.ref r.2.1))=EA.map fun _=>EA.map fun _=>true
section
variable {K:Frag} {fl:List String} {EA:List R7} {x y:String} {C D:Addr}
theorem j9(h:yn EA x=some C):∃bm,(x,C,bm)∈EA:=by
 obtain⟨p,e,rfl⟩:=af.mp h;exact⟨p.2,nJ e⟩
variable (X:Xs K fl EA)
include X
theorem Xs.exc(x:String)(C:Addr)(h:yn EA x=some C):XGet K C/\Mp K C/\(∃bm,nq K C bm)/\∀f∈fl,fm K C (nm f):=by
 obtain⟨bm,m⟩:=j9 h;have:=X.xs _ m;exact⟨this.xf.get,this.xf.is,⟨_,this.xf.cls⟩,Li this.na⟩
theorem Xs.ns(h:yn EA x=some C):nsIn K bp (bX x)=some (some (.ref C)):=by
 obtain⟨bm,m⟩:=j9 h;exact(X.xs _ m).ns
theorem Xs.OL(x:String)(C:Addr)(y:String)(D:Addr)(h:yn EA x=some C)(h':yn EA y=some D):qr K (.ref C) (.ref D)=some ((PL.lR x).contains y):=by
 obtain⟨bm,m⟩:=j9 h;obtain⟨bn,n⟩:=j9 h';exact eG.mp (eG.mp X.q _ m) _ n
theorem Xs.UT(x:String)(C:Addr)(h:yn EA x=some C):qr K (.ref C) (.type "ValueError")=some true:=by
 obtain⟨bm,m⟩:=j9 h;exact eG.mp X.v _ m
theorem Xs.up(x:String)(C:Addr)(bm:List Value)(y:String)(D:Addr)(h:yn EA x=some C)(h':yn EA y=some D)(hc:nq K C bm)(hu:(PL.lR x).contains y=true):(aO C::bm).contains (.ref D)=true:=by
 obtain⟨bm',m⟩:=j9 h;obtain⟨bn,n⟩:=j9 h';have:=eG.mp (eG.mp X.u _ m) _ n;rw[OB hc (X.xs _ m).xf.cls]
 rw[hu] at this;exact this
end
theorem sv(h:c.mg (nm x)=some (.str s t))(e:s=tx l):∃v u,c.mg (nm x)=some u/\RelV v u/\∀ ρ H,Rep c ρ H (.str l) v:=
 ⟨.str (tx l),_,h,⟨t,by rw[e]⟩,fun _ _=>bj.mpr rfl⟩
theorem zO{K:Frag}{a:Addr}:∀(kvs:List (Str × Str)),(∀p∈kvs,∃t,nsIn K a p.1=some (some (.str p.2 t)))->∀k v,(kvs.map fun p=>(p.1,V.str p.2)).lookup k=some v->∃u,RelV v u/\nsIn K a k=some (some u)
 | [],_,k,v,h=>by simp at h
 | p::r,hp,k,v,h=>by
  rw[aE,aY] at h;split at h
  ·rename_i e
   have e:k=p.1:=eq_of_beq e;cases h;obtain⟨t,z⟩:=hp p (ba ..);exact⟨_,⟨t,rfl⟩,by rw[e];exact z⟩
  ·exact zO r (fun q hq=>hp q (aS _ hq)) k v h
noncomputable def DQ:Value->Option Str
 | .str s _=>some s
 | _=>none
theorem Cs(k:Str):∀(es:List DictEntry) (ks:List Str),es.map (fun e=>DQ e.key)=ks.map some->k ∉ ks->es.find? (·.key.isStr k)=none/\es.any (·.refKey)=false
 | [],_,_,_=>⟨rfl,rfl⟩
 | e::r,[],h,_=>by cases h
 | ⟨hs,ky,vl⟩::r,q::ks,h,n=>by
  rw[aE,aE,dW] at h;obtain⟨i,j⟩:=Cs k r ks h.2 fun z=>n (aS _ z)
  have h1:DQ ky=some q:=h.1;cases ky with
  | str s t=>
   have e:s=q:=aG h1;subst e;have ne:(s == k)=false:=by
    rw[beq_eq_false_iff_ne];exact fun z=>n (z ▸ ba ..)
   exact⟨by rw[fM];show(match (s == k) with | true=>_ | false=>_)=_;rw[ne];exact i,by rw[dG,j];rfl⟩
  | _=>cases h1
theorem Ky (h:c.mg (nm x)=some (.ref a)) (l:c.K.lookup a=some ⟨.type "dict",none,.dict es n,#[]⟩) (kl:zV c.w.params es.toList)
  (ky:es.toList.map (fun e=>DQ e.key)=(kvs.map fun p=>tx p.1).map some) (ns:(a == dE)=false)
  (hk:∀p∈kvs,∃t,nsIn c.K a (tx p.1)=some (some (.str (tx p.2) t))):∃v u,c.mg (nm x)=some u/\RelV v u/\∀ ρ H,Rep c ρ H (.tab kvs) v:=by
 refine⟨.ref a,_,h,rfl,fun ρ H=>se.mpr ⟨a,rfl,⟨es,n,l,kl⟩,fun k v e=>?_,fun k e=>?_,ns⟩⟩
 ·refine zO (kvs.map fun p=>(tx p.1,tx p.2)) ?_ k v (by rw[bI];exact e)
  intro p hp;obtain⟨q,hq,rfl⟩:=bT.mp hp;exact hk q hq
 ·have nm:k ∉ kvs.map fun p=>tx p.1:=fun z=>by
   obtain⟨q,hq,rfl⟩:=bT.mp z;have:=List.lookup_eq_none_iff.mp e (tx q.1,V.str (tx q.2)) (bT.mpr ⟨q,hq,rfl⟩);simp at this
  obtain⟨i,j⟩:=Cs k _ _ ky nm;unfold nsIn;rw[l]
  show(match es.toList.find? (·.key.isStr k) with | some e=>some (some e.val) | none=>if es.toList.any (·.refKey) then none else some none)=some none
  rw[i,j]
  rfl
theorem R8 (h:c.mg (nm x)=some (.ref a)) (l:c.K.lookup a=some ⟨.type "dict",none,.dict es n,#[]⟩) (kl:zV c.w.params es.toList)
  (ky:es.toList.map (fun e=>DQ e.key)= [some k0,some k1,some k2]) (ns:(a == dE)=false) (c0:k0=tx l0) (c1:k1=tx l1) (c2:k2=tx l2)
  (r0:nsIn c.K a k0=some (some (.str z0 t0))) (e0:z0=tx m0) (r1:nsIn c.K a k1=some (some (.str z1 t1))) (e1:z1=tx m1) (r2:nsIn c.K a k2=some (some (.str z2 t2))) (e2:z2=tx m2):
  ∃v u,c.mg (nm x)=some u/\RelV v u/\∀ ρ H,Rep c ρ H (.tab [(l0,m0),(l1,m1),(l2,m2)]) v:=by
 subst c0 c1 c2 e0 e1 e2;refine Ky h l kl ky ns ?_;exact az.mpr ⟨⟨t0,r0⟩,az.mpr ⟨⟨t1,r1⟩,az.mpr ⟨⟨t2,r2⟩,fun _ h=>(bK h).elim⟩⟩⟩
theorem SW {c:Ctx} {EA:List R7} {x:String} {C f:Addr} {st:Stmt} {ps:List Str} (hx:c.exc x=some C) (kc:ly c.K (.ref C)=true) (a:ik c.K (.ref C) "__init__" = some (some (.ref f))) (i:isFn c.K (.ref f)=true) {q:Str} (F:um c.K "__init__" q st f)
  (bd:∀(x qual:Str) (kV dc pm:Value) (an:Option Addr) (cd ct:Value) (us:List Value),us.length=ps.length->z6 (fnOf x qual (jE st) (dN st) (a9 st) .none kV dc pm an cd ct) ⟨us,[]⟩=pure (ps.zip us)) (hp:ps.length<=1000)
  (h:∀fd,Aw c.K "__init__" q st f fd->iz c.P c.w c.K c.mg c.base (oW c.P c.w) 1 f fd ps (xU C ((PL.cL x).map nm))):oI c 1 x:=by
 obtain⟨fd,F,kp⟩:=F.fn;exact⟨⟨C,f,fd,ps,hx,kc,a,i,h fd F,F.binds fun kV dc pm an cd ct us hl=>bd _ _ kV dc pm an cd ct us hl,hp⟩⟩
end L2
end
section
namespace L2
open PySem PySem.Spec PyProof.Rows PySem.W
open PL (U SO bR Xn KU KX b7)
theorem fR.mono(G:fR c T Γ j)(h:j<=k):fR c T Γ k:=
 ⟨fun x hx=>let ⟨f,a,b,d⟩:=G.fns x hx;⟨f,a,b,d.mono h⟩,fun p hp=>let ⟨C,f,a,b,d⟩:=G.OM p hp;⟨C,f,a,b,d.mono h⟩,fun x hx=>let ⟨C,f,a,b,e,d⟩:=G.cls x hx;⟨C,f,a,b,e,d.mono h⟩⟩
theorem fR.mix(G1:fR c T Γ1 k)(G2:fR c T Γ2 k)(h:∀x,Γ x = Γ1 x\/Γ x = Γ2 x):fR c T Γ k:=by
 refine⟨fun x hx=>?_,fun p hp=>?_,fun x hx=>?_⟩
 ·rcases h x with e | e<;>rw[e]
  ·exact G1.fns x hx
  ·exact G2.fns x hx
 ·rcases h (p.2 ++ "." ++ p.1) with e | e<;>rw[e]
  ·exact G1.OM p hp
  ·exact G2.OM p hp
 ·rcases h (x ++ ".__init__") with e | e<;>rw[e]
  ·exact G1.cls x hx
  ·exact G2.cls x hx
theorem GS.mono(G:GS c T kx Γ j)(h:j<=k):GS c T kx Γ k:=⟨aR G.le h,fR.mono G.ok h⟩
structure OC (c:Ctx) (T:Tab):Prop where
 written:fX c T "written" 1 0 PL.n6
 row:fX c T "row_text" 1 0 PL.mn
 rep:fX c T "repeat_text" 1 2 PL.i5
 atom:fX c T "atom_text" 1 0 PL.kK
 place:fX c T "place_text" 1 0 PL.jG
 sign:fX c T "sign_text" 2 0 PL.kL
 texts:fX c T "class_texts" 1 1 PL.i6
 guarded:fX c T "guarded" 1 0 PL.n8
 items:fX c T "class_items" 1 2 PL.i7
 runs:fX c T "runs" 1 3 PL.xN
 Vh:fX c T "run_items" 1 2 PL.kM
open PL.jr in
structure Kz (c:Ctx) (T:Tab):Prop where
 po:fX c T "places_of" 2 4 kO
 to:fX c T "tree_of" 2 1 n9
 mem:fX c T "members" 1 0 oa
 pt:fX c T "Part.__init__" 4 0 kP
 Wu:fX c T "one_behind_other" 2 2 fq
 Wv:fX c T "one_or_other" 2 0 iF
 li:fX c T "Layout.__init__" 1 0 i8
 hm:fX c T "Layout.how_many" 1 0 fQ
 cr:fX c T "Layout.close_rule" 2 0 eL
 lk:fX c T "Layout.link" 3 1 i9
 lay:fX c T "Layout.lay" 2 0 jH
 lp:fX c T "Layout.lay_place" 2 1 fu
 lr:fX c T "Layout.lay_row" 2 3 gE
 lc:fX c T "Layout.lay_choice" 2 2 eM
 lq:fX c T "Layout.lay_repeat" 2 4 eO
 us:fX c T "useful_places" 1 5 ie
 Xh:fX c T "places_that_take" 2 0 fw
 pi:fX c T "Places.__init__" 2 1 ja
 Xi:fX c T "Places.beyond" 2 2 ig
 fr:fX c T "Places.first_rule" 2 2 eP
 wi:fX c T "Walk.__init__" 2 0 kQ
 wm:fX c T "Walk.may_go_on" 1 0 gF
 al:fX c T "Walk.along" 2 0 jI
 ws:fX c T "Walk.step" 2 2 kR
 lx:fX c T "Lexer.__init__" 2 0 jJ
 tk:fX c T "Lexer.token" 3 1 jb
 ts:fX c T "Lexer.tokens" 2 3 iG
open PL.jr in
structure Bq (c:Ctx) (T:Tab):Prop where
 cell:fX c T "_law_cell" 2 0 PL.pK.kN
 mix:fX c T "_law_mix" 2 1 PL.pK.mq
 whole:fX c T "_law_whole" 1 0 PL.pK.mv
 all:fX c T "_law_all" 0 1 PL.pK.mw
 no:fX c T "_law_nothing" 1 0 iH
 be:fX c T "_law_behind" 2 4 jc
 re:fX c T "_law_rests" 2 3 jK
 ed:fX c T "_law_ends" 1 0 kS
 tk:fX c T "_law_token" 3 4 jL
 sm:fX c T "_law_small" 3 3 jM
 tr:fX c T "_law_trees" 4 3 jN
 tx:fX c T "_law_text" 3 0 kU
 pr:fX c T "_law_pair" 3 0 kW
 ts:fX c T "_law_tokens" 2 4 jd
open PL PL.jr in
theorem zP(us:List U)(S:bR)(Q:KU)(E:KX)(h:Cr D f us S Q E):us.length=1:=by
 obtain⟨_,rfl,_⟩:=h;rfl
open PL PL.jr in
theorem wk(us:List U)(S:bR)(Q:KU)(E:KX)(h:gU D us S Q E):us.length=2:=by
 obtain⟨_,_,_,_,_,_,rfl,_⟩:=h;rfl
open PL PL.jr in
theorem sA (W:OC c T) (B:Base c T kx) (G:GS c T kx Γ j) (k:Nat) (hk:k<=10) (D:Tr->Prop) (hD:∀t,bG t<=k->zL t->D t) (hp:Γ "place_text" = Ko) (hw:Γ "written" = Cr D wr):
  ∃ Γ',GS c T kx Γ' (j + 8)/\Γ' "place_text" = Ko/\Γ' "written" = Cr (fun t=>bG t<=k\/(zL t/\bG t<=k + 1)) wr:=by
 have g1:=W.atom.up B G (Ol _ k D hD hp hw) zP;have g2:=W.rep.up B g1 (Om _ k hk bz) zP;have g3:=W.row.up B g2 (Oo _ k bz) zP;have g4:=W.written.up B g3 (Oq _ k bz) zP;exact⟨_,g4,hp,bz⟩
open PL PL.jr in
theorem R9(R:DO c T)(W:OC c T)(B:Base c T kx)(G:GS c T kx Γ j):∃ Γ',GS c T kx Γ' (j + 50)/\Γ' "written" = Cr (fun t=>bG t<=3\/(zL t/\bG t<=3 + 1)) wr:=by
 have a0:=R.Ba.up B G (tX _) len_T;have a1:=W.sign.up B a0 (RF _) (fun us S Q E h=>by obtain⟨_,_,rfl,_⟩:=h;rfl);have a2:=W.Vh.up B a1 (RH _ bz) (fun us S Q E h=>by obtain⟨_,rfl,_⟩:=h;rfl);have a3:=W.runs.up B a2 (RJ _) (fun us S Q E h=>by obtain⟨_,rfl,_⟩:=h;rfl);have a4:=W.items.up B a3 (RL _ rfl rfl) (fun us S Q E h=>by obtain⟨_,rfl,_⟩:=h;rfl);have a5:=W.guarded.up B a4 (RO _) (fun us S Q E h=>by obtain⟨_,_,rfl,_⟩:=h;rfl);have a6:=W.texts.up B a5 (RQ _ rfl rfl rfl) (fun us S Q E h=>by obtain⟨_,rfl,_⟩:=h;rfl);have a7:=W.place.up B a6 (RS _ rfl rfl rfl) (fun us S Q E h=>by obtain⟨_,rfl,_⟩:=h;rfl);have a8:=W.written.up B a7 (sp:=Cr (fun _=>False) wr) (fun us S Q E h=>by obtain⟨_,_,h,_⟩:=h;exact h.elim) zP;obtain⟨Γ1,G1,p1,w1⟩:=sA W B a8 0 (by omega) _ (fun t d r=>by cases t<;>first | exact r.elim | exact absurd d (Nat.not_succ_le_zero _)) rfl bz;obtain⟨Γ2,G2,p2,w2⟩:=sA W B G1 1 (by omega) _ (fun t d r=>.inr ⟨r,d⟩) p1 w1;obtain⟨Γ3,G3,p3,w3⟩:=sA W B G2 2 (by omega) _ (fun t d r=>.inr ⟨r,d⟩) p2 w2;obtain⟨Γ4,G4,p4,w4⟩:=sA W B G3 3 (by omega) _ (fun t d r=>.inr ⟨r,d⟩) p3 w3;exact⟨Γ4,G4,w4⟩
section
open PL PL.jr
structure GP (Γ:b7):Prop where
 mem:Γ "members" = zC
 pt:Γ "Part.__init__" = yc
 Wu:Γ "one_behind_other" = pb qR
 Wv:Γ "one_or_other" = pb QQ
 li:Γ "Layout.__init__" = NR
 hm:Γ "Layout.how_many" = NS
 cr:Γ "Layout.close_rule" = NT
 lk:Γ "Layout.link" = GQ
 lp:Γ "Layout.lay_place" = gU fun t u=>∃n l,t = .one n l/\u = .str l
variable {c:Ctx} {T:Tab} {Γ:b7} {j kx:Nat}
theorem KA(P:Kz c T)(B:Base c T kx)(G:GS c T kx Γ j):∃ Γ',GS c T kx Γ' (j + 20)/\GP Γ'/\Γ' "Layout.lay" = gU (Tu 0):=by
 have g1:=P.mem.up B G (NO _) (fun us S Q E h=>by obtain⟨_,rfl,_⟩:=h;rfl);have g2:=P.pt.up B g1 (QP _) (fun us S Q E h=>by obtain⟨_,_,_,_,rfl,_⟩:=h;rfl);have g3:=P.Wu.up B g2 (NP _ bz) (fun us S Q E h=>by obtain⟨_,_,_,_,_,_,_,_,rfl,_⟩:=h;rfl);have g4:=P.Wv.up B g3 (QR _ rfl) (fun us S Q E h=>by obtain⟨_,_,_,_,_,_,_,_,rfl,_⟩:=h;rfl);have g5:=P.li.up B g4 (QS _) (fun us S Q E h=>by obtain⟨_,rfl,_⟩:=h;rfl);have g6:=P.hm.up B g5 (QT _) (fun us S Q E h=>by obtain⟨_,_,_,_,rfl,_⟩:=h;rfl);have g7:=P.cr.up B g6 (QW _) (fun us S Q E h=>by obtain⟨_,_,_,_,_,_,_,_,_,_,rfl,_⟩:=h;rfl);have g8:=P.lk.up B g7 (QZ _ rfl) (fun us S Q E h=>by obtain⟨_,_,_,_,_,_,rfl,_⟩:=h;rfl);have g9:=P.lp.up B g8 (Q0 _ rfl) wk;have ga:=P.lay.up B g9 (sp:=gU (Tu 0)) (fun us S Q E h=>by obtain⟨_,_,_,_,_,_,_,h,_⟩:=h;exact absurd h.1 (iB _)) wk;exact⟨_,ga,⟨rfl,rfl,rfl,rfl,rfl,rfl,rfl,rfl,rfl⟩,bz⟩
theorem qd (P:Kz c T) (B:Base c T kx) (G:GS c T kx Γ j) (g:GP Γ) (d:Nat) (hd:d<=100) (hl:Γ "Layout.lay" = gU (Tu d)):∃ Γ',GS c T kx Γ' (j + 8)/\GP Γ'/\Γ' "Layout.lay" = gU (Tu (d + 1)):=by
 obtain⟨e1,e2,e3,e4,e5,e6,e7,e8,e9⟩:=g;have g1:=P.lr.up B G (Q4 _ d e2 hl e8 e3) wk;have g2:=P.lc.up B g1 (Q5 _ d e2 hl e4) wk;have g3:=P.lq.up B g2 (Q6 _ d hd e2 hl e8) wk;have g4:=P.lay.up B g3 (NX _ d e9 rfl rfl rfl) wk;exact⟨_,g4,⟨e1,e2,e3,e4,e5,e6,e7,e8,e9⟩,bz⟩
theorem Sa(P:Kz c T)(B:Base c T kx)(G:GS c T kx Γ j):∃ Γ',GS c T kx Γ' (j + 75)/\GP Γ'/\Γ' "Layout.lay" = gU (Tu 4)/\Γ' "Places.__init__" = N0/\Γ' "Lexer.token" = Ki/\Γ' "Lexer.tokens" = N5:=by
 obtain⟨Γ0,G0,p0,l0⟩:=KA P B G;obtain⟨Γ1,G1,p1,l1⟩:=qd P B G0 p0 0 (by omega) l0;obtain⟨Γ2,G2,p2,l2⟩:=qd P B G1 p1 1 (by omega) l1;obtain⟨Γ3,G3,p3,l3⟩:=qd P B G2 p2 2 (by omega) l2;obtain⟨Γ4,G4,p4,l4⟩:=qd P B G3 p3 3 (by omega) l3;obtain⟨e1,e2,e3,e4,e5,e6,e7,e8,e9⟩:=p4;have g1:=P.us.up B G4 (Q8 _ e1) (fun us S Q E h=>by obtain⟨_,_,_,_,rfl,_⟩:=h;rfl);have g2:=P.Xh.up B g1 (NY _) (fun us S Q E h=>by obtain⟨_,_,_,_,_,rfl,_⟩:=h;rfl);have g3:=P.pi.up B g2 (Ra _ rfl bz) (fun us S Q E h=>by obtain⟨_,_,_,_,_,rfl,_⟩:=h;rfl);have g4:=P.Xi.up B g3 (Rc _ e1) (fun us S Q E h=>by obtain⟨_,_,_,_,_,rfl,_⟩:=h;rfl);have g5:=P.fr.up B g4 (Rg _) (fun us S Q E h=>by obtain⟨_,_,_,_,_,rfl,_⟩:=h;rfl);have g6:=P.wi.up B g5 (Rj _ rfl) (fun us S Q E h=>by obtain⟨_,_,_,_,_,rfl,_⟩:=h;rfl);have g7:=P.wm.up B g6 (Rl _) (fun us S Q E h=>by obtain⟨_,_,_,_,_,rfl,_⟩:=h;rfl);have g8:=P.ws.up B g7 (Rn _ rfl rfl) (fun us S Q E h=>by obtain⟨_,_,_,_,_,_,_,_,_,rfl,_⟩:=h;rfl);have g9:=P.al.up B g8 (Rr _ rfl bz) (fun us S Q E h=>by obtain⟨_,_,_,_,_,_,rfl,_⟩:=h;rfl);have ga:=P.tk.up B g9 (Rt _ rfl bz) (fun us S Q E h=>by obtain⟨_,_,_,_,rfl,_⟩:=h;rfl);have gb:=P.ts.up B ga (Ru _ bz) (fun us S Q E h=>by obtain⟨_,_,_,rfl,_⟩:=h;rfl);exact⟨_,gb.mono (by omega),⟨e1,e2,e3,e4,e5,e6,e7,e8,e9⟩,l4,rfl,rfl,bz⟩
theorem qf (L:Bq c T) (B:Base c T kx) (G:GS c T kx Γ j) (d:Nat) (hd:d<=100) (h1:Γ "_law_nothing" = uZ d) (h2:Γ "_law_behind" = Bl d):∃ Γ',GS c T kx Γ' (j + 4)/\Γ' "_law_nothing" = uZ (d + 1)/\Γ' "_law_behind" = Bl (d + 1):=by
 have g1:=L.be.up B G (RC _ d hd h2 h1) (fun us S Q E h=>by obtain⟨_,_,rfl,_⟩:=h;rfl);have g2:=L.no.up B g1 (RB _ d h1) (fun us S Q E h=>by obtain⟨_,rfl,_⟩:=h;rfl);exact⟨_,g2,bz,rfl⟩
theorem Sb(L:Bq c T)(B:Base c T kx)(G:GS c T kx Γ j):∃ Γ',GS c T kx Γ' (j + 60)/\Γ' "_law_mix" = pK.vX/\Γ' "_law_trees" = Oh/\Γ' "_law_text" = Oi/\Γ' "_law_token" = Hf/\Γ' "_law_pair" = Ot:=by
 have a1:=L.no.up B G (sp:=uZ 0) (fun us S Q E h=>by
  obtain⟨_,_,⟨_,_,h,_⟩ | ⟨_,_,h,_⟩⟩:=h
  ·exact absurd h (iB _)
  ·exact absurd h (iB _)) (fun us S Q E h=>by obtain⟨_,rfl,_⟩:=h;rfl)
 have a2:=L.be.up B a1 (sp:=Bl 0) (fun us S Q E h=>by
  obtain⟨_,_,_,⟨_,_,h,_⟩ | ⟨_,_,h,_⟩⟩:=h
  ·exact absurd h (iB _)
  ·exact absurd h (iB _)) (fun us S Q E h=>by obtain⟨_,_,rfl,_⟩:=h;rfl)
 obtain⟨Γ1,G1,n1,b1⟩:=qf L B a2 0 (by omega) rfl bz;obtain⟨Γ2,G2,n2,b2⟩:=qf L B G1 1 (by omega) n1 b1;obtain⟨Γ3,G3,n3,b3⟩:=qf L B G2 2 (by omega) n2 b2;obtain⟨Γ4,G4,n4,b4⟩:=qf L B G3 3 (by omega) n3 b3;obtain⟨Γ5,G5,n5,b5⟩:=qf L B G4 4 (by omega) n4 b4;have c1:=L.cell.up B G5 (sp:=pK.Bd) (pK.Kb _) (fun us S Q E h=>by obtain⟨_,_,rfl,_⟩:=h;rfl);have c2:=L.mix.up B c1 (sp:=pK.vX) (pK.NK _ bz) (fun us S Q E h=>by obtain⟨_,_,rfl,_⟩:=h;rfl);have c3:=L.all.up B c2 (sp:=pK.GG) (pK.NL _) (fun us S Q E h=>by obtain⟨rfl,_⟩:=h;rfl);have c4:=L.sm.up B c3 (sp:=Kq 0) (fun us S Q E h=>by obtain⟨_,_,_,_,_,h,_⟩:=h;exact absurd h (iB _)) (fun us S Q E h=>by obtain⟨_,_,_,rfl,_⟩:=h;rfl);have c5:=L.sm.up B c4 (Hi _ 0 rfl rfl bz) (fun us S Q E h=>by obtain⟨_,_,_,rfl,_⟩:=h;rfl);have c6:=L.sm.up B c5 (Hi _ 1 rfl rfl bz) (fun us S Q E h=>by obtain⟨_,_,_,rfl,_⟩:=h;rfl);have c7:=L.sm.up B c6 (Hi _ 2 rfl rfl bz) (fun us S Q E h=>by obtain⟨_,_,_,rfl,_⟩:=h;rfl);have c8:=L.tr.up B c7 (RT _ bz n5) (fun us S Q E h=>by obtain⟨_,_,rfl,_⟩:=h;rfl);have c9:=L.tx.up B c8 (RV _ rfl) (fun us S Q E h=>by obtain⟨_,_,_,rfl,_⟩:=h;rfl);have ca:=L.whole.up B c9 (sp:=pK.ya) (pK.GF _) (fun us S Q E h=>by obtain⟨_,rfl,_⟩:=h;rfl);have cb:=L.pr.up B ca (RW _ bz) (fun us S Q E h=>by obtain⟨_,_,rfl,_⟩:=h;rfl);have cc:=L.re.up B cb (RD _ b5) (fun us S Q E h=>by obtain⟨_,_,_,_,_,_,rfl,_⟩:=h;rfl);have cd:=L.ed.up B cc (RE _ n5) (fun us S Q E h=>by obtain⟨_,_,_,_,rfl,_⟩:=h;rfl);have ce:=L.tk.up B cd (Ob _ rfl bz) (fun us S Q E h=>by obtain⟨_,_,_,_,rfl,_⟩:=h;rfl);exact⟨_,ce.mono (by omega),rfl,rfl,rfl,bz,rfl⟩
theorem yo(l:List String)(G1:GS c T kx Γ1 j)(G2:GS c T kx Γ2 j):GS c T kx (fun x=>if x∈l then Γ1 x else Γ2 x) j:=⟨G1.le,fR.mix G1.ok G2.ok fun x=>by
 by_cases h:x∈l
 ·exact .inl (if_pos h)
 ·exact .inr (if_neg h)⟩
theorem Hn{xs qual:Str}{st:Stmt}{f:Addr}{fd:dQ}{N ps:List Str}(R:DO c T)(W:OC c T)(P:Kz c T)(L:Bq c T)(F:Aw c.K xs qual st f fd)(S:fO N ps (a9 st))(tx:HE T 60 ⟨(a9 st).names,N,true⟩ (dN st)=some zf)(hm:N.length=ps.length + 8)(hp:ps.length=1)(B:Base c T 1)(G:fR c T (fun _=>u6) 1):iz c.P c.w c.K c.mg c.base (oW c.P c.w) 200 f fd ps (lift c A6):=by
 have G:GS c T 1 (fun _=>u6) 1:=⟨ax _,G⟩
 obtain⟨Γr,Gr,-,hr,-⟩:=Bo R B G;obtain⟨Γw,Gw,hw⟩:=R9 R W B G;obtain⟨Γp,Gp,gp,pl,pi,pk,pt⟩:=Sa P B G;obtain⟨Γl,Gl,l1,l2,l3,l4,l5⟩:=Sb L B G;obtain⟨e1,e2,e3,e4,e5,e6,e7,e8,e9⟩:=gp;have m1:=yo ["read"] Gr (Gp.mono (k:=1 + 130) (by omega));have g1:=P.to.up B m1 (Rw _ hr) (fun us S Q E h=>by obtain⟨_,_,_,_,rfl,_⟩:=h;rfl);have g2:=P.po.up B g1 (Ry _ e5 pl bz e6 e7 pi) (fun us S Q E h=>by obtain⟨_,_,_,rfl,_⟩:=h;rfl);have g3:=P.lx.up B g2 (RA _ bz) (fun us S Q E h=>by obtain⟨_,_,_,_,rfl,_⟩:=h;rfl);have g4:=L.ts.up B g3 (Ou _ pt) (fun us S Q E h=>by obtain⟨_,_,_,rfl,_⟩:=h;rfl);have m2:=yo ["written"] (Gw.mono (k:=139) (by omega)) (g4.mono (by omega));have m3:=yo ["_law_mix","_law_trees","_law_text","_law_token","_law_pair"] (Gl.mono (k:=139) (by omega)) m2;have h:=K5 F S B m3.le m3.ok tx (sp:=A6) (Ow _ l1 l2 l3 hw rfl pk l4 l5 rfl) hm (fun us S Q E h=>by obtain⟨_,rfl,_⟩:=h;exact hp.symm);exact h.mono (by omega)
end
end L2
end
section
set_option autoImplicit false
namespace Br
open PySem PySem.Spec PyProof.Rows PySem.W L2
noncomputable def top(i:Nat):Stmt:=PySem.Challenge.pw_tokenwright_k11_whole_tokens.main.body.getD i (.Pass ⟨0,0,0,0⟩)
noncomputable def rows:List u7:=
 ⟨"in_order","in_order","",top 10,["signs"],["signs"],PL.mj⟩::
 ⟨"all_but","all_but","",top 11,["signs"],["signs"],PL.nY⟩::
 ⟨"is_ahead","is_ahead","",top 12,["one","other"],["one","other"],PL.mm⟩::
 ⟨"stretch","stretch","",top 13,["first","last"],["first","last"],PL.nZ⟩::
 ⟨"read","read","",top 18,["text","reader","tree"],["text"],PL.xM⟩::
 ⟨"joined","joined","",top 19,["kind","trees"],["kind","trees"],PL.pJ⟩::
 ⟨"Reader.__init__","__init__","Reader",inClass (top 20) 0,["self","text"],["self","text"],PL.iZ⟩::
 ⟨"Reader.sees","sees","Reader",inClass (top 20) 1,["self","signs"],["self","signs"],PL.i0⟩::
 ⟨"Reader.passes","passes","Reader",inClass (top 20) 2,["self","signs"],["self","signs"],PL.hJ⟩::
 ⟨"Reader.choice","choice","Reader",inClass (top 20) 3,["self","trees"],["self"],PL.hU⟩::
 ⟨"Reader.row","row","Reader",inClass (top 20) 4,["self","trees"],["self"],PL.jF⟩::
 ⟨"Reader.repeat","repeat","Reader",inClass (top 20) 5,["self","tree"],["self"],PL.ic⟩::
 ⟨"Reader.atom","atom","Reader",inClass (top 20) 6,["self"],["self"],PL.i3⟩::
 ⟨"Reader.bracket","bracket","Reader",inClass (top 20) 7,["self","tree"],["self"],PL.gD⟩::
 ⟨"Reader.sign_class","sign_class","Reader",inClass (top 20) 8,["self","turned","taken"],["self"],PL.eJ⟩::
 ⟨"Reader.item","item","Reader",inClass (top 20) 9,["self","first","second_at","second"],["self"],PL.i4⟩::
 ⟨"Reader.written_sign","written_sign","Reader",inClass (top 20) 10,["self","marked","sign"],["self","marked"],PL.dO⟩::
 ⟨"written","written","",top 40,["tree"],["tree"],PL.n6⟩::
 ⟨"row_text","row_text","",top 41,["tree"],["tree"],PL.mn⟩::
 ⟨"repeat_text","repeat_text","",top 42,["tree","marks","inner"],["tree"],PL.i5⟩::
 ⟨"atom_text","atom_text","",top 43,["tree"],["tree"],PL.kK⟩::
 ⟨"place_text","place_text","",top 44,["signs"],["signs"],PL.jG⟩::
 ⟨"sign_text","sign_text","",top 45,["sign","marked"],["sign","marked"],PL.kL⟩::
 ⟨"class_texts","class_texts","",top 46,["signs","texts"],["signs"],PL.i6⟩::
 ⟨"guarded","guarded","",top 47,["items"],["items"],PL.n8⟩::
 ⟨"class_items","class_items","",top 48,["signs","items","run"],["signs"],PL.i7⟩::
 ⟨"runs","runs","",top 49,["signs","found","run","sign"],["signs"],PL.xN⟩::
 ⟨"run_items","run_items","",top 50,["run","singles","whole"],["run"],PL.kM⟩::
 ⟨"places_of","places_of","",top 24,["rules","most","layout","number","rule","part"],["rules","most"],PL.jr.kO⟩::
 ⟨"tree_of","tree_of","",top 25,["rule","number","fault"],["rule","number"],PL.jr.n9⟩::
 ⟨"members","members","",top 26,["bits"],["bits"],PL.jr.oa⟩::
 ⟨"Part.__init__","__init__","Part",inClass (top 27) 0,["self","empty","firsts","lasts"],["self","empty","firsts","lasts"],PL.jr.kP⟩::
 ⟨"one_behind_other","one_behind_other","",top 28,["one","other","firsts","lasts"],["one","other"],PL.jr.fq⟩::
 ⟨"one_or_other","one_or_other","",top 29,["one","other"],["one","other"],PL.jr.iF⟩::
 ⟨"Layout.__init__","__init__","Layout",inClass (top 30) 0,["self"],["self"],PL.jr.i8⟩::
 ⟨"Layout.how_many","how_many","Layout",inClass (top 30) 1,["self"],["self"],PL.jr.fQ⟩::
 ⟨"Layout.close_rule","close_rule","Layout",inClass (top 30) 2,["self","part"],["self","part"],PL.jr.eL⟩::
 ⟨"Layout.link","link","Layout",inClass (top 30) 3,["self","lasts","firsts","place"],["self","lasts","firsts"],PL.jr.i9⟩::
 ⟨"Layout.lay","lay","Layout",inClass (top 30) 4,["self","tree"],["self","tree"],PL.jr.jH⟩::
 ⟨"Layout.lay_place","lay_place","Layout",inClass (top 30) 5,["self","signs","place"],["self","signs"],PL.jr.fu⟩::
 ⟨"Layout.lay_row","lay_row","Layout",inClass (top 30) 6,["self","trees","whole","tree","part"],["self","trees"],PL.jr.gE⟩::
 ⟨"Layout.lay_choice","lay_choice","Layout",inClass (top 30) 7,["self","trees","whole","tree"],["self","trees"],PL.jr.eM⟩::
 ⟨"Layout.lay_repeat","lay_repeat","Layout",inClass (top 30) 8,["self","tree","marks","inner","part","empty"],["self","tree"],PL.jr.eO⟩::
 ⟨"useful_places","useful_places","",top 31,["layout","takes_some","grown","lasts","useful","place"],["layout"],PL.jr.ie⟩::
 ⟨"places_that_take","places_that_take","",top 32,["layout","sign"],["layout","sign"],PL.jr.fw⟩::
 ⟨"Places.__init__","__init__","Places",inClass (top 33) 0,["self","layout","useful"],["self","layout"],PL.jr.ja⟩::
 ⟨"Places.beyond","beyond","Places",inClass (top 33) 1,["self","held","reached","place"],["self","held"],PL.jr.ig⟩::
 ⟨"Places.first_rule","first_rule","Places",inClass (top 33) 2,["self","held","number","lasts"],["self","held"],PL.jr.eP⟩::
 ⟨"Walk.__init__","__init__","Walk",inClass (top 36) 0,["self","places"],["self","places"],PL.jr.kQ⟩::
 ⟨"Walk.may_go_on","may_go_on","Walk",inClass (top 36) 1,["self"],["self"],PL.jr.gF⟩::
 ⟨"Walk.along","along","Walk",inClass (top 36) 2,["self","text"],["self","text"],PL.jr.jI⟩::
 ⟨"Walk.step","step","Walk",inClass (top 36) 3,["self","sign","held","rule"],["self","sign"],PL.jr.kR⟩::
 ⟨"Lexer.__init__","__init__","Lexer",inClass (top 37) 0,["self","rules"],["self","rules"],PL.jr.jJ⟩::
 ⟨"Lexer.token","token","Lexer",inClass (top 37) 1,["self","text","at","walk"],["self","text","at"],PL.jr.jb⟩::
 ⟨"Lexer.tokens","tokens","Lexer",inClass (top 37) 2,["self","text","told","at","found"],["self","text"],PL.jr.iG⟩::
 ⟨"_law_cell","_law_cell","",top 52,["_law_script","_law_k"],["_law_script","_law_k"],PL.pK.kN⟩::
 ⟨"_law_mix","_law_mix","",top 53,["_law_script","_law_k","_law_number"],["_law_script","_law_k"],PL.pK.mq⟩::
 ⟨"_law_whole","_law_whole","",top 54,["_law_found"],["_law_found"],PL.pK.mv⟩::
 ⟨"_law_all","_law_all","",top 56,["_law_low"],[],PL.pK.mw⟩::
 ⟨"_law_nothing","_law_nothing","",top 57,["_law_tree"],["_law_tree"],PL.jr.iH⟩::
 ⟨"_law_behind","_law_behind","",top 58,["_law_tree","_law_sign","_law_found","_law_part","_law_k","_law_more_here"],["_law_tree","_law_sign"],PL.jr.jc⟩::
 ⟨"_law_rests","_law_rests","",top 59,["_law_rows","_law_sign","_law_found","_law_row","_law_rest"],["_law_rows","_law_sign"],PL.jr.jK⟩::
 ⟨"_law_ends","_law_ends","",top 60,["_law_rows"],["_law_rows"],PL.jr.kS⟩::
 ⟨"_law_token","_law_token","",top 64,["_law_trees_here","_law_text_here","_law_at","_law_found","_law_rows","_law_size","_law_good"],["_law_trees_here","_law_text_here","_law_at"],PL.jr.jL⟩::
 ⟨"_law_small","_law_small","",top 66,["_law_script","_law_base","_law_deep","_law_number","_law_way","_law_parts"],["_law_script","_law_base","_law_deep"],PL.jr.jM⟩::
 ⟨"_law_trees","_law_trees","",top 67,["_law_script","_law_base","_law_many","_law_deep","_law_found","_law_k","_law_tree"],["_law_script","_law_base","_law_many","_law_deep"],PL.jr.jN⟩::
 ⟨"_law_text","_law_text","",top 68,["_law_script","_law_base","_law_many"],["_law_script","_law_base","_law_many"],PL.jr.kU⟩::
 ⟨"_law_pair","_law_pair","",top 69,["_law_found","_law_one_here","_law_other"],["_law_found","_law_one_here","_law_other"],PL.jr.kW⟩::
 ⟨"_law_tokens","_law_tokens","",top 70,["_law_lexer","_law_text_here","_law_kept","_law_found","e","_law_good"],["_law_lexer","_law_text_here"],PL.jr.jd⟩::[]
noncomputable def T:Tab where
 const:=[("SIGNS",.str PL.SG),("MARKED_OUTSIDE",.str [46,124,40,41,91,93,42,43,63,92]),("MARKED_WITHIN",.str [93,45,92]),("DEEPEST",.int 6),("REPEATS",.tab [([42],[115,116,97,114]),([43],[112,108,117,115]),([63],[109,97,121,98,101])]),("BEHIND_BACKSLASH",.str [46,124,40,41,91,93,42,43,63,92,45,94,110]),("MOST_RULES",.int 6),("AHEAD",.int 1),("MOST_PLACES",.int 24),("MARKS",.tab [([115,116,97,114],[42]),([112,108,117,115],[43]),([109,97,121,98,101],[63])])]
 fns:=Hl rows
 oZ:=["Reader","Part","Layout","Places","Walk","Lexer"]
 o7:=Hm rows
 tI:=["text","at","depth","rule","empty","firsts","lasts","signs","behind","ends","takers","places","reach","passed","found"]
 uT:=["TokenError","BadRule","TakesNothing","TooMany","NoToken"]
 fc:=["len","tuple","list","int","bool","dict","sum","min","all","any","isinstance","range","enumerate","ValueError"]
theorem Vi:rows.all DP=true:=by decide +kernel
theorem Vj:rows.all (Oy T)=true:=by decide +kernel
theorem Vk:rows.map (fun r=>HE T 60 ⟨(a9 r.st).names,r.N,true⟩ (dN r.st))=rows.map fun r=>some r.b:=by kernel_rfl
theorem Sd:∀r∈rows,ym r:=by
 unfold rows
 repeat' refine az.mpr ⟨?_,?_⟩
 all_goals first | exact fun _ h=>(bK h).elim | exact Xd rfl fun _ _ _ _ _ _ _ _ _=>rfl | exact Xe rfl fun _ _ _ _ _ _ _ _ _ _=>rfl | exact Xf rfl fun _ _ _ _ _ _ _ _ _ _ _=>rfl | exact Xc rfl fun _ _ _ _ _ _ _ _=>rfl | exact Xg rfl fun _ _ _ _ _ _ _ _ _ _ _ _=>rfl
noncomputable abbrev sL:Stmt:=top 71
theorem OD:fO ["_law_script","_law_trees_here","_law_text_here","_law_rules","_law_lexer","_law_at","_law_found","_law_due","_law_one_here"] ["_law_script"] (a9 sL):=⟨rfl,rfl,rfl,by decide +kernel,rfl,by decide +kernel,by decide +kernel⟩
theorem OE:HE T 60 ⟨(a9 sL).names,["_law_script","_law_trees_here","_law_text_here","_law_rules","_law_lexer","_law_at","_law_found","_law_due","_law_one_here"],true⟩ (dN sL)=some PL.jr.zf:=by kernel_rfl
noncomputable abbrev wo:Stmt:=inClass (top 2) 0
theorem Bs:fO ["self","rule","at"] ["self","rule","at"] (a9 wo):=⟨rfl,rfl,rfl,by decide +kernel,rfl,by decide +kernel,by decide +kernel⟩
noncomputable abbrev nK:Stmt:=inClass (top 3) 0
theorem rV:fO ["self","rule"] ["self","rule"] (a9 nK):=⟨rfl,rfl,rfl,by decide +kernel,rfl,by decide +kernel,by decide +kernel⟩
noncomputable abbrev wq:Stmt:=inClass (top 4) 0
theorem Bt:fO ["self","rule"] ["self","rule"] (a9 wq):=⟨rfl,rfl,rfl,by decide +kernel,rfl,by decide +kernel,by decide +kernel⟩
noncomputable abbrev wt:Stmt:=inClass (top 5) 0
theorem Bu:fO ["self","at"] ["self","at"] (a9 wt):=⟨rfl,rfl,rfl,by decide +kernel,rfl,by decide +kernel,by decide +kernel⟩
end Br
end
section
set_option autoImplicit true
namespace Br
open PySem PySem.Spec PyProof.Rows PySem.W L2
theorem all_mk {l:Es} {w:bU} {K:Frag} {h:Heap} {mg:Str->Option Value} {fa:Addr} (X:K.In h) (G:h.Ns bp mg) (hfa:mg "law" = some (.ref fa))
  (a_law:nsIn K bp "law" = some (some (.ref fl)))
  (f_law:um K "law" "law" sL fl)
  (hC:∀p∈([("Reader",C_Reader),("Part",C_Part),("Layout",C_Layout),("Places",C_Places),("Walk",C_Walk),("Lexer",C_Lexer)]:List (String × Addr)),Kw K p T.tI)
  (hR:∀r∈rows,zN K [("Reader",C_Reader),("Part",C_Part),("Layout",C_Layout),("Places",C_Places),("Walk",C_Walk),("Lexer",C_Lexer)] r)
  (hE:Xs K T.tI [("TokenError",X_TokenError,b_TokenError),("BadRule",X_BadRule,b_BadRule),("TakesNothing",X_TakesNothing,b_TakesNothing),("TooMany",X_TooMany,b_TooMany),("NoToken",X_NoToken,b_NoToken)])
  (k_BadRule:ly K (.ref X_BadRule)=true)
  (a_BadRule:ik K (.ref X_BadRule) "__init__" = some (some (.ref f_BadRule)))
  (i_BadRule:isFn K (.ref f_BadRule)=true)
  (f_BadRule:um K "__init__" "BadRule.__init__" wo f_BadRule)
  (k_TakesNothing:ly K (.ref X_TakesNothing)=true)
  (a_TakesNothing:ik K (.ref X_TakesNothing) "__init__" = some (some (.ref f_TakesNothing)))
  (i_TakesNothing:isFn K (.ref f_TakesNothing)=true)
  (f_TakesNothing:um K "__init__" "TakesNothing.__init__" nK f_TakesNothing)
  (k_TooMany:ly K (.ref X_TooMany)=true)
  (a_TooMany:ik K (.ref X_TooMany) "__init__" = some (some (.ref f_TooMany)))
  (i_TooMany:isFn K (.ref f_TooMany)=true)
  (f_TooMany:um K "__init__" "TooMany.__init__" wq f_TooMany)
  (k_NoToken:ly K (.ref X_NoToken)=true)
  (a_NoToken:ik K (.ref X_NoToken) "__init__" = some (some (.ref f_NoToken)))
  (i_NoToken:isFn K (.ref f_NoToken)=true)
  (f_NoToken:um K "__init__" "NoToken.__init__" wt f_NoToken)
  (a_SIGNS:nsIn K bp "SIGNS" = some (some (.str z_SIGNS t_SIGNS)))
  (e_SIGNS:z_SIGNS=tx PL.SG)
  (a_MARKED_OUTSIDE:nsIn K bp "MARKED_OUTSIDE" = some (some (.str z_MARKED_OUTSIDE t_MARKED_OUTSIDE)))
  (e_MARKED_OUTSIDE:z_MARKED_OUTSIDE=tx [46,124,40,41,91,93,42,43,63,92])
  (a_MARKED_WITHIN:nsIn K bp "MARKED_WITHIN" = some (some (.str z_MARKED_WITHIN t_MARKED_WITHIN)))
  (e_MARKED_WITHIN:z_MARKED_WITHIN=tx [93,45,92])
  (a_DEEPEST:nsIn K bp "DEEPEST" = some (some (.int 6 t_DEEPEST)))
  (a_REPEATS:nsIn K bp "REPEATS" = some (some (.ref r_REPEATS)))
  (l_REPEATS:K.lookup r_REPEATS=some ⟨.type "dict",none,.dict es_REPEATS ec_REPEATS,#[]⟩)
  (kl_REPEATS:zV w.params es_REPEATS.toList)
  (ky_REPEATS:es_REPEATS.toList.map (fun e=>DQ e.key)= [some ("*":Str),some ("+":Str),some ("?":Str)])
  (sm_REPEATS:(r_REPEATS == dE)=false)
  (r_REPEATS0:nsIn K r_REPEATS "*" = some (some (.str z_REPEATS0 t_REPEATS0)))
  (re_REPEATS0:z_REPEATS0=tx [115,116,97,114])
  (r_REPEATS1:nsIn K r_REPEATS "+" = some (some (.str z_REPEATS1 t_REPEATS1)))
  (re_REPEATS1:z_REPEATS1=tx [112,108,117,115])
  (r_REPEATS2:nsIn K r_REPEATS "?" = some (some (.str z_REPEATS2 t_REPEATS2)))
  (re_REPEATS2:z_REPEATS2=tx [109,97,121,98,101])
  (a_BEHIND_BACKSLASH:nsIn K bp "BEHIND_BACKSLASH" = some (some (.str z_BEHIND_BACKSLASH t_BEHIND_BACKSLASH)))
  (e_BEHIND_BACKSLASH:z_BEHIND_BACKSLASH=tx [46,124,40,41,91,93,42,43,63,92,45,94,110])
  (a_MOST_RULES:nsIn K bp "MOST_RULES" = some (some (.int 6 t_MOST_RULES)))
  (a_AHEAD:nsIn K bp "AHEAD" = some (some (.int 1 t_AHEAD)))
  (a_MOST_PLACES:nsIn K bp "MOST_PLACES" = some (some (.int 24 t_MOST_PLACES)))
  (a_MARKS:nsIn K bp "MARKS" = some (some (.ref r_MARKS)))
  (l_MARKS:K.lookup r_MARKS=some ⟨.type "dict",none,.dict es_MARKS ec_MARKS,#[]⟩)
  (kl_MARKS:zV w.params es_MARKS.toList)
  (ky_MARKS:es_MARKS.toList.map (fun e=>DQ e.key)= [some ("star":Str),some ("plus":Str),some ("maybe":Str)])
  (sm_MARKS:(r_MARKS == dE)=false)
  (r_MARKS0:nsIn K r_MARKS "star" = some (some (.str z_MARKS0 t_MARKS0)))
  (re_MARKS0:z_MARKS0=tx [42])
  (r_MARKS1:nsIn K r_MARKS "plus" = some (some (.str z_MARKS1 t_MARKS1)))
  (re_MARKS1:z_MARKS1=tx [43])
  (r_MARKS2:nsIn K r_MARKS "maybe" = some (some (.str z_MARKS2 t_MARKS2)))
  (re_MARKS2:z_MARKS2=tx [63])
  (hz:∀b∈T.fc,nsIn K bp (bX b)=some none)
  : ∃fd:dQ,(∀(s:aj) (v:Value),zR s fd ⟨[v],[]⟩ [("_law_script",v)])/\∀base:Heap,K.In base->base.Ns bp mg->iz l.prog w K mg base (oW l.prog w) 200 fa fd ["_law_script"] (xV K):=by
 have e:=hfa.symm.trans (kz X G a_law);cases e;obtain⟨oc,od,kV,dc,pm,an,cd,ct,sl,h1,h2,h3⟩:=f_law;refine⟨fnOf "law" "law" (jE sL) (dN sL) (a9 sL) .none kV dc pm an cd ct,fun s v=>.of_eq rfl,fun base _ _=>?_⟩
 let c:L2.Ctx:=⟨l.prog,w,K,mg,base,fun x=>([("Reader",C_Reader),("Part",C_Part),("Layout",C_Layout),("Places",C_Places),("Walk",C_Walk),("Lexer",C_Lexer)]:List (String × Addr)).lookup x,yn [("TokenError",X_TokenError,b_TokenError),("BadRule",X_BadRule,b_BadRule),("TakesNothing",X_TakesNothing,b_TakesNothing),("TooMany",X_TooMany,b_TooMany),("NoToken",X_NoToken,b_NoToken)]⟩
 have hT:zk c T:=by
  refine⟨?_,fun x hx=>mg_none_of X G (hz x hx),OA rfl hC,hE.exc,hE.OL,hE.UT,?_⟩
  ·exact(az.mpr ⟨sv (kz X G a_SIGNS) e_SIGNS,(az.mpr ⟨sv (kz X G a_MARKED_OUTSIDE) e_MARKED_OUTSIDE,(az.mpr ⟨sv (kz X G a_MARKED_WITHIN) e_MARKED_WITHIN,(az.mpr ⟨⟨.int 6,_,kz X G a_DEEPEST,⟨t_DEEPEST,rfl⟩,fun _ _=>aM.mpr rfl⟩,(az.mpr ⟨R8 (kz X G a_REPEATS) l_REPEATS kl_REPEATS ky_REPEATS sm_REPEATS (by kernel_rfl:("*":Str)=tx [42]) (by kernel_rfl:("+":Str)=tx [43]) (by kernel_rfl:("?":Str)=tx [63]) r_REPEATS0 re_REPEATS0 r_REPEATS1 re_REPEATS1 r_REPEATS2 re_REPEATS2,(az.mpr ⟨sv (kz X G a_BEHIND_BACKSLASH) e_BEHIND_BACKSLASH,(az.mpr ⟨⟨.int 6,_,kz X G a_MOST_RULES,⟨t_MOST_RULES,rfl⟩,fun _ _=>aM.mpr rfl⟩,(az.mpr ⟨⟨.int 1,_,kz X G a_AHEAD,⟨t_AHEAD,rfl⟩,fun _ _=>aM.mpr rfl⟩,(az.mpr ⟨⟨.int 24,_,kz X G a_MOST_PLACES,⟨t_MOST_PLACES,rfl⟩,fun _ _=>aM.mpr rfl⟩,(az.mpr ⟨R8 (kz X G a_MARKS) l_MARKS kl_MARKS ky_MARKS sm_MARKS (by kernel_rfl:("star":Str)=tx [115,116,97,114]) (by kernel_rfl:("plus":Str)=tx [112,108,117,115]) (by kernel_rfl:("maybe":Str)=tx [109,97,121,98,101]) r_MARKS0 re_MARKS0 r_MARKS1 re_MARKS1 r_MARKS2 re_MARKS2,(fun _ h=>(bK h).elim)⟩)⟩)⟩)⟩)⟩)⟩)⟩)⟩)⟩)⟩)
  ·exact(az.mpr ⟨⟨X_TokenError,rfl,kz X G (hE.ns rfl)⟩,(az.mpr ⟨⟨X_BadRule,rfl,kz X G (hE.ns rfl)⟩,(az.mpr ⟨⟨X_TakesNothing,rfl,kz X G (hE.ns rfl)⟩,(az.mpr ⟨⟨X_TooMany,rfl,kz X G (hE.ns rfl)⟩,(az.mpr ⟨⟨X_NoToken,rfl,kz X G (hE.ns rfl)⟩,(fun _ h=>(bK h).elim)⟩)⟩)⟩)⟩)⟩)
 have x_BadRule:oI c 1 "BadRule":=SW (EA:=[("TokenError",X_TokenError,b_TokenError),("BadRule",X_BadRule,b_BadRule),("TakesNothing",X_TakesNothing,b_TakesNothing),("TooMany",X_TooMany,b_TooMany),("NoToken",X_NoToken,b_NoToken)]) rfl k_BadRule a_BadRule i_BadRule f_BadRule (ps:=["self","rule","at"]) (fun _ _ _ _ _ _ _ _ us hl=>match us,hl with | [_,_,_],_=>rfl) (by decide) fun fd F=>QF F Bs rfl (hE.exc "BadRule" _ rfl).1 ((hE.exc "BadRule" _ rfl).2.2.2 "rule" (by decide)) ((hE.exc "BadRule" _ rfl).2.2.2 "at" (by decide)) (by decide +kernel) (rg (by decide +kernel)) (rg (by decide +kernel)) (rg (by decide +kernel)) (by decide +kernel) (by decide +kernel) (by decide +kernel) (by decide +kernel) (by decide +kernel) (by decide +kernel)
 have x_TakesNothing:oI c 1 "TakesNothing":=SW (EA:=[("TokenError",X_TokenError,b_TokenError),("BadRule",X_BadRule,b_BadRule),("TakesNothing",X_TakesNothing,b_TakesNothing),("TooMany",X_TooMany,b_TooMany),("NoToken",X_NoToken,b_NoToken)]) rfl k_TakesNothing a_TakesNothing i_TakesNothing f_TakesNothing (ps:=["self","rule"]) (fun _ _ _ _ _ _ _ _ us hl=>match us,hl with | [_,_],_=>rfl) (by decide) fun fd F=>Gg F rV rfl (hE.exc "TakesNothing" _ rfl).1 ((hE.exc "TakesNothing" _ rfl).2.2.2 "rule" (by decide)) (rg (by decide +kernel)) (rg (by decide +kernel)) (by decide +kernel) (by decide +kernel) (by decide +kernel) (by decide +kernel)
 have x_TooMany:oI c 1 "TooMany":=SW (EA:=[("TokenError",X_TokenError,b_TokenError),("BadRule",X_BadRule,b_BadRule),("TakesNothing",X_TakesNothing,b_TakesNothing),("TooMany",X_TooMany,b_TooMany),("NoToken",X_NoToken,b_NoToken)]) rfl k_TooMany a_TooMany i_TooMany f_TooMany (ps:=["self","rule"]) (fun _ _ _ _ _ _ _ _ us hl=>match us,hl with | [_,_],_=>rfl) (by decide) fun fd F=>Gg F Bt rfl (hE.exc "TooMany" _ rfl).1 ((hE.exc "TooMany" _ rfl).2.2.2 "rule" (by decide)) (rg (by decide +kernel)) (rg (by decide +kernel)) (by decide +kernel) (by decide +kernel) (by decide +kernel) (by decide +kernel)
 have x_NoToken:oI c 1 "NoToken":=SW (EA:=[("TokenError",X_TokenError,b_TokenError),("BadRule",X_BadRule,b_BadRule),("TakesNothing",X_TakesNothing,b_TakesNothing),("TooMany",X_TooMany,b_TooMany),("NoToken",X_NoToken,b_NoToken)]) rfl k_NoToken a_NoToken i_NoToken f_NoToken (ps:=["self","at"]) (fun _ _ _ _ _ _ _ _ us hl=>match us,hl with | [_,_],_=>rfl) (by decide) fun fd F=>Gg F Bu rfl (hE.exc "NoToken" _ rfl).1 ((hE.exc "NoToken" _ rfl).2.2.2 "at" (by decide)) (rg (by decide +kernel)) (rg (by decide +kernel)) (by decide +kernel) (by decide +kernel) (by decide +kernel) (by decide +kernel)
 have hB:Base c T 1:=by
  refine⟨hT,?_,hE.up⟩;exact(az.mpr ⟨fun h=>absurd rfl h,(az.mpr ⟨fun _=>x_BadRule,(az.mpr ⟨fun _=>x_TakesNothing,(az.mpr ⟨fun _=>x_TooMany,(az.mpr ⟨fun _=>x_NoToken,(fun _ h=>(bK h).elim)⟩)⟩)⟩)⟩)⟩)
 have G0:fR c T (fun _=>u6) 1:=Oz X G rfl hC hR Sd rfl rfl (az.mpr ⟨⟨rows[6],bL _,rfl,rfl,rfl⟩,(az.mpr ⟨⟨rows[31],bL _,rfl,rfl,rfl⟩,(az.mpr ⟨⟨rows[34],bL _,rfl,rfl,rfl⟩,(az.mpr ⟨⟨rows[45],bL _,rfl,rfl,rfl⟩,(az.mpr ⟨⟨rows[48],bL _,rfl,rfl,rfl⟩,(az.mpr ⟨⟨rows[52],bL _,rfl,rfl,rfl⟩,(fun _ h=>(bK h).elim)⟩)⟩)⟩)⟩)⟩)⟩);have R:=Kx (c:=c) X G rfl hC hR Sd Vi Vj Vk;exact JU (Hn ⟨R 0 _ rfl,R 1 _ rfl,R 2 _ rfl,R 3 _ rfl,R 4 _ rfl,R 5 _ rfl,R 6 _ rfl,R 7 _ rfl,R 8 _ rfl,R 9 _ rfl,R 10 _ rfl,R 11 _ rfl,R 12 _ rfl,R 13 _ rfl,R 14 _ rfl,R 15 _ rfl,R 16 _ rfl⟩ ⟨R 17 _ rfl,R 18 _ rfl,R 19 _ rfl,R 20 _ rfl,R 21 _ rfl,R 22 _ rfl,R 23 _ rfl,R 24 _ rfl,R 25 _ rfl,R 26 _ rfl,R 27 _ rfl⟩ ⟨R 28 _ rfl,R 29 _ rfl,R 30 _ rfl,R 31 _ rfl,R 32 _ rfl,R 33 _ rfl,R 34 _ rfl,R 35 _ rfl,R 36 _ rfl,R 37 _ rfl,R 38 _ rfl,R 39 _ rfl,R 40 _ rfl,R 41 _ rfl,R 42 _ rfl,R 43 _ rfl,R 44 _ rfl,R 45 _ rfl,R 46 _ rfl,R 47 _ rfl,R 48 _ rfl,R 49 _ rfl,R 50 _ rfl,R 51 _ rfl,R 52 _ rfl,R 53 _ rfl,R 54 _ rfl⟩ ⟨R 55 _ rfl,R 56 _ rfl,R 57 _ rfl,R 58 _ rfl,R 59 _ rfl,R 60 _ rfl,R 61 _ rfl,R 62 _ rfl,R 63 _ rfl,R 64 _ rfl,R 65 _ rfl,R 66 _ rfl,R 67 _ rfl,R 68 _ rfl⟩ (EY h1 h2 h3) OD OE rfl rfl hB G0)
theorem walk{l:Es}{q:bx}{loose:List Str}{XP:(Str->Option Value)->Heap->Prop}{YP:bU->Heap->Prop}{d:DefRec}{K:Ep->Frag}(hn:l.most=some 63)(hdf:d.params.defaults = [])
  (hY:∀(w:bU) (h:Heap),YP w h->(K w.params).In h)
  (F:∀(w:bU) (mg:Str->Option Value) (fa:Addr) (h:Heap),(K w.params).In h->h.Ns bp mg->mg d.name=some (.ref fa) ->
   ∃fd:dQ,(∀(s:aj) (u:Value),zR s fd ⟨[u],[]⟩ [("_law_script",u)])/\∀base:Heap,(K w.params).In base->base.Ns bp mg->iz l.prog w (K w.params) mg base (oW l.prog w) 200 fa fd ["_law_script"] (xV (K w.params))):
  WalkO q loose XP YP l.row.toRowW d [] (fun f vs=>Cw f vs):=
 L2.IE (n:=63) (k:=200) (x:="_law_script") (CX:=fun w=>oW l.prog w) (sp:=fun w=>xV (K w.params)) hn (by decide) hdf ⟨rfl,by decide,by decide⟩ hY F (fun _ _ a ns hl o hS=>⟨a,ns,rfl,hl,Gh o hS,fun _=>rfl⟩) fun _ _ _ _ _ z=>NB z
end Br
end
section
structure PySem.W.Fast:Prop where(tw17362248208662665193 tw18032795149221386976 tw5322424313974049338 tw14745648632039053093 tw15839036452312887061 tw17286429651975362970 tw14340315317239407435 tw13978014571687132482 tw17866110101323245154 tw16734021430582200588 tw17385987568741476971 tw4304990141098844956 tw12495211165346289975 tw14044657850551353347 tw1180050614586307535 tw4537824150757022508 tw8224084703703062046 tw8753419524333791896 tw10216560494860080890 tw16717843406721960801 tw8477235390573961970 tw4651310533430684226 tw13833628213740792917 tw13418726010455452192 tw1645658943809610048 tw3785630871874295195 tw6731536920992654152 tw1385545000087486425 tw14847253525749331926 tw15624011096319411131 tw5213145618305473242 tw10593903943375645345 tw4192607463261966388 tw18441143701663885919 tw6391160788214081459 tw14338813698406561962 tw16119056868512821834 tw9734458741491840729 tw1720642187386045931 tw4288024080201695907 tw4037733651602228455 tw14573901994967845919 tw5808911512621308483 tw459296241102167929 tw11295881395364504845 tw12331736881480075415 tw12104143037618344944 tw6704999158983205098 tw16927868746898100489 tw15869792724527280464 tw13075134262911116103 tw3000520197980118403 tw10140363289886253327 tw3919002382330686313 tw7771069222226635627 tw17200621530911614655 tw7684414021655529122 tw8568031135037000176 tw9217347758334575470 tw7353437863741937353 tw4316344629530319224 tw5922766639930010659 tw9300494644836652057 tw292588939254213777 tw16976715864783562497 tw5337636633284668198 tw10708609032216275875 tw6513336854035158946 tw5578983328391478602 tw14981836438484109584 tw7447050913912749858 tw716327988311699829 tw8128308840509482210 tw17048069700134253865 tw13162538795953735796 tw5662755111663858056 tw11847410287954348768 tw2759475199337518027 tw10093028077495681607 tw12393236572155428046 tw11380333558565939978 tw315199828198246956 tw14958872296378379954 tw7039511854571963800 tw15054793610931059074 tw1239370459363679855 tw3415705279081994095 tw10567201035873521552 tw9859557762623614703 tw5424281074713619133 tw8672154999966407887 tw1215313479055591903 tw5480880329599726411 tw3442163922078087676 tw11940421434344659596 tw3444652668790929466 tw2395893806996130407 tw8377548058338184271 tw6925970742889175258 tw3798235209523808640 tw15938586187363339445 tw6690758969278404125 tw9591056076474575939 tw7146201587067480454 tw8050930464382920607 tw3007411342387996569 tw1684409360597965930 tw3106507782760701083 tw3602620358004464254 tw12486999860454749089 tw16175763276318779678 tw2723398714806450290 tw10970307857069171054 tw12564422730082844295 tw12730612544516742887 tw16086976613779345947 tw15228809017656835933 tw13723516425222502099 tw18320124387040731470 tw2438174947076342403 tw12998987278331983868 tw13337526659833350675 tw7103305894092658557 tw6125064165946384312 tw9048741800470556806 tw5788155345528859857 tw4158666051319835174 tw7603245851340414503 tw17571645692622688211 tw8011790163001423490 tw13745757857772160548 tw40566497921344058 tw10014402978419213435 tw14225925799861314886 tw5929322062148471745 tw13297377187700256721 tw11620528681693945338 tw1219990308871797598 tw6276791496604470661 tw5405944371828699470 tw10733778129344747090 tw2779867068250276987 tw13806983709429589886 tw10416130278150643412 tw324331367321806309 tw3360667121736249435 tw4125940531062134197 tw11480287834377609509 tw2540670322203326070 tw10213585860185044840 tw7369504589843976006 tw10135587514676735099 tw2847444495021102512 tw966131877207061008 tw13472542396592195421 tw11516279038208521597 tw3998195671386427688 tw11439954929934869226 tw8637700501012655331 tw17034884872010726066 tw17278503884871010008 tw9171467051762499950 tw12354236486605350634 tw7328812580234480011 tw2089915206613002735 tw7417360238695983338 tw13702379548045464132 tw4001349086824435118 tw1673515856825174260 tw8602957190621224175 tw16674219203531545362 tw10461567679440835468 tw12810722537289498174 tw4281530091849057281 tw18138068639077246446 tw7341189863248060675 tw13101862830581525632 tw17494451340886950838 tw10965705874792957795 tw2663329003895441177 tw13262834042931276656 tw3871946102431638951 tw726459444086612276 tw17927202127731813354 tw16043562816749155586 tw17309367042112776474 tw12141725916684513410 tw6627870366830205517 tw15411563621216801567 tw13729097105668566603 tw1295495722743385095 tw4902707991924793206 tw17497689657958298287 tw17596429527681258370 tw10149148876338788122 tw15874683304231779810 tw2202764802628837381 tw10823276203464089042 tw8135236267648339829 tw4319836406594179419 tw17860929997632915843 tw2800074974331507651 tw11310194056204350522 tw7569538115237121306 tw2539023955057069960 tw10400377323084431673 tw11473590843810166748 tw1959713238103966872 tw5938225736194273916 tw5404765060109657794 tw7655523394816880603 tw17239063793413129745 tw97669375796613772 tw12862659088462156653 tw11909471077382149770 tw15045164389682292316 tw1329045887524045803 tw142055085282442797 tw13426371409298983133 tw9592399920815841796 tw11857912405714354014 tw9797413362802332084 tw15898797911918852250 tw9682715721003341375 tw14050756539939007932 tw4553569615325598141 tw1102424290694052980 tw10731526412362797101 tw15927359689282643189 tw8544517462664846016 tw2473491482514269180 tw9462714035342810267 tw3230848180682457337 tw18321107738254259624 tw4032148341010852300 tw12004373988965113762 tw3613896908746034476 tw15169595725248562083 tw4554968198747513354 tw711706173879929824 tw6725870402246459294 tw614255305116245767 tw5793006654544784659 tw10506794845472645777 tw1069761888430203435 tw9973761147109251751 tw1287277962847035845 tw5643883553494027516 tw15633561495060604884 tw11625059597893306247 tw10570105413737254147 tw18073232655786346115 tw17516802400612438288 tw8386793985470281893 tw14079156407782824530 tw5657889584437599133 tw2776402251489825752 tw15245729530761305705 tw17367299273557226001 tw16249707325879451459 tw16857225759169238160 tw16724709767893197081 tw5437303547206020894 tw4041207370235407891 tw14966967789599916467 tw18142764810428844794 tw13176632323471543692 tw573618866472467188 tw11122020263640987852 tw9173817094277321583 tw7809302842015260684 tw13270539120613570733 tw17550565958733017906 tw11492784433967173268 tw17885993686420573811 tw6507686675838639306 tw3115049101216981847 tw17497173107109078096 tw13915128995174123484 tw13565590184027621940 tw1477477242941965226 tw1145810409941314499 tw9511045528777781363 tw6986411136359461249 tw17909729093211013006 tw12119621687698077915 tw7338219219215506291 tw5625226842040279450 tw15167984658748808073 tw4891526361779614543 tw10925167903933685699 tw15290595626684977284 tw203188253077168524 tw10499327101721395948 tw9095292067606372181 tw10019303485341770594 tw7840828951625765215 tw2737982848935539385 tw10433882716178032638 tw2447206054496405295 tw10611413204626384854 tw14401153853938665233 tw5539336803669368195 tw10520913870135552398 tw9881327165130124757 tw4513454541995515737 tw8616722505039309241 tw17465039325465589842 tw2478701500658148938 tw8189407386658514761 tw11461298706856808069 tw4076100796958616580 tw14155162518645140890 tw6152349548528408634 tw12695040023746045749 tw628379726583384913 tw17904556083346883637 tw7641617032277317518 tw5490318280719989758 tw15065476367229804405 tw10294737467824905886 tw3831888955883594698 tw1697292558487181016 tw4469175394828963187 tw16207142959135807141 tw2280217737785027574 tw18248375878004319839 tw15587435422522107611 tw1987399903588397066 tw8773437809049407424 tw18200568264885969020 tw7115964824056537320 tw7564503551427291562 tw10067240508201847677 tw2786404694404503351 tw15145453555214313538 tw4308629541410508255 tw11879238675921896070 tw14402168198545405985 tw16374532794956764720 tw10370819924958833152 tw17900331170885921321 tw15511798575874309765 tw15095069255839810157 tw11142832860730027022 tw3360082411105467019 tw16768871681289192209 tw12735669848149735230 tw449934479054283363 tw11053245615434338031 tw10633297113495463221 tw2399762039724937055 tw17665958833583345520 tw17264202049654517353 tw8228102555678400416 tw7280121824873763446 tw12914727550696644645 tw9555703032296217326 tw2635848415221743919 tw17977890224771936945 tw16264697155529287100 tw14047703368145535624 tw850357706086129398 tw7833439715904289579 tw4597909976967038881 tw18358333234974137332 tw15130624159316816440 tw7751483212190458839 tw7502998925249971383 tw637884854044049141 tw15346151492452110536 tw920886943772972606 tw8511055545275592538 tw424321677546268522 tw17497800897077340035 tw15968787606529401390 tw7414907919072162798 tw3395636557418863392 tw14265216439432376978 tw7323285202952082680 tw10584508231061133704 tw13243836597022552458 tw18162882438784712611 tw13568223762843871183 tw12940801869878463619 tw750789051844812805 tw8840430449954707850:True)
open PySem PySem.W PyProof.Rows
set_option maxRecDepth 100000 in
set_option maxHeartbeats 0 in
theorem PySem.Challenge.cw_tokenwright_k11_whole_tokens_holds : PySem.Challenge.rw_tokenwright_k11_whole_tokens.Holds := by
 w_on;o_law;k_head;(case hw=>w_witness2)
 k_fill
 refine Br.walk (l:=PySem.Challenge.rw_tokenwright_k11_whole_tokens) rfl rfl (fun w h Y=>PySem.W.kIn_of Y) ?F
 case F=>
  intro w mg fa h KX G hmg;refine' Br.all_mk KX G hmg ?a_law ?f_law ?hC ?hR ?hE ?k_BadRule ?a_BadRule ?i_BadRule ?f_BadRule ?k_TakesNothing ?a_TakesNothing ?i_TakesNothing ?f_TakesNothing ?k_TooMany ?a_TooMany ?i_TooMany ?f_TooMany ?k_NoToken ?a_NoToken ?i_NoToken ?f_NoToken ?a_SIGNS ?e_SIGNS ?a_MARKED_OUTSIDE ?e_MARKED_OUTSIDE ?a_MARKED_WITHIN ?e_MARKED_WITHIN ?a_DEEPEST ?a_REPEATS ?l_REPEATS ?kl_REPEATS ?ky_REPEATS ?sm_REPEATS ?r_REPEATS0 ?re_REPEATS0 ?r_REPEATS1 ?re_REPEATS1 ?r_REPEATS2 ?re_REPEATS2 ?a_BEHIND_BACKSLASH ?e_BEHIND_BACKSLASH ?a_MOST_RULES ?a_AHEAD ?a_MOST_PLACES ?a_MARKS ?l_MARKS ?kl_MARKS ?ky_MARKS ?sm_MARKS ?r_MARKS0 ?re_MARKS0 ?r_MARKS1 ?re_MARKS1 ?r_MARKS2 ?re_MARKS2 ?hz
  (case a_law=>k_is)
  (case f_law=>exact⟨_,_,_,_,_,_,_,_,_,by k_is,by k_is,by k_is⟩)
  (case hC=>(repeat' refine az.mpr ⟨?_,?_⟩);all_goals first | exact fun _ h=>(bK h).elim | exact⟨(by(try dsimp only);k_is),⟨(by(try dsimp only);k_is),(by(try dsimp only);k_is),(by(try dsimp only);k_is),(by(try dsimp only);k_is)⟩,(by(try dsimp only);k_is),(by(try dsimp only);k_is),(by kernel_rfl)⟩)
  (case hR=>unfold Br.rows;(repeat' refine az.mpr ⟨?_,?_⟩);all_goals first | exact fun _ h=>(bK h).elim | exact .fn (by k_is) ⟨_,_,_,_,_,_,_,_,_,by k_is,by k_is,by k_is⟩ | exact .mt rfl rfl (by k_is) (by k_is) ⟨_,_,_,_,_,_,_,_,_,by k_is,by k_is,by k_is⟩)
  (case hE=>refine' ⟨?hx,?hq,?hv,?hu⟩;(case hx=>(repeat' refine az.mpr ⟨?_,?_⟩);all_goals first | exact fun _ h=>(bK h).elim | exact⟨(by(try dsimp only);k_is),L2.RZ (by(try dsimp only);k_is) (by(try dsimp only);k_is) (by(try dsimp only);k_is) (by(try dsimp only);k_is) (by(try dsimp only);k_is) (by(try dsimp only);k_is) (by(try dsimp only);k_is) rfl (by kernel_rfl) (by(try dsimp only);k_is) (by(try dsimp only);k_is) (by(try dsimp only);k_is) (by(try dsimp only);k_is),(by kernel_rfl)⟩);all_goals kernel_rfl)
  (case k_BadRule=>k_is)
  (case a_BadRule=>k_is)
  (case i_BadRule=>k_is)
  (case f_BadRule=>exact⟨_,_,_,_,_,_,_,_,_,by k_is,by k_is,by k_is⟩)
  (case k_TakesNothing=>k_is)
  (case a_TakesNothing=>k_is)
  (case i_TakesNothing=>k_is)
  (case f_TakesNothing=>exact⟨_,_,_,_,_,_,_,_,_,by k_is,by k_is,by k_is⟩)
  (case k_TooMany=>k_is)
  (case a_TooMany=>k_is)
  (case i_TooMany=>k_is)
  (case f_TooMany=>exact⟨_,_,_,_,_,_,_,_,_,by k_is,by k_is,by k_is⟩)
  (case k_NoToken=>k_is)
  (case a_NoToken=>k_is)
  (case i_NoToken=>k_is)
  (case f_NoToken=>exact⟨_,_,_,_,_,_,_,_,_,by k_is,by k_is,by k_is⟩)
  (case a_SIGNS=>k_is)
  (case e_SIGNS=>kernel_rfl)
  (case a_MARKED_OUTSIDE=>k_is)
  (case e_MARKED_OUTSIDE=>kernel_rfl)
  (case a_MARKED_WITHIN=>k_is)
  (case e_MARKED_WITHIN=>kernel_rfl)
  (case a_DEEPEST=>k_is)
  (case a_REPEATS=>k_is)
  (case l_REPEATS=>k_is)
  (case kl_REPEATS=>exact⟨⟨_,_,rfl,rfl⟩,⟨⟨_,_,rfl,rfl⟩,⟨⟨_,_,rfl,rfl⟩,trivial⟩⟩⟩)
  (case ky_REPEATS=>kernel_rfl)
  (case sm_REPEATS=>kernel_rfl)
  (case r_REPEATS0=>k_is)
  (case re_REPEATS0=>kernel_rfl)
  (case r_REPEATS1=>k_is)
  (case re_REPEATS1=>kernel_rfl)
  (case r_REPEATS2=>k_is)
  (case re_REPEATS2=>kernel_rfl)
  (case a_BEHIND_BACKSLASH=>k_is)
  (case e_BEHIND_BACKSLASH=>kernel_rfl)
  (case a_MOST_RULES=>k_is)
  (case a_AHEAD=>k_is)
  (case a_MOST_PLACES=>k_is)
  (case a_MARKS=>k_is)
  (case l_MARKS=>k_is)
  (case kl_MARKS=>exact⟨⟨_,_,rfl,rfl⟩,⟨⟨_,_,rfl,rfl⟩,⟨⟨_,_,rfl,rfl⟩,trivial⟩⟩⟩)
  (case ky_MARKS=>kernel_rfl)
  (case sm_MARKS=>kernel_rfl)
  (case r_MARKS0=>k_is)
  (case re_MARKS0=>kernel_rfl)
  (case r_MARKS1=>k_is)
  (case re_MARKS1=>kernel_rfl)
  (case r_MARKS2=>k_is)
  (case re_MARKS2=>kernel_rfl)
  (case hz=>unfold Br.T;(repeat' refine az.mpr ⟨?_,?_⟩);all_goals first | exact fun _ h=>(bK h).elim | k_is)
end
