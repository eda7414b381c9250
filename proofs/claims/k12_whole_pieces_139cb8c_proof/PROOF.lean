import PyProof.Rows.All
import Wide.All
import OpenK.AllK
import Wide.FinOn
import PyProof.EqAt
import PyProof.EqKinds
import PyProof.TupleCall
import PyProof.NeKinds
import KE.KMinBuiltin
import Lean
import PySem.Challenge.RW_tokenwright_k12_whole_pieces
open Array renaming getElem?_eq_some_iff->gG,length_toList->pO,toList->zQ
open Bool renaming and_eq_true->af,false_eq_true->ah,or_eq_true->aO,false_ne_true->aX,not_true->bO,not_false->bV,eq_iff_iff->cY,not_eq_true->fA,not_eq_true'->gv,and_true->mK,true_and->qk,and_false->wA,or_true->Bc,not_eq_false->F6,noConfusion->Jl
open Classical renaming byContradiction->tF
open False renaming elim->aJ
open ForInStep renaming yield->dW
open Function renaming comp_def->kR
open Iff renaming rfl->jP
open Int renaming emod_lt_of_pos->iO,toNat_natCast->i8,emod_nonneg->km,fdiv_eq_ediv_of_nonneg->yb
open List renaming getElem?_eq_getElem->aa,getElem?_eq_some_iff->ae,getElem?_append_left->aq,length_map->ar,getElem?_map->au,getElem?_set_ne->av,mem_of_getElem?->aw,getElem?_append_right->ay,forall_mem_cons->az,length_append->aB,size_toArray->aC,map_cons->aD,mem_append->aE,length_cons->aQ,mem_cons_of_mem->aV,mem_append_right->aW,lookup_cons->ba,append_nil->bb,mem_cons_self->bf,mem_cons->bg,all_cons->bj,append_assoc->bp,mem_map->bx,getElem?_of_mem->bA,suffix_refl->bE,getElem_mem->bI,map_map->bM,take_of_length_le->bN,not_mem_nil->bP,all_eq_true->bR,mem_append_left->bT,getElem?_set_self->bU,take_length->b9,take_add_one->cf,range->cy,length->cQ,suffix_cons->cR,map->cU,any_cons->cV,length_set->cZ,length_nil->de,replicate->dq,drop_of_length_le->dG,drop_eq_getElem_cons->eH,mem_filter->eJ,map_append->eL,map_inj_left->eO,filterMap_cons->fk,lookup->fL,eq_nil_of_length_eq_zero->fM,mem_singleton->fS,find?_cons->fV,nil_append->fW,length_singleton->gk,contains_iff_mem->gq,getElem?_append->gU,length_take->gW,any_eq_true->hJ,length_eq_one_iff->i5,getElem?_set->i6,length_drop->jF,getElem?_mapIdx->jQ,mem_of_mem_drop->jR,nodup_cons->kh,mem_filterMap->kX,contains_cons->kY,drop_zero->kZ,nodup_append->mh,foldl_append->mi,flatten_cons->mj,sum_cons->mL,prefix_iff_eq_take->nB,getElem?_cons_zero->nE,lookup_cons_self->oK,getElem?_eq_none->oM,filterMap_map->qS,set_cons_succ->qT,set_cons_zero->qU,all_map->sf,any_map->si,length_range->sj,set_set->sk,drop_length->tB,cons_append->tD,take_append_of_le_length->ua,of_mem_zip->vD,foldl_cons->vE,dropLast_concat_getLast->vF,mem_range->wo,isPrefixOf_iff_prefix->wD,foldl_nil->wG,drop_drop->wH,mem_of_find?_eq_some->yu,exists_mem_of_ne_nil->yw,getElem?_replicate->zR,length_eq_zero_iff->zT,map_nil->Ba,range_succ_eq_map->Bd,length_filter_le->Bw,take_append_drop->By,drop_eq_nil_iff->CZ,mem_of_mem_take->C0,getElem_of_mem->Ed,map_congr_left->Ee,take_succ_cons->Ef,replicate_succ->Eg,drop_succ_cons->Eh,length_pos_iff->Ei,getElem?_range->Ej,filter_append->FF,length_mapIdx->FG,append_of_mem->FH,isEmpty_cons->F7,mem_range'_1->F8,flatMap_cons->F9,getElem_inj->Jh,map_fst_zip->Jm,map_snd_zip->Jn,filter_cons->Jo,isEmpty_nil->Jp,find?_some->JP,sum_append->JR
open List.IsSuffix renaming trans->mR
open List.cons renaming injEq->dX
open Nat renaming le_refl->ax,lt_of_lt_of_le->aM,le_trans->aT,pow_le_pow_right->bB,ne_of_lt->b7,sub_self->cq,testBit_and->cw,testBit_or->cC,lt_succ_of_lt->cM,zero_le->dw,lt_irrefl->dJ,pow_succ->fU,min_eq_left->f9,le_succ->gV,not_lt_zero->iM,min_eq_right->jH,eq_of_testBit_eq->jU,mul_le_mul_left->kI,ne_of_gt->kK,testBit_one_eq_true_iff_self_eq_zero->pE,le_of_lt->sS,one_shiftLeft->sU,lt_succ_self->t6,exists_testBit_of_ne_zero->vG,zero_or->vH,not_lt->yt,le_of_eq->Bm,min_self->Bs,add_zero->Bv,testBit_lt_two_pow->Bx,mul_add->Ek,or_lt_two_pow->Jq,le_succ_of_le->Js,le_of_not_lt->JI
open Nat.succ renaming inj->Jj
open Ne renaming symm->dM
open Option renaming map_eq_some_iff->ag,bind_eq_some_iff->ao,bind_eq_bind->aI,getD_some->cD,getD_none->jd,map_some->jO,isSome_iff_exists->wu,bind_some->FD,map_map->Jr
open Option.some renaming inj->aG,injEq->pC
open Or renaming inl->so
open PyProof.Rows renaming slot_tuple_getitem->iH,callWith_type1->jb,AllBare->nX,envOfC->pQ,subscriptTail_builtinR->FX,IntsAre->F3
open PyProof.Rows.IsTup renaming new->FV
open PySem renaming wpAny_bind->aj,Shared->ak,wpAny_pure->aK,model->aR,mainGlobals->bu,Program->bC,compareOp->bD,wpAny_mono->bL,starEach->bS,World->bZ,binaryOp->cA,Around->cB,wpAny_Call_Name_kw->dy,sysModules->dH,FuncData->dS,mem_of_lookup->fh,wpAny_truthy_bool->fm,wpAny_loadPart_at->fq,wpAny_passesOwn->gF,inplaceOp->gS,wpAny_holding->gT,wpAny_newObj_type->gZ,swapsWith->iJ,backTo->iN,attributeBase->i0,sizeLine_eq->jc,bootBuiltins->jG,cLine->kg,Within->kj,Scope->kJ,wpAny_field->kM,sliceBounds->kN,keywordEach->kO,excClassObj->kP,wpAny_execs_nil->lR,wpAny_isSubtype_exc->l7,codeAny_mono->mf,Operator->mO,codeAny->nY,wpAny_pyIter_list->n6,wpAny_standAt->oa,rawInt->pP,wpAny_call->pR,letOwnedTupleGo->qg,wpAny_loadPart->qW,lookup_relabel_local->rf,Keyword->se,assignEach->t4,typeLookup->t9,wpAny_assign_Name->vM,getItem->vN,callerA->vP,plainObj_wpAny_Assign_Attribute->wt,tupleKind->x9,assign->ya,noFill_tuple_add->yf,IsPart->yg,BindsTo->A9,valueAt->Bb,bindArgs->Bo,wpAny_setField->Bq,methodCallForm->Bt,seq_tuple_add->D9,call->Eb,wpAny_comprehension_free->Ec,Model->Fv,PassesOwn->Fw,bindL->Fy,bindC->Fz,noteFrame->FA,handedOut->FE,wpAny_pyNext_list_item->FP,getAttr->FQ,setAttr->FR,concat_meets->FT,wpAny_typeOf->FU,seqIndex_neg->FW,Params->FZ,relabel->F5,wpAny_pyNext_list_end->Ji,GenState->JF,wpAny_loadName_local->JG,seqIndex_of->JH,codeAny_call_builtin->JJ,unbindBehindTheSuite->JM,getAttr?->JN,boot_len->JO
open PySem.Around renaming under->zG,under_plainId->Bg
open PySem.Calls renaming spliced_cons->kL,callWith_builtin->nJ,spliced_nil->qX,Name_function_global->vL,evalArgs_plain->Bp
open PySem.Code renaming isFrame->A8,quiet_builtin->FC
open PySem.EntryCells renaming newEntry->yr
open PySem.Expr renaming Name->Jk
open PySem.F renaming args_tuple_add_2->lS,entry_tuple_add->md,slot_tuple_add->mP,plainAttrs_str->mQ,slot_dict_get->nK,slot_list_getattribute->nM,args_dict_get_3->wB,attr_ValueError->wC,plainAttrs_list->wF,entry_dict_get->yq
open PySem.Heap renaming get?_push_of_some->aA,lt_size->aL,get?_push_size->bz,get?_update_self->dY,get?_update_other->nZ,get?_none_of_le->pH,SameBut->sd,size_push->wq
open PySem.Heap.Ns1 renaming of_empty->Bn
open PySem.NameKind renaming free->bQ
open PySem.Obj renaming mapSeq->qY,data_mapFields->qZ,isFreed_of_fields->CY
open PySem.SeqAt renaming EqAt->vO,notIn_listAt->Ea
open PySem.SeqAt.EqAt renaming same->me,int_str->oI,str_int->oJ,none_bool->wx,bool_none->wy,bool_bool->wz,none_int->yh,none_str->yi,bool_int->yj,bool_str->yk,int_none->ym,int_bool->yn,str_none->yo,str_bool->yp,int_int->zH,str_str->zI,of_refs->zJ
open PySem.SeqAt.RcAt renaming lists_lengths->tw,tuples->zS,lists->Bf
open PySem.Str renaming ofString->b8,length->FY
open PySem.Value renaming ref->aS,none->dh,bool->iI,str->jx,int->mN,builtin->qh,type->vK,float->Bl
open PySem.W renaming Frag->aF,emptyDict->cH,kia_one->cP,findIn->dk,instObj->dv,InstAt->gu,findIn->iC,fnOf->jT,mg_of->kS,keepIn->lT,plainGet->l9,lookIn->n8,keepIn->n9,plainGet_of->pD,methodObj->qi,hasDictIn->qj,kitOne->rg,takerIn->sT,codeIn->t8,looks_findIn->vQ,isFn->yc,cellsFrom_some->ye,KeysLit->Be,Looks->Br,callWith_K->Bu,plainOver->CU,kitx_list->CV,kitx_dict->CW,handedIn->D8,makesIn->Fx,OpenLaw->F4,looks_clsIn->JK,any_some->JL,callWith_K0->JQ
open PySem.W.Looks renaming here->kQ
open PySem.Within renaming cons->yd
open Sum renaming inr->fw,inl->sR
open Sum.inr renaming inj->zP
open True renaming intro->dU
set_option linter.all false
set_option Elab.async false
set_option maxRecDepth 100000
set_option maxHeartbeats 4000000
set_option genSizeOf false
set_option bootstrap.genMatcherCode false
set_option compiler.extract_closed false
noncomputable section
section
local macro_rules | `(#[$x,$xs,*]) => `(⟨$x,$xs,*⟩) | `(#[$x]) => `(⟨$x⟩)
local macro_rules | `(∅) => `(by omega)
local macro_rules | `(⋯) => `(by decide)
local macro_rules | `(tactic| room) => `(tactic| walk_at "pk")
local macro_rules | `(#v[$x]) => `(.cons $x .nil) | `(#v[$x,$xs,*]) => `(.cons $x #v[$xs,*])
local macro_rules | `(@$n:num) => `(.var $n)
local macro_rules | `(↑$n:num) => `(.lit (.int $n))
local macro_rules | `(↑[$n,*]) => `(.lit (.str [$n,*]))
namespace L2
open PySem PySem.Spec PyProof.Rows
abbrev Key:=Sum Int Str
noncomputable def wI:Key->Value->Bool
 |.inl k,v=>Value.isInt k v
 |.inr x,v=>Value.isStrOf x v
noncomputable def VE(w:bZ):Key->Int
 |.inl k=>hashInt k
 |.inr x=>hashStr w x
theorem dZ:∀{k:Key}{v:Value},wI k v=true->(∃i t,k=sR i/\v=mN i t)\/(∃x t,k=fw x/\v=jx x t)
 |.inl i,v,h=>by
  obtain⟨t,e⟩:=Value.isInt_shape (k:=i) (v:=v) h;exact .inl #[i,t,rfl,e]
 |.inr x,v,h=>by
  obtain⟨t,e⟩:=Value.isStrOf_shape (x:=x) (v:=v) h;exact .inr #[x,t,rfl,e]
theorem El(i:Int)(t:Tok):wI (.inl i) (.int i t)=true:=by simp[wI,Value.isInt]
theorem Em(x:Str)(t:Tok):wI (.inr x) (.str x t)=true:=by simp[wI,Value.isStrOf]
theorem Ng(a b:Int):decide ((sR a:Key)=sR b)=(a==b):=by
 by_cases e:a=b
 .subst e;simp
 .have h:¬(sR a:Key)=sR b:=λq=>e (Sum.inl.inj q)
  rw[decide_eq_false h]
  exact(beq_eq_false_iff_ne.mpr e).symm
theorem Nh(a b:Str):decide ((fw a:Key)=fw b)=decide (a=b):=by
 by_cases e:a=b
 .subst e;simp
 .have h:¬(fw a:Key)=fw b:=λq=>e (zP q)
  rw[decide_eq_false h,decide_eq_false e]
theorem Ni(a:Int)(b:Str):decide ((sR a:Key)=fw b)=false:=decide_eq_false (λq=>nomatch q)
theorem Nj(a:Str)(b:Int):decide ((fw a:Key)=sR b)=false:=decide_eq_false (λq=>nomatch q)
noncomputable def eQ(prog:bC)(w:bZ):PySem.KeyKind prog w Key where
 is:=wI
 hash:=VE w
 inj:=λv a b ha hb=>by
  rcases dZ ha with⟨i,t,rfl,rfl⟩|⟨x,t,rfl,rfl⟩
  .rcases dZ hb with⟨j,u,rfl,e⟩|⟨y,u,rfl,e⟩
   .injection e with e1 _;rw[e1]
   .exact nomatch e
  .rcases dZ hb with⟨j,u,rfl,e⟩|⟨y,u,rfl,e⟩
   .exact nomatch e
   .injection e with e1 _;rw[e1]
 byValue:=λk v h=>by
  rcases dZ h with⟨i,t,rfl,rfl⟩|⟨x,t,rfl,rfl⟩<;>rfl
 pyHash:=λhv h=>by
  rcases dZ hv with⟨i,t,rfl,rfl⟩|⟨x,t,rfl,rfl⟩
  .exact wpAny_pyHash_int h
  .exact wpAny_pyHash_str h
 eqBool:=λhu hv h=>by
  rcases dZ hu with⟨i,t,rfl,rfl⟩|⟨x,t,rfl,rfl⟩
  .rcases dZ hv with⟨j,u,rfl,rfl⟩|⟨y,u,rfl,rfl⟩
   .rw[Ng] at h;exact wpAny_eqBool_int h
   .rw[Ni] at h;exact oI i t y u _ _ _ _ h
  .rcases dZ hv with⟨j,u,rfl,rfl⟩|⟨y,u,rfl,rfl⟩
   .rw[Nj] at h;exact oJ x t j u _ _ _ _ h
   .rw[Nh] at h;exact wpAny_eqBool_str h
 «strs»:=λk x t v h=>by
  rcases dZ h with⟨i,u,rfl,e⟩|⟨y,u,rfl,e⟩
  .exact nomatch e
  .injection e with e1 _
   subst e1;cases v<;>rfl
theorem zU(prog:bC)(w:bZ)(i:Int)(t:Tok):(eQ prog w).is (.inl i) (.int i t)=true:=El i t
theorem zV(prog:bC)(w:bZ)(x:Str)(t:Tok):(eQ prog w).is (.inr x) (.str x t)=true:=Em x t
inductive V where
 |bK|bl (b:Bool)|int (i:Int)|str (x:Str)|Bh (b:Array UInt8)|Nk (b:UInt64)|ref (a:Addr)|ty (n:String)
 deriving DecidableEq
noncomputable def RelV:V->Value->Prop
 |.bK,u=>u=dh
 |.bl b,u=>u=iI b
 |.int i,u=>∃t,u=mN i t
 |.str x,u=>∃t,u=jx x t
 |.Bh b,u=>∃t,u=Value.bytes b t
 |.Nk b,u=>∃t,u=Bl b t
 |.ref a,u=>u=aS a
 |.ty n,u=>u=vK n
abbrev Vals:List V->List Value->Prop:=Paired RelV
theorem Vals.length{xs:List V}{us:List Value}(r:Vals xs us):xs.length=us.length:=Paired.length r
theorem Vals.get:∀{xs:List V}{us:List Value}{i:Nat}{x:V},Vals xs us->xs[i]?=some x->∃u,us[i]?=some u/\RelV x u
 |_,_,_,_,.nil,e=>by simp at e
 |_,_,0,_,.cons r _,e=>by simp at e;subst e;exact#[_,rfl,r]
 |_,_,i+1,x,.cons _ t,e=>by
  obtain⟨u,h1,h2⟩:=Vals.get (i:=i) (x:=x) t (by simpa using e);exact#[u,by simpa using h1,h2]
theorem Vals.set{x:V}{u:Value}(r:RelV x u):∀{xs:List V}{us:List Value}(i:Nat),Vals xs us->Vals (xs.set i x) (us.set i u)
 |_,_,_,.nil=>.nil
 |_,_,0,.cons _ t=>.cons r t
 |_,_,i+1,.cons q t=>.cons q (Vals.set r i t)
theorem Vals.append:∀{xs ys:List V}{us ws:List Value},Vals xs us->Vals ys ws->Vals (xs++ys) (us++ws)
 |_,_,_,_,.nil,s=>s
 |_,_,_,_,.cons r t,s=>.cons r (Vals.append t s)
theorem Vals.take:∀{xs:List V}{us:List Value}(n:Nat),Vals xs us->Vals (xs.take n) (us.take n)
 |_,_,0,_=>.nil
 |_,_,_+1,.nil=>.nil
 |_,_,n+1,.cons r t=>.cons r (Vals.take n t)
theorem Vals.drop:∀{xs:List V}{us:List Value}(n:Nat),Vals xs us->Vals (xs.drop n) (us.drop n)
 |_,_,0,r=>r
 |_,_,_+1,.nil=>.nil
 |_,_,n+1,.cons _ t=>Vals.drop n t
noncomputable def nN:Option V->Option Value->Prop
 |some v,some u=>RelV v u
 |none,none=>True
 |_,_=>False
noncomputable def KV{κ:Type}:List (κ×V)->List (κ×Value)->Prop:=Paired λ(p:κ×V)(q:κ×Value)=>p.1=q.1/\RelV p.2 q.2
noncomputable def kV:Key->V
 |.inl i=>.int i
 |.inr x=>.str x
inductive HO where
 |lst (xs:List V)
 |tup (xs:List V)
 |dK (kvs:List (Key×V))|dT (kvs:List (List Key×V))
 |set (S:Int->Bool) (n:Nat)
 |ins (C dx:Addr) (fs:List (Str×V))
 |own (x:Addr)
 |xd (fs:List (Str×V))
 |met (f x:Addr)
 |VF (lo hi:Int)
 |Bz (o:Obj) (u:HO)
 |Nl (ps:Array Value)
 |ext (φ:Heap->Prop)
abbrev Hp:=Addr->Option HO
noncomputable def upd(H:Hp)(a:Addr)(o:HO):Hp:=λb=>if b=a then some o else H b
theorem bF{H:Hp}{a:Addr}{o:HO}:upd H a o a=some o:=by unfold upd;rw[if_pos rfl]
theorem bw{H:Hp}{a b:Addr}{o:HO}(h:b≠a):upd H a o b=H b:=by unfold upd;rw[if_neg h]
theorem fB{H:Hp}{a b:Addr}{o:HO}(h:H a=some o)(h':H b=none):a≠b:=by
 intro e;subst e;rw[h] at h';cases h'
section
variable(P:bC)(w:bZ)
noncomputable def d6(H:Hp)(h:Heap)(a:Addr):HO->Prop
 |.lst xs=>xs.length<=sizeLine/\∃(its:List Value)(n:Nat),Vals xs its/\h.get? a=some {cls:=.type "list",data:=.seq its.toArray n}
 |.tup xs=>xs.length<=sizeLine/\∃its:List Value,Vals xs its/\IsTup h a its.toArray
 |.dK kvs=>kvs.length<=sizeLine/\(a==dH)=false/\∃vs,KV kvs vs/\h.DictOf (eQ P w) a vs
 |.dT kvs=>kvs.length<=sizeLine/\(a==dH)=false/\∃xs:List (List Key×Addr×Value),
   Paired (λ(p:List Key×V)(q:List Key×Addr×Value)=>p.1=q.1/\H q.2.1=some (.tup (p.1.map kV))/\RelV p.2 q.2.2) kvs xs /\
   ∃o es ep,h.get? a=some o/\o.ExactDict/\o.data=.dict es ep/\es.toList=xs.map (entryOfKey (x9 (eQ P w)))/\(xs.map (·.1)).Nodup
 |.set S n=>h.SetOf (intKind P w) a S n
 |.ins C dx fs=>H dx=some (.own a)/\fs.length<=1000/\dx≠a/\h.get? a=some (dv C dx) /\
   ∃mA,h.Ns1 dx mA/\(∀f,nN (fs.lookup f) (mA f))/\kj mA (fs.map (·.1))
 |.own _=>∃o,h.get? a=some o
 |.xd fs=>∃mA,h.Ns1 a mA/\∀f,nN (fs.lookup f) (mA f)
 |.VF lo hi=>∃t u v,h.get? a=some {cls:=.type "range",data:=.fields (List.toArray [.int lo t,.int hi u,.int 1 v])}
 |.Bz o u=>h.get? a=some o/\d6 H h a u
 |.Nl ps=>h.get? a=some {cls:=.none,data:=.fields ps}
 |.met f x=>h.get? a=some (qi (.ref f) (.ref x))
 |.ext φ=>φ h/\(∃o,h.get? a=some o)/\∀h1 h2:Heap,φ h1->(∀o,h1.get? a=some o->h2.get? a=some o)->φ h2
noncomputable def og(H:Hp)(h:Heap):Prop:=∀a o,H a=some o->d6 P w H h a o
end
section
variable{P:bC}{w:bZ}{H H':Hp}{h h':Heap}{a:Addr}{o:HO}
theorem d6.lt(x:d6 P w H h a o):a<h.objs.size:=by
 cases o with
 |lst xs=>obtain⟨_,_,_,_,e⟩:=x;exact aL e
 |tup xs=>obtain⟨_,_,_,p⟩:=x;exact p.lt
 |dK kvs=>obtain⟨_,_,_,_,o,_,_,e,_⟩:=x;exact aL e
 |dT kvs=>obtain⟨_,_,_,_,o,_,_,e,_⟩:=x;exact aL e
 |set S n=>obtain⟨o,_,_,_,e,_⟩:=x;exact aL e
 |ins C dx fs=>obtain⟨_,_,_,e,_⟩:=x;exact aL e
 |own y=>obtain⟨_,e⟩:=x;exact aL e
 |xd fs=>obtain⟨_,⟨_,_,_,e,_⟩,_⟩:=x;exact aL e
 |VF lo hi=>obtain⟨_,_,_,e⟩:=x;exact aL e
 |Bz ob u=>obtain⟨e,_⟩:=x;exact aL e
 |Nl ps=>exact aL (show h.get? a=some _ from x)
 |met f y=>exact aL (show h.get? a=some _ from x)
 |ext φ=>obtain⟨_,⟨_,e⟩,_⟩:=x;exact aL e
theorem Paired.Q9{α β:Type}{F G:α->β->Prop}:∀{l₁:List α}{l₂:List β},Paired F l₁ l₂->(∀a b,F a b->G a b)->Paired G l₁ l₂
 |_,_,.nil,_=>.nil
 |_,_,.cons r t,f=>.cons (f _ _ r) (Paired.Q9 t f)
theorem d6.jI(x:d6 P w H h a o)(k:∀b u,(b=a\/H b=some (.own a))->h.get? b=some u->h'.get? b=some u)
  (ho:∀b,H b=some (.own a)->H' b=some (.own a)) (ht:∀b xs,H b=some (.tup xs)->H' b=some (.tup xs)):d6 P w H' h' a o:=by
 induction o with
 |lst xs=>obtain⟨z,its,n,r,e⟩:=x;exact#[z,its,n,r,k _ _ (.inl rfl) e]
 |tup xs=>obtain⟨z,its,r,ob,e,c⟩:=x;exact#[z,its,r,ob,k _ _ (.inl rfl) e,c]
 |dK kvs=>obtain⟨z,y,vs,r,ob,es,ep,e,c⟩:=x;exact#[z,y,vs,r,ob,es,ep,k _ _ (.inl rfl) e,c]
 |dT kvs=>
  obtain⟨z,y,xs,r,ob,es,ep,e,c⟩:=x;exact#[z,y,xs,Paired.Q9 r λp q z=>#[z.1,ht _ _ z.2.1,z.2.2],ob,es,ep,k _ _ (.inl rfl) e,c]
 |set S n=>obtain⟨ob,es,ep,t,e,c⟩:=x;exact#[ob,es,ep,t,k _ _ (.inl rfl) e,c]
 |ins C dx fs=>
  obtain⟨d,z,ne,e,mA,⟨od,es,ep,e2,c⟩,r⟩:=x;exact#[ho _ d,z,ne,k _ _ (.inl rfl) e,mA,#[od,es,ep,k _ _ (.inr d) e2,c],r]
 |own y=>obtain⟨ob,e⟩:=x;exact#[ob,k _ _ (.inl rfl) e]
 |xd fs=>obtain⟨mA,⟨od,es,ep,e,c⟩,r⟩:=x;exact#[mA,#[od,es,ep,k _ _ (.inl rfl) e,c],r]
 |VF lo hi=>obtain⟨t,u,v,e⟩:=x;exact#[t,u,v,k _ _ (.inl rfl) e]
 |Bz ob u ih=>obtain⟨e,q⟩:=x;exact#[k _ _ (.inl rfl) e,ih q]
 |Nl ps=>
  have e:h.get? a=some {cls:=.none,data:=.fields ps}:=x;show h'.get? a=some {cls:=.none,data:=.fields ps};exact k a _ (.inl rfl) e
 |met f y=>
  have e:h.get? a=some (qi (.ref f) (.ref y)):=x;show h'.get? a=some (qi (.ref f) (.ref y));exact k a _ (.inl rfl) e
 |ext φ=>obtain⟨p,⟨o,e⟩,st⟩:=x;exact#[st _ _ p λo q=>k _ _ (.inl rfl) q,#[o,k _ _ (.inl rfl) e],st]
theorem og.lt(x:og P w H h)(e:H a=some o):a<h.objs.size:=(x a o e).lt
theorem og.fresh(x:og P w H h)(e:h.objs.size<=a):H a=none:=by
 cases q:H a with
 |none=>rfl
 |some u=>exact absurd (aM (x.lt q) e) (dJ _)
theorem og.kept(x:og P w H h)(k:∀b u,h.get? b=some u->h'.get? b=some u):og P w H h':=λa o e=>
 (x a o e).jI (λb u _ q=>k b u q) (λ_ q=>q) λ_ _ q=>q
theorem og.laid(x:og P w H h)(k:∀b u,h.get? b=some u->h'.get? b=some u)(hp:h.objs.size<=a)(new:d6 P w (upd H a o) h' a o):og P w (upd H a o) h':=λb u e=>by
 have hn:=x.fresh hp;by_cases hb:b=a
 .subst hb;rw[bF] at e;cases e;exact new
 .rw[bw hb] at e
  exact(x b u e).jI (λc v _ q=>k c v q) (λc q=>by rw[bw (fB q hn)];exact q) λc xs q=>by rw[bw (fB q hn)];exact q
end
noncomputable def Rd(H:Hp)(a:Addr)(u:HO):Prop:=H a=some u\/∃o,H a=some (.Bz o u)
theorem Rd.ok{P:bC}{w:bZ}{H:Hp}{h:Heap}{a:Addr}{u:HO}(r:Rd H a u)(x:og P w H h):d6 P w H h a u:=by
 rcases r with r|⟨o,r⟩
 .exact x a u r
 .obtain⟨_,q⟩:=x a _ r
  exact q
noncomputable def U9:Option HO->Prop
 |some (.lst _)=>True
 |some (.dK _)=>True
 |some (.dT _)=>True
 |some (.set _ _)=>True
 |some (.ins _ _ _)=>True
 |some (.ext _)=>True
 |_=>False
section
variable{P:bC}{w:bZ}{H:Hp}{h h':Heap}{x e:Addr}{o':HO}
theorem og.write(ok:og P w H h)(mu:U9 (H x))(he:e=x\/H e=some (.own x))(k:∀b u,b≠e->h.get? b=some u->h'.get? b=some u)(heo:∃u,h'.get? e=some u)
  (new:d6 P w (upd H x o') h' x o'):og P w (upd H x o') h':=λb u q=>by
 have nown:∀c y,H c=some (.own y)->c≠x:=λc y r z=>by subst z;rw[r] at mu;exact mu
 have ntup:∀c xs,H c=some (.tup xs)->c≠x:=λc xs r z=>by subst z;rw[r] at mu;exact mu
 by_cases hb:b=x
 .subst hb;rw[bF] at q;cases q;exact new
 .rw[bw hb] at q
  by_cases hbe:b=e
  .have q':H b=some (.own x):=by
    rcases he with z|z
    .exact absurd (hbe.trans z) hb
    .rw[hbe];exact z
   rw[q] at q';cases q';obtain⟨v,hv⟩:=heo;exact#[v,by rw[hbe];exact hv]
  .refine(ok b u q).jI (λc v hc r=>k c v ?_ r) (λc r=>by rw[bw (nown c b r)];exact r) λc xs r=>by rw[bw (ntup c xs r)];exact r
   rcases hc with rfl|hc
   .exact hbe
   .rintro rfl
    rcases he with z|z
    .exact nown c b hc z
    .rw[hc] at z;cases z;exact hb rfl
end
structure Un(fs ex:List Addr)(H H':Hp)(h h':Heap):Prop where
 keep:∀b o,h.get? b=some o->H b=none->b∉fs->b∉ex->h'.get? b=some o
 slot:∀b o,h.get? b=some o->H b=none->b∈fs->b∉ex->∃sl,h'.get? b=some {o with slots:=sl}
 free:∀b o,h.get? b=some o->H b=none->b∉ex->H' b=none
 there:∀b o,h.get? b=some o->b∉ex->∃o',h'.get? b=some o'
 yx:∀b xs,H b=some (.tup xs)->H' b=some (.tup xs)
 vR:∀b o u,H b=some (.Bz o u)->H' b=some (.Bz o u)
 yy:∀b ps,H b=some (.Nl ps)->∃more,H' b=some (.Nl (ps++more))
section
variable{fs fs' ex ex':List Addr}{H H1 H2:Hp}{h h1 h2 h':Heap}{a x e:Addr}{o:HO}
theorem Un.any(u:Un fs ex H H1 h h1){b:Addr}{ob:Obj}(q:h.get? b=some ob)(n:H b=none)(hx:b∉ex):∃sl,h1.get? b=some {ob with slots:=sl}:=by
 by_cases hb:b∈fs
 .exact u.slot b ob q n hb hx
 .exact#[ob.slots,u.keep b ob q n hb hx]
theorem Un.kept(k:∀b u,h.get? b=some u->h'.get? b=some u):Un fs ex H H h h':=
 #[λb ob q _ _ _=>k b ob q,λb ob q _ _ _=>#[ob.slots,k b ob q],λ_ _ _ n _=>n,λb ob q _=>#[ob,k b ob q],λ_ _ q=>q,λ_ _ _ q=>q,λ_ ps q=>#[#[],by rw[q];simp]]
theorem Un.refl:Un fs ex H H h h:=Un.kept λ_ _ q=>q
theorem Un.laid(k:∀b u,h.get? b=some u->h'.get? b=some u)(hp:h.objs.size<=a)(hn:H a=none):Un fs ex H (upd H a o) h h' where
 keep:=λb u q _ _ _=>k b u q
 slot:=λb u q _ _ _=>#[u.slots,k b u q]
 free:=λb u q n _=>by rw[bw (b7 (aM (aL q) hp))];exact n
 there:=λb u q _=>#[u,k b u q]
 yx:=λb xs q=>by rw[bw (fB q hn)];exact q
 vR:=λb u xs q=>by rw[bw (fB q hn)];exact q
 yy:=λb ps q=>#[#[],by rw[bw (fB q hn),q];simp]
theorem Un.write(mu:U9 (H x))(he:e=x\/H e=some (.own x))(k:∀b u,b≠e->h.get? b=some u->h'.get? b=some u)(heo:∃u,h'.get? e=some u):Un fs ex H (upd H x o) h h':=by
 have hx:∀b,H b=none->b≠x:=λb n z=>by subst z;rw[n] at mu;exact mu
 have hb:∀b,H b=none->b≠e:=λb n z=>by
  subst z;rcases he with r|r
  .exact hx b n r
  .rw[n] at r;cases r
 have hm:∀b u,H b=some u->¬U9 (some u)->b≠x:=λb u q nm z=>by subst z;rw[q] at mu;exact nm mu
 refine#[λb u q n _ _=>k b u (hb b n) q,λb u q n _ _=>#[u.slots,k b u (hb b n) q],λb u q n _=>by rw[bw (hx b n)];exact n,λb u q _=>?_,
  λb xs q=>by rw[bw (hm b _ q λz=>z)];exact q,λb u xs q=>by rw[bw (hm b _ q λz=>z)];exact q,λb ps q=>#[#[],by rw[bw (hm b _ q λz=>z),q];simp]]
 by_cases hbe:b=e
 .subst hbe;exact heo
 .exact#[u,k b u hbe q]
end
noncomputable def Va(h:Heap)(H:Hp):List Addr:=(cy h.objs.size).filter λa=>(H a).isSome
noncomputable def yz(h:Heap)(H:Hp):Heap:=PySem.W.hideAll h (Va h H)
theorem Eo(h:Heap)(H:Hp):(yz h H).objs.size=h.objs.size:=PySem.W.hideAll_size _ _
theorem Ga{h:Heap}{H:Hp}{b:Addr}{o:Obj}(e:h.get? b=some o)(n:H b=none):(yz h H).get? b=some o:=
 PySem.W.hideAll_get _ e λhm=>by
  have q:(H b).isSome=true:=(eJ.mp hm).2;rw[n] at q;simp at q
theorem JS{h:Heap}{H:Hp}{b:Addr}{o:Obj}(e:(yz h H).get? b=some o):h.get? b=some o/\H b=none:=by
 have e':h.get? b=some o:=PySem.W.of_hideAll (Va h H) e;refine#[e',?_];cases q:H b with
 |none=>rfl
 |some x=>
  have hm:b∈Va h H:=eJ.mpr #[wo.mpr (aL e'),by simp[q]];have z:(yz h H).get? b=none:=PySem.W.hideAll_none (Va h H) hm;rw[z] at e;cases e
noncomputable def oN(g h:Heap)(L:Addr):List (Addr×Obj):=(cy h.objs.size).filterMap λa=>if a=L\/(g.get? a).isSome=true then none else(h.get? a).map λo=>(a,o)
theorem zW{g h:Heap}{L a:Addr}{o:Obj}(h1:a≠L)(h2:g.get? a=none)(h3:h.get? a=some o):(a,o)∈oN g h L:=
 kX.mpr #[a,wo.mpr (aL h3),by simp[h1,h2,h3]]
theorem ud{g h:Heap}{L:Addr}{p:Addr×Obj}(hp:p∈oN g h L):p.1≠L/\g.get? p.1=none/\h.get? p.1=some p.2:=by
 obtain⟨b,_,e⟩:=kX.mp hp;split at e
 .cases e
 .rename_i hn
  cases q:h.get? b with
  |none=>rw[q] at e;simp at e
  |some u=>
   rw[q] at e;simp only[jO,pC] at e;subst e;refine#[λz=>hn (.inl z),?_,q];show g.get? b=none;cases r:g.get? b with
   |none=>rfl
   |some v=>exact(hn (.inr (by simp[r]))).elim
noncomputable def rest(g h:Heap)(L d:Addr):List (Addr×Obj):=(oN g h L).filter λp=>decide (p.1≠d)
theorem Gb{g h:Heap}{L:Addr}:News g L h (oN g h L):=λp hp=>let ⟨a,b,c⟩:=ud hp;#[c,a,b]
structure Mod(K:aF)(mg:Str->Option Value)(base:Heap):Prop where
 QN:K.In base
 glob:base.Ns bu mg
 blt:∃mb,base.Ns builtinsNs mb/\∀x:Str,x≠"__name__"->mb x=jG x
 nolimit:base.NoLimit
structure Cx where
 prog:bC
 w:bZ
 K:aF
 mg:Str->Option Value
 base:Heap
 A:cB
 N:List Str
 s₀:ak
 H₀:Hp
 env:Env
 outer:List Env
 stack:List Env
 ex:List Addr
 fn:Str->Bool
 calm:Bool
 pn:List (Addr×Obj)
 xe:Value->ak->Prop
noncomputable def vS(l:List Env):List Addr:=l.filterMap (·.frame)
noncomputable abbrev Cx.fs(X:Cx):List Addr:=vS X.outer
noncomputable def Ju(sc:kJ)(x:Str):Prop:=sc.names.lookup x=some .local\/sc.names.lookup x=some .cell\/sc.names.lookup x=some .free
noncomputable def Loc(sc:kJ)(x:Str):Prop:=sc.names.lookup x=some .local\/sc.names.lookup x=some .cell
noncomputable def Look(env:Env)(h:Heap)(m:Str->Option Value)(x:Str)(u:Value):Prop:=
 (env.kindOf x=some .local/\m x=some u)\/((env.kindOf x=some .cell\/env.kindOf x=some .free)/\∃c,env.cells.lookup x=some c/\h.IsCell c (some u))
structure Cx.Ok(X:Cx):Prop where
 mod:Mod X.K X.mg X.base
 kind:X.env.scope.kind=.function
 glob:X.env.globals=bu
 blt:X.env.builtins=builtinsNs
 above:X.s₀.heap.objs.size<=X.env.locals
 inj:∀x y c,X.env.cells.lookup x=some c->X.env.cells.lookup y=some c->x=y
 has:∀x,(X.env.kindOf x=some .cell\/X.env.kindOf x=some .free)->∃c,X.env.cells.lookup x=some c
 MA:∀x c,X.fn x=true->X.env.cells.lookup x=some c->X.s₀.heap.objs.size<=c
 hd:X.calm=true->X.A.handled=none
 frames:X.A.frames=some X.stack
 Ep:X.stack=X.outer\/(X.stack=X.env::X.outer/\X.env.frame=some X.env.locals)
 Ra:∀b∈X.ex,b≠X.env.locals/\∀x c,X.env.cells.lookup x=some c->c≠b
 bs:∀b o,X.base.get? b=some o->X.s₀.heap.get? b=some o/\X.H₀ b=none
 FI:X.base.objs.size<=X.s₀.heap.objs.size
 zX:∀b o,X.base.get? b=some o->b∉X.ex
 BA:∀b∈X.ex,b∉X.fs
 pS:X.s₀.heap.FunFrames X.base X.outer
 Jv:∀b∈X.fs,X.H₀ b=none
structure Inv(X:Cx)(pZ:List (Addr×Obj))(σ:List (Option V))(H:Hp)(s:ak):Prop where
 ok:X.Ok
 os:s.os=X.s₀.os
 bare:nX s.gens
 base:Un X.fs X.ex X.H₀ H X.s₀.heap s.heap
 loc:∃m,s.heap.Ns X.env.locals m/\∀(i:Nat)(x:Str)(v:V),X.N[i]?=some x->σ[i]?=some (some v)->Ju X.env.scope x->∃u,RelV v u/\Look X.env s.heap m x u
 cell:∀x c,X.env.cells.lookup x=some c->∃v,s.heap.IsCell c v
 free:H X.env.locals=none
 kn:∀x c,X.env.cells.lookup x=some c->H c=none
 pin:∀p∈X.pn++pZ,s.heap.get? p.1=some p.2/\H p.1=none/\p.1≠X.env.locals/\p.1∉X.fs/\∀v,p.2.data≠.cell v
 dg:og X.prog X.w H s.heap
 len:σ.length=X.N.length
section
variable{X:Cx}{pZ:List (Addr×Obj)}{σ:List (Option V)}{H H':Hp}{s:ak}{h':Heap}
theorem Cx.Ok.VG(ok:X.Ok){b:Addr}{o:Obj}(e:X.base.get? b=some o):b∉X.fs:=λhb=>by
 have:=(ok.pS.mem hb).1;rw[e] at this;cases this
theorem Inv.bs(I:Inv X pZ σ H s):∀b o,X.base.get? b=some o->s.heap.get? b=some o/\H b=none:=λb o e=>
 #[I.base.keep b o (I.ok.bs b o e).1 (I.ok.bs b o e).2 (I.ok.VG e) (I.ok.zX b o e),I.base.free b o (I.ok.bs b o e).1 (I.ok.bs b o e).2 (I.ok.zX b o e)]
theorem Inv.bk(I:Inv X pZ σ H s):∀b o,X.base.get? b=some o->s.heap.get? b=some o:=λb o e=>(I.bs b o e).1
theorem Inv.mod(I:Inv X pZ σ H s):Mod X.K X.mg X.base:=I.ok.mod
theorem Inv.kU(I:Inv X pZ σ H s):X.K.In s.heap:=I.ok.mod.QN.keeps I.bk
theorem Inv.fr(I:Inv X pZ σ H s):∃m,Fr X.base X.env.locals s.heap m:=
 let ⟨m,hn,_⟩:=I.loc
 #[m,hn,I.bk,aT I.ok.FI I.ok.above]
theorem Inv.lt(I:Inv X pZ σ H s):X.env.locals<s.heap.objs.size:=let ⟨_,hn,_⟩:=I.loc;hn.lt
theorem Inv.sz(I:Inv X pZ σ H s):X.s₀.heap.objs.size<=s.heap.objs.size:=aT I.ok.above (sS I.lt)
theorem Inv.VH(I:Inv X pZ σ H s){a:Addr}(h:s.heap.objs.size<=a):a∉X.fs:=λhb=>by
 obtain⟨_,o,ho,_⟩:=I.ok.pS.mem hb;exact absurd (aM (aL ho) (aT I.sz h)) (dJ _)
theorem Inv.JT(I:Inv X pZ σ H s):∀x c,X.env.cells.lookup x=some c->c≠X.env.locals:=λx c e z=>by
 obtain⟨v,o,ho,hd⟩:=I.cell x c e;obtain⟨m,⟨o',es,ep,ho',hd',_⟩,_⟩:=I.loc;rw[z,ho'] at ho;cases ho;rw[hd'] at hd;cases hd
theorem Inv.pS(I:Inv X pZ σ H s):s.heap.FunFrames X.base X.outer:=by
 have all:∀(l:List Env),(∀b∈vS l,b∈X.fs)->X.s₀.heap.FunFrames X.base l->s.heap.FunFrames X.base l:=by
  intro l;induction l with
  |nil=>intro _ _;trivial
  |cons env r ih=>
   intro hs hl;obtain⟨hk,⟨L,o,hf,hn,ho,hd⟩,hr⟩:=hl;have hL:L∈X.fs:=hs L (by unfold vS;rw[fk,hf];exact bf);obtain⟨sl,e⟩:=I.base.slot L o ho (I.ok.Jv L hL) hL λz=>I.ok.BA L z hL
   exact#[hk,#[L,_,hf,hn,e,hd],ih (λb hb=>hs b (by unfold vS;rw[fk,hf];exact aV _ hb)) hr]
 exact all X.outer (λ_ hb=>hb) I.ok.pS
theorem Inv.stack(I:Inv X pZ σ H s):s.heap.FunFrames X.base X.stack:=by
 rcases I.ok.Ep with e|⟨e,hf⟩
 .rw[e];exact I.pS
 .rw[e]
  obtain⟨m,hn,_⟩:=I.loc;refine .cons (by rw[I.ok.kind];decide) hf hn ?_ I.pS;exact pH (aT I.ok.FI I.ok.above)
theorem Inv.ue(I:Inv X pZ σ H s):∀b∈vS X.stack,b∈X.env.locals::X.fs:=λb hb=>by
 rcases I.ok.Ep with e|⟨e,hf⟩
 .rw[e] at hb;exact aV _ hb
 .rw[e] at hb
  unfold vS at hb;rw[fk,hf] at hb;exact hb
theorem Inv.yA(I:Inv X pZ σ H s):∀b∈vS X.stack,H b=none:=λb hb=>by
 rcases bg.mp (I.ue b hb) with e|hb
 .rw[e];exact I.free
 .obtain⟨_,o,ho,_⟩:=I.ok.pS.mem hb
  exact I.base.free b o ho (I.ok.Jv b hb) λz=>I.ok.BA b z hb
theorem Inv.step{g':Array JF}{t':Nat}{d':Drawn}{ch:List Addr}(I:Inv X pZ σ H s)
  (hch:∀b∈ch,(b∈X.ex\/X.s₀.heap.objs.size<=b)/\b≠X.env.locals/\(∀x c,X.env.cells.lookup x=some c->c≠b)/\∀p∈X.pn++pZ,p.1≠b)
  (keep:∀b o,b≠X.env.locals->b∉X.fs->b∉ch->s.heap.get? b=some o->H b=none->h'.get? b=some o)
  (slot:∀b o,b≠X.env.locals->b∈X.fs->b∉ch->s.heap.get? b=some o->H b=none->∃sl,h'.get? b=some {o with slots:=sl}) (free:∀b o,b∉ch->s.heap.get? b=some o->H b=none->H' b=none)
  (there:∀b o,b∉ch->s.heap.get? b=some o->∃o',h'.get? b=some o')
  (yx:∀b xs,H b=some (.tup xs)->H' b=some (.tup xs)) (vR:∀b o u,H b=some (.Bz o u)->H' b=some (.Bz o u)) (yy:∀b ps,H b=some (.Nl ps)->∃more,H' b=some (.Nl (ps++more)))
  (ns:∀m,s.heap.Ns X.env.locals m->h'.Ns X.env.locals m) (dg:og X.prog X.w H' h') (hg:nX g'):
  Inv X pZ σ H' {s with heap:=h',gens:=g',drawn:=d',toks:=t'}:=by
 have neL:∀b o,X.s₀.heap.get? b=some o->b≠X.env.locals:=λb o e=>b7 (aM (aL e) I.ok.above)
 have neC:∀b o,X.s₀.heap.get? b=some o->b∉X.ex->b∉ch:=λb o e hx hb=>by
  rcases(hch b hb).1 with z|z
  .exact hx z
  .exact absurd (aM (aL e) z) (dJ _)
 have cellK:∀x c,X.env.cells.lookup x=some c->∀v,s.heap.IsCell c v->h'.IsCell c v:=λx c e v #[o,ho,hd]=>by
  have nch:c∉ch:=λz=>(hch c z).2.2.1 x c e rfl
  by_cases hc:c∈X.fs
  .obtain⟨sl,q⟩:=slot c o (I.JT x c e) hc nch ho (I.kn x c e)
   exact#[_,q,hd]
  .exact#[o,keep c o (I.JT x c e) hc nch ho (I.kn x c e),hd]
 refine#[I.ok,I.os,hg,#[λb o e n hb hx=>?_,λb o e n hb hx=>?_,λb o e n hx=>?_,λb o e hx=>?_,λb xs e=>yx b xs (I.base.yx b xs e),λb o xs e=>vR b o xs (I.base.vR b o xs e),λb ps e=>?_],?_,λx c e=>?_,?_,λx c e=>?_,λp hp=>?_,dg,I.len]
 .exact keep b o (neL b o e) hb (neC b o e hx) (I.base.keep b o e n hb hx) (I.base.free b o e n hx)
 .obtain⟨sl,e1⟩:=I.base.slot b o e n hb hx
  obtain⟨sl',e2⟩:=slot b _ (neL b o e) hb (neC b o e hx) e1 (I.base.free b o e n hx);exact#[sl',e2]
 .obtain⟨o',e1⟩:=I.base.there b o e hx
  exact free b o' (neC b o e hx) e1 (I.base.free b o e n hx)
 .obtain⟨o',e1⟩:=I.base.there b o e hx
  exact there b o' (neC b o e hx) e1
 .obtain⟨m1,e1⟩:=I.base.yy b ps e
  obtain⟨m2,e2⟩:=yy b _ e1;exact#[m1++m2,by rw[e2,Array.append_assoc]]
 .obtain⟨m,hn,hl⟩:=I.loc
  refine#[m,ns m hn,λi x v e1 e2 e3=>?_];obtain⟨u,r,l⟩:=hl i x v e1 e2 e3;refine#[u,r,?_];rcases l with l|⟨k,c,e,z⟩
  .exact .inl l
  .exact .inr #[k,c,e,cellK x c e _ z]
 .obtain⟨v,z⟩:=I.cell x c e
  exact#[v,cellK x c e v z]
 .obtain⟨m,⟨o,_,_,ho,_⟩,_⟩:=I.loc
  exact free _ o (λz=>(hch _ z).2.1 rfl) ho I.free
 .obtain⟨v,o,ho,hd⟩:=I.cell x c e
  exact free c o (λz=>(hch c z).2.2.1 x c e rfl) ho (I.kn x c e)
 .obtain⟨e,n,ne,nf,d⟩:=I.pin p hp
  have nch:p.1∉ch:=λz=>(hch p.1 z).2.2.2 p hp rfl
  exact#[keep p.1 p.2 ne nf nch e n,free p.1 p.2 nch e n,ne,nf,d]
theorem Inv.un{t':Nat}(I:Inv X pZ σ H s)(u:Un X.fs [] H H' s.heap h')(dg:og X.prog X.w H' h'):Inv X pZ σ H' {s with heap:=h',toks:=t'}:=by
 obtain⟨m,⟨o,es,ep,ho,r⟩,_⟩:=id I.loc;obtain⟨sl,hL⟩:=u.any ho I.free (by simp);exact I.step (g':=s.gens) (d':=s.drawn) (ch:=[]) (λ_ z=>nomatch z) (λb o _ hb _ e n=>u.keep b o e n hb (by simp)) (λb o _ hb _ e n=>u.slot b o e n hb (by simp)) (λb o _ e n=>u.free b o e n (by simp)) (λb o _ e=>u.there b o e (by simp)) u.yx u.vR u.yy (λm' hm=>by
  obtain⟨o',es',ep',ho',r'⟩:=hm;rw[ho] at ho';cases ho';exact#[_,es',ep',hL,r']) dg I.bare
theorem Inv.call{g':Array JF}{t':Nat}{d':Drawn}{ch:List Addr}(I:Inv X pZ σ H s)(u:Un (vS X.stack) ch H H' s.heap h')(dg:og X.prog X.w H' h')(hg:nX g')
  (hch:∀b∈ch,(b∈X.ex\/X.s₀.heap.objs.size<=b)/\b≠X.env.locals/\(∀x c,X.env.cells.lookup x=some c->c≠b)/\∀p∈X.pn++pZ,p.1≠b):
  Inv X pZ σ H' {s with heap:=h',gens:=g',drawn:=d',toks:=t'}:=by
 obtain⟨m,⟨o,es,ep,ho,r⟩,_⟩:=id I.loc;obtain⟨sl,hL⟩:=u.any ho I.free λz=>(hch _ z).2.1 rfl
 exact I.step (ch:=ch) hch (λb o hL hb hc e n=>u.keep b o e n (λz=>(bg.mp (I.ue b z)).elim hL hb) hc) (λb o _ _ hc e n=>u.any e n hc) (λb o hc e n=>u.free b o e n hc) (λb o hc e=>u.there b o e hc) u.yx u.vR u.yy (λm' hm=>by
  obtain⟨o',es',ep',ho',r'⟩:=hm;rw[ho] at ho';cases ho';exact#[_,es',ep',hL,r']) dg hg
theorem Inv.turned{t':Nat}{it:Addr}(I:Inv X pZ σ H s)(k:∀b o,b≠it->s.heap.get? b=some o->h'.get? b=some o)(hn:H it=none)(hL:it≠X.env.locals)
  (h1:it∈X.ex\/X.s₀.heap.objs.size<=it) (h2:∀x c,X.env.cells.lookup x=some c->c≠it) (h3:∀p∈X.pn++pZ,p.1≠it):Inv X pZ σ H {s with heap:=h',toks:=t'}:=by
 have nit:∀b u,H b=some u->b≠it:=λb u e z=>by rw[z,hn] at e;cases e
 refine I.step (g':=s.gens) (d':=s.drawn) (ch:=[it]) (λb hb=>?_) (λb o _ _ hc e _=>k b o (λz=>hc (by simp[z])) e) (λb o _ _ hc e _=>#[o.slots,k b o (λz=>hc (by simp[z])) e]) (λ_ _ _ _ n=>n)
  (λb o hc e=>#[o,k b o (λz=>hc (by simp[z])) e]) (λ_ _ e=>e) (λ_ _ _ e=>e) (λb ps e=>#[#[],by rw[e];simp]) (λm hm=>?_) (λb u e=>?_) I.bare
 .have e:b=it:=by simpa using hb
  subst e;exact#[h1,hL,h2,h3]
 .obtain⟨o,es,ep,ho,r⟩:=hm
  exact#[o,es,ep,k _ o (dM hL) ho,r]
 .refine(I.dg b u e).jI (λc v hc q=>k c v ?_ q) (λ_ q=>q) λ_ _ q=>q
  rcases hc with z|z
  .rw[z];exact nit b u e
  .exact nit c _ z
theorem Inv.tok(I:Inv X pZ σ H s)(t:Nat):Inv X pZ σ H {s with toks:=t}:=I.un (h':=s.heap) (t':=t) Un.refl I.dg
theorem Inv.kept{t':Nat}(I:Inv X pZ σ H s)(k:∀b u,s.heap.get? b=some u->h'.get? b=some u):Inv X pZ σ H {s with heap:=h',toks:=t'}:=I.un (Un.kept k) (I.dg.kept k)
theorem Inv.laid{a:Addr}{o:HO}{t':Nat}(I:Inv X pZ σ H s)(k:∀b u,s.heap.get? b=some u->h'.get? b=some u)(hp:s.heap.objs.size<=a)(new:d6 X.prog X.w (upd H a o) h' a o):
  Inv X pZ σ (upd H a o) {s with heap:=h',toks:=t'}:=I.un (Un.laid k hp (I.dg.fresh hp)) (I.dg.laid k hp new)
theorem Inv.write{x e:Addr}{o:HO}{t':Nat}(I:Inv X pZ σ H s)(mu:U9 (H x))(he:e=x\/H e=some (.own x))(k:∀b u,b≠e->s.heap.get? b=some u->h'.get? b=some u)(heo:∃u,h'.get? e=some u)
  (new:d6 X.prog X.w (upd H x o) h' x o):Inv X pZ σ (upd H x o) {s with heap:=h',toks:=t'}:=I.un (Un.write mu he k heo) (I.dg.write mu he k heo new)
theorem Inv.C1{pins':List (Addr×Obj)}(I:Inv X pZ σ H s)(h:∀p∈pins',s.heap.get? p.1=some p.2/\H p.1=none/\p.1≠X.env.locals/\p.1∉X.fs/\∀v,p.2.data≠.cell v):Inv X pins' σ H s:=
 #[I.ok,I.os,I.bare,I.base,I.loc,I.cell,I.free,I.kn,λp hp=>(aE.mp hp).elim (λz=>I.pin p (bT _ z)) (h p),I.dg,I.len]
theorem uf{N:List Str}(hN:N.Nodup){i j:Nat}{x:Str}(a:N[i]?=some x)(b:N[j]?=some x):i=j:=by
 obtain⟨h1,e1⟩:=ae.mp a;obtain⟨h2,e2⟩:=ae.mp b;exact(Jh hN).mp (e1.trans e2.symm)
theorem wJ{M:Fv}{A:cB}{E:Value->ak->Prop}{i:Nat}{x:Str}{v:V}{u:Value}{Q:Unit->ak->Prop}(I:Inv X pZ σ H s)(hN:X.N.Nodup)(hi:X.N[i]?=some x)(hx:Loc X.env.scope x)(r:RelV v u)
  (h:∀s',Inv X pZ (σ.set i (some v)) H s'->(∃a,sd a s.heap s'.heap/\(a=X.env.locals\/X.env.cells.lookup x=some a))->Q () s') (hf:X.fn x=true\/X.env.scope.names.lookup x=some .local:=by first|exact .inl rfl|exact .inr rfl|assumption):wpAny M A (storeName X.env x u) Q E s:=by
 obtain⟨m,hn,hl⟩:=id I.loc;have hcls:(X.env.scope.kind==.class||(X.env.scope.kind==.module&&X.env.locals !=X.env.globals))=false:=by rw[I.ok.kind];rfl
 have hiσ:i<σ.length:=by rw[I.len];exact(ae.mp hi).1
 have JT:=I.JT;have tracked:∀{a:Addr}{h':Heap},(∃o,s.heap.get? a=some o/\H a=none)->sd a s.heap h'->og X.prog X.w H h':=λ{a h'}ha hs b ob e=>by
  obtain⟨_,_,hfree⟩:=ha;refine(I.dg b ob e).jI (λc w' hc q=>(hs.2 c ?_).trans q) (λ_ q=>q) λ_ _ q=>q
  rintro rfl;rcases hc with rfl|hc
  .rw[hfree] at e;cases e
  .rw[hfree] at hc;cases hc
 rcases hx with hk|hk
 .refine wpAny_storeName_local hk hn (λh' hn' hs=>?_) hcls
  obtain⟨oL,_,_,hoL,_⟩:=id hn;refine h _ #[I.ok,I.os,I.bare,#[λb o e n hb hx=>?_,λb o e n hb hx=>?_,I.base.free,λb o e hx=>?_,I.base.yx,I.base.vR,I.base.yy],#[_,hn',λj y v' e1 e2 e3=>?_],λy c e=>?_,I.free,I.kn,λp hp=>?_,tracked #[oL,hoL,I.free] hs,by simpa using I.len] #[_,hs,.inl rfl]
  .exact(hs.2 b (b7 (aM (aL e) I.ok.above))).trans (I.base.keep b o e n hb hx)
  .obtain⟨sl,e1⟩:=I.base.slot b o e n hb hx
   exact#[sl,(hs.2 b (b7 (aM (aL e) I.ok.above))).trans e1]
  .obtain⟨o',e1⟩:=I.base.there b o e hx
   exact#[o',(hs.2 b (b7 (aM (aL e) I.ok.above))).trans e1]
  .by_cases hj:j=i
   .subst hj
    rw[hi] at e1;cases e1;rw[bU hiσ] at e2;cases e2;exact#[u,r,.inl #[hk,by simp]]
   .rw[av (dM hj)] at e2
    obtain⟨u',r',q⟩:=hl j y v' e1 e2 e3;refine#[u',r',?_];rcases q with⟨k,e⟩|⟨k,c,e,z⟩
    .refine .inl #[k,?_]
     have:y≠x:=λe=>hj (uf hN e1 (e▸hi))
     simp[this,e]
    .exact .inr #[k,c,e,z.sameBut hs (JT y c e)]
  .obtain⟨w',z⟩:=I.cell y c e
   exact#[w',z.sameBut hs (JT y c e)]
  .obtain⟨e,n,ne,nf,d⟩:=I.pin p hp
   exact#[(hs.2 p.1 ne).trans e,n,ne,nf,d]
 .have hfn:X.fn x=true:=by
   rcases hf with z|z
   .exact z
   .rw[z] at hk;cases hk
  obtain⟨c,hc⟩:=I.ok.has x (.inl hk);obtain⟨w',z⟩:=I.cell x c hc;refine wpAny_storeName_cell I.ok.kind hk hc z (λh' hc' hs=>?_);obtain⟨oc,hoc,hocd⟩:=id z;refine h {s with heap:=h'} #[I.ok,I.os,I.bare,#[λb o e n hb hx=>?_,λb o e n hb hx=>?_,I.base.free,λb o e hx=>?_,I.base.yx,I.base.vR,I.base.yy],#[m,hn.sameBut hs (dM (JT x c hc)),λj y v' e1 e2 e3=>?_],λy c' e=>?_,I.free,I.kn,λp hp=>?_,tracked #[oc,hoc,I.kn x c hc] hs,by simpa using I.len] #[c,hs,.inr hc]
  .exact(hs.2 b (b7 (aM (aL e) (I.ok.MA x c hfn hc)))).trans (I.base.keep b o e n hb hx)
  .obtain⟨sl,e1⟩:=I.base.slot b o e n hb hx
   exact#[sl,(hs.2 b (b7 (aM (aL e) (I.ok.MA x c hfn hc)))).trans e1]
  .obtain⟨o',e1⟩:=I.base.there b o e hx
   exact#[o',(hs.2 b (b7 (aM (aL e) (I.ok.MA x c hfn hc)))).trans e1]
  .by_cases hj:j=i
   .subst hj
    rw[hi] at e1;cases e1;rw[bU hiσ] at e2;cases e2;exact#[u,r,.inr #[.inl hk,c,hc,hc']]
   .rw[av (dM hj)] at e2
    obtain⟨u',r',q⟩:=hl j y v' e1 e2 e3;refine#[u',r',?_];rcases q with q|⟨k,c',e,z'⟩
    .exact .inl q
    .refine .inr #[k,c',e,z'.sameBut hs ?_]
     rintro rfl;exact hj (uf hN e1 (I.ok.inj _ _ _ e hc▸hi))
  .by_cases hcc:c'=c
   .subst hcc;exact#[_,hc']
   .obtain⟨w2,z2⟩:=I.cell y c' e
    exact#[w2,z2.sameBut hs hcc]
  .obtain⟨e,n,ne,nf,d⟩:=I.pin p hp
   refine#[(hs.2 p.1 ?_).trans e,n,ne,nf,d];intro q;rw[q,hoc] at e;have q':oc=p.2:=aG e;exact d w' (by rw[<-q'];exact hocd)
theorem mm{M:Fv}{A:cB}{E:Value->ak->Prop}{i:Nat}{x:Str}{v:V}{u:Value}{Q:Unit->ak->Prop}(I:Inv X pZ σ H s)(hN:X.N.Nodup)(hi:X.N[i]?=some x)(hx:Loc X.env.scope x)(r:RelV v u)
  (h:∀s',Inv X pZ (σ.set i (some v)) H s'->Q () s') (hf:X.fn x=true\/X.env.scope.names.lookup x=some .local:=by first|exact .inl rfl|exact .inr rfl|assumption):wpAny M A (storeName X.env x u) Q E s:=
 wJ I hN hi hx r (λs' I' _=>h s' I') hf
theorem Inv.MB{s':ak}{ch:List Addr}(I:Inv X pZ σ H s)(ho:s'.os=s.os)(u:Un (vS X.stack) ch H H' s.heap s'.heap)(dg:og X.prog X.w H' s'.heap)(hg:nX s'.gens)
  (hch:∀b∈ch,(b∈X.ex\/X.s₀.heap.objs.size<=b)/\b≠X.env.locals/\(∀x c,X.env.cells.lookup x=some c->c≠b)/\∀p∈X.pn++pZ,p.1≠b):Inv X pZ σ H' s':=by
 obtain⟨h',g',d',t',o'⟩:=s';have e:o'=s.os:=ho;subst e;exact I.call (g':=g') (t':=t') (d':=d') u dg hg hch
end
abbrev XK:=Value->Option Addr->Hp->Prop
abbrev St:=List (Option V)
abbrev VK:=V->Hp->Prop
abbrev TE:=St->Hp->VK->Prop
abbrev TT:=St->Hp->(Bool->Hp->Prop)->Prop
abbrev TA:=St->Hp->(List V->Hp->Prop)->Prop
structure Ends where
 nx:St->Hp->Prop
 rt:VK
 bk:St->Hp->Prop:=λ_ _=>False
 ct:St->Hp->Prop:=λ_ _=>False
abbrev TS:=Ends->St->Hp->Prop
noncomputable def EP(X:Cx)(pZ:List (Addr×Obj))(σ:St)(Q:VK)(u:Value)(s':ak):Prop:=∃v H',Inv X pZ σ H' s'/\RelV v u/\Q v H'
noncomputable def TP(X:Cx)(pZ:List (Addr×Obj))(σ:St)(Q:Bool->Hp->Prop)(b:Bool)(s':ak):Prop:=∃H',Inv X pZ σ H' s'/\Q b H'
noncomputable def AP(X:Cx)(pZ:List (Addr×Obj))(σ:St)(Q:List V->Hp->Prop)(us:List Value)(s':ak):Prop:=∃vs H',Inv X pZ σ H' s'/\Vals vs us/\Q vs H'
noncomputable def SP(X:Cx)(pZ:List (Addr×Obj))(D:Ends)(f:Flow)(s':ak):Prop:=
 match f with
 |.next=>∃σ' H',Inv X pZ σ' H' s'/\D.nx σ' H'
 |.brk=>∃σ' H',Inv X pZ σ' H' s'/\D.bk σ' H'
 |.cont=>∃σ' H',Inv X pZ σ' H' s'/\D.ct σ' H'
 |.ret u=>∃v σ' H',Inv X pZ σ' H' s'/\RelV v u/\D.rt v H'
noncomputable def PE(X:Cx)(e:Expr)(t:TE):Prop:=
 ∀(pZ:List (Addr×Obj))(s:ak)(σ:St)(H:Hp)(Q:VK),Inv X pZ σ H s->t σ H Q->wpAny (aR X.prog X.w) X.A (eval e X.env) (EP X pZ σ Q) X.xe s
noncomputable def PT(X:Cx)(e:Expr)(t:TT):Prop:=
 ∀(pZ:List (Addr×Obj))(s:ak)(σ:St)(H:Hp)(Q:Bool->Hp->Prop),Inv X pZ σ H s->t σ H Q->wpAny (aR X.prog X.w) X.A (isTrue e X.env (eval e X.env)) (TP X pZ σ Q) X.xe s
noncomputable def PW(X:Cx)(e:Expr)(t:TT):Prop:=
 ∀(whole:Sem Value)(pZ:List (Addr×Obj))(s:ak)(σ:St)(H:Hp)(Q:Bool->Hp->Prop),Inv X pZ σ H s->t σ H Q->wpAny (aR X.prog X.w) X.A (isTrue e X.env whole) (TP X pZ σ Q) X.xe s
theorem PW.pt{X:Cx}{e:Expr}{t:TT}(h:PW X e t):PT X e t:=h _
noncomputable def PA(X:Cx)(es:List Expr)(t:TA):Prop:=
 ∀(pos:Pos)(pZ:List (Addr×Obj))(s:ak)(σ:St)(H:Hp)(Q:List V->Hp->Prop),Inv X pZ σ H s->t σ H Q->wpAny (aR X.prog X.w) X.A (spliced (iN pos (bS es X.env))) (AP X pZ σ Q) X.xe s
noncomputable def PS(X:Cx)(st:Stmt)(t:TS):Prop:=
 ∀(pZ:List (Addr×Obj))(s:ak)(σ:St)(H:Hp)(D:Ends),Inv X pZ σ H s->t D σ H->wpAny (aR X.prog X.w) X.A (exec st X.env) (SP X pZ D) X.xe s
noncomputable def sV(X:Cx)(st:List Stmt)(t:TS):Prop:=
 ∀(pZ:List (Addr×Obj))(s:ak)(σ:St)(H:Hp)(D:Ends),Inv X pZ σ H s->t D σ H->wpAny (aR X.prog X.w) X.A (execs st X.env) (SP X pZ D) X.xe s
theorem fj{α:Type}{t:Sem α}{Q Q':α->ak->Prop}{M:Fv}{A:cB}{E:Value->ak->Prop}{s:ak}(h:wpAny M A t Q E s)(hQ:∀a s,Q a s->Q' a s):wpAny M A t Q' E s:=bL h hQ λ_ _ x=>x
section
variable{X:Cx}
noncomputable def VI(i:Nat):TE:=λσ H Q=>∃v,σ[i]?=some (some v)/\Q v H
noncomputable def tC(v:V):TE:=λ_ H Q=>Q v H
theorem pU{i:Nat}{x:Str}{pos:Pos}(hN:X.N[i]?=some x)(hv:Ju X.env.scope x)(hd:(x==("__debug__":Str))=false:=by decide)(hcd:(x==("__classdict__":Str))=false:=by decide):PE X (.Name x pos) (VI i):=by
 intro pZ s σ H Q I h;obtain⟨v,e,h⟩:=h;obtain⟨m,hn,hl⟩:=I.loc;obtain⟨u,r,l⟩:=hl i x v hN e hv;have fin:EP X pZ σ Q u s:=#[v,H,I,r,h]
 rcases l with⟨hk,hm⟩|⟨hk,c,hc,hcell⟩
 .exact wpAny_Name (JG I.ok.kind hk hn hm fin) hd
 .rcases hk with hk|hk
  .exact wpAny_Name (wpAny_loadName_cell I.ok.kind hk hc hcell fin) hd
  .exact wpAny_Name (wpAny_loadName_free I.ok.kind hk hc hcell fin hcd) hd
theorem Nm{i j pos}:PE X (.Constant (.int i) j pos) (tC (.int i)):=λ_ _ _ H _ I h=>wpAny_Constant_int #[.int i,H,I.tok _,#[_,rfl],h]
theorem Rb{b j pos}:PE X (.Constant (.bool b) j pos) (tC (.bl b)):=λ_ _ _ H _ I h=>Constant_bool #[.bl b,H,I,rfl,h]
theorem Np{j pos}:PE X (.Constant .none j pos) (tC .bK):=λ_ _ _ H _ I h=>Constant_none #[.bK,H,I,rfl,h]
theorem Nq{x j pos}:PE X (.Constant (.str x) j pos) (tC (.str x)):=λ_ _ _ H _ I h=>Calls.Constant_str #[.str x,H,I.tok _,#[_,rfl],h]
noncomputable def Gl(X:Cx)(x:Str):Prop:=X.env.kindOf x=some .globalImplicit
theorem mS{E:Value->ak->Prop}{pZ:List (Addr×Obj)}{s:ak}{σ:St}{H:Hp}{x:Str}{u:Value}{pos:Pos}{Q:Value->ak->Prop}(I:Inv X pZ σ H s)(hg:Gl X x)(hm:X.mg x=some u)(h:Q u s)
  (hd:(x==("__debug__":Str))=false:=by decide):wpAny (aR X.prog X.w) X.A (eval (.Name x pos) X.env) Q E s:=
 vL I.ok.kind hg (Calls.loadGlobal_global (by rw[I.ok.glob];exact I.mod.glob.keeps I.bk) hm h) hd
theorem pV{E:Value->ak->Prop}{pZ:List (Addr×Obj)}{s:ak}{σ:St}{H:Hp}{x:Str}{u:Value}{pos:Pos}{Q:Value->ak->Prop}(I:Inv X pZ σ H s)(hg:Gl X x)(hm:X.mg x=none)(hv:jG x=some u)(h:Q u s)
  (hn:x≠"__name__":=by decide) (hd:(x==("__debug__":Str))=false:=by decide):wpAny (aR X.prog X.w) X.A (eval (.Name x pos) X.env) Q E s:=by
 obtain⟨mb,h1,h2⟩:=I.mod.blt;exact vL I.ok.kind hg (Calls.loadGlobal_builtin (by rw[I.ok.glob];exact I.mod.glob.keeps I.bk) hm (by rw[I.ok.blt];exact h1.keeps I.bk) ((h2 x hn).trans hv) h) hd
theorem yB{x:Str}{v:V}{u:Value}{pos:Pos}(hg:Gl X x)(hm:X.mg x=some u)(r:RelV v u)(hd:(x==("__debug__":Str))=false:=by decide):PE X (.Name x pos) (tC v):=
 λ_ _ _ H _ I h=>mS I hg hm #[v,H,I,r,h] hd
theorem JU{x:Str}{v:V}{u:Value}{pos:Pos}(hg:Gl X x)(hm:X.mg x=none)(hv:jG x=some u)(r:RelV v u)(hn:x≠"__name__":=by decide)(hd:(x==("__debug__":Str))=false:=by decide):PE X (.Name x pos) (tC v):=
 λ_ _ _ H _ I h=>pV I hg hm hv #[v,H,I,r,h] hn hd
variable{a b:Expr}{ta tb:TE}{pos:Pos}
variable{tA tB':TT}{rest:List Expr}
noncomputable def VJ(t u:TT):TT:=λσ H Q=>t σ H λc H1=>if c=true then u σ H1 Q else Q false H1
noncomputable def YR(t u:TT):TT:=λσ H Q=>t σ H λc H1=>if c=true then Q true H1 else u σ H1 Q
noncomputable def VL(t:TT):TT:=λσ H Q=>t σ H λc H1=>Q (!c) H1
theorem JV(ha:PT X a tA):PW X (.BoolOp .And [a] pos) tA:=by
 intro wh pZ s σ H Q I h;refine isTrue_and (fj (ha pZ s σ H Q I h) λc s1 e=>?_);cases c with
 |true=>exact isTrue_and_nil e
 |false=>exact e
theorem Nr(ha:PT X a tA):PW X (.BoolOp .Or [a] pos) tA:=by
 intro wh pZ s σ H Q I h;refine isTrue_or (fj (ha pZ s σ H Q I h) λc s1 e=>?_);cases c with
 |false=>exact isTrue_or_nil e
 |true=>exact e
theorem Nt(ha:PT X a tA)(hb:PW X (.BoolOp .And (b::rest) pos) tB'):PW X (.BoolOp .And (a::b::rest) pos) (VJ tA tB'):=by
 intro wh pZ s σ H Q I h;refine isTrue_and (fj (ha pZ s σ H _ I h) λc s1 h9=>?_);obtain⟨H1,I1,q1⟩:=h9;cases c with
 |true=>exact hb wh pZ s1 σ H1 Q I1 q1
 |false=>exact#[H1,I1,q1]
theorem Rc(ha:PT X a tA)(hb:PW X (.BoolOp .Or (b::rest) pos) tB'):PW X (.BoolOp .Or (a::b::rest) pos) (YR tA tB'):=by
 intro wh pZ s σ H Q I h;refine isTrue_or (fj (ha pZ s σ H _ I h) λc s1 h9=>?_);obtain⟨H1,I1,q1⟩:=h9;cases c with
 |true=>exact#[H1,I1,q1]
 |false=>exact hb wh pZ s1 σ H1 Q I1 q1
theorem Nu(ha:PT X a tA):PT X (.UnaryOp .Not a pos) (VL tA):=by
 intro pZ s σ H Q I h;exact isTrue_not (ha pZ s σ H (λc H1=>Q (!c) H1) I h)
noncomputable def Rf(ta tb:TE):TE:=λσ H Q=>ta σ H λx H1=>∃c,x=.bl c/\if c=true then tb σ H1 Q else Q (.bl false) H1
noncomputable def VM(ta tb:TE):TE:=λσ H Q=>ta σ H λx H1=>∃c,x=.bl c/\if c=true then Q (.bl true) H1 else tb σ H1 Q
noncomputable def Rg(ta:TE):TE:=λσ H Q=>ta σ H λx H1=>∃c,x=.bl c/\Q (.bl (!c)) H1
theorem Nv{op}{t:TE}(h:PE X a t):PE X (.BoolOp op [a] pos) t:=λpZ s σ H Q I hw=>BoolOp_one (h pZ s σ H Q I hw)
theorem Nw(ha:PE X a ta)(hb:PE X (.BoolOp .And (b::rest) pos) tb):PE X (.BoolOp .And (a::b::rest) pos) (Rf ta tb):=by
 intro pZ s σ H Q I h;refine BoolOp_and (fj (ha pZ s σ H _ I h) λv s1 h9=>?_);obtain⟨x,H1,I1,r1,q1⟩:=h9;obtain⟨c,rfl,q1⟩:=q1;cases r1;refine fm ?_;cases c with
 |true=>exact hb pZ s1 σ H1 Q I1 q1
 |false=>exact#[.bl false,H1,I1,rfl,q1]
theorem Rh(ha:PE X a ta)(hb:PE X (.BoolOp .Or (b::rest) pos) tb):PE X (.BoolOp .Or (a::b::rest) pos) (VM ta tb):=by
 intro pZ s σ H Q I h;refine BoolOp_or (fj (ha pZ s σ H _ I h) λv s1 h9=>?_);obtain⟨x,H1,I1,r1,q1⟩:=h9;obtain⟨c,rfl,q1⟩:=q1;cases r1;refine fm ?_;cases c with
 |false=>exact hb pZ s1 σ H1 Q I1 q1
 |true=>exact#[.bl true,H1,I1,rfl,q1]
theorem Nx(ha:PE X a ta):PE X (.UnaryOp .Not a pos) (Rg ta):=by
 intro pZ s σ H Q I h;refine UnaryOp_ (fj (ha pZ s σ H _ I h) λv s1 h9=>?_);obtain⟨x,H1,I1,r1,q1⟩:=h9;obtain⟨c,rfl,q1⟩:=q1;cases r1;exact not_of (fm #[.bl (!c),H1,I1,rfl,q1])
noncomputable def YS(t:TT)(ta tb:TE):TE:=λσ H Q=>t σ H λc H1=>if c=true then ta σ H1 Q else tb σ H1 Q
theorem Gd{c:Expr}(hc:PT X c tA)(ha:PE X a ta)(hb:PE X b tb):PE X (.IfExp c a b pos) (YS tA ta tb):=by
 intro pZ s σ H Q I h;refine wpAny_IfExp (fj (hc pZ s σ H _ I h) λd s1 h9=>?_);obtain⟨H1,I1,q1⟩:=h9;cases d with
 |true=>exact ha pZ s1 σ H1 Q I1 q1
 |false=>exact hb pZ s1 σ H1 Q I1 q1
end
noncomputable def gH(K:aF)(H:Hp)(a:Addr)(xs:List V):Prop:=
 Rd H a (.lst xs) \/
  ∃(o:Obj)(its:Array Value)(n:Nat),K.lookup a=some o/\o.cls=.type "list"/\o.dict=none/\o.data=.seq its n/\its.size<=sizeLine/\Vals xs its.toList
noncomputable def lU(K:aF)(H:Hp)(a:Addr)(xs:List V):Prop:=
 Rd H a (.tup xs) \/
  ∃(o:Obj)(its:Array Value)(n:Nat),K.lookup a=some o/\o.cls=.type "tuple"/\o.data=.seq its n/\its.size<=sizeLine/\Vals xs its.toList
noncomputable def VN:Value->Option V
 |.none=>some .bK
 |.bool b=>some (.bl b)
 |.int i _=>some (.int i)
 |.str x _=>some (.str x)
 |.bytes b _=>some (.Bh b)
 |.float b _=>some (.Nk b)
 |.ref a=>some (.ref a)
 |.type n=>some (.ty n)
 |_=>none
theorem RelV.abs{x:V}{u:Value}(r:RelV x u):VN u=some x:=by
 cases x with
 |bK=>cases r;rfl
 |bl _=>cases r;rfl
 |int _=>obtain⟨t,rfl⟩:=r;rfl
 |str _=>obtain⟨t,rfl⟩:=r;rfl
 |Bh _=>obtain⟨t,rfl⟩:=r;rfl
 |Nk _=>obtain⟨t,rfl⟩:=r;rfl
 |ref _=>cases r;rfl
 |ty _=>cases r;rfl
theorem RelV.inj{x y:V}{u:Value}(r:RelV x u)(q:RelV y u):x=y:=aG (r.abs.symm.trans q.abs)
theorem Vals.inj:∀{xs ys:List V}{us:List Value},Vals xs us->Vals ys us->xs=ys
 |_,_,_,.nil,.nil=>rfl
 |_,_,_,.cons r t,.cons r' t'=>by rw[r.inj r',Vals.inj t t']
section
variable{X:Cx}{pZ:List (Addr×Obj)}{σ:St}{H:Hp}{s:ak}{a:Addr}{xs ys:List V}
theorem gH.of{K:aF}(h:H a=some (.lst xs)):gH K H a xs:=.inl (.inl h)
theorem lU.of{K:aF}(h:H a=some (.tup xs)):lU K H a xs:=.inl (.inl h)
theorem Inv.list(I:Inv X pZ σ H s)(h:gH X.K H a xs):∃its:List Value,Vals xs its/\PlainL s.heap a its.toArray/\xs.length<=sizeLine:=by
 rcases h with h|⟨o,its,n,hk,hc,hd,hs,hz,r⟩
 .obtain⟨z,its,n,r,e⟩:=h.ok I.dg
  exact#[its,r,#[_,n,e,rfl,rfl,rfl],z]
 .refine#[its.toList,r,#[o,n,I.kU a o hk,hc,hd,by simpa using hs],?_]
  have e:=r.length;simp only[pO] at e;omega
theorem Inv.tuple(I:Inv X pZ σ H s)(h:lU X.K H a xs):∃its:List Value,Vals xs its/\IsTup s.heap a its.toArray/\xs.length<=sizeLine:=by
 rcases h with h|⟨o,its,n,hk,hc,hs,hz,r⟩
 .obtain⟨z,its,r,p⟩:=h.ok I.dg
  exact#[its,r,p,z]
 .refine#[its.toList,r,#[o,I.kU a o hk,hc,n,by simpa using hs],?_]
  have e:=r.length;simp only[pO] at e;omega
theorem Inv.ug(I:Inv X pZ σ H s)(h:gH X.K H a xs)(h':gH X.K H a ys):xs=ys:=by
 obtain⟨its,r,⟨o,n,e,_,_,d⟩,_⟩:=I.list h;obtain⟨its',r',⟨o',n',e',_,_,d'⟩,_⟩:=I.list h';rw[e] at e';cases e';rw[d] at d';injection d' with d1 _
 have:its=its':=by simpa using congrArg zQ d1
 subst this;exact r.inj r'
theorem Inv.wK(I:Inv X pZ σ H s)(h:lU X.K H a xs)(h':lU X.K H a ys):xs=ys:=by
 obtain⟨its,r,⟨o,e,_,n,d⟩,_⟩:=I.tuple h;obtain⟨its',r',⟨o',e',_,n',d'⟩,_⟩:=I.tuple h';rw[e] at e';cases e';rw[d] at d';injection d' with d1 _
 have:its=its':=by simpa using congrArg zQ d1
 subst this;exact r.inj r'
end
section
variable{X:Cx}{st:Stmt}{rest:List Stmt}{t u:TS}{e:Expr}{te:TE}{pos:Pos}
noncomputable def Ri:TS:=λD σ H=>D.nx σ H
noncomputable def VO(t u:TS):TS:=λD σ H=>t {D with nx:=u D} σ H
theorem JW:sV X [] Ri:=λ_ _ σ H _ I h=>lR #[σ,H,I,h]
theorem zY(h1:PS X st t)(h2:sV X rest u):sV X (st::rest) (VO t u):=by
 intro pZ s σ H D I h;refine wpAny_execs_cons (fj (h1 pZ s σ H {D with nx:=u D} I h) λf s1 q=>?_);cases f with
 |next=>
  obtain⟨σ',H',I',q⟩:=q;exact h2 pZ s1 σ' H' D I' q
 |ret v=>exact q
 |brk=>exact q
 |cont=>exact q
theorem C2(h1:PS X st t):sV X [st] t:=by
 intro pZ s σ H D I h;refine wpAny_execs_cons (fj (h1 pZ s σ H D I h) λf s1 q=>?_);cases f with
 |next=>exact lR q
 |ret v=>exact q
 |brk=>exact q
 |cont=>exact q
theorem Inv.quiet{pZ:List (Addr×Obj)}{σ:St}{H:Hp}{s:ak}(I:Inv X pZ σ H s):interactive X.env=false:=by simp[interactive,I.ok.kind]
noncomputable def Rj(te:TE):TS:=λD σ H=>te σ H λ_ H1=>D.nx σ H1
theorem JX(he:PE X e te)(hs:iJ e none pos.line X.env=pure false:=by rfl):PS X (.Expr e pos) (Rj te):=by
 intro pZ s σ H D I h;refine wpAny_Expr_any (fj (he pZ s σ H _ I h) λv s1 h9=>?_) I.quiet hs;obtain⟨x,H1,I1,r1,q1⟩:=h9;exact#[σ,H1,I1,q1]
noncomputable def VP(te:TE):TS:=λD σ H=>te σ H D.rt
theorem Ny(he:PE X e te):PS X (.Return (some e) pos) (VP te):=by
 intro pZ s σ H D I h;refine wpAny_Return_some (fj (he pZ s σ H _ I h) λv s1 h9=>?_);obtain⟨x,H1,I1,r1,q1⟩:=h9;exact#[x,σ,H1,I1,r1,q1]
noncomputable def VQ(c:TT)(t u:TS):TS:=λD σ H=>c σ H λb H1=>if b=true then t D σ H1 else u D σ H1
theorem Rk{c:Expr}{a b:List Stmt}{tc:TT}(hc:PT X c tc)(ha:sV X a t)(hb:sV X b u):PS X (.If c a b pos) (VQ tc t u):=by
 intro pZ s σ H D I h;refine wpAny_If (fj (hc pZ s σ H _ I h) λd s1 h9=>?_);obtain⟨H1,I1,q1⟩:=h9;cases d with
 |true=>exact ha pZ s1 σ H1 D I1 q1
 |false=>exact hb pZ s1 σ H1 D I1 q1
end
abbrev TG:=V->St->Hp->(St->Hp->Prop)->Prop
abbrev Nz:=List V->St->Hp->(St->Hp->Prop)->Prop
noncomputable def PG(X:Cx)(target:Expr)(t:TG):Prop:=
 ∀(pZ:List (Addr×Obj))(s:ak)(σ:St)(H:Hp)(v:V)(u:Value)(Q:St->Hp->Prop),Inv X pZ σ H s->RelV v u->t v σ H Q ->
  wpAny (aR X.prog X.w) X.A (ya target X.env u) (λ_ s'=>∃σ' H',Inv X pZ σ' H' s'/\Q σ' H') X.xe s
noncomputable def Vb(X:Cx)(ts:List Expr)(t:Nz):Prop:=
 ∀(pZ:List (Addr×Obj))(s:ak)(σ:St)(H:Hp)(vs:List V)(us:List Value)(Q:St->Hp->Prop),Inv X pZ σ H s->Vals vs us->t vs σ H Q ->
  wpAny (aR X.prog X.w) X.A (assignInOrder ((t4 ts X.env).map (·.2)) us) (λ_ s'=>∃σ' H',Inv X pZ σ' H' s'/\Q σ' H') X.xe s
abbrev NA:=V->V->V->Hp->(Hp->Prop)->Prop
noncomputable def Rl(X:Cx)(t:NA):Prop:=
 ∀(pZ:List (Addr×Obj))(s:ak)(σ:St)(H:Hp)(o i v:V)(ov iv u:Value)(Q:Hp->Prop),Inv X pZ σ H s->RelV o ov->RelV i iv->RelV v u->t o i v H Q ->
  wpAny (aR X.prog X.w) X.A (setItem ov iv u) (λ_ s'=>∃H',Inv X pZ σ H' s'/\Q H') X.xe s
abbrev Rm:=V->V->Hp->VK->Prop
noncomputable def XG(X:Cx)(op:mO)(t:Rm):Prop:=
 ∀(pZ:List (Addr×Obj))(s:ak)(σ:St)(H:Hp)(x y:V)(v u:Value)(Q:VK),Inv X pZ σ H s->RelV x v->RelV y u->t x y H Q ->
  wpAny (aR X.prog X.w) X.A (gS op v u) (EP X pZ σ Q) X.xe s
section
variable{X:Cx}{pos:Pos}
noncomputable def wL(i:Nat):TG:=λv σ H Q=>Q (σ.set i (some v)) H
theorem qm{i:Nat}{x:Str}(hN:X.N.Nodup)(hi:X.N[i]?=some x)(hx:Loc X.env.scope x)(hf:X.fn x=true\/X.env.scope.names.lookup x=some .local:=by first|exact .inl rfl|exact .inr rfl|assumption):PG X (.Name x pos) (wL i):=by
 intro pZ s σ H v u Q I r h;exact vM (mm I hN hi hx r (λs' I'=>#[_,H,I',h]) hf)
noncomputable def VR:Nz:=λvs σ H Q=>vs=[]/\Q σ H
noncomputable def Rn(t:TG)(u:Nz):Nz:=λvs σ H Q=>∃v r,vs=v::r/\t v σ H λσ' H'=>u r σ' H' Q
theorem C3:Vb X [] VR:=by
 intro pZ s σ H vs us Q I r h;obtain⟨e,h⟩:=h;subst e;cases r;exact assignInOrder_nil #[σ,H,I,h]
theorem qo{e:Expr}{es:List Expr}{t:TG}{u:Nz}(h1:PG X e t)(h2:Vb X es u)
  (hs:(t4 (e::es) X.env).map (·.2)=ya e X.env::(t4 es X.env).map (·.2):=by rfl):Vb X (e::es) (Rn t u):=by
 intro pZ s σ H vs us Q I r h;obtain⟨v,vr,e1,h⟩:=h;subst e1;cases r with
 |cons r rr=>
  rw[hs]
  refine assignInOrder_cons (fj (h1 pZ s σ H _ _ _ I r h) λ_ s1 h9=>?_);obtain⟨σ1,H1,I1,q1⟩:=h9;exact h2 pZ s1 σ1 H1 _ _ Q I1 rr q1
noncomputable def VS(K:aF)(n:Nat)(t:Nz):TG:=λv σ H Q=>∃a xs,v=.ref a/\lU K H a xs/\xs.length=n/\t xs σ H Q
theorem Ge{es:List Expr}{k:Nat}{t:Nz}{n:Nat}(hc:X.calm=true)(h:Vb X es t)
  (hn:(t4 es X.env).length=n:=by rfl) (hst:(t4 es X.env).findIdx? (·.1)=none:=by rfl):PG X (.Tuple es k pos) (VS X.K n t):=by
 intro pZ s σ H v u Q I r hw;obtain⟨a,xs,e1,hq,hl,hw⟩:=hw;subst e1;cases r;obtain⟨its,rv,ht,hz⟩:=I.tuple hq;refine assign_Tuple_tuple (I.ok.hd hc) ht (by simp[hn,<-hl,rv.length]) hst λh' hx=>?_
 have I1:Inv X pZ σ H {s with heap:=h'}:=I.kept (t':=s.toks) λb o e=>hx b o (b7 (aL e)) e
 exact h pZ _ σ H xs _ Q I1 (by simpa using rv) hw
noncomputable def Ro(te:TE)(g:TG):TS:=λD σ H=>te σ H λx H1=>g x σ H1 D.nx
theorem Gf{i:Nat}{x:Str}{e:Expr}{te:TE}{pos':Pos}(hN:X.N.Nodup)(hi:X.N[i]?=some x)(hx:Loc X.env.scope x)(he:PE X e te)(hs:iJ e (some (.Name x pos')) pos.line X.env=pure false:=by rfl)(hf:X.fn x=true\/X.env.scope.names.lookup x=some .local:=by first|exact .inl rfl|exact .inr rfl|assumption):
  PS X (.Assign [.Name x pos'] e pos) (Ro te (wL i)):=by
 intro pZ s σ H D I h;refine wpAny_Assign_Name (fj (he pZ s σ H _ I h) λv s1 h9=>?_) hs;obtain⟨y,H1,I1,r1,q1⟩:=h9;exact mm I1 hN hi hx r1 (λs2 I2=>#[_,H1,I2,q1]) hf
noncomputable def VT(i:Nat)(te:TE)(ti:Rm):TS:=λD σ H=>∃x,σ[i]?=some (some x)/\te σ H λy H1=>ti x y H1 λz H2=>D.nx (σ.set i (some z)) H2
theorem NB{i:Nat}{x:Str}{e:Expr}{te:TE}{op:mO}{ti:Rm}{pos':Pos}(hN:X.N.Nodup)(hi:X.N[i]?=some x)(hx:Loc X.env.scope x)(he:PE X e te)(ho:XG X op ti)(hf:X.fn x=true\/X.env.scope.names.lookup x=some .local:=by first|exact .inl rfl|exact .inr rfl|assumption):
  PS X (.AugAssign (.Name x pos') op e pos) (VT i te ti):=by
 intro pZ s σ H D I h;obtain⟨v,e1,h⟩:=h;obtain⟨m,hn,hl⟩:=I.loc;have vis:Ju X.env.scope x:=by rcases hx with k|k;exact .inl k;exact .inr (.inl k)
 obtain⟨u,r,l⟩:=hl i x v hi e1 vis;refine wpAny_AugAssign_Name ?_;have go:wpAny (aR X.prog X.w) X.A (eval e X.env) (λw s₂=>wpAny (aR X.prog X.w) X.A (gS op u w) (λr s₃=>wpAny (aR X.prog X.w) X.A (storeName X.env x r) (λ_=>SP X pZ D .next) X.xe s₃) X.xe s₂) X.xe s:=by
  refine fj (he pZ s σ H _ I h) λw s1 h9=>?_
  obtain⟨y,H1,I1,r1,q1⟩:=h9;refine fj (ho pZ s1 σ H1 v y u w _ I1 r r1 q1) λz s2 h9=>?_
  obtain⟨zv,H2,I2,r2,q2⟩:=h9;exact mm I2 hN hi hx r2 (λs3 I3=>#[_,H2,I3,q2]) hf
 rcases l with⟨hk,hm⟩|⟨hk,c,hc,hcell⟩
 .exact JG I.ok.kind hk hn hm go
 .rcases hk with hk|hk
  .exact wpAny_loadName_cell I.ok.kind hk hc hcell go
  .rcases hx with k|k
   .have:X.env.scope.names.lookup x=some .free:=hk
    rw[k] at this;cases this
   .have:X.env.scope.names.lookup x=some .free:=hk
    rw[k] at this;cases this
noncomputable def Rp(to ti te:TE)(tget:V->V->Hp->VK->Prop)(tip:Rm)(tset:NA):TS:=λD σ H=>to σ H λo H1=>ti σ H1 λi H2=>tget o i H2 λx H3=>te σ H3 λy H4=>tip x y H4 λz H5=>tset o i z H5 λH6=>D.nx σ H6
noncomputable def Rr(X:Cx)(t:V->V->Hp->VK->Prop):Prop:=
 ∀(pZ:List (Addr×Obj))(s:ak)(σ:St)(H:Hp)(o i:V)(ov iv:Value)(Q:VK),Inv X pZ σ H s->RelV o ov->RelV i iv->t o i H Q ->
  wpAny (aR X.prog X.w) X.A (vN ov iv) (EP X pZ σ Q) X.xe s
theorem JY{o i e:Expr}{to ti te:TE}{tget:V->V->Hp->VK->Prop}{tip:Rm}{tset:NA}{op:mO}{tpos:Pos}(ho:PE X o to)(hi:PE X i ti)(hg:Rr X tget)(he:PE X e te)(hp:XG X op tip)(hs:Rl X tset)
  (ha:∀ov iv new,augStore i ov iv new=(do holding [new,ov,iv] (setItem ov iv new);release [new,ov,iv] [];pure .next):=by intros;rfl):PS X (.AugAssign (.Subscript o i tpos) op e pos) (Rp to ti te tget tip tset):=by
 intro pZ s σ H D I h;refine wpAny_AugAssign_SubscriptAny (fj (ho pZ s σ H _ I h) λov s1 h9=>?_) ha;obtain⟨x1,H1,I1,r1,q1⟩:=h9;refine fj (hi pZ s1 σ H1 _ I1 q1) λiv s2 h9=>?_
 obtain⟨x2,H2,I2,r2,q2⟩:=h9;refine fj (hg pZ s2 σ H2 x1 x2 ov iv _ I2 r1 r2 q2) λold s3 h9=>?_
 obtain⟨x3,H3,I3,r3,q3⟩:=h9;refine fj (he pZ s3 σ H3 _ I3 q3) λv s4 h9=>?_
 obtain⟨x4,H4,I4,r4,q4⟩:=h9;refine fj (hp pZ s4 σ H4 x3 x4 old v _ I4 r3 r4 q4) λnew s5 h9=>?_
 obtain⟨x5,H5,I5,r5,q5⟩:=h9;refine fj (hs pZ s5 σ H5 x1 x2 x5 ov iv new _ I5 r1 r2 r5 q5) λ_ s6 h9=>?_
 obtain⟨H6,I6,q6⟩:=h9;exact#[σ,H6,I6,q6]
end
section
variable{X:Cx}{pos:Pos}
noncomputable def NC(c:TT)(tb:TS):TS:=λD σ H=>∃W:Nat->St->Hp->Prop,(∃m,W m σ H)/\∀m σ H,W m σ H ->
 c σ H λb H1=>if b=true then ∃N:St->Hp->Prop,(∀σ' H',N σ' H'->∃m',m'<m/\W m' σ' H')/\tb {D with nx:=N,ct:=N,bk:=D.nx} σ H1 else D.nx σ H1
theorem Gg{c:Expr}{body:List Stmt}{tc:TT}{tb:TS}(hp:Fw (aR X.prog X.w) X.A X.env X.xe)(hc:PT X c tc)(hb:sV X body tb):PS X (.While c body [] pos) (NC tc tb):=by
 intro pZ s σ H D I h;obtain⟨W,⟨m0,w0⟩,turn⟩:=h;refine wpAny_While (codeAny_whileLoop (λn s'=>∃σ' H',Inv X pZ σ' H' s'/\W n σ' H') ?_ m0 #[σ,H,I,w0]);rintro n s1 ⟨σ1,H1,I1,w1⟩;refine gF hp (fj (hc pZ s1 σ1 H1 _ I1 (turn n σ1 H1 w1)) λb s2 h9=>?_);obtain⟨H2,I2,q2⟩:=h9;cases b with
 |true=>
  obtain⟨N,hN,q2⟩:=q2;rw[if_pos rfl]
  refine gF hp (fj (hb pZ s2 σ1 H2 _ I2 q2) λf s3 q3=>?_);cases f with
  |next=>
   obtain⟨σ3,H3,I3,n3⟩:=q3;obtain⟨m',hm,w3⟩:=hN σ3 H3 n3;exact#[m',hm,σ3,H3,I3,w3]
  |cont=>
   obtain⟨σ3,H3,I3,n3⟩:=q3;obtain⟨m',hm,w3⟩:=hN σ3 H3 n3;exact#[m',hm,σ3,H3,I3,w3]
  |brk=>exact q3
  |ret v=>exact q3
 |false=>
  rw[if_neg aX]
  exact lR #[σ1,H2,I2,q2]
end
structure It where
 go:Nat->Hp->Prop
 Rt:Nat->Hp->V->Hp->Prop
 stop:Nat->Hp->Prop
noncomputable def pW(X:Cx)(pZ:List (Addr×Obj))(H:Hp)(b:Addr):Prop:=
 H b=none/\b≠X.env.locals/\b∉X.fs/\(b∈X.ex\/X.s₀.heap.objs.size<=b)/\(∀x c,X.env.cells.lookup x=some c->c≠b)/\∀p∈X.pn++pZ,p.1≠b
theorem Inv.Er{X:Cx}{pZ:List (Addr×Obj)}{σ:St}{H H':Hp}{s:ak}{b:Addr}(I:Inv X pZ σ H s)(hb:s.heap.objs.size<=b)(hn:H' b=none):pW X pZ H' b:=by
 refine#[hn,kK (aM I.lt hb),I.VH hb,.inr (aT I.sz hb),λx c e z=>?_,λp hp z=>?_]
 .obtain⟨v,q⟩:=I.cell x c e
  exact absurd (aM q.lt (by rw[z];exact hb)) (dJ _)
 .exact absurd (aM (aL (I.pin p hp).1) (by rw[z];exact hb)) (dJ _)
structure Turn(P:bC)(w:bZ)(K:aF)(tg:Expr)(J:It)(fp:List Addr)(it:Addr)(tn:Nat->Heap->Prop):Prop where
 mem:it∈fp
 obj:∀i h,tn i h->∀b∈fp,∃o,h.get? b=some o/\∀v,o.data≠.cell v
 keep:∀i h h',tn i h->(∀b∈fp,∀o,h.get? b=some o->h'.get? b=some o)->tn i h'
 item:∀(X:Cx),X.prog=P->X.w=w->X.K=K->X.calm=true->∀(i:Nat)(pZ:List (Addr×Obj))(s:ak)(σ:St)(H:Hp)(E:Value->ak->Prop),Inv X pZ σ H s->(∀b∈fp,pW X pZ H b)->tn i s.heap->J.go i H ->
  wpAny (aR P w) X.A (pyNext (.ref it)) (λr s1=>∃u,r=some u /\
   wpAny (aR P w) X.A (qg tg (.ref it) u) (λ_ s2=>∃x H',Inv X pZ σ H' s2/\RelV x u/\J.Rt i H x H'/\tn (i+1) s2.heap/\∀b∈fp,H' b=none) E s1) E s
 done:∀(X:Cx),X.prog=P->X.w=w->X.K=K->X.calm=true->∀(i:Nat)(pZ:List (Addr×Obj))(s:ak)(σ:St)(H:Hp)(E:Value->ak->Prop),Inv X pZ σ H s->(∀b∈fp,pW X pZ H b)->tn i s.heap->J.stop i H ->
  wpAny (aR P w) X.A (pyNext (.ref it)) (λr s1=>r=none/\Inv X pZ σ H s1) E s
 self:∀(A:cB)(i:Nat)(s:ak)(Q:Value->ak->Prop)(E:Value->ak->Prop),tn i s.heap->Q (.ref it) s->wpAny (aR P w) A (pyIter (.ref it)) Q E s
abbrev TI:=St->Hp->(It->Hp->Prop)->Prop
noncomputable def VU(X:Cx)(pZ:List (Addr×Obj))(σ:St)(tg:Expr)(R:It->Hp->Prop)(itv:Value)(s2:ak):Prop:=
 ∃(it:Addr)(fp:List Addr)(tn:Nat->Heap->Prop)(J:It)(H':Hp),itv=.ref it/\Inv X pZ σ H' s2/\Turn X.prog X.w X.K tg J fp it tn/\tn 0 s2.heap/\(∀b∈fp,pW X pZ H' b)/\R J H'
noncomputable def PI(X:Cx)(tg iter:Expr)(wi:TI):Prop:=
 ∀(pZ:List (Addr×Obj))(s:ak)(σ:St)(H:Hp)(R:It->Hp->Prop),Inv X pZ σ H s->wi σ H R ->
  wpAny (aR X.prog X.w) X.A (eval iter X.env) (λv s1=>wpAny (aR X.prog X.w) X.A (pyIter v) (VU X pZ σ tg R) X.xe s1) X.xe s
theorem C4{M:Fv}{A:cB}{E:Value->ak->Prop}{s:ak}{tg:Expr}{it:Addr}{u:Value}{o:Obj}{n:String}{vs:Array Value}{Q:Unit->ak->Prop}(ho:s.heap.get? it=some o)(hc:o.cls=.type n)(hd:o.data=.fields vs)
    (hn:["enumerate","zip","dict_itemiterator","dict_reverseitemiterator","odict_iterator","itertools.zip_longest","itertools.pairwise"].contains n=false) (hQ:Q () s):wpAny M A (qg tg (.ref it) u) Q E s:=by
  unfold qg;cases tg<;>first
    |exact aK hQ
    | (cases u<;>first
        |exact aK hQ
        | (refine aj (wpAny_load ho ?_)
           rw[hc,hd]
           show wpAny M A (if (["enumerate","zip","dict_itemiterator","dict_reverseitemiterator","odict_iterator","itertools.zip_longest","itertools.pairwise"].contains n&&vs[0]?==some (pP _))=true then _ else _) Q E s
           rw[if_neg (by intro h;rw[hn,Bool.false_and] at h;cases h)]
           exact aK hQ))
noncomputable def VV(K:aF)(a:Addr):It:=
 #[λi H=>∃xs x,gH K H a xs/\xs[i]?=some x,λi H x H'=>H'=H/\∀xs,gH K H a xs->xs[i]?=some x,λi H=>∃xs,gH K H a xs/\xs.length<=i]
noncomputable def VW(K:aF)(a:Addr):It:=
 #[λi H=>∃xs x,lU K H a xs/\xs[i]?=some x,λi H x H'=>H'=H/\∀xs,lU K H a xs->xs[i]?=some x,λi H=>∃xs,lU K H a xs/\xs.length<=i]
noncomputable def Vc(lo:Int)(n:Nat):It:=#[λi _=>i<n,λi H x H'=>H'=H/\x=.int (lo+i),λi _=>n<=i]
theorem Es{P:bC}{w:bZ}{K:aF}{tg:Expr}(a it:Addr):Turn P w K tg (VV K a) [it] it (λi h=>h.IsListIter it a i) where
 mem:=by simp
 obj:=λi h st b hb=>by
  have e:b=it:=by simpa using hb
  subst e;obtain⟨o,e,c,d⟩:=st;exact#[o,e,λv z=>by rw[d] at z;cases z]
 keep:=λi h h' st k=>st.at λo e=>k it (by simp) o e
 item:=by
  intro X hP hw hK hc i pZ s σ H E I hf st hg;subst hP hw hK;obtain⟨xs,x,hq,hx⟩:=hg;obtain⟨its,rv,p,hz⟩:=I.list hq;obtain⟨u,hu,ru⟩:=rv.get hx;obtain⟨f0,f1,f2,f3,f4,f5⟩:=hf it (by simp);refine FP st p.isList (x:=u) (by simpa using hu) λh' st' sb=>?_
  have I1:Inv X pZ σ H {s with heap:=h'}:=I.turned (t':=s.toks) (λb o hb e=>(sb.2 b hb).trans e) f0 f1 f3 f4 f5;obtain⟨o,e,c,d⟩:=id st';exact#[u,rfl,C4 (s:={s with heap:=h'}) e c d ⋯ #[x,H,I1,ru,#[rfl,λys hy=>by rw[I.ug hy hq];exact hx],st',λb hb=>(hf b hb).1]]
 done:=by
  intro X hP hw hK hc i pZ s σ H E I hf st hg;subst hP hw hK;obtain⟨xs,hq,hx⟩:=hg;obtain⟨its,rv,p,hz⟩:=I.list hq;obtain⟨f0,f1,f2,f3,f4,f5⟩:=hf it (by simp);have hl:=rv.length;exact Ji (I.ok.hd hc) st p.isList (by simp;omega) λh' eb=>#[rfl,I.turned (t':=s.toks) (λb o hb e=>eb b o hb e) f0 f1 f3 f4 f5]
 self:=λ_ _ _ _ _ st h=>wpAny_pyIter_listiter st h
theorem BC{P:bC}{w:bZ}{K:aF}{tg:Expr}(a it:Addr):Turn P w K tg (VW K a) [it] it (λi h=>h.IsTupleIter it a i) where
 mem:=by simp
 obj:=λi h st b hb=>by
  have e:b=it:=by simpa using hb
  subst e;obtain⟨o,e,c,d⟩:=st;exact#[o,e,λv z=>by rw[d] at z;cases z]
 keep:=λi h h' st k=>st.at λo e=>k it (by simp) o e
 item:=by
  intro X hP hw hK hc i pZ s σ H E I hf st hg;subst hP hw hK;obtain⟨xs,x,hq,hx⟩:=hg;obtain⟨its,rv,p,hz⟩:=I.tuple hq;obtain⟨u,hu,ru⟩:=rv.get hx;obtain⟨f0,f1,f2,f3,f4,f5⟩:=hf it (by simp);refine wpAny_pyNext_tuple_item st (show s.heap.IsTuple a its.toArray from p) (x:=u) (by simpa using hu) λh' st' sb=>?_
  have I1:Inv X pZ σ H {s with heap:=h'}:=I.turned (t':=s.toks) (λb o hb e=>(sb.2 b hb).trans e) f0 f1 f3 f4 f5;obtain⟨o,e,c,d⟩:=id st';exact#[u,rfl,C4 (s:={s with heap:=h'}) e c d ⋯ #[x,H,I1,ru,#[rfl,λys hy=>by rw[I.wK hy hq];exact hx],st',λb hb=>(hf b hb).1]]
 done:=by
  intro X hP hw hK hc i pZ s σ H E I hf st hg;subst hP hw hK;obtain⟨xs,hq,hx⟩:=hg;obtain⟨its,rv,p,hz⟩:=I.tuple hq;obtain⟨f0,f1,f2,f3,f4,f5⟩:=hf it (by simp);have hl:=rv.length;exact wpAny_pyNext_tuple_end (I.ok.hd hc) st (show s.heap.IsTuple a its.toArray from p) (by simp;omega) λh' eb=>#[rfl,I.turned (t':=s.toks) (λb o hb e=>eb b o hb e) f0 f1 f3 f4 f5]
 self:=λ_ _ _ _ _ st h=>wpAny_pyIter_tupleiter st h
theorem BD{P:bC}{w:bZ}{K:aF}{tg:Expr}(it:Addr)(lo:Int)(n:Nat):Turn P w K tg (Vc lo n) [it] it (λi h=>IsRangeIter h it (lo+(i:Nat)*1) ((n:Int)-(i:Nat)) 1) where
 mem:=by simp
 obj:=λi h st b hb=>by
  have e:b=it:=by simpa using hb
  subst e;exact#[_,st,λv z=>by
   have z':Data.fields _=Data.cell v:=z;cases z']
 keep:=λi h h' st k=>k it (by simp) _ st
 item:=by
  intro X hP hw hK hc i pZ s σ H E I hf st hg;subst hP hw hK;obtain⟨f0,f1,f2,f3,f4,f5⟩:=hf it (by simp);have W:=Walks.range (prog:=X.prog) (w:=X.w) (I.ok.hd hc) it lo 1 n;refine W.item i s _ _ hg st λv h' tk hv st' kk=>?_
  obtain⟨t,rfl⟩:=hv;have I1:Inv X pZ σ H {s with heap:=h',toks:=tk}:=I.turned (λb o hb e=>kk b o (by simpa using hb) e) f0 f1 f3 f4 f5;refine#[_,rfl,C4 (s:={s with heap:=h',toks:=tk}) (n:="range_iterator") st' rfl rfl ⋯ #[.int (lo+i),H,I1,#[t,?_],#[rfl,rfl],st',λb hb=>(hf b hb).1]];rw[Int.mul_one]
 done:=by
  intro X hP hw hK hc i pZ s σ H E I hf st hg;subst hP hw hK;obtain⟨f0,f1,f2,f3,f4,f5⟩:=hf it (by simp);exact wpAny_pyNext_range_end (I.ok.hd hc) st (by have:n<=i:=hg;omega) λh' eb=>#[rfl,I.turned (t':=s.toks) (λb o hb e=>eb b o hb e) f0 f1 f3 f4 f5]
 self:=λ_ _ _ _ _ st h=>wpAny_pyIter_rangeiter st h
section
variable{X:Cx}{tg:Expr}
theorem Gh{pZ:List (Addr×Obj)}{σ:St}{H:Hp}{s:ak}{R:It->Hp->Prop}{E:Value->ak->Prop}{lo hi:Int}{t u v:Tok}{tk:Nat}(I:Inv X pZ σ H s)(h1:-(2^62)<=lo)(h2:lo<2^62)(h3:-(2^62)<=hi)(h4:hi<2^62)
  (q:R (Vc lo (hi-lo).toNat) H):wpAny (aR X.prog X.w) X.A (pyIter (.ref s.heap.objs.size)) (VU X pZ σ tg R) E {s with heap:=s.heap.push {cls:=.type "range",data:=.fields (List.toArray [.int lo t,.int hi u,.int 1 v])},toks:=tk}:=by
 refine wpAny_pyIter_range (IsRange.new ..) (small_one h1 h2 h3 h4) ?_;have I1:Inv X pZ σ H {s with heap:=s.heap.push {cls:=.type "range",data:=.fields (List.toArray [.int lo t,.int hi u,.int 1 v])},toks:=tk}:=I.kept λb o e=>aA _ e
 refine#[(s.heap.push {cls:=.type "range",data:=.fields (List.toArray [.int lo t,.int hi u,.int 1 v])}).objs.size,[(s.heap.push {cls:=.type "range",data:=.fields (List.toArray [.int lo t,.int hi u,.int 1 v])}).objs.size],_,_,H,rfl,
  I1.kept (t':=tk) λb o e=>aA _ e,BD _ lo (hi-lo).toNat,?_,λb hb=>?_,q]
 .have e1:lo+((0:Nat):Int)*1=lo:=by simp
  have e2:(((hi-lo).toNat:Nat):Int)-((0:Nat):Int)=Builtin.Range.rangeSize lo hi 1:=by rw[rangeSize_one];split<;>omega
  show IsRangeIter _ _ (lo+((0:Nat):Int)*1) ((((hi-lo).toNat:Nat):Int)-((0:Nat):Int)) 1
  rw[e1,e2]
  exact bz _ rfl
 .have e:b=(s.heap.push {cls:=.type "range",data:=.fields (List.toArray [.int lo t,.int hi u,.int 1 v])}).objs.size:=by simpa using hb
  subst e;exact I1.Er (ax _) (I1.dg.fresh (ax _))
noncomputable def Ru(ta:TA):TI:=λσ H R=>ta σ H λvs H1=>∃j:Int,vs=[.int j]/\-(2^62)<=j/\j<2^62/\R (Vc 0 j.toNat) H1
theorem Et{a:Expr}{ta:TA}{p pos:Pos}(hg:Gl X "range")(hm:X.mg "range"=none)(ha:PA X [a] ta)(hs:bS [a] X.env=[(false,eval a X.env)]:=by rfl):PI X tg (.Call (.Name "range" p) [a] [] pos) (Ru ta):=by
 intro pZ s σ H R I h;refine Call_ (pV I hg hm boot_range (jb (fj (ha pos pZ s σ H _ I h) λus s1 h9=>?_) hs rfl));obtain⟨vs,H1,I1,r1,q1⟩:=h9;obtain⟨j,e,q1,q2,q⟩:=q1;subst e;cases r1 with
 |cons r rr=>
  cases rr;obtain⟨t,rfl⟩:=r;exact call_range_1 (Gh I1 ∅ ∅ q1 q2 (by simpa using q))
noncomputable def VX(wi:TI)(g:TG)(tb:TS):TS:=λD σ H=>wi σ H λJ H1=>∃W:Nat->Nat->St->Hp->Prop,(∃m,W 0 m σ H1)/\∀i m σ H,W i m σ H ->
 (J.stop i H/\D.nx σ H)\/(J.go i H/\∃N:St->Hp->Prop,(∀σ' H',N σ' H'->∃m',m'<m/\W (i+1) m' σ' H')/\∀x H',J.Rt i H x H'->g x σ H' λσ2 H2=>tb {D with nx:=N,ct:=N,bk:=D.nx} σ2 H2)
noncomputable def rh(fp:List Addr)(h:Heap):List (Addr×Obj):=fp.filterMap λb=>(h.get? b).map λo=>(b,o)
theorem mT{fp:List Addr}{h:Heap}{b:Addr}{o:Obj}(hb:b∈fp)(e:h.get? b=some o):(b,o)∈rh fp h:=kX.mpr #[b,hb,by rw[e];rfl]
theorem Eu{fp:List Addr}{h:Heap}{p:Addr×Obj}(hp:p∈rh fp h):p.1∈fp/\h.get? p.1=some p.2:=by
 obtain⟨b,hb,e⟩:=kX.mp hp;cases q:h.get? b with
 |none=>rw[q] at e;cases e
 |some o=>
  rw[q] at e;have e':(b,o)=p:=aG e;subst e';exact#[hb,q]
theorem Inv.pinned{pZ:List (Addr×Obj)}{σ:St}{H:Hp}{s:ak}{fp:List Addr}(I:Inv X pZ σ H s)(hf:∀b∈fp,pW X pZ H b)(ho:∀b∈fp,∃o,s.heap.get? b=some o/\∀v,o.data≠.cell v):Inv X (pZ++rh fp s.heap) σ H s:=
 I.C1 λp hp=>(aE.mp hp).elim (λz=>I.pin p (aW _ z)) λz=>by
  obtain⟨hb,e⟩:=Eu z;obtain⟨f0,f1,f2,_⟩:=hf p.1 hb;obtain⟨o,e',d⟩:=ho p.1 hb;rw[e] at e';cases e';exact#[e,f0,f1,f2,d]
theorem Inv.qp{pZ pl:List (Addr×Obj)}{σ:St}{H:Hp}{s:ak}(I:Inv X (pZ++pl) σ H s):Inv X pZ σ H s:=I.C1 λp hp=>I.pin p (aW _ (bT _ hp))
theorem ND{iter:Expr}{body:List Stmt}{wi:TI}{g:TG}{tb:TS}{pos:Pos}(hp:Fw (aR X.prog X.w) X.A X.env X.xe)(hc:X.calm=true)(hi:PI X tg iter wi)(hg:PG X tg g)(hb:sV X body tb)
  (hs:∀x,foldedSetIterable iter X.env x=pure x:=by intro _;rfl):PS X (.For tg iter body [] pos) (VX wi g tb):=by
 intro pZ s σ H D I h;refine wpAny_For (fj (hi pZ s σ H _ I h) λv s1 h1=>fj h1 λitv s2 h2=>?_) hs;obtain⟨it,fp,tn,J,H2,e,I2,T,st2,f2,W,⟨m0,w0⟩,turn⟩:=h2;subst e;have stat:∀{H':Hp},(∀b∈fp,H' b=none)->∀b∈fp,pW X pZ H' b:=λhn b hb=>#[hn b hb,(f2 b hb).2]
 refine codeAny_forLoop_any (λn s'=>∃i σ' H',Inv X pZ σ' H' s'/\tn i s'.heap/\(∀b∈fp,H' b=none)/\W i n σ' H') ?_ m0 #[0,σ,H2,I2,st2,λb hb=>(f2 b hb).1,w0];rintro n s3 ⟨i,σ3,H3,I3,st3,fr3,w3⟩;rcases turn i n σ3 H3 w3 with⟨stop,qn⟩|⟨go,N,hN,step⟩
 .refine gF hp (fj (T.done X rfl rfl rfl hc i pZ s3 σ3 H3 X.xe I3 (stat fr3) st3 stop) λr s4 h9=>?_)
  obtain⟨hr,I4⟩:=h9;subst hr;exact lR #[σ3,H3,I4,qn]
 .refine gF hp (fj (T.item X rfl rfl rfl hc i pZ s3 σ3 H3 X.xe I3 (stat fr3) st3 go) λr s4 h9=>?_)
  obtain⟨u,hr,h4⟩:=h9;subst hr;refine gF hp (fj h4 λ_ s5 h9=>?_);obtain⟨x,H5,I5,r5,y5,st5,fr5⟩:=h9;have I5':=I5.pinned (stat fr5) (T.obj _ _ st5);refine gF hp (fj (hg _ s5 σ3 H5 x u _ I5' r5 (step x H5 y5)) λ_ s6 h9=>?_);obtain⟨σ6,H6,I6,q6⟩:=h9;refine gF hp (fj (hb _ s6 σ6 H6 _ I6 q6) λf s7 q7=>?_);have again:∀{σ7:St}{H7:Hp},Inv X (pZ++rh fp s5.heap) σ7 H7 s7->N σ7 H7->∃m,m<n/\∃i σ' H',Inv X pZ σ' H' s7/\tn i s7.heap/\(∀b∈fp,H' b=none)/\W i m σ' H':=λ{σ7 H7}I7 n7=>by
   obtain⟨m',hm,w7⟩:=hN σ7 H7 n7;refine#[m',hm,i+1,σ7,H7,I7.qp,T.keep _ _ _ st5 λb hb o e=>(I7.pin (b,o) (aW _ (aW _ (mT hb e)))).1,λb hb=>?_,w7];obtain⟨o,e,d⟩:=T.obj _ _ st5 b hb;exact(I7.pin (b,o) (aW _ (aW _ (mT hb e)))).2.1
  cases f with
  |next=>obtain⟨σ7,H7,I7,n7⟩:=q7;exact again I7 n7
  |cont=>obtain⟨σ7,H7,I7,n7⟩:=q7;exact again I7 n7
  |brk=>obtain⟨σ7,H7,I7,q7⟩:=q7;exact#[σ7,H7,I7.qp,q7]
  |ret v=>obtain⟨x7,σ7,H7,I7,r7,q7⟩:=q7;exact#[x7,σ7,H7,I7.qp,r7,q7]
end
abbrev R2:=V->V->Hp->VK->Prop
noncomputable def gw(X:Cx)(f:Value->Value->Sem Value)(r:R2):Prop:=
 ∀(pZ:List (Addr×Obj))(s:ak)(σ:St)(H:Hp)(x y:V)(v u:Value)(Q:VK),Inv X pZ σ H s->RelV x v->RelV y u->r x y H Q ->
  wpAny (aR X.prog X.w) X.A (f v u) (EP X pZ σ Q) X.xe s
noncomputable def VY(X:Cx)(f:Value->Sem Value)(r:V->Hp->VK->Prop):Prop:=
 ∀(pZ:List (Addr×Obj))(s:ak)(σ:St)(H:Hp)(x:V)(v:Value)(Q:VK),Inv X pZ σ H s->RelV x v->r x H Q ->
  wpAny (aR X.prog X.w) X.A (f v) (EP X pZ σ Q) X.xe s
noncomputable def iP(X:Cx)(f:Value)(r:List V->Hp->VK->Prop):Prop:=
 ∀(pZ:List (Addr×Obj))(s:ak)(σ:St)(H:Hp)(xs:List V)(us:List Value)(Q:VK),Inv X pZ σ H s->Vals xs us->r xs H Q ->
  wpAny (aR X.prog X.w) X.A (call f us) (EP X pZ σ Q) X.xe s
noncomputable def VZ(X:Cx)(r:V->Hp->(Bool->Hp->Prop)->Prop):Prop:=
 ∀(pZ:List (Addr×Obj))(s:ak)(σ:St)(H:Hp)(x:V)(v:Value)(Q:Bool->Hp->Prop),Inv X pZ σ H s->RelV x v->r x H Q ->
  wpAny (aR X.prog X.w) X.A (truthy v) (TP X pZ σ Q) X.xe s
noncomputable def Vd(r:R2)(ta tb:TE):TE:=λσ H Q=>ta σ H λx H1=>tb σ H1 λy H2=>r x y H2 Q
noncomputable def YT(r:V->Hp->VK->Prop)(ta:TE):TE:=λσ H Q=>ta σ H λx H1=>r x H1 Q
noncomputable def rI(C:Int->Int->Prop)(g:Int->Int->V):R2:=λx y H Q=>∃i j,x=.int i/\y=.int j/\C i j/\Q (g i j) H
noncomputable def Ew(g:Int->Int->V):R2:=λx y H Q=>∃i j,x=.int i/\y=.int j/\Q (g i j) H
noncomputable def rU(g:Int->V):V->Hp->VK->Prop:=λx H Q=>∃i,x=.int i/\Q (g i) H
section
variable{X:Cx}{a b c:Expr}{ta tb tc:TE}{pos:Pos}
theorem NF(ha:PE X a ta)(hb:PE X b tb){pZ:List (Addr×Obj)}{s:ak}{σ:St}{H:Hp}{R:V->V->Hp->Prop}(I:Inv X pZ σ H s)
  (h:ta σ H λx H1=>tb σ H1 λy H2=>R x y H2){Q:Value->ak->Prop}{f:Value->Value->Sem Value}
  (hf:∀v u s2 x y H2,Inv X pZ σ H2 s2->RelV x v->RelV y u->R x y H2->wpAny (aR X.prog X.w) X.A (f v u) Q X.xe s2):
  wpAny (aR X.prog X.w) X.A (eval a X.env) (λv s₁=>wpAny (aR X.prog X.w) X.A (eval b X.env) (λu s₂=>wpAny (aR X.prog X.w) X.A (f v u) Q X.xe s₂) X.xe s₁) X.xe s:=by
 refine fj (ha pZ s σ H _ I h) λv s1 h9=>?_
 obtain⟨x,H1,I1,r1,q1⟩:=h9;refine fj (hb pZ s1 σ H1 _ I1 q1) λu s2 h9=>?_
 obtain⟨y,H2,I2,r2,q2⟩:=h9;exact hf v u s2 x y H2 I2 r1 r2 q2
theorem Rv{op:mO}{r:R2}(ho:gw X (cA op) r)(ha:PE X a ta)(hb:PE X b tb):PE X (.BinOp a op b pos) (Vd r ta tb):=by
 intro pZ s σ H Q I h;exact wpAny_BinOp (NF ha hb I h λv u s2 x y H2 I2 rx ry q=>ho pZ s2 σ H2 x y v u Q I2 rx ry q)
theorem Rw{op:UnaryOp}{r:V->Hp->VK->Prop}(ho:VY X (unaryOp op) r)(ha:PE X a ta):PE X (.UnaryOp op a pos) (YT r ta):=by
 intro pZ s σ H Q I h;refine UnaryOp_ (fj (ha pZ s σ H _ I h) λv s1 h9=>?_);obtain⟨x,H1,I1,r1,q1⟩:=h9;exact ho pZ s1 σ H1 x v Q I1 r1 q1
theorem Rx{f:Value->Value->Sem Value}{C:Int->Int->Prop}{g:Int->Int->Int}
  (rule:∀(i j:Int)(t u:Tok)(s:ak)(Q:Value->ak->Prop)(E:Value->ak->Prop),C i j->Q (.int (g i j) s.toks) {s with toks:=s.toks+1}->wpAny (aR X.prog X.w) X.A (f (.int i t) (.int j u)) Q E s):
  gw X f (rI C λi j=>.int (g i j)):=by
 intro pZ s σ H x y v u Q I rx ry h;obtain⟨i,j,rfl,rfl,hc,q⟩:=h;obtain⟨t,rfl⟩:=rx;obtain⟨t',rfl⟩:=ry;exact rule i j t t' s _ _ hc #[.int (g i j),H,I.tok _,#[_,rfl],q]
theorem BE{f:Value->Value->Sem Value}{g:Int->Int->Int}
  (rule:∀(i j:Int)(t u:Tok)(s:ak)(Q:Value->ak->Prop)(E:Value->ak->Prop),Q (.int (g i j) s.toks) {s with toks:=s.toks+1}->wpAny (aR X.prog X.w) X.A (f (.int i t) (.int j u)) Q E s):
  gw X f (Ew λi j=>.int (g i j)):=by
 intro pZ s σ H x y v u Q I rx ry h;obtain⟨i,j,rfl,rfl,q⟩:=h;obtain⟨t,rfl⟩:=rx;obtain⟨t',rfl⟩:=ry;exact rule i j t t' s _ _ #[.int (g i j),H,I.tok _,#[_,rfl],q]
theorem JZ{f:Value->Value->Sem Value}{g:Int->Int->Bool}
  (rule:∀(i j:Int)(t u:Tok)(s:ak)(Q:Value->ak->Prop)(E:Value->ak->Prop),Q (.bool (g i j)) s->wpAny (aR X.prog X.w) X.A (f (.int i t) (.int j u)) Q E s):
  gw X f (Ew λi j=>.bl (g i j)):=by
 intro pZ s σ H x y v u Q I rx ry h;obtain⟨i,j,rfl,rfl,q⟩:=h;obtain⟨t,rfl⟩:=rx;obtain⟨t',rfl⟩:=ry;exact rule i j t t' s _ _ #[.bl (g i j),H,I,rfl,q]
noncomputable def V0(i j:Int):Prop:=0<j/\j<1073741824
noncomputable def V1(i j:Int):Prop:=0<=j/\j<=1000000/\i.natAbs<2^64
noncomputable def NG(i j:Int):Prop:=(-(2^64)<i/\i<2^64)\/(-(2^64)<j/\j<2^64)
theorem NG.ok{i j:Int}(h:NG i j):IntMulOk i j:=by
 rcases h with⟨h1,h2⟩|⟨h1,h2⟩
 .exact .of_left (intBits_le_64 h1 h2)
 .exact .of_right (intBits_le_64 h1 h2)
theorem two_pow_nn(k:Nat):(0:Int)<=2^k:=by
 rw[two_pow_cast]
 exact Int.natCast_nonneg _
theorem NH:gw X (cA .Add) (Ew λi j=>.int (i+j)):=BE λ_ _ _ _ _ _ _ q=>add_int q
theorem NI:gw X (cA .Sub) (Ew λi j=>.int (i-j)):=BE λ_ _ _ _ _ _ _ q=>sub_int q
theorem NJ:gw X (cA .Mult) (rI NG λi j=>.int (i*j)):=Rx λ_ _ _ _ _ _ _ hc q=>mul_int q hc.ok
theorem J0:gw X (cA .FloorDiv) (rI V0 λi j=>.int (i/j)):=Rx λi j _ _ _ _ _ hc q=>by
 have h1:(0:Int)<j:=hc.1;have h2:j<1073741824:=hc.2;exact floordiv_int ∅ (by rw[yb i ∅];exact q) (.inl (PyProof.noPylong_small ∅))
theorem NK:gw X (cA .Mod) (rI (λ_ j=>0<j) λi j=>.int (i%j)):=Rx λi j _ _ _ _ _ hc q=>by
 have h1:(0:Int)<j:=hc;exact mod_int' ∅ (by rw[Int.fmod_eq_emod_of_nonneg i ∅];exact q)
theorem NL:gw X (cA .LShift) (rI V1 λi j=>.int (i*2^j.toNat)):=Rx λ_ _ _ _ _ _ _ hc q=>lshift_int_small hc.1 hc.2.1 hc.2.2 q
theorem NM:gw X (cA .RShift) (rI (λ_ j=>0<=j) λi j=>.int (i/2^j.toNat)):=Rx λi j _ _ _ _ _ hc q=>
 rshift_int hc (by rw[yb i (two_pow_nn _)];exact q)
theorem NN:gw X (cA .BitAnd) (Ew λi j=>.int (Builtin.bitAnd i j)):=BE λ_ _ _ _ _ _ _ q=>and_int q
theorem Ry:gw X (cA .BitOr) (Ew λi j=>.int (Builtin.bitOr i j)):=BE λ_ _ _ _ _ _ _ q=>or_int q
theorem J1:gw X (gS .Add) (Ew λi j=>.int (i+j)):=BE λ_ _ _ _ _ _ _ q=>iadd_int q
theorem J2:gw X (gS .Sub) (Ew λi j=>.int (i-j)):=BE λ_ _ _ _ _ _ _ q=>isub_int q
theorem NO:gw X (gS .BitOr) (Ew λi j=>.int (Builtin.bitOr i j)):=BE λ_ _ _ _ _ _ _ q=>ior_int q
theorem YU{f:Value->Sem Value}{g:Int->Int}
  (rule:∀(i:Int)(t:Tok)(s:ak)(Q:Value->ak->Prop)(E:Value->ak->Prop),Q (.int (g i) s.toks) {s with toks:=s.toks+1}->wpAny (aR X.prog X.w) X.A (f (.int i t)) Q E s):
  VY X f (rU λi=>.int (g i)):=by
 intro pZ s σ H x v Q I rx h;obtain⟨i,rfl,q⟩:=h;obtain⟨t,rfl⟩:=rx;exact rule i t s _ _ #[.int (g i),H,I.tok _,#[_,rfl],q]
theorem NP:VY X (unaryOp .USub) (rU λi=>.int (-i)):=YU λ_ _ _ _ _ q=>neg_int q
end
noncomputable def NQ:V->V->Bool
 |.bK,.bK=>true|.bK,.int _=>true|.int _,.bK=>true|.bK,.bl _=>true|.bl _,.bK=>true|.bK,.str _=>true|.str _,.bK=>true
 |.int _,.int _=>true|.bl _,.bl _=>true|.str _,.str _=>true|.Bh _,.Bh _=>true
 |.int _,.str _=>true|.str _,.int _=>true|.bl _,.str _=>true|.str _,.bl _=>true
 |_,_=>false
noncomputable def YV:R2:=λx y H Q=>NQ x y=true/\Q (.bl (decide (x=y))) H
noncomputable def YW:R2:=λx y H Q=>NQ x y=true/\Q (.bl (!decide (x=y))) H
theorem yC{i j:Int}:decide (V.int i=V.int j)=(i==j):=by
 rw[cY]
 simp
theorem BF{i j:Bool}:decide (V.bl i=V.bl j)=(i==j):=by
 rw[cY]
 simp
theorem C5{i j:Str}:decide (V.str i=V.str j)=(i==j):=by
 rw[cY]
 simp
theorem C6{i j:Array UInt8}:decide (V.Bh i=V.Bh j)=(i.toList==j.toList):=by
 rw[cY]
 cases i;cases j;simp
section
variable{X:Cx}{a b c:Expr}{ta tb tc:TE}{pos:Pos}
theorem cG{pZ:List (Addr×Obj)}{σ:St}{H:Hp}{s:ak}{Q:VK}{k k':Bool}(I:Inv X pZ σ H s)(q:Q (.bl k) H)(e:k=k'):EP X pZ σ Q (.bool k') s:=by
 subst e;exact#[.bl k,H,I,rfl,q]
theorem Rz:gw X (bD .Eq) YV:=by
 intro pZ s σ H x y v u Q I rx ry h;obtain⟨hs,q⟩:=h;cases x with
 |bK=>
  cases rx;cases y with
  |bK=>cases ry;exact PySem.EqNone.eq_none_none (cG I q (by simp))
  |bl j=>cases ry;exact PySem.EqNone.eq_none_bool (cG I q (by simp))
  |int j=>obtain⟨t',rfl⟩:=ry;exact PySem.EqNone.eq_none_int (cG I q (by simp))
  |str j=>obtain⟨t',rfl⟩:=ry;exact PySem.EqNone.eq_none_str (cG I q (by simp))
  |_=>exact absurd (show false=true from hs) aX
 |bl i=>
  cases rx;cases y with
  |bK=>cases ry;exact PySem.EqNone.eq_bool_none (cG I q (by simp))
  |bl j=>cases ry;exact eq_bool (cG I q BF)
  |str j=>obtain⟨t',rfl⟩:=ry;exact PySem.EqMixed.eq_bool_str (cG I q (by simp))
  |_=>exact absurd (show false=true from hs) aX
 |int i=>
  obtain⟨t,rfl⟩:=rx;cases y with
  |bK=>cases ry;exact PySem.EqNone.eq_int_none (cG I q (by simp))
  |int j=>obtain⟨t',rfl⟩:=ry;exact eq_int (cG I q yC)
  |str j=>obtain⟨t',rfl⟩:=ry;exact PySem.EqMixed.eq_int_str (cG I q (by simp))
  |_=>exact absurd (show false=true from hs) aX
 |str i=>
  obtain⟨t,rfl⟩:=rx;cases y with
  |bK=>cases ry;exact PySem.EqNone.eq_str_none (cG I q (by simp))
  |bl j=>cases ry;exact PySem.EqMixed.eq_str_bool (cG I q (by simp))
  |int j=>obtain⟨t',rfl⟩:=ry;exact PySem.EqMixed.eq_str_int (cG I q (by simp))
  |str j=>obtain⟨t',rfl⟩:=ry;exact eq_str (cG I q C5)
  |_=>exact absurd (show false=true from hs) aX
 |Bh i=>
  obtain⟨t,rfl⟩:=rx;cases y with
  |Bh j=>obtain⟨t',rfl⟩:=ry;exact PySem.W.eq_bytes (cG I q C6)
  |_=>exact absurd (show false=true from hs) aX
 |_=>cases y<;>exact absurd (show false=true from hs) aX
theorem RA:gw X (bD .NotEq) YW:=by
 intro pZ s σ H x y v u Q I rx ry h;obtain⟨hs,q⟩:=h;cases x with
 |bK=>
  cases rx;cases y with
  |bK=>cases ry;exact PySem.EqNone.ne_none_none (cG I q (by simp))
  |bl j=>cases ry;exact PySem.EqNone.ne_none_bool (cG I q (by simp))
  |int j=>obtain⟨t',rfl⟩:=ry;exact PySem.EqNone.ne_none_int (cG I q (by simp))
  |str j=>obtain⟨t',rfl⟩:=ry;exact PySem.EqNone.ne_none_str (cG I q (by simp))
  |_=>exact absurd (show false=true from hs) aX
 |bl i=>
  cases rx;cases y with
  |bK=>cases ry;exact PySem.EqNone.ne_bool_none (cG I q (by simp))
  |bl j=>cases ry;exact ne_bool (cG I q (congrArg not BF))
  |str j=>obtain⟨t',rfl⟩:=ry;exact PySem.EqMixed.ne_bool_str (cG I q (by simp))
  |_=>exact absurd (show false=true from hs) aX
 |int i=>
  obtain⟨t,rfl⟩:=rx;cases y with
  |bK=>cases ry;exact PySem.EqNone.ne_int_none (cG I q (by simp))
  |int j=>obtain⟨t',rfl⟩:=ry;exact ne_int (cG I q (congrArg not yC))
  |str j=>obtain⟨t',rfl⟩:=ry;exact PySem.EqMixed.ne_int_str (cG I q (by simp))
  |_=>exact absurd (show false=true from hs) aX
 |str i=>
  obtain⟨t,rfl⟩:=rx;cases y with
  |bK=>cases ry;exact PySem.EqNone.ne_str_none (cG I q (by simp))
  |bl j=>cases ry;exact PySem.EqMixed.ne_str_bool (cG I q (by simp))
  |int j=>obtain⟨t',rfl⟩:=ry;exact PySem.EqMixed.ne_str_int (cG I q (by simp))
  |str j=>obtain⟨t',rfl⟩:=ry;exact ne_str (cG I q (congrArg not C5))
  |_=>exact absurd (show false=true from hs) aX
 |Bh i=>
  obtain⟨t,rfl⟩:=rx;cases y with
  |Bh j=>obtain⟨t',rfl⟩:=ry;exact PySem.W.ne_bytes (cG I q (congrArg not C6))
  |_=>exact absurd (show false=true from hs) aX
 |_=>cases y<;>exact absurd (show false=true from hs) aX
theorem RB:gw X (bD .Lt) (Ew λi j=>.bl (decide (i<j))):=JZ λ_ _ _ _ _ _ _ q=>lt_int q
theorem RC:gw X (bD .LtE) (Ew λi j=>.bl (decide (i<=j))):=JZ λ_ _ _ _ _ _ _ q=>le_int q
theorem RD:gw X (bD .Gt) (Ew λi j=>.bl (decide (j<i))):=JZ λ_ _ _ _ _ _ _ q=>gt_int q
theorem RE:gw X (bD .GtE) (Ew λi j=>.bl (decide (j<=i))):=JZ λ_ _ _ _ _ _ _ q=>ge_int q
theorem Ey:gw X (bD .In) (λx y H Q=>∃i j,x=.str i/\y=.str j/\Q (.bl (!(Builtin.Str.occurrences j i 0 j.length 1).isEmpty)) H):=by
 intro pZ s σ H x y v u Q I rx ry h;obtain⟨i,j,rfl,rfl,q⟩:=h;obtain⟨t,rfl⟩:=rx;obtain⟨t',rfl⟩:=ry;exact in_str (cG I q rfl)
theorem NR:gw X (bD .Is) (λx y H Q=>y=.bK/\Q (.bl (decide (x=.bK))) H):=by
 intro pZ s σ H x y v u Q I rx ry h;obtain⟨rfl,q⟩:=h;cases ry;refine is_none_gen (cG I q ?_);cases x<;>first
  | (cases rx;rfl)
  | (obtain⟨t,rfl⟩:=rx;rfl)
theorem J4:gw X (bD .IsNot) (λx y H Q=>y=.bK/\Q (.bl (!decide (x=.bK))) H):=by
 intro pZ s σ H x y v u Q I rx ry h;obtain⟨rfl,q⟩:=h;cases ry;refine isnot_none_gen (cG I q ?_);cases x<;>first
  | (cases rx;rfl)
  | (obtain⟨t,rfl⟩:=rx;rfl)
theorem Ka{op:CmpOp}{r:R2}(ho:gw X (bD op) r)(ha:PE X a ta)(hb:PE X b tb)(hm:behindInMarks op b=false):PE X (.Compare a [op] [b] pos) (Vd r ta tb):=by
 intro pZ s σ H Q I h;exact wpAny_Compare1 (NF ha hb I h λv u s2 x y H2 I2 rx ry q=>ho pZ s2 σ H2 x y v u Q I2 rx ry q) hm
noncomputable def RF(t:TE):TT:=λσ H Q=>t σ H λx H'=>∃k,x=.bl k/\Q k H'
theorem Kb{op:CmpOp}{r:R2}(ho:gw X (bD op) r)(ha:PE X a ta)(hb:PE X b tb)(hm:behindInMarks op b=false):PT X (.Compare a [op] [b] pos) (RF (Vd r ta tb)):=by
 intro pZ s σ H Q I h;refine wpAny_isTrue_Compare1 (fj (ha pZ s σ H _ I h) λv s1 #[x,H1,I1,r1,q1]=>fj (hb pZ s1 σ H1 _ I1 q1) λu s2 #[y,H2,I2,r2,q2]=>
  fj (ho pZ s2 σ H2 x y v u _ I2 r1 r2 q2) λc s3 #[z,H3,I3,r3,k,e,q3]=>?_) hm
 subst e;cases r3;exact fm #[H3,I3,q3]
noncomputable def NS(K:aF)(x:V)(H:Hp)(k:Bool):Prop:=
 match x with
 |.bK=>k=false
 |.bl b=>k=b
 |.int i=>k=(i !=0)
 |.str y=>y.length<=sizeLine/\k=((y.length:Int) !=0)
 |.Bh y=>y.size<=sizeLine/\k=((y.size:Int) !=0)
 |.ref p=>(∃xs,gH K H p xs/\k = !xs.isEmpty)\/(∃xs,lU K H p xs/\k = !xs.isEmpty)\/∃kvs,H p=some (.dK kvs)/\k = !kvs.isEmpty
 |_=>False
theorem BG{κ:Type}{kvs:List (κ×V)}{vs:List (κ×Value)}(r:KV kvs vs):(!vs.isEmpty)= !kvs.isEmpty:=by
 cases r<;>rfl
theorem uh{xs:List V}{its:List Value}(r:Vals xs its):(!its.toArray.isEmpty)= !xs.isEmpty:=by
 cases r<;>simp
theorem oh:(sizeLine:Nat)<2^63:=by rw[jc];decide
theorem NT:VZ X (λx H Q=>∃k,NS X.K x H k/\Q k H):=by
 intro pZ s σ H x v Q I rx h;obtain⟨k,e,q⟩:=h;have hl:=oh;have hs:sizeLine=16777216:=jc;cases x with
 |bK=>
  cases rx;have e':k=false:=e;subst e';exact truthy_none #[H,I,q]
 |bl b=>
  cases rx;have e':k=b:=e;subst e';exact fm #[H,I,q]
 |int i=>
  obtain⟨t,rfl⟩:=rx;have e':k=(i !=0):=e;subst e';exact PySem.P.truthy_int #[H,I,q]
 |str y=>
  obtain⟨t,rfl⟩:=rx;obtain⟨hy,e'⟩:y.length<=sizeLine/\k=((y.length:Int) !=0):=e;subst e';exact PySem.P.truthy_str ∅ #[H,I.tok _,q]
 |Bh y=>
  obtain⟨t,rfl⟩:=rx;obtain⟨hy,e'⟩:y.size<=sizeLine/\k=((y.size:Int) !=0):=e;subst e';exact PySem.W.truthy_bytes ∅ #[H,I.tok _,q]
 |ref p=>
  cases rx;have e':(∃xs,gH X.K H p xs/\k = !xs.isEmpty)\/(∃xs,lU X.K H p xs/\k = !xs.isEmpty)\/∃kvs,H p=some (.dK kvs)/\k = !kvs.isEmpty:=e;rcases e' with⟨xs,hx,e'⟩|⟨xs,hx,e'⟩|⟨kvs,hx,e'⟩
  .subst e'
   obtain⟨its,r,pl,hz⟩:=I.list hx;have hlen:=r.length;exact wpAny_truthy_list pl.isList (by simp only[aC];omega) #[H,I.tok _,by rw[uh r];exact q]
  .subst e'
   obtain⟨its,r,pl,hz⟩:=I.tuple hx;have hlen:=r.length;exact truthy_tuple pl (by simp only[aC];omega) #[H,I.tok _,by rw[uh r];exact q]
  .subst e'
   obtain⟨hz,hS,vs,r,m⟩:kvs.length<=sizeLine/\(p==dH)=false/\∃vs,KV kvs vs/\s.heap.DictOf (eQ X.prog X.w) p vs:=I.dg p _ hx;have hlen:kvs.length=vs.length:=Paired.length r;exact wpAny_truthy_dict hS m ∅ #[H,I.tok _,by rw[BG r];exact q]
 |_=>exact(show False from e).elim
theorem Gi(ha:PE X a ta)(he:∀whole,isTrue a X.env whole=(do let v <-whole;standAt a.pos;holding [v] (truthy v))):
  PT X a (λσ H Q=>ta σ H λx H'=>∃k,NS X.K x H' k/\Q k H'):=by
 intro pZ s σ H Q I h;refine isTrue_plain (fj (ha pZ s σ H _ I h) λv s1 h9=>?_) (he _);obtain⟨x,H1,I1,r1,q1⟩:=h9;exact NT pZ s1 σ H1 x v Q I1 r1 q1
theorem BH:gw X (cA .Add) (λx y H Q=>∃i j,x=.str i/\y=.str j/\i.length+j.length<=sizeLine/\Q (.str (i++j)) H):=by
 intro pZ s σ H x y v u Q I rx ry h;obtain⟨i,j,rfl,rfl,hz,q⟩:=h;obtain⟨t,rfl⟩:=rx;obtain⟨t',rfl⟩:=ry;exact add_str (λt' tk=>#[.str (i++j),H,I.tok _,#[_,rfl],q]) hz
theorem zZ:gw X (gS .Add) (λx y H Q=>∃i j,x=.str i/\y=.str j/\i.length+j.length<=sizeLine/\Q (.str (i++j)) H):=by
 intro pZ s σ H x y v u Q I rx ry h;obtain⟨i,j,rfl,rfl,hz,q⟩:=h;obtain⟨t,rfl⟩:=rx;obtain⟨t',rfl⟩:=ry;exact iadd_str (λt' tk=>#[.str (i++j),H,I.tok _,#[_,rfl],q]) hz
theorem vals1{x:V}{us:List Value}(r:Vals [x] us):∃u,us=[u]/\RelV x u:=by
 cases r with
 |cons r1 r2=>cases r2;exact#[_,rfl,r1]
noncomputable def RG(K:aF)(x:V)(H:Hp)(n:Nat):Prop:=
 match x with
 |.str y=>y.length<=sizeLine/\n=y.length
 |.Bh y=>y.size<=sizeLine/\n=y.size
 |.ref p=>(∃xs,gH K H p xs/\n=xs.length)\/∃xs,lU K H p xs/\n=xs.length
 |_=>False
theorem Gj:iP X (.builtin "len") (λxs H Q=>∃x n,xs=[x]/\RG X.K x H n/\Q (.int n) H):=by
 intro pZ s σ H xs us Q I r h;obtain⟨x,n,rfl,e,q⟩:=h;obtain⟨u,rfl,rx⟩:=vals1 r;have hl:=oh;have hs:sizeLine=16777216:=jc;cases x with
 |str y=>
  obtain⟨t,rfl⟩:=rx;obtain⟨hy,e'⟩:y.length<=sizeLine/\n=y.length:=e;subst e';exact len_str ∅ #[.int _,H,I.tok _,#[_,rfl],q]
 |Bh y=>
  obtain⟨t,rfl⟩:=rx;obtain⟨hy,e'⟩:y.size<=sizeLine/\n=y.size:=e;subst e';exact PySem.W.len_bytes ∅ #[.int _,H,I.tok _,#[_,rfl],q]
 |ref p=>
  cases rx;have e':(∃xs,gH X.K H p xs/\n=xs.length)\/∃xs,lU X.K H p xs/\n=xs.length:=e;rcases e' with⟨xs,hx,e'⟩|⟨xs,hx,e'⟩
  .subst e'
   obtain⟨its,r',pl,hz⟩:=I.list hx;have hlen:=r'.length;exact Calls.call_len_list pl.isList (by simp only[aC];omega) #[.int xs.length,H,I.tok _,#[_,by simp only[aC];rw[hlen]],q]
  .subst e'
   obtain⟨its,r',pl,hz⟩:=I.tuple hx;have hlen:=r'.length;exact len_tuple pl (by simp only[aC];omega) #[.int xs.length,H,I.tok _,#[_,by simp only[aC];rw[hlen]],q]
 |_=>exact(show False from e).elim
end
structure BI(h:Heap)(x dx C:Addr)(mA:Str->Option Value):Prop where
 obj:h.get? x=some (dv C dx)
 ns:h.Ns1 dx mA
 ne:dx≠x
theorem wM{h:Heap}{dx:Addr}{mA:Str->Option Value}(n:h.Ns1 dx mA):∃od,h.get? dx=some od/\∀name,n8 name od=some (mA name):=by
 obtain⟨o,es,ep,ho,hd,hk,_,hm⟩:=n;refine#[o,ho,λname=>?_];have e:=hm name;unfold nsFind findBy at e;rw[<-Array.find?_toList] at e;unfold n8;rw[hd]
 dsimp only;split
 .rename_i y q
  rw[q] at e;exact congrArg some e
 .rename_i q
  rw[q] at e;have a:es.toList.any (·.refKey)=false:=by
   rw[List.any_eq_false]
   intro y hy;obtain⟨z,t,hkey⟩:=hk y (Array.mem_toList_iff.mp hy);simp[DictEntry.refKey,hkey]
  have a':¬es.toList.any (·.refKey)=true:=by rw[a];exact aX
  rw[if_neg a']
  exact congrArg some e
theorem BI.look{h:Heap}{x dx C:Addr}{mA:Str->Option Value}(I:BI h x dx C mA):∃od,gu h x (dv C dx) C (some od)/\∀name,n8 name od=some (mA name):=
 let ⟨od,ho,hl⟩:=wM I.ns
 #[od,#[I.obj,rfl,rfl,ho],hl]
section
variable{prog:bC}{w:bZ}{A:cB}{E:Value->ak->Prop}{s:ak}{K:aF}{x dx C f:Addr}{mA:Str->Option Value}{name:Str}{v:Value}
theorem get_map{expr:Bool}{Q:Value->ak->Prop}(X:K.In s.heap)(I:BI s.heap x dx C mA)(hg:l9 K C name=true)(hh:qj K C=true)
  (ha:dk K (.ref C) name=some none) (hv:mA name=some v) (hv':D8 v=true) (h:Q v {s with toks:=s.toks+1}):
  wpAny (aR prog w) A (FQ (.ref x) name expr) Q E s:=by
 obtain⟨od,J,hl⟩:=I.look;exact PySem.W.get_value X J (pD hg).1 (PySem.W.findObj_own hh ha rfl (by rw[hl,hv])) hv' h
theorem Gk{pl:Sem Bool}{Q:Value×List Value->ak->Prop}(X:K.In s.heap)(I:BI s.heap x dx C mA)(hg:l9 K C name=true)
  (hf:dk K (.ref C) name=some (some (.ref f))) (ht:yc K (.ref f)=true) (hv:mA name=none) (h:Q (.ref f,[.ref x]) s):
  wpAny (aR prog w) A (getMethod (.ref x) name pl) Q E s:=by
 obtain⟨od,J,hl⟩:=I.look;exact PySem.W.method_fn X J (pD hg).1 (pD hg).2 hf (beq_iff_eq.mp ht) (by show(n8 name od).map (·.isSome)=some false;rw[hl,hv];rfl) h
theorem Kc{ns:List Str}{Q:Unit->ak->Prop}(X:K.In s.heap)(I:BI s.heap x dx C mA)
  (hs:dk K (.ref C) "__setattr__"=some (some (.builtin "object.__setattr__"))) (hp:CU K C=true) (ht:sT K C name=some none) (hh:qj K C=true)
  (hw:kj mA ns) (hsz:ns.length<=sizeLine)
  (h:∀h',BI h' x dx C (λy=>if y=name then some v else mA y)->sd dx s.heap h'->Q () {s with heap:=h',toks:=s.toks+2}):
  wpAny (aR prog w) A (FR (.ref x) name v) Q E s:=by
 obtain⟨od,J,hl⟩:=I.look;refine PySem.W.set_plain X J hs (PySem.W.osa_open (s:={s with toks:=s.toks+1}) (r:=none) X J hp ht λb=>?_);obtain⟨cd,hc,hd'⟩:=PySem.W.any_some hh;have hx:s.heap.get? x=some #[.ref C,some dx,.plain,#[]]:=I.obj;refine aj (aK (aj (aj (qW hx (aj (PySem.W.Looks.here (s:={s with toks:=s.toks+1}) (PySem.W.looks_clsIn X hc) ?_))))));rw[hd']
 refine aK (a:=some dx) (aj (aK (aj ?_)));refine wpAny_nsSet1 (s:={s with toks:=s.toks+1}) I.ns λh' hn2 hs2=>?_
 obtain⟨oD,esD,epD,hoD,hdD,hcD⟩:=hn2.count (yd name v hw);refine aj (wpAny_lookBehind hoD (by rw[hdD];exact pastItsLine_dict (aT hcD (by rw[aQ];omega))) ?_);exact aK (h _ #[(hs2.2 _ (dM I.ne)).trans I.obj,hn2,I.ne] hs2)
theorem Gq{R:Result->ak->Prop}{vs:List Value}{kw:List (Str×Value)}(X:K.In s.heap)(hm:Fx K C=true)
  (hi:dk K (.ref C) "__init__"=some (some (.ref f))) (hf:PySem.W.typeIn K (.ref f)=some (.type "function"))
  (h:nY (aR prog w) (A.under (.builtin "type.__call__" #[.ref C::vs,kw])) (.call (.ref f) #[.ref (s.heap.objs.size+1)::vs,kw]) (PySem.W.InitBack (s.heap.objs.size+1) R)
   {s with heap:=(s.heap.push cH).push (dv C s.heap.objs.size)}):
  nY (aR prog w) A (.call (.ref C) #[vs,kw]) R s:=by
 obtain⟨hh,g,d,t,os⟩:=s;exact PySem.W.make_core (PySem.W.makes_of X hm) (PySem.W.looks_findIn X hi) (λself=>PySem.W.bind_fn X self hf) (.inl rfl) h
end
noncomputable def gx(f:Str)(v:V):List (Str×V)->List (Str×V)
 |[]=>[(f,v)]
 | (g,x)::r=>if g=f then(g,v)::r else(g,x)::gx f v r
theorem oj(f g:Str)(v:V):∀fs:List (Str×V),(gx f v fs).lookup g=if g=f then some v else fs.lookup g
 |[]=>by
  show fL g [(f,v)]=_
  by_cases h:g=f
  .have hb:(g==f)=true:=beq_iff_eq.mpr h
   simp only[fL,hb,if_pos h]
  .have hb:(g==f)=false:=beq_eq_false_iff_ne.mpr h
   simp only[fL,hb,if_neg h]
 | (k,x)::r=>by
  have ih:=oj f g v r;rw[show gx f v ((k,x)::r)=(if k=f then(k,v)::r else(k,x)::gx f v r) from rfl]
  by_cases hk:k=f
  .rw[if_pos hk]
   by_cases h:g=k
   .have hb:(g==k)=true:=beq_iff_eq.mpr h
    simp only[fL,hb,if_pos (h.trans hk)]
   .have hb:(g==k)=false:=beq_eq_false_iff_ne.mpr h
    simp only[fL,hb,if_neg (λe:g=f=>h (e.trans hk.symm))]
  .rw[if_neg hk]
   by_cases h:g=k
   .have hb:(g==k)=true:=beq_iff_eq.mpr h
    simp only[fL,hb,if_neg (λe:g=f=>hk (h.symm.trans e))]
   .have hb:(g==k)=false:=beq_eq_false_iff_ne.mpr h
    simp only[fL,hb];exact ih
theorem mn(f:Str)(v:V):∀fs:List (Str×V),f∈(gx f v fs).map (·.1)/\∀g,g∈fs.map (·.1)->g∈(gx f v fs).map (·.1)
 |[]=>#[by simp[gx],λg h=>by simp at h]
 | (k,x)::r=>by
  obtain⟨i1,i2⟩:=mn f v r;rw[show gx f v ((k,x)::r)=(if k=f then(k,v)::r else(k,x)::gx f v r) from rfl]
  by_cases hk:k=f
  .rw[if_pos hk]
   subst hk;exact#[by simp,λg h=>by simpa using h]
  .rw[if_neg hk]
   refine#[?_,λg h=>?_]
   .rw[aD]
    exact aV _ i1
   .rw[aD] at h ⊢
    rcases bg.mp h with e|e
    .exact bg.mpr (.inl e)
    .exact aV _ (i2 g e)
theorem sr(f:Str)(v:V):∀fs:List (Str×V),(gx f v fs).length<=fs.length+1
 |[]=>by simp[gx]
 | (k,x)::r=>by
  have ih:=sr f v r;rw[show gx f v ((k,x)::r)=(if k=f then(k,v)::r else(k,x)::gx f v r) from rfl]
  by_cases hk:k=f
  .rw[if_pos hk,aQ,aQ];omega
  .rw[if_neg hk,aQ,aQ];omega
theorem nN.some_of{v:V}{o:Option Value}(r:nN (some v) o):∃u,o=some u/\RelV v u:=by
 cases o with
 |none=>exact(show False from r).elim
 |some u=>exact#[u,rfl,r]
theorem nN.none_of{o:Option Value}(r:nN none o):o=none:=by
 cases o with
 |none=>rfl
 |some u=>exact(show False from r).elim
theorem wN{v:V}{u:Value}(r:RelV v u):D8 u=true:=by
 cases v with
 |bK=>cases (show u=dh from r);rfl
 |bl b=>cases (show u=iI b from r);rfl
 |int i=>obtain⟨t,e⟩:=(show ∃t,u=mN i t from r);cases e;rfl
 |str x=>obtain⟨t,e⟩:=(show ∃t,u=jx x t from r);cases e;rfl
 |Bh b=>obtain⟨t,e⟩:=(show ∃t,u=Value.bytes b t from r);cases e;rfl
 |Nk b=>obtain⟨t,e⟩:=(show ∃t,u=Bl b t from r);cases e;rfl
 |ref a=>cases (show u=aS a from r);rfl
 |ty n=>cases (show u=vK n from r);rfl
section
variable{P:bC}{w:bZ}{H H':Hp}{h h':Heap}{a C dx:Addr}{fs fs':List (Str×V)}
theorem tG(dg:og P w H h)(e:H a=some (.ins C dx fs)):∃mA,BI h a dx C mA/\(∀f,nN (fs.lookup f) (mA f))/\kj mA (fs.map (·.1))/\fs.length<=1000/\H dx=some (.own a):=by
 obtain⟨d,z,ne,ob,mA,n,r,q⟩:=(show d6 P w H h a (.ins C dx fs) from dg a _ e)
 exact#[mA,#[ob,n,ne],r,q,z,d]
end
structure wO(K:aF)(C:Addr):Prop where
 pg:l9 K C Str.empty=true
 hd:qj K C=true
 po:CU K C=true
 sa:dk K (.ref C) "__setattr__"=some (some (.builtin "object.__setattr__"))
theorem wO.get{K:aF}{C:Addr}(c:wO K C)(f:Str):l9 K C f=true:=c.pg
noncomputable def fD(K:aF)(C:Addr)(f:Str):Prop:=dk K (.ref C) f=some none
theorem fD.Gs{K:aF}{C:Addr}{f:Str}(n:fD K C f):sT K C f=some none:=by
 unfold sT;rw[show dk K (.ref C) f=some none from n]
 rfl
structure Meth(K:aF)(C:Addr)(m:Str)(f:Addr):Prop where
 at_:dk K (.ref C) m=some (some (.ref f))
 fn:yc K (.ref f)=true
 kp:n9 K (.ref f)=true
section
variable{X:Cx}{pZ:List (Addr×Obj)}{σ:St}{H:Hp}{s:ak}{a C dx:Addr}{fs:List (Str×V)}{f:Str}{v:V}{A:cB}{E:Value->ak->Prop}
theorem ui{b:Bool}{Q:Value->ak->Prop}(I:Inv X pZ σ H s)(e:H a=some (.ins C dx fs))(c:wO X.K C)(n:fD X.K C f)(l:fs.lookup f=some v)
  (h:∀u s',Inv X pZ σ H s'->RelV v u->Q u s'):wpAny (aR X.prog X.w) A (FQ (.ref a) f b) Q E s:=by
 obtain⟨mA,O,r,_,_,_⟩:=tG I.dg e;obtain⟨u,hu,ru⟩:=nN.some_of (v:=v) (o:=mA f) (by rw[<-l];exact r f);exact get_map I.kU O (c.get f) c.hd n hu (wN ru) (h u _ (I.tok _) ru)
theorem uj{m:Str}{g:Addr}{pl:Sem Bool}{Q:Value×List Value->ak->Prop}(I:Inv X pZ σ H s)(e:H a=some (.ins C dx fs))(c:wO X.K C)(k:Meth X.K C m g)(l:fs.lookup m=none)
  (h:Q (.ref g,[.ref a]) s):wpAny (aR X.prog X.w) A (getMethod (.ref a) m pl) Q E s:=by
 obtain⟨mA,O,r,_,_,_⟩:=tG I.dg e;have hn:mA m=none:=nN.none_of (by rw[<-l];exact r m);exact Gk I.kU O (c.get m) k.at_ k.fn hn h
theorem uk{y:V}{u:Value}{Q:Unit->ak->Prop}(I:Inv X pZ σ H s)(e:H a=some (.ins C dx fs))(c:wO X.K C)(n:fD X.K C f)(hl:fs.length<1000)(ry:RelV y u)
  (h:∀s',Inv X pZ σ (upd H a (.ins C dx (gx f y fs))) s'->Q () s'):wpAny (aR X.prog X.w) A (FR (.ref a) f u) Q E s:=by
 obtain⟨mA,O,r,wi,_,ho⟩:=tG I.dg e;have hz:(fs.map (·.1)).length<=sizeLine:=by rw[ar,jc];omega
 refine Kc I.kU O c.sa c.po n.Gs c.hd wi hz λh' O' sb=>h _ ?_
 have hd:∃o,h'.get? dx=some o:=let ⟨o,_,_,e',_⟩:=O'.ns;#[o,e'];refine I.write (x:=a) (e:=dx) (by rw[e];exact dU) (.inr ho) (λb q hb z=>(sb.2 b hb).trans z) hd ?_;refine#[by rw[bw O.ne];exact ho,?_,O.ne,O'.obj,_,O'.ns,λg=>?_,λg hg=>?_]
 .have:=sr f y fs;omega
 .show nN ((gx f y fs).lookup g) (if g=f then some u else mA g)
  rw[oj]
  by_cases q:g=f
  .rw[if_pos q,if_pos q];exact ry
  .rw[if_neg q,if_neg q];exact r g
 .by_cases q:g=f
  .rw[q];exact(mn f y fs).1
  .refine(mn f y fs).2 g (wi g λz=>hg ?_)
   show(if g=f then some u else mA g)=none
   rw[if_neg q];exact z
theorem Inv.made(I:Inv X pZ σ H s):Inv X pZ σ (upd (upd H s.heap.objs.size (.own (s.heap.objs.size+1))) (s.heap.objs.size+1) (.ins C s.heap.objs.size []))
  {s with heap:=(s.heap.push cH).push (dv C s.heap.objs.size)}:=by
 have e1:(s.heap.push cH).get? s.heap.objs.size=some cH:=bz s.heap rfl;have e2:((s.heap.push cH).push (dv C s.heap.objs.size)).get? (s.heap.objs.size+1)=some (dv C s.heap.objs.size):=by
  have:=bz (s.heap.push cH) (o:=dv C s.heap.objs.size) rfl
  rwa [wq] at this
 have e3:(s.heap.push cH).Ns s.heap.objs.size (λ_=>none):=#[cH,#[],_,e1,rfl,(λe he=>absurd he (by simp)),λ_=>rfl]
 have I1:=I.laid (a:=s.heap.objs.size) (o:=.own (s.heap.objs.size+1)) (h':=s.heap.push cH) (t':=s.toks) (λb u q=>aA _ q) (ax _) #[_,e1];refine I1.laid (a:=s.heap.objs.size+1) (o:=.ins C s.heap.objs.size []) (t':=s.toks) (λb u q=>aA _ q) (Bm (wq _ _)) ?_;have ne:s.heap.objs.size≠s.heap.objs.size+1:=b7 (t6 _);refine#[by rw[bw ne,bF],dw _,ne,e2,λ_=>none,(Bn e3).at λo q=>aA _ q,λ_=>dU,λy hy=>absurd rfl hy]
theorem Kd{prog:bC}{w:bZ}{env:Env}{e:Expr}{f:Str}{pos:Pos}{s:ak}{Q:Value->ak->Prop}(hb:i0 e f env (eval e env)=eval e env)
  (h:wpAny (aR prog w) A (eval e env) (λo s₁=>wpAny (aR prog w) A (FQ o f true) Q E s₁) E s):wpAny (aR prog w) A (eval (.Attribute e f pos) env) Q E s:=
 Attribute_any_ h (by rw[arm_eval_Attribute,hb])
end
noncomputable def V2(K:aF)(ta tv:TE)(f:Str):TS:=λD σ H=>tv σ H λy H1=>ta σ H1 λx H2=>∃a C dx fs,x=.ref a/\H2 a=some (.ins C dx fs)/\wO K C/\fD K C f/\fs.length<1000 /\
 D.nx σ (upd H2 a (.ins C dx (gx f y fs)))
noncomputable def V3(X:Cx)(op:mO)(rd:V->V->Hp->VK->Prop):Prop:=
 ∀(pZ:List (Addr×Obj))(s:ak)(σ:St)(H:Hp)(x y:V)(u v:Value)(Q:VK),Inv X pZ σ H s->RelV x u->RelV y v->rd x y H Q->wpAny (aR X.prog X.w) X.A (gS op u v) (EP X pZ σ Q) X.xe s
noncomputable def Ke(K:aF)(ta tv:TE)(rd:V->V->Hp->VK->Prop)(f:Str):TS:=λD σ H=>ta σ H λx H1=>∃a C dx fs v,x=.ref a/\H1 a=some (.ins C dx fs)/\wO K C/\fD K C f/\fs.lookup f=some v /\
 tv σ H1 λy H2=>rd v y H2 λz H3=>∃dx' fs',H3 a=some (.ins C dx' fs')/\fs'.length<1000/\D.nx σ (upd H3 a (.ins C dx' (gx f z fs')))
section
variable{X:Cx}{o e value:Expr}{f:Str}{pos pos' tpos:Pos}{ta tv:TE}
theorem NU(ha:PE X o ta)(hv:PE X value tv)(hs:iJ value (some (.Attribute o f pos')) pos.line X.env=pure false):PS X (.Assign [.Attribute o f pos'] value pos) (V2 X.K ta tv f):=by
 intro pZ s σ H D I h;refine wt (fj (hv pZ s σ H _ I h) λu s1 h9=>?_) hs;obtain⟨y,H1,I1,ry,q⟩:=h9;refine fj (ha pZ s1 σ H1 _ I1 q) λov s2 h9=>?_
 obtain⟨x,H2,I2,rx,a,C,dx,fs,ex,ea,c,n,l,q2⟩:=h9;subst ex;obtain rfl:ov=aS a:=rx;exact uk I2 ea c n l ry λs3 I3=>#[σ,_,I3,q2]
theorem Ez{op:mO}{rd:V->V->Hp->VK->Prop}(ha:PE X o ta)(hv:PE X value tv)(hop:V3 X op rd):PS X (.AugAssign (.Attribute o f tpos) op value pos) (Ke X.K ta tv rd f):=by
 intro pZ s σ H D I h;refine wpAny_AugAssign_AttributeAny (fj (ha pZ s σ H _ I h) λov s1 h9=>?_);obtain⟨x,H1,I1,rx,a,C,dx,fs,v,ex,ea,c,n,l,q⟩:=h9;subst ex;obtain rfl:ov=aS a:=rx;refine ui I1 ea c n l λu s2 I2 ru=>fj (hv pZ s2 σ H1 _ I2 q) λw3 s3 h9=>?_
 obtain⟨y,H2,I3,ry,q3⟩:=h9;refine fj (hop pZ s3 σ H2 v y u w3 _ I3 ru ry q3) λw4 s4 h9=>?_
 obtain⟨z,H3,I4,rz,dx',fs',ea',l',q4⟩:=h9;exact uk I4 ea' c n l' rz λs5 I5=>#[σ,_,I5,q4]
end
section
variable{X:Cx}{pZ:List (Addr×Obj)}{σ:St}{H:Hp}{s:ak}{A:cB}{E:Value->ak->Prop}{Q:Value->ak->Prop}{c:Value}{b:Bool}
inductive rj(K:aF)(H:Hp):V->Value->Prop where
 |bK:rj K H .bK (.type "NoneType")
 |bl (x:Bool):rj K H (.bl x) (.type "bool")
 |int (i:Int):rj K H (.int i) (.type "int")
 |str (x:Str):rj K H (.str x) (.type "str")
 |Nk (x:UInt64):rj K H (.Nk x) (.type "float")
 |lst{a:Addr}{xs:List V} (e:H a=some (.lst xs)):rj K H (.ref a) (.type "list")
 |Bz{a:Addr}{o:Obj}{xs:List V} (e:H a=some (.Bz o (.lst xs))):rj K H (.ref a) (.type "list")
 |tup{a:Addr}{xs:List V} (e:H a=some (.tup xs)):rj K H (.ref a) (.type "tuple")
 |dK{a:Addr}{kvs:List (Key×V)} (e:H a=some (.dK kvs)):rj K H (.ref a) (.type "dict")
 |dT{a:Addr}{kvs:List (List Key×V)} (e:H a=some (.dT kvs)):rj K H (.ref a) (.type "dict")
 |ins{a C dx:Addr}{fs:List (Str×V)} (e:H a=some (.ins C dx fs)) (cl:wO K C) (ha:dk K (.ref C) "__class__"=some (some (.builtin "object.__class__")))
   (hn:PySem.W.specialIn K (.builtin "object.__class__") "__get__"=some (some (.builtin "getset_descriptor.__get__"))) (NV:PySem.W.takesIn K (.builtin "object.__class__")=some true)
   (hm:PySem.W.mroIn K C (.type "object")=some true):rj K H (.ref a) (.ref C)
theorem EB{x:V}{u t:Value}(I:Inv X pZ σ H s)(rx:RelV x u)(ty:rj X.K H x t)(e:PySem.W.kitOne X.K t c=some b)(h:∀tk,Q (.bool b) {s with toks:=tk}):
  wpAny (aR X.prog X.w) A (call (.builtin "isinstance") [u,c]) Q E s:=by
 cases ty with
 |bK=>cases (show u=dh from rx);exact cP PySem.W.kitx_none I.kU dU e (λz=>nomatch z) h
 |bl y=>cases (show u=iI y from rx);exact cP PySem.W.kitx_bool I.kU dU e (λz=>nomatch z) h
 |int i=>obtain⟨t,q⟩:=(show ∃t,u=mN i t from rx);cases q;exact cP PySem.W.kitx_int I.kU dU e (λz=>nomatch z) h
 |str y=>obtain⟨t,q⟩:=(show ∃t,u=jx y t from rx);cases q;exact cP PySem.W.kitx_str I.kU dU e (λz=>nomatch z) h
 |Nk y=>obtain⟨t,q⟩:=(show ∃t,u=Bl y t from rx);cases q;exact cP PySem.W.kitx_float I.kU dU e (λz=>nomatch z) h
 |@lst a xs ea=>
  cases (show u=aS a from rx);obtain⟨_,_,n,_,h1⟩:=(show d6 X.prog X.w H s.heap a (.lst xs) from I.dg a _ ea)
  exact cP CV I.kU #[_,h1,rfl] e (λz=>nomatch z) h
 |@Bz a ob xs ea=>
  cases (show u=aS a from rx);obtain⟨_,_,_,n,_,h1⟩:=(show d6 X.prog X.w H s.heap a (.Bz ob (.lst xs)) from I.dg a _ ea)
  exact cP CV I.kU #[_,h1,rfl] e (λz=>nomatch z) h
 |@tup a xs ea=>
  cases (show u=aS a from rx);obtain⟨_,_,_,p⟩:=(show d6 X.prog X.w H s.heap a (.tup xs) from I.dg a _ ea)
  obtain⟨o,h1,h2,_⟩:=p;exact cP PySem.W.kitx_tuple I.kU #[o,h1,h2] e (λz=>nomatch z) h
 |@dK a kvs ea=>
  cases (show u=aS a from rx);obtain⟨_,_,vs,_,p⟩:=(show d6 X.prog X.w H s.heap a (.dK kvs) from I.dg a _ ea)
  obtain⟨o,es,ep,h1,h2,_⟩:=p;exact cP CW I.kU #[o,h1,h2.1] e (λz=>nomatch z) h
 |@dT a kvs ea=>
  cases (show u=aS a from rx);obtain⟨_,_,xs,_,o,es,ep,h1,h2,_⟩:=(show d6 X.prog X.w H s.heap a (.dT kvs) from I.dg a _ ea)
  exact cP CW I.kU #[o,h1,h2.1] e (λz=>nomatch z) h
 |@ins a C dx fs ea cl ha hn NV hm=>
  cases (show u=aS a from rx);obtain⟨mA,O,_⟩:=tG I.dg ea;obtain⟨od,J,_⟩:=O.look;exact cP (PySem.W.kitx_own (cl.get _) cl.hd ha hn NV hm) I.kU J e (λz=>nomatch z) h
end
structure jz(k:Nat)(A:cB):Prop where
 hd:A.handled=none
 dp:A.depth+3*k+5<recursionLimit
 un:A.units+16*k+200<kg
theorem jz.mono{j k:Nat}{A:cB}(r:jz k A)(h:j<=k):jz j A:=#[r.hd,by have:=r.dp;omega,by have:=r.un;omega]
theorem jz.deeper{k:Nat}{A:cB}(r:jz (k+1) A)(env:Env):jz k (A.deeper env):=
 #[r.hd,by have:=r.dp;show A.depth+1+3*k+5<_;omega,by have:=r.un;show A.units+3+16*k+200<_;omega]
theorem BJ{A:cB}{C:Addr}{us:List Value}{kw:List (Str×Value)}:(A.under (.builtin "type.__call__" #[.ref C::us,kw])).depth=A.depth+1:=by
 first|rfl|simp[zG,Code.weight,Code.isCreation,Code.isGuard,Code.isCaller,Code.frames,A8,guardIds]
theorem BK{A:cB}{C:Addr}{us:List Value}{kw:List (Str×Value)}:(A.under (.builtin "type.__call__" #[.ref C::us,kw])).units=A.units+1:=by
 first|rfl|simp[zG,Code.cUnits,Code.frames,A8]
theorem jz.make{k:Nat}{A:cB}(r:jz (k+1) A)(C:Addr)(us:List Value)(kw:List (Str×Value)):jz k (A.under (.builtin "type.__call__" #[.ref C::us,kw])):=
 #[r.hd,by have:=r.dp;rw[BJ];omega,by have:=r.un;rw[BK];omega]
theorem jz.depth{k:Nat}{A:cB}(r:jz k A):A.depth<recursionLimit:=by have:=r.dp;omega
noncomputable def V4:TA:=λ_ H Q=>Q [] H
noncomputable def RH(ta:TE)(tr:TA):TA:=λσ H Q=>ta σ H λx H1=>tr σ H1 λxs H2=>Q (x::xs) H2
section
variable{X:Cx}{e:Expr}{es:List Expr}{te:TE}{t:TA}{pos:Pos}
theorem rk:PA X [] V4:=λ_ _ _ _ H Q I h=>qX #[[],H,I,.nil,h]
theorem k6(ha:PE X e te)(hr:PA X es t)(hs:bS (e::es) X.env=(false,eval e X.env)::bS es X.env:=by rfl):PA X (e::es) (RH te t):=by
 intro pos pZ s σ H Q I h;rw[hs]
 show wpAny _ _ (spliced ((false,eval e X.env)::iN pos (bS es X.env))) _ _ s
 refine kL (fj (ha pZ s σ H _ I h) λu s1 h9=>?_);obtain⟨x,H1,I1,r1,q1⟩:=h9;refine fj (hr pos pZ s1 σ H1 _ I1 q1) λus s2 h9=>?_
 obtain⟨xs,H2,I2,r2,q2⟩:=h9;exact#[x::xs,H2,I2,.cons r1 r2,q2]
noncomputable def V5(t:TA):TE:=λσ H Q=>t σ H λxs H1=>xs.length<=sizeLine/\∀p,H1 p=none->Q (.ref p) (upd H1 p (.tup xs))
noncomputable def V6(t:TA):TE:=λσ H Q=>t σ H λxs H1=>xs.length<=sizeLine/\∀p,H1 p=none->Q (.ref p) (upd H1 p (.lst xs))
theorem Gu{x1}(h:PA X es t):PE X (.Tuple es x1 pos) (V5 t):=by
 intro pZ s σ H Q I hq;refine wpAny_Tuple_spliced (fj (h pos pZ s σ H _ I hq) λus s1 h9=>?_);obtain⟨xs,H1,I1,r,z,q⟩:=h9;refine#[by rw[<-r.length];exact z,?_];have hf:H1 s1.heap.objs.size=none:=I1.dg.fresh (ax _);refine#[.ref s1.heap.objs.size,upd H1 s1.heap.objs.size (.tup xs),I1.laid (t':=s1.toks) (λb u e=>aA _ e) (ax _) ?_,rfl,q _ hf];exact#[z,us,r,#[_,bz _ rfl,rfl,_,rfl]]
theorem NW(h:PA X es t):PE X (.List es pos) (V6 t):=by
 intro pZ s σ H Q I hq;refine wpAny_List_spliced (fj (h pos pZ s σ H _ I hq) λus s1 h9=>?_);obtain⟨xs,H1,I1,r,z,q⟩:=h9;refine#[by rw[<-r.length];exact z,?_];have hf:H1 s1.heap.objs.size=none:=I1.dg.fresh (ax _);refine#[.ref s1.heap.objs.size,upd H1 s1.heap.objs.size (.lst xs),I1.laid (t':=s1.toks) (λb u e=>aA _ e) (ax _) ?_,rfl,q _ hf];exact#[z,us,0,r,bz _ rfl]
end
abbrev Sp:=List V->Hp->VK->XK->Prop
abbrev Gv:=List Env->Hp->ak->XK->Value->ak->Prop
structure BL(P:bC)(w:bZ)(K:aF)(mg:Str->Option Value)(base:Heap)(A:cB)(outer:List Env)(s:ak)(H:Hp):Prop where
 frames:A.frames=some outer
 mod:Mod K mg base
 bs:∀b o,base.get? b=some o->s.heap.get? b=some o/\H b=none
 FI:base.objs.size<=s.heap.objs.size
 pS:s.heap.FunFrames base outer
 Jv:∀b∈vS outer,H b=none
 dg:og P w H s.heap
 bare:nX s.gens
noncomputable def CE(outer:List Env)(P:bC)(w:bZ)(H:Hp)(s:ak)(Q:VK)(u:Value)(s':ak):Prop:=
 ∃v H',s'.os=s.os/\nX s'.gens/\Un (vS outer) [] H H' s.heap s'.heap/\og P w H' s'.heap/\RelV v u/\Q v H'
noncomputable def CR(CX:Gv)(outer:List Env)(P:bC)(w:bZ)(H:Hp)(s:ak)(Q:VK)(E:XK)(r:Result)(s':ak):Prop:=
 match r with
 |.ok (.ret u)=>CE outer P w H s Q u s'
 |.ok _=>False
 |.error e=>CX outer H s E e s'
structure iK(P:bC)(w:bZ)(K:aF)(mg:Str->Option Value)(base:Heap)(CX:Gv)(k:Nat)(f:Addr)(fd:dS)(ps:List Str)(sp:Sp):Prop where
 len:∀vs H Q E,sp vs H Q E->vs.length=ps.length
 run:∀(A:cB)(outer:List Env)(s:ak)(H:Hp)(args:Args)(us:List Value)(vs:List V)(Q:VK)(E:XK),jz k A->BL P w K mg base A outer s H->A9 s fd args (ps.zip us)->Vals vs us->sp vs H Q E ->
  nY (aR P w) A (.call (.ref f) args) (CR CX outer P w H s Q E) s
theorem iK.mono{P:bC}{w:bZ}{K:aF}{mg:Str->Option Value}{base:Heap}{CX:Gv}{j k:Nat}{f:Addr}{fd:dS}{ps:List Str}{sp:Sp}(F:iK P w K mg base CX j f fd ps sp)(h:j<=k):
  iK P w K mg base CX k f fd ps sp:=#[F.len,λA outer s H args us vs Q E hr=>F.run A outer s H args us vs Q E (hr.mono h)]
theorem iK.imp{P:bC}{w:bZ}{K:aF}{mg:Str->Option Value}{base:Heap}{CX:Gv}{k:Nat}{f:Addr}{fd:dS}{ps:List Str}{sp sp':Sp}(F:iK P w K mg base CX k f fd ps sp)
  (h:∀vs H Q E,sp' vs H Q E->sp vs H Q E):iK P w K mg base CX k f fd ps sp':=
 #[λvs H Q E q=>F.len vs H Q E (h _ _ _ _ q),λA outer s H args us vs Q E hr he hb hv hs=>F.run A outer s H args us vs Q E hr he hb hv (h _ _ _ _ hs)]
theorem BL.make{P:bC}{w:bZ}{K:aF}{mg:Str->Option Value}{base:Heap}{A:cB}{outer:List Env}{s:ak}{H:Hp}(e:BL P w K mg base A outer s H)(C:Addr)(us:List Value)(kw:List (Str×Value)):
  BL P w K mg base (A.under (.builtin "type.__call__" #[.ref C::us,kw])) outer s H:=#[by first|exact e.frames| (simpa[zG,Code.envs,A8,pushEnvs] using e.frames),e.mod,e.bs,e.FI,e.pS,e.Jv,e.dg,e.bare]
section
variable{X:Cx}{pZ:List (Addr×Obj)}{σ:St}{H:Hp}{s s':ak}
theorem Inv.NX(I:Inv X pZ σ H s):BL X.prog X.w X.K X.mg X.base X.A X.stack s H:=
 #[I.ok.frames,I.ok.mod,I.bs,aT I.ok.FI I.sz,I.stack,I.yA,I.dg,I.bare]
theorem Inv.after{Q:VK}{u:Value}(I:Inv X pZ σ H s)(h:CE X.stack X.prog X.w H s Q u s'):EP X pZ σ Q u s':=by
 obtain⟨v,H',os,bare,un,dg,r,q⟩:=h;obtain⟨hh,g,d,t,os'⟩:=s';obtain rfl:os'=s.os:=os;exact#[v,H',I.call (h':=hh) (g':=g) (d':=d) (t':=t) (ch:=[]) un dg bare (λb z=>absurd z (by simp)),r,q]
end
noncomputable def Binds(K:aF)(fd:dS)(ps:List Str)(ds:List Value):Prop:=
 ∀(s:ak)(us:List Value),K.In s.heap->(us++ds).length=ps.length->A9 s fd #[us,[]] (ps.zip (us++ds))
theorem Binds.all{K:aF}{fd:dS}{ps:List Str}(h:∀us:List Value,us.length=ps.length->Bo fd #[us,[]]=pure (ps.zip us)):Binds K fd ps []:=λs us _ hl=>by
 rw[bb] at hl ⊢;exact .of_eq (h us hl)
section
variable{X:Cx}{CX:Gv}{k:Nat}{f C:Addr}{fd:dS}{ps:List Str}{sp:Sp}{dvs:List V}{ds:List Value}{E:XK}{x m:Str}{p pos apos:Pos}{e o:Expr}{es:List Expr}{ta:TE}{t:TA}
structure Mk(K:aF)(C f:Addr):Prop where
 makes:Fx K C=true
 init:dk K (.ref C) "__init__"=some (some (.ref f))
 fn:yc K (.ref f)=true
 kp:n9 K (.ref C)=true
end
structure fX(N P:List Str)(sc:kJ):Prop where
 kind:sc.kind=.function
 co:sc.isCoroutine=false
 gen:sc.isGenerator=false
 nd:N.Nodup
 pre:N.take P.length=P
 par:∀x∈P,sc.names.lookup x=some .local\/sc.names.lookup x=some .cell
 NY:∀y∈sc.names,y.2≠.free
theorem wQ{kindOf:Str->Option NameKind}{x:Str}:∀{binds:List (Str×Value)}{m:Str->Option Value},(∀v,(x,v)∉binds)->Fy kindOf binds m x=m x
 |[],_,_=>rfl
 | (n,v)::r,m,h=>by
  unfold Fy;rw[wQ λw hw=>h w (aV _ hw)]
  split
  .have:x≠n:=by rintro rfl;exact h v bf
   simp[this]
  .rfl
theorem wR{kindOf:Str->Option NameKind}{x:Str}:∀{binds:List (Str×Value)}{m:Str->Option Value},(∀v,(x,v)∉binds)->Fz kindOf binds m x=m x
 |[],_,_=>rfl
 | (n,v)::r,m,h=>by
  unfold Fz;rw[wR λw hw=>h w (aV _ hw)]
  split
  .rfl
  .have:x≠n:=by rintro rfl;exact h v bf
   simp[this]
theorem wU{kindOf:Str->Option NameKind}{x:Str}{v:Value}:∀{P:List Str}{vs:List Value}{i:Nat}{m:Str->Option Value},P.Nodup->P[i]?=some x->vs[i]?=some v->kindOf x=some .local ->
  Fy kindOf (P.zip vs) m x=some v
 |[],_,_,_,_,h,_,_=>by simp at h
 |_::_,[],_,_,_,_,h,_=>by simp at h
 |p::P,w::vs,0,m,nd,h1,h2,hk=>by
  simp at h1 h2;subst h1;subst h2;show Fy kindOf ((p,w)::P.zip vs) m p=_;unfold Fy;rw[wQ λv hv=>(kh.mp nd).1 (vD hv).1,if_pos hk]
  simp
 |p::P,w::vs,i+1,m,nd,h1,h2,hk=>by
  show Fy kindOf ((p,w)::P.zip vs) m x=_
  unfold Fy;exact wU (i:=i) (kh.mp nd).2 (by simpa using h1) (by simpa using h2) hk
theorem wV{kindOf:Str->Option NameKind}{x:Str}{v:Value}:∀{P:List Str}{vs:List Value}{i:Nat}{m:Str->Option Value},P.Nodup->P[i]?=some x->vs[i]?=some v->kindOf x≠some .local ->
  Fz kindOf (P.zip vs) m x=some v
 |[],_,_,_,_,h,_,_=>by simp at h
 |_::_,[],_,_,_,_,h,_=>by simp at h
 |p::P,w::vs,0,m,nd,h1,h2,hk=>by
  simp at h1 h2;subst h1;subst h2;show Fz kindOf ((p,w)::P.zip vs) m p=_;unfold Fz;rw[wR λv hv=>(kh.mp nd).1 (vD hv).1,if_neg hk]
  simp
 |p::P,w::vs,i+1,m,nd,h1,h2,hk=>by
  show Fz kindOf ((p,w)::P.zip vs) m x=_
  unfold Fz;exact wV (i:=i) (kh.mp nd).2 (by simpa using h1) (by simpa using h2) hk
noncomputable def start(N:List Str)(vs:List V):St:=vs.map some++dq (N.length-vs.length) none
noncomputable def z6(CX:Gv)(P:bC)(w:bZ)(K:aF)(mg:Str->Option Value)(base:Heap)(N:List Str)(qual:Str)(scope:kJ)(f:Addr)(cd:Value)(A:cB)(outer:List Env)(s:ak)(H:Hp)(E:XK):Cx where
 prog:=P
 w:=w
 K:=K
 mg:=mg
 base:=base
 A:=A.deeper (pQ qual scope s.heap.objs.size f cd)
 N:=N
 s₀:=s
 H₀:=H
 env:=pQ qual scope s.heap.objs.size f cd
 outer:=outer
 stack:=pQ qual scope s.heap.objs.size f cd::outer
 ex:=[]
 calm:=true
 fn:=λ_=>true
 pn:=[]
 xe:=λe s'=>wpAny (aR P w) (A.deeper (pQ qual scope s.heap.objs.size f cd)) (leaving (pQ qual scope s.heap.objs.size f cd) e) (λ_ s''=>CX outer H s E e s'') (λe' s''=>CX outer H s E e' s'') s'
theorem z7{sc:kJ}{n:Nat}{x:Str}(h:sc.names.lookup x=some .cell):∃c,(cellsFrom n sc.names []).lookup x=some c:=by
 have q:=ye sc.names n [] (.inl h);exact wu.mp q
theorem EC{CX:Gv}{P:bC}{w:bZ}{K:aF}{mg:Str->Option Value}{base:Heap}{N ps:List Str}{qual:Str}{scope:kJ}{f:Addr}{cd:Value}{A:cB}{outer:List Env}{s s1:ak}{H:Hp}{E:XK}{us:List Value}{vs:List V}
  (S:fX N ps scope) (hd:A.handled=none) (e0:BL P w K mg base A outer s H) (hl:vs.length=ps.length) (r:Vals vs us)
  (x:InCallC s s.heap.objs.size (Fy (pQ qual scope s.heap.objs.size f cd).kindOf (ps.zip us) λ_=>none) (cellsFrom (s.heap.objs.size+1) scope.names []) (Fz (pQ qual scope s.heap.objs.size f cd).kindOf (ps.zip us) λ_=>none) s1):
  Inv (z6 CX P w K mg base N qual scope f cd A outer s H E) [] (start N vs) H s1:=by
 have hpl:ps.length<=N.length:=by have:=congrArg cQ S.pre;rw[gW] at this;omega
 obtain⟨h1,tk,rfl,hk⟩:=x.done;have noA:∀b:Addr,b∉(z6 CX P w K mg base N qual scope f cd A outer s H E).ex:=λb z=>absurd (show b∈([]:List Addr) from z) (by simp)
 refine#[#[e0.mod,S.kind,rfl,rfl,ax _,λy z c h1 h2=>?_,λy hy=>?_,λy c _ h=>?_,λ_=>hd,Around.frames_deeper e0.frames,.inr #[rfl,rfl],λb z=>absurd z (noA b),e0.bs,e0.FI,λb _ _=>noA b,λb z=>absurd z (noA b),e0.pS,e0.Jv],
  rfl,e0.bare,Un.kept hk,#[_,x.toInCall.ns,λi y v h1 h2 h3=>?_],λy c h=>#[_,x.cell y c h],e0.dg.fresh (ax _),λy c h=>?_,λp hp=>absurd (show p∈([]:List (Addr×Obj)) from hp) (by simp),e0.dg.kept hk,?_]
 .exact name_of_addr x.apart (fh h1) (fh h2)
 .have hy:scope.names.lookup y=some .cell\/scope.names.lookup y=some .free:=hy
  rcases hy with hy|hy
  .exact z7 hy
  .exact absurd rfl (S.NY _ (fh hy))
 .exact sS (x.above y c (fh h))
 .have hi:i<vs.length:=by
   unfold start at h2;by_cases hi:i<vs.length
   .exact hi
   .rw[ay (by simpa using hi)] at h2
    rw[zR] at h2;split at h2<;>cases h2
  have ha:vs[i]?=some v:=by
   unfold start at h2;rw[aq (by simpa using hi),au] at h2;cases e:vs[i]? with
   |none=>rw[e] at h2;cases h2
   |some a=>rw[e] at h2;cases h2;rfl
  obtain⟨u,hu,rv⟩:=r.get ha;have hp:ps[i]?=some y:=by
   rw[<-S.pre,List.getElem?_take_of_lt ∅];exact h1
  have ndP:ps.Nodup:=by rw[<-S.pre];exact S.nd.sublist (List.take_sublist _ _)
  refine#[u,rv,?_];rcases S.par y (aw hp) with k|k
  .exact .inl #[k,wU ndP hp hu k]
  .obtain⟨c,e⟩:=z7 (n:=s.heap.objs.size+1) k
   refine .inr #[.inl k,c,e,?_];have q:=x.cell y c e;rw[wV ndP hp hu (by show scope.names.lookup y≠_;rw[k];decide)] at q;exact q
 .exact e0.dg.fresh (sS (x.above y c (fh h)))
 .unfold start
  show _=N.length
  rw[aB,ar,List.length_replicate]
  omega
theorem RI{CX:Gv}{P:bC}{w:bZ}{K:aF}{mg:Str->Option Value}{base:Heap}{k:Nat}{f:Addr}{name qual:Str}{params:Arguments}{body:List Stmt}{scope:kJ}{dV kV doc pm cdv ct oc:Value}{an od:Option Addr}
  {osl:Array (Option Value)}{N ps:List Str}{sp:Sp} (lk:K.lookup f=some #[oc,od,.func (jT name qual params body scope dV kV doc pm an cdv ct),osl]) (hcd:t8 K cdv qual=true) (S:fX N ps scope)
  (len:∀vs H Q E,sp vs H Q E->vs.length=ps.length)
  (hbody:∀(A:cB)(outer:List Env)(s:ak)(H:Hp)(vs:List V)(Q:VK)(E:XK),jz k (A.deeper (pQ qual scope s.heap.objs.size f cdv))->sp vs H Q E ->
   ∃t,sV (z6 CX P w K mg base N qual scope f cdv A outer s H E) body t/\t {nx:=λ_ H'=>Q .bK H',rt:=Q} (start N vs) H):
  iK P w K mg base CX (k+1) f (jT name qual params body scope dV kV doc pm an cdv ct) ps sp:=by
 refine#[len,λA outer s H args us vs Q E hr e0 hb r hsp=>?_];have hl:=len _ _ _ _ hsp;have KX:K.In s.heap:=e0.mod.QN.keeps λb o e=>(e0.bs b o e).1
 have lim:s.heap.NoLimit:=e0.mod.nolimit.keeps λb o e=>(e0.bs b o e).1
 have hkind:∀y∈ps.zip us,scope.names.lookup y.1=some .local\/(scope.names.lookup y.1=some .cell/\((cellsFrom (s.heap.objs.size+1) scope.names []).lookup y.1).isSome=true):=λ⟨n,v⟩ hy=>by
  rcases S.par n (vD hy).1 with q|q
  .exact .inl q
  .exact .inr #[q,ye _ _ _ (.inl q)]
 refine codeAny_call_function hr.depth (KX _ _ lk) rfl S.co S.gen rfl (PySem.W.codeRec_of KX hcd) (hb _ _ _ _ ?_);refine wpAny_newFunctionEnv_cells S.kind hkind λenv he s1 x=>?_
 subst he;refine#[lim.keeps x.toInCall.keep,codeAny_func ?_];obtain⟨t,ht,hq⟩:=hbody A outer s H vs Q E (hr.deeper _) hsp;have I:Inv (z6 CX P w K mg base N qual scope f cdv A outer s H E) [] (start N vs) H s1:=EC S hr.hd e0 hl r x;refine bL (ht [] s1 (start N vs) H _ I hq) (λfl s' hs=>?_) λe s' hs=>hs
 have fin:∀{σ':St}{H':Hp}{v:V}{u:Value},Inv (z6 CX P w K mg base N qual scope f cdv A outer s H E) [] σ' H' s'->RelV v u->Q v H'->CE outer P w H s Q u s':=
  λ{σ' H' v u}J rv q=>#[v,H',J.os,J.bare,J.base,J.dg,rv,q]
 cases fl with
 |ret u=>
  obtain⟨v,σ',H',J,rv,q⟩:=hs;exact fin J rv q
 |next=>
  obtain⟨σ',H',J,q⟩:=hs;exact fin (v:=V.bK) (u:=dh) J rfl q
 |brk=>
  obtain⟨_,_,_,q⟩:=hs;exact aJ q
 |cont=>
  obtain⟨_,_,_,q⟩:=hs;exact aJ q
section
variable{X:Cx}{x:Str}{p pos:Pos}{e:Expr}{es:List Expr}{t:TA}{id T:String}{r:List V->Hp->VK->Prop}
noncomputable def V7(r:List V->Hp->VK->Prop)(t:TA):TE:=λσ H Q=>t σ H λvs H1=>r vs H1 Q
theorem mq(hc:iP X (.builtin id) r)(hg:Gl X x)(hm:X.mg x=none)(hv:jG x=some (.builtin id))(ha:PA X (e::es) t)(hn:x≠"__name__":=by decide)(hdb:(x==("__debug__":Str))=false:=by decide)
  (he:bS (e::es) X.env=(false,eval e X.env)::bS es X.env:=by rfl) (hpl:(iN pos (bS es X.env)).any (·.1)=false:=by rfl):PE X (.Call (.Name x p) (e::es) [] pos) (V7 r t):=by
 intro pZ s σ H Q I h;refine dy (pV I hg hm hv ?_ hn hdb);refine PyProof.Rows.callWith_builtin1 (fj (ha pos pZ s σ H _ I h) λus s1 h9=>?_) he hpl;obtain⟨vs,H1,I1,r1,q1⟩:=h9;exact hc pZ s1 σ H1 vs us Q I1 r1 q1
theorem rm(hc:iP X (.type T) r)(hg:Gl X x)(hm:X.mg x=none)(hv:jG x=some (.type T))(ha:PA X (e::es) t)(hn:x≠"__name__":=by decide)(hdb:(x==("__debug__":Str))=false:=by decide)
  (he:bS (e::es) X.env=(false,eval e X.env)::bS es X.env:=by rfl) (hpl:(iN pos (bS es X.env)).any (·.1)=false:=by rfl):PE X (.Call (.Name x p) (e::es) [] pos) (V7 r t):=by
 intro pZ s σ H Q I h;refine dy (pV I hg hm hv ?_ hn hdb);refine jb (fj (ha pos pZ s σ H _ I h) λus s1 h9=>?_) he hpl;obtain⟨vs,H1,I1,r1,q1⟩:=h9;exact hc pZ s1 σ H1 vs us Q I1 r1 q1
end
end L2
namespace HT
open PySem PyProof.Rows
section
variable{prog:bC}{w:bZ}{A:cB}{E:Value->ak->Prop}{s:ak}
theorem Kf{t b:Addr}{vs ws:List Value}{Q:Value->ak->Prop}(ht:IsTup s.heap t vs.toArray)(hb:IsTup s.heap b ws.toArray)(hv:vs≠[])
  (h1:ws=[]->Q (.ref t) s) (h2:ws≠[]->Q (.ref s.heap.objs.size) {s with heap:=s.heap.push {cls:=.type "tuple",data:=.seq (vs++ws).toArray} })
  (hsz:vs.length+ws.length<=sizeLine):wpAny (aR prog w) A (cA .Add (.ref t) (.ref b)) Q E s:=by
 obtain⟨⟨cls,dd,data,sl⟩,ho,hc,n,hd⟩:=id ht;obtain⟨⟨cls2,dd2,data2,sl2⟩,ho2,hc2,n2,hd2⟩:=id hb;simp only at hc hd hc2 hd2;subst hc hd hc2 hd2;have e:vs.toArray++ws.toArray=(vs++ws).toArray:=by simp
 by_cases hw:ws=[]
 .exact FT #[_,ho,rfl] #[_,ho2,rfl] yf D9 mP md (lS _ _)
   (tuple_addW1 t b vs.toArray ws.toArray n n2 dd dd2 sl sl2 (by simpa using hv) (by simp[hw])) #[ho,ho2,h1 hw]
 .refine FT #[_,ho,rfl] #[_,ho2,rfl] yf D9 mP md (lS _ _)
   (tuple_addW2 t b vs.toArray ws.toArray n n2 dd dd2 sl sl2 (by simpa using hv) (by simpa using hw) (by rw[aC,aC];exact hsz)) #[ho,ho2,?_]
  rw[e]
  exact h2 hw
noncomputable def i3(n d:Nat):Option Int->Nat
 |none=>d
 |some v=>if v<0 then(v+(n:Int)).toNat else min v.toNat n
theorem NZ(n d:Nat)(hd:d<=n)(o:Option Int):i3 n d o<=n:=by
 cases o with
 |none=>exact hd
 |some v=>
  show(if v<0 then(v+(n:Int)).toNat else min v.toNat n)<=n
  by_cases hv:v<0
  .rw[if_pos hv];omega
  .rw[if_neg hv];exact Nat.min_le_right _ _
theorem C7(v:Int)(n d:Nat):(if v<0 then max (v+(n:Int)) 0 else min v (n:Int))=((i3 n d (some v):Nat):Int):=by
 show(if v<0 then max (v+(n:Int)) 0 else min v (n:Int))=(((if v<0 then(v+(n:Int)).toNat else min v.toNat n):Nat):Int)
 by_cases hv:v<0
 .simp only[if_pos hv];omega
 .simp only[if_neg hv];omega
theorem BM(lo hi:Option Int)(n:Nat):Builtin.Slice.sliceAdjust lo hi 1 (n:Int)=(((i3 n 0 lo:Nat):Int),((i3 n n hi:Nat):Int)):=by
 have h1:¬((1:Int)<0):=∅
 unfold Builtin.Slice.sliceAdjust;simp only[h1,if_false];refine Prod.ext ?_ ?_
 .cases lo with
  |none=>rfl
  |some v=>exact C7 v n 0
 .cases hi with
  |none=>rfl
  |some v=>exact C7 v n n
theorem BN(i j:Nat):Builtin.Slice.slicePlaces (i:Int) (j:Int) 1=j-i:=by
 unfold Builtin.Slice.slicePlaces;have h1:(1:Int)>0:=∅
 simp only[h1,if_true,Int.ediv_one];split<;>omega
theorem um{v:Value}{o:Option Int}{Q:Option Int->ak->Prop}(p:yg v o)(h:Q o s):wpAny (aR prog w) A (Builtin.Slice.slicePartIndex v) Q E s:=by
 cases p with
 |none=>exact slicePart_none h
 |int i t=>exact slicePart_int h
theorem rn{sl:Addr}{vl vu:Value}{lo hi:Option Int}{n:Nat}{Q:Int×Int×Nat->ak->Prop}(hs:s.heap.IsSliceOf sl vl vu .none)(pl:yg vl lo)(pu:yg vu hi)
  (h:Q (((i3 n 0 lo:Nat):Int),1,i3 n n hi-i3 n 0 lo) s):wpAny (aR prog w) A (Builtin.Slice.sliceApplied (.ref sl) (pure (n:Int))) Q E s:=by
 obtain⟨os,hos,hcs,hds⟩:=id hs;unfold Builtin.Slice.sliceApplied Builtin.Slice.sliceFields;refine aj (aj (kM hos hds (x:=vl) rfl (aj (kM hos hds (x:=vu) rfl (aj (kM hos hds (x:=.none) rfl (aK ?_)))))));refine aj (slicePart_none ?_);show wpAny _ _ (if ((1:Int)== 0)=true then _ else _) _ _ s;rw[if_neg ⋯]
 refine aj (um pl (aj (um pu (aj (aK ?_)))));show wpAny _ _ (match Builtin.Slice.sliceAdjust lo hi 1 (n:Int) with| (lo,hi)=>pure (lo,(1:Int),Builtin.Slice.slicePlaces lo hi 1)) _ _ s;rw[BM lo hi n]
 show wpAny _ _ (pure (((i3 n 0 lo:Nat):Int),(1:Int),Builtin.Slice.slicePlaces ((i3 n 0 lo:Nat):Int) ((i3 n n hi:Nat):Int) 1)) _ _ s
 rw[BN]
 exact aK h
theorem Gx(xs:Array Value)(i k:Nat):((cy k).filterMap λ(m:Nat)=>xs[((i:Int)+(m:Int)*1).toNat]?).toArray=((xs.toList.drop i).take k).toArray:=by
 have e:(λ(m:Nat)=>xs[((i:Int)+(m:Int)*1).toNat]?)=λm=>xs[i+m]?:=by
  funext m
  have:((i:Int)+(m:Int)*1).toNat=i+m:=∅
  rw[this]
 rw[e]
 have:=pick_run xs i k;rw[qS] at this;have e2:((λx=>xs[x]?)∘λx=>i+x)=λm=>xs[i+m]?:=rfl
 rw[e2] at this;rw[this]
theorem qr{t sl:Addr}{items:Array Value}{vl vu:Value}{lo hi:Option Int}{Q:Value->ak->Prop}(ht:IsTup s.heap t items)(hs:s.heap.IsSliceOf sl vl vu .none)(pl:yg vl lo)(pu:yg vu hi)
  (hw:¬(i3 items.size 0 lo=0/\i3 items.size items.size hi=items.size))
  (h:Q (.ref s.heap.objs.size) {s with heap:=s.heap.push {cls:=.type "tuple",data:=.seq ((items.toList.drop (i3 items.size 0 lo)).take (i3 items.size items.size hi-i3 items.size 0 lo)).toArray} })
  (hsz:items.size<=sizeLine):wpAny (aR prog w) A (vN (.ref t) (.ref sl)) Q E s:=by
 have htake:sizeOk (.seq ((items.toList.drop (i3 items.size 0 lo)).take (i3 items.size items.size hi-i3 items.size 0 lo)).toArray):=by
  show((items.toList.drop (i3 items.size 0 lo)).take (i3 items.size items.size hi-i3 items.size 0 lo)).toArray.size<=sizeLine
  rw[aC,gW,jF,pO]
  omega
 have hj:i3 items.size items.size hi<=items.size:=NZ _ _ (ax _) hi;obtain⟨os,hos,hcs,hds⟩:=id hs;have hTs:s.TypeIs (.ref sl) "slice":=#[os,hos,hcs]
 unfold vN;try with_reducible refine gT ?_
 first|refine aj (aK ?_)|skip
 refine aj (wpAny_sequenceKey ht.typeIs ⋯ ?_);refine aj (wpAny_callSpecial?_slot (name:=b8 "__getitem__") ht.typeIs iH
  (wpAny_call_entry iH ht.typeIs entry_tuple_getitem ?_ (args_tuple_getitem _ _)))
 show wpAny _ _ (Builtin.Tuple.tupleItemsOf (.ref t)>>=_) _ _ s
 refine aj (tupleItemsOf_ ht ?_);refine aj (FU hTs ?_);rw[if_pos ⋯]
 refine aj (rn hs pl pu ?_);have hno:¬((((i3 items.size 0 lo:Nat):Int)== 0&&(1:Int)== 1&&(i3 items.size items.size hi-i3 items.size 0 lo)== items.size)=true):=by
  intro q;rw[af,af] at q;have q1:((i3 items.size 0 lo:Nat):Int)=0:=eq_of_beq q.1.1;have q2:i3 items.size items.size hi-i3 items.size 0 lo=items.size:=eq_of_beq q.2;exact hw #[∅,∅]
 show wpAny _ _ (if (((i3 items.size 0 lo:Nat):Int)== 0&&(1:Int)== 1&&(i3 items.size items.size hi-i3 items.size 0 lo)== items.size)=true then _ else _) _ _ s
 rw[if_neg hno,Gx]
 first
  |exact aj (m:=Builtin.Tuple.tupleExact _) (gZ (aK #[_,rfl,aK h]) htake)
  |exact aj (m:=Builtin.Tuple.tupleExact _) (gZ (aj (aK (aK #[_,rfl,aK h]))) htake)
  |exact aj (aj (m:=Builtin.Tuple.tupleExact _) (gZ (aK (aK #[_,rfl,aK h])) htake))
  |exact aj (aj (m:=Builtin.Tuple.tupleExact _) (gZ (aK #[_,rfl,aK h]) htake))
end
end HT
namespace L2
open PySem PySem.Spec PyProof.Rows
abbrev TO:=St->Hp->(Option Int->Hp->Prop)->Prop
noncomputable def PO(X:Cx)(e:Option Expr)(t:TO):Prop:=
 ∀(pZ:List (Addr×Obj))(s:ak)(σ:St)(H:Hp)(Q:Option Int->Hp->Prop),Inv X pZ σ H s->t σ H Q ->
  wpAny (aR X.prog X.w) X.A (evalPart e X.env) (λu s'=>∃o H',Inv X pZ σ H' s'/\yg u o/\Q o H') X.xe s
noncomputable def Kg:TO:=λ_ H Q=>Q none H
noncomputable def RJ(t:TE):TO:=λσ H Q=>t σ H λx H1=>∃i,x=.int i/\Q (some i) H1
section
variable{X:Cx}{e:Expr}{te:TE}{lo hi:Option Expr}{tl th:TO}{pos p2:Pos}
theorem Kh:PO X none Kg:=by
 intro pZ s σ H Q I h;rw[evalPart_none]
 exact aK #[none,H,I,.none,h]
theorem Ki(h:PE X e te):PO X (some e) (RJ te):=by
 intro pZ s σ H Q I hw;rw[evalPart_some]
 refine fj (h pZ s σ H _ I hw) λu s1 h9=>?_
 obtain⟨x,H1,I1,r1,q1⟩:=h9;obtain⟨i,rfl,q⟩:=q1;obtain⟨t,rfl⟩:=r1;exact#[some i,H1,I1,.int i t,q]
noncomputable def RK(X:Cx)(r:V->Option Int->Option Int->Hp->VK->Prop):Prop:=
 ∀(pZ:List (Addr×Obj))(s:ak)(σ:St)(H:Hp)(x:V)(v vl vu:Value)(lo hi:Option Int)(sl:Addr)(Q:VK),Inv X pZ σ H s->RelV x v->s.heap.IsSliceOf sl vl vu .none->yg vl lo->yg vu hi->r x lo hi H Q ->
  ∃T id,t9 (.type T) "__getitem__"=pure (some (.builtin id))/\s.TypeIs v T/\wpAny (aR X.prog X.w) X.A (vN v (.ref sl)) (EP X pZ σ Q) X.xe s
noncomputable def YX(r:V->Option Int->Option Int->Hp->VK->Prop)(te:TE)(tl th:TO):TE:=λσ H Q=>te σ H λx H1=>tl σ H1 λl H2=>th σ H2 λu H3=>r x l u H3 Q
theorem Gy{r:V->Option Int->Option Int->Hp->VK->Prop}(hr:RK X r)(he:PE X e te)(hl:PO X lo tl)(hu:PO X hi th):PE X (.Subscript e (.Slice lo hi none p2) pos) (YX r te tl th):=by
 intro pZ s σ H Q I h;refine Subscript_ (fj (he pZ s σ H _ I h) λv s1 h9=>?_);obtain⟨x,H1,I1,r1,q1⟩:=h9;refine wpAny_Slice (fj (hl pZ s1 σ H1 _ I1 q1) λvl s2 h9=>?_);obtain⟨l,H2,I2,pl,q2⟩:=h9;refine fj (hu pZ s2 σ H2 _ I2 q2) λvu s3 h9=>?_
 obtain⟨u,H3,I3,pu,q3⟩:=h9;rw[evalPart_none]
 refine aK ?_;have I4:Inv X pZ σ H3 {s3 with heap:=s3.heap.push {cls:=.type "slice",data:=.fields (List.toArray [vl,vu,.none])} }:=I3.kept (t':=s3.toks) λb ob q=>aA _ q
 obtain⟨T,id,hT,ht,hg⟩:=hr pZ {s3 with heap:=s3.heap.push {cls:=.type "slice",data:=.fields (List.toArray [vl,vu,.none])} } σ H3 x v vl vu l u s3.heap.objs.size Q I4 r1 (Heap.IsSliceOf.new ..) pl pu q3;show wpAny (aR X.prog X.w) X.A (subscriptTail e (.Slice lo hi none p2) v (.ref s3.heap.objs.size)) (EP X pZ σ Q) X.xe {s3 with heap:=s3.heap.push {cls:=.type "slice",data:=.fields (List.toArray [vl,vu,.none])} };exact tail_any (ops:=[.ref s3.heap.objs.size,v]) ht hT hg (by with_unfolding_all rfl)
noncomputable def z8(xs:List V)(lo hi:Option Int):List V:=(xs.drop (HT.i3 xs.length 0 lo)).take (HT.i3 xs.length xs.length hi-HT.i3 xs.length 0 lo)
theorem sv(xs:List V)(lo hi:Option Int):(z8 xs lo hi).length<=xs.length:=by
 unfold z8;rw[gW,jF]
 omega
noncomputable def V8(K:aF):V->Option Int->Option Int->Hp->VK->Prop:=λx lo hi H Q=>∃a xs,x=.ref a/\lU K H a xs /\
 ¬(HT.i3 xs.length 0 lo=0/\HT.i3 xs.length xs.length hi=xs.length)/\∀p,H p=none->Q (.ref p) (upd H p (.tup (z8 xs lo hi)))
theorem N0:RK X (V8 X.K):=by
 intro pZ s σ H x v vl vu lo hi sl Q I rx hs pl pu h;obtain⟨a,xs,rfl,hx,hw,q⟩:=h;cases rx;obtain⟨its,r,ht,hz⟩:=I.tuple hx;have hlen:its.toArray.size=xs.length:=by rw[aC];exact r.length.symm
 refine#["tuple",_,iH.lookup,ht.typeIs,?_];refine HT.qr ht hs pl pu (by rw[hlen];exact hw) ?_ (by rw[hlen];exact hz);rw[hlen]
 refine#[.ref s.heap.objs.size,_,I.laid (t':=s.toks) (o:=.tup (z8 xs lo hi)) (λb ob q=>aA _ q) (ax _) ?_,rfl,q _ (I.dg.fresh (ax _))];exact#[aT (sv xs lo hi) hz,_,(r.drop (HT.i3 xs.length 0 lo)).take (HT.i3 xs.length xs.length hi-HT.i3 xs.length 0 lo),FV _ _]
noncomputable def RL(K:aF):R2:=λx y H Q=>∃a b xs ys,x=.ref a/\y=.ref b/\lU K H a xs/\lU K H b ys/\xs≠[]/\xs.length+ys.length<=sizeLine /\
 (ys=[]->Q (.ref a) H)/\(ys≠[]->∀p,H p=none->Q (.ref p) (upd H p (.tup (xs++ys))))
theorem Vals.yD{xs:List V}{us:List Value}(r:Vals xs us):us=[]↔xs=[]:=by
 cases r with
 |nil=>simp
 |cons _ _=>simp
theorem Kj:gw X (cA .Add) (RL X.K):=by
 intro pZ s σ H x y v u Q I rx ry h;obtain⟨a,b,xs,ys,rfl,rfl,ha,hb,hx,hz,q1,q2⟩:=h;cases rx;cases ry;obtain⟨its,r1,p1,_⟩:=I.tuple ha;obtain⟨its2,r2,p2,_⟩:=I.tuple hb;refine HT.Kf p1 p2 (λz=>hx (r1.yD.mp z)) (λz=>#[.ref a,H,I,rfl,q1 (r2.yD.mp z)]) (λz=>?_) (by rw[<-r1.length,<-r2.length];exact hz);refine#[.ref s.heap.objs.size,_,I.laid (t':=s.toks) (o:=.tup (xs++ys)) (λb ob q=>aA _ q) (ax _) ?_,rfl,q2 (λw=>z (r2.yD.mpr w)) _ (I.dg.fresh (ax _))];exact#[by rw[aB];exact hz,_,r1.append r2,FV _ _]
end
noncomputable def N1(n:Nat)(i:Int):Option Nat:=if 0<=i then(if i<n then some i.toNat else none) else if -(n:Int)<=i then some (i+n).toNat else none
noncomputable def N2{α:Type}(xs:List α)(i:Int):Option α:=(N1 xs.length i).bind λj=>xs[j]?
theorem C8{n:Nat}{i:Int}{j:Nat}(h:N1 n i=some j):seqIndex? i n=some j/\j<n/\-(n:Int)<=i/\i<n:=by
 unfold N1 at h;by_cases h0:0<=i
 .rw[if_pos h0] at h
  by_cases h1:i<n
  .rw[if_pos h1] at h
   have e:i.toNat=j:=aG h;exact#[by rw[JH h0 h1,e],∅,∅,h1]
  .rw[if_neg h1] at h;cases h
 .rw[if_neg h0] at h
  by_cases h1:-(n:Int)<=i
  .rw[if_pos h1] at h
   have e:(i+n).toNat=j:=aG h;exact#[by rw[FW ∅ h1,e],∅,h1,∅]
  .rw[if_neg h1] at h;cases h
theorem yE{α:Type}{xs:List α}{i:Int}{v:α}(h:N2 xs i=some v):∃j,seqIndex? i xs.length=some j/\xs[j]?=some v/\j<xs.length/\-(xs.length:Int)<=i/\i<xs.length:=by
 unfold N2 at h;cases e:N1 xs.length i with
 |none=>rw[e] at h;cases h
 |some j=>
  rw[e] at h;obtain⟨h1,h2,h3,h4⟩:=C8 e;exact#[j,h1,h,h2,h3,h4]
noncomputable def C9(b:Expr):Prop:=∀o i,subscripted b false o i=operate [o,i] (vN o i)
noncomputable def QP(X:Cx)(r:R2):Prop:=
 ∀(value slice:Expr)(pZ:List (Addr×Obj))(s:ak)(σ:St)(H:Hp)(x y:V)(v u:Value)(Q:VK),Inv X pZ σ H s->RelV x v->RelV y u->r x y H Q ->
  subscripted slice false v u=operate [v,u] (vN v u)->wpAny (aR X.prog X.w) X.A (subscriptTail value slice v u) (EP X pZ σ Q) X.xe s
noncomputable def FJ(X:Cx)(id:String)(r:V->List V->Hp->VK->Prop):Prop:=
 ∀(pZ:List (Addr×Obj))(s:ak)(σ:St)(H:Hp)(x:V)(xs:List V)(v:Value)(us:List Value)(Q:VK),Inv X pZ σ H s->RelV x v->Vals xs us->r x xs H Q ->
  wpAny (aR X.prog X.w) X.A (call (.builtin id) (v::us)) (EP X pZ σ Q) X.xe s
section
variable{X:Cx}{a b:Expr}{ta tb:TE}{pos:Pos}
theorem RM{r:R2}(hr:QP X r)(ha:PE X a ta)(hb:PE X b tb)(hs:C9 b):PE X (.Subscript a b pos) (Vd r ta tb):=by
 intro pZ s σ H Q I h;exact Subscript_ (NF ha hb I h λv u s2 x y H2 I2 rx ry q=>hr a b pZ s2 σ H2 x y v u Q I2 rx ry q (hs _ _))
noncomputable def V9(K:aF):R2:=λx y H Q=>∃p xs i v,x=.ref p/\y=.int i/\gH K H p xs/\N2 xs i=some v/\Q v H
noncomputable def Wa(K:aF):R2:=λx y H Q=>∃p xs i v,x=.ref p/\y=.int i/\lU K H p xs/\N2 xs i=some v/\Q v H
noncomputable def Wb:R2:=λx y H Q=>∃z i c,x=.str z/\y=.int i/\z.length<=sizeLine/\N2 z.cps.toList i=some c/\Q (.str #[(List.toArray [c])]) H
theorem Dc:QP X (V9 X.K):=by
 intro value slice pZ s σ H x y v u Q I rx ry h hs;obtain⟨p,xs,i,z,rfl,rfl,hq,he,q⟩:=h;cases rx;obtain⟨t,rfl⟩:=ry;obtain⟨its,r,pl,hz⟩:=I.list hq;obtain⟨j,h1,h2,h3,h4,h5⟩:=yE he;obtain⟨w,ew,rw'⟩:=r.get h2;have hl:=r.length;have hn:=oh;have fin:EP X pZ σ Q w s:=#[z,H,I,rw',q]
 by_cases h0:0<=i
 .have hj:i.toNat=j:=by
   rw[JH h0 h5] at h1;exact aG h1
  exact item_listR pl.isList h0 ∅ (by rw[hj];simpa using ew) fin hs
 .have hj:(i+(its.toArray.size:Int)).toNat=j:=by
   rw[FW ∅ h4] at h1;rw[aC,<-hl]
   exact aG h1
  exact FX (x:=w) pl.isList.typeIs slot_list_getitem.lookup
   (wpAny_getItem_list_neg (Q:=λr s'=>r=w/\EP X pZ σ Q r s') pl.isList ∅ (by rw[aC]<;>omega) ∅ (by rw[hj];simpa using ew) #[rfl,fin]) hs
theorem N3:QP X (Wa X.K):=by
 intro value slice pZ s σ H x y v u Q I rx ry h hs;obtain⟨p,xs,i,z,rfl,rfl,hq,he,q⟩:=h;cases rx;obtain⟨t,rfl⟩:=ry;obtain⟨its,r,pl,hz⟩:=I.tuple hq;obtain⟨j,h1,h2,h3,h4,h5⟩:=yE he;obtain⟨w,ew,rw'⟩:=r.get h2;have hl:=r.length;have hn:=oh;have fin:EP X pZ σ Q w s:=#[z,H,I,rw',q]
 exact FX (x:=w) pl.typeIs slot_tuple_getitem.lookup
  (getItem_tuple (j:=j) (Q:=λr s'=>r=w/\EP X pZ σ Q r s') pl ∅ ∅ (by rw[aC,<-hl];exact h1) (by simpa using ew) #[rfl,fin]) hs
theorem N4:QP X Wb:=by
 intro value slice pZ s σ H x y v u Q I rx ry h hs;obtain⟨z,i,c,rfl,rfl,hz,he,q⟩:=h;obtain⟨t,rfl⟩:=rx;obtain⟨t',rfl⟩:=ry;obtain⟨j,h1,h2,h3,h4,h5⟩:=yE he;have hl:z.cps.toList.length=z.length:=by simp[FY]
 rw[hl] at h1 h4 h5;have hn:=oh;exact tail_any (typeIs_str s z t) slot_str_getitem.lookup (getItem_str (c:=c) (by
  have e1:decide (i < -(2^63:Int))=false:=decide_eq_false ∅;have e2:decide (i≥2^63)=false:=decide_eq_false ∅;rw[e1,e2,Bool.or_false]) (by rw[h1];simpa using h2) #[.str #[(List.toArray [c])],H,I.tok _,#[_,rfl],q]) hs
theorem BO(its:List Value)(n j:Nat)(u:Value):qY (·.setIfInBounds j u) {cls:=.type "list",data:=.seq its.toArray n}= {cls:=.type "list",data:=.seq (its.set j u).toArray n}:=by
 simp[qY]
theorem Inv.lst{pZ:List (Addr×Obj)}{σ:St}{H:Hp}{s:ak}{p:Addr}{xs:List V}(I:Inv X pZ σ H s)(h:H p=some (.lst xs)):
  ∃(its:List Value)(n:Nat),Vals xs its/\s.heap.get? p=some {cls:=.type "list",data:=.seq its.toArray n}/\xs.length<=sizeLine:=by
 obtain⟨z,its,n,r,e⟩:=I.dg p _ h;exact#[its,n,r,e,z]
theorem Inv.N5{pZ:List (Addr×Obj)}{σ:St}{H:Hp}{s:ak}{p:Addr}{xs ys:List V}{its its':List Value}{n n':Nat}{f:Obj->Obj}(I:Inv X pZ σ H s)(h:H p=some (.lst xs))
  (ho:s.heap.get? p=some {cls:=.type "list",data:=.seq its.toArray n}) (hf:f {cls:=.type "list",data:=.seq its.toArray n}= {cls:=.type "list",data:=.seq its'.toArray n'}) (r:Vals ys its') (hz:ys.length<=sizeLine) (t:Nat):
  Inv X pZ σ (upd H p (.lst ys)) {s with heap:=s.heap.update p f,toks:=t}:=by
 have e:(s.heap.update p f).get? p=some {cls:=.type "list",data:=.seq its'.toArray n'}:=by
  rw[dY f ho (by rw[hf]<;>rfl),hf]
 refine I.write (x:=p) (e:=p) (by rw[h];trivial) (.inl rfl) (λb u hb q=>(nZ _ _ (dM hb)).trans q) #[_,e] ?_;exact#[hz,its',n',r,e]
noncomputable def RO:V->V->V->Hp->(Hp->Prop)->Prop:=λo i v H Q=>∃p xs k j,o=.ref p/\i=.int k/\H p=some (.lst xs)/\N1 xs.length k=some j/\Q (upd H p (.lst (xs.set j v)))
theorem set_list:Rl X RO:=by
 intro pZ s σ H o i v ov iv u Q I ro ri rv h;obtain⟨p,xs,k,j,rfl,rfl,hp,hj,q⟩:=h;cases ro;obtain⟨t,rfl⟩:=ri;obtain⟨its,n,r,ho,hz⟩:=I.lst hp;obtain⟨h1,h2,h3,h4⟩:=C8 hj;have hl:=r.length;have hn:=oh;have I':Inv X pZ σ (upd H p (.lst (xs.set j v))) {s with heap:=s.heap.update p (qY (·.setIfInBounds j u))}:=
  I.N5 hp ho (BO its n j u) (r.set rv j) (by rw[cZ];exact hz) s.toks
 by_cases h0:0<=k
 .have hk:k.toNat=j:=by
   rw[JH h0 h4] at h1;exact aG h1
  exact PySem.W.ki_setAt ho h0 ∅ (by rw[aC,<-hl];exact h4) (by rw[hk];exact#[_,I',q])
 .have hk:(k+(its.toArray.size:Int)).toNat=j:=by
   rw[FW ∅ h3] at h1;rw[aC,<-hl]
   exact aG h1
  exact PySem.W.ki_setBack ho ∅ (by rw[aC,<-hl];exact h3) ∅ (by rw[hk];exact#[_,I',q])
theorem yF(lo hi:Option Int)(n:Nat):(kN lo hi none n).1=((HT.i3 n 0 lo:Nat):Int)/\(kN lo hi none n).2.1=((HT.i3 n n hi:Nat):Int)/\(kN lo hi none n).2.2=1:=by
 refine#[?_,?_,rfl]
 .cases lo with
  |none=>simp[kN,HT.i3]
  |some i=>
   simp only[kN,HT.i3,jd,show(1:Int)>0 by decide,if_true];by_cases h:i<0
   .simp only[h,if_true]<;>omega
   .simp only[h,if_false]<;>omega
 .cases hi with
  |none=>simp[kN,HT.i3]
  |some i=>
   simp only[kN,HT.i3,jd,show(1:Int)>0 by decide,if_true];by_cases h:i<0
   .simp only[h,if_true]<;>omega
   .simp only[h,if_false]<;>omega
theorem vT(its:List Value)(lo hi:Option Int):slicePick its.toArray lo hi none=((its.drop (HT.i3 its.length 0 lo)).take (HT.i3 its.length its.length hi-HT.i3 its.length 0 lo)).toArray:=by
 obtain⟨h1,h2,h3⟩:=yF lo hi its.toArray.size;unfold slicePick;rw[h1,h2,h3]
 simp only[sliceRange_one,pick_run,aC]<;>rfl
noncomputable def Wc(K:aF):V->Option Int->Option Int->Hp->VK->Prop:=λx lo hi H Q=>∃a xs,x=.ref a/\gH K H a xs/\∀p,H p=none->Q (.ref p) (upd H p (.lst (z8 xs lo hi)))
theorem Kk:RK X (Wc X.K):=by
 intro pZ s σ H x v vl vu lo hi sl Q I rx hs pl pu h;obtain⟨a,xs,rfl,hx,q⟩:=h;cases rx;obtain⟨its,r,ht,hz⟩:=I.list hx;have hlen:=r.length;refine#["list",_,slot_list_getitem.lookup,ht.isList.typeIs,?_];refine wpAny_getItem_list_slice ht.isList hs pl pu .none (by simp) ?_ (by rw[aC]<;>omega);rw[vT,<-hlen]
 refine#[.ref s.heap.objs.size,_,I.laid (t':=s.toks) (o:=.lst (z8 xs lo hi)) (λb ob q=>aA _ q) (ax _) ?_,rfl,q _ (I.dg.fresh (ax _))];exact#[aT (sv xs lo hi) hz,_,0,(r.drop (HT.i3 xs.length 0 lo)).take (HT.i3 xs.length xs.length hi-HT.i3 xs.length 0 lo),bz _ rfl]
noncomputable def pI:V->Bool
 |.bK=>true
 |.bl _=>true
 |.int _=>true
 |.str _=>true
 |_=>false
noncomputable def Kl:V->V->Bool
 |.bK,.bK=>true
 |.bl a,.bl b=>a==b
 |.bl a,.int b=>(if a then 1 else 0)== b
 |.int a,.bl b=>a==(if b then 1 else 0)
 |.int a,.int b=>a==b
 |.str a,.str b=>a==b
 |_,_=>false
theorem N6{A:cB}{s:ak}{y x:V}{u v:Value}(ry:RelV y u)(rx:RelV x v)(fy:pI y=true)(fx:pI x=true):vO A s u v (Kl y x):=by
 cases y with
 |bK=>
  cases ry;cases x with
  |bK=>cases rx;exact me _
  |bl b=>cases rx;exact wx b
  |int b=>obtain⟨t,rfl⟩:=rx;exact yh b t
  |str b=>obtain⟨t,rfl⟩:=rx;exact yi b t
  |_=>exact absurd (show false=true from fx) aX
 |bl a=>
  cases ry;cases x with
  |bK=>cases rx;exact wy a
  |bl b=>cases rx;exact wz a b
  |int b=>obtain⟨t,rfl⟩:=rx;exact yj a b t
  |str b=>obtain⟨t,rfl⟩:=rx;exact yk a b t
  |_=>exact absurd (show false=true from fx) aX
 |int a=>
  obtain⟨t',rfl⟩:=ry;cases x with
  |bK=>cases rx;exact ym a t'
  |bl b=>cases rx;exact yn a t' b
  |int b=>obtain⟨t,rfl⟩:=rx;exact zH a t' b t
  |str b=>obtain⟨t,rfl⟩:=rx;exact oI a t' b t
  |_=>exact absurd (show false=true from fx) aX
 |str a=>
  obtain⟨t',rfl⟩:=ry;cases x with
  |bK=>cases rx;exact yo a t'
  |bl b=>cases rx;exact yp a t' b
  |int b=>obtain⟨t,rfl⟩:=rx;exact oJ a t' b t
  |str b=>obtain⟨t,rfl⟩:=rx;exact zI a t' b t
  |_=>exact absurd (show false=true from fx) aX
 |_=>exact absurd (show false=true from fy) aX
noncomputable def BP(x:V)(u:Value):Bool:=match u with
 |.none=>Kl .bK x
 |.bool b=>Kl (.bl b) x
 |.int i _=>Kl (.int i) x
 |.str z _=>Kl (.str z) x
 |_=>false
theorem Gz{x y:V}{u:Value}(r:RelV y u)(f:pI y=true):BP x u=Kl y x:=by
 cases y with
 |bK=>cases r;rfl
 |bl b=>cases r;rfl
 |int i=>obtain⟨t,rfl⟩:=r;rfl
 |str z=>obtain⟨t,rfl⟩:=r;rfl
 |_=>exact absurd (show false=true from f) aX
theorem qt{x:V}:∀{xs:List V}{us:List Value},Vals xs us->xs.all pI=true->us.any (BP x)=xs.any λy=>Kl y x
 |_,_,.nil,_=>rfl
 |y::xs,u::us,.cons r t,f=>by
  rw[bj,af] at f;rw[cV,cV,Gz r f.1,qt t f.2]
theorem om{A:cB}{s:ak}{x:V}{v:Value}(rx:RelV x v)(fx:pI x=true):∀{xs:List V}{us:List Value},Vals xs us->xs.all pI=true->∀u∈us,vO A s u v (BP x u)
 |_,_,.nil,_=>λu hu=>by cases hu
 |y::xs,u::us,.cons r t,f=>λu' hu=>by
  rw[bj,af] at f;rcases bg.mp hu with rfl|hu
  .rw[Gz r f.1];exact N6 r rx f.1 fx
  .exact om rx fx t f.2 u' hu
noncomputable def Ve(x:V)(xs:List V):Bool:=xs.any λy=>Kl y x
noncomputable def XH(K:aF)(neg:Bool):R2:=λx y H Q=>∃p xs,y=.ref p/\(gH K H p xs\/lU K H p xs)/\pI x=true/\xs.all pI=true/\Q (.bl (if neg then !Ve x xs else Ve x xs)) H
theorem wW:gw X (bD .In) (XH X.K false):=by
 intro pZ s σ H x y v u Q I rx ry h;obtain⟨p,xs,rfl,hq,fx,fs,q⟩:=h;cases ry;rcases hq with hq|hq
 .obtain⟨its,r,pl,hz⟩:=I.list hq
  refine SeqAt.in_listAt (BP x) pl.isList (λw hw=>om rx fx r fs w (by simpa using hw)) #[.bl _,H,I,rfl,?_];rw[show its.toArray.any (BP x)=its.any (BP x) by simp,qt r fs]
  exact q
 .obtain⟨its,r,pl,hz⟩:=I.tuple hq
  refine SeqAt.in_tupleAt (BP x) pl (λw hw=>om rx fx r fs w (by simpa using hw)) #[.bl _,H,I,rfl,?_];rw[show its.toArray.any (BP x)=its.any (BP x) by simp,qt r fs]
  exact q
theorem qu:gw X (bD .NotIn) (XH X.K true):=by
 intro pZ s σ H x y v u Q I rx ry h;obtain⟨p,xs,rfl,hq,fx,fs,q⟩:=h;cases ry;rcases hq with hq|hq
 .obtain⟨its,r,pl,hz⟩:=I.list hq
  refine Ea (BP x) pl.isList (λw hw=>om rx fx r fs w (by simpa using hw)) #[.bl _,H,I,rfl,?_];rw[show its.toArray.any (BP x)=its.any (BP x) by simp,qt r fs]
  exact q
 .obtain⟨its,r,pl,hz⟩:=I.tuple hq
  refine SeqAt.notIn_tupleAt (BP x) pl (λw hw=>om rx fx r fs w (by simpa using hw)) #[.bl _,H,I,rfl,?_];rw[show its.toArray.any (BP x)=its.any (BP x) by simp,qt r fs]
  exact q
theorem yG:gw X (bD .NotIn) (λx y H Q=>∃i j,x=.str i/\y=.str j/\Q (.bl (!(!(Builtin.Str.occurrences j i 0 j.length 1).isEmpty))) H):=by
 intro pZ s σ H x y v u Q I rx ry h;obtain⟨i,j,rfl,rfl,q⟩:=h;obtain⟨t,rfl⟩:=rx;obtain⟨t',rfl⟩:=ry;exact notIn_str #[.bl _,H,I,rfl,q]
theorem qv:iP X (.type "list") (λxs H Q=>∃p ys,xs=[.ref p]/\(gH X.K H p ys\/lU X.K H p ys)/\∀l,H l=none->Q (.ref l) (upd H l (.lst ys))):=by
 intro pZ s σ H xs us Q I r h;obtain⟨p,ys,rfl,hq,q⟩:=h;obtain⟨u,rfl,rx⟩:=vals1 r;cases rx;have fin:∀(its:List Value),Vals ys its->ys.length<=sizeLine->∀(h':Heap)(c':Nat),(∀b o',s.heap.get? b=some o'->h'.get? b=some o') ->
   h'.get? s.heap.objs.size=some {cls:=.type "list",dict:=none,data:=.seq its.toArray c',slots:=#[]}->EP X pZ σ Q (.ref s.heap.objs.size) {s with heap:=h'}:=λits r' hz h' c' kp e=>
  #[.ref s.heap.objs.size,_,I.laid (t':=s.toks) kp (ax _) (show d6 X.prog X.w _ h' _ (.lst ys) from #[hz,its,c',r',e]),rfl,q _ (I.dg.fresh (ax _))]
 rcases hq with hq|hq
 .obtain⟨its,r',pl,hz⟩:=I.list hq
  have hlen:=r'.length;obtain⟨o,ho,hc,n,hd⟩:=pl.isList;exact call_list_seq p (.inl rfl) ho hc hd (λh' c' kp e=>fin its r' hz h' c' kp e) (by simp only[aC]<;>omega)
 .obtain⟨its,r',pl,hz⟩:=I.tuple hq
  have hlen:=r'.length;obtain⟨o,ho,hc,n,hd⟩:=pl;exact call_list_seq p (.inr rfl) ho hc hd (λh' c' kp e=>fin its r' hz h' c' kp e) (by simp only[aC]<;>omega)
theorem vU:iP X (.type "tuple") (λxs H Q=>∃p ys,xs=[.ref p]/\((gH X.K H p ys/\∀l,H l=none->Q (.ref l) (upd H l (.tup ys)))\/(lU X.K H p ys/\Q (.ref p) H))):=by
 intro pZ s σ H xs us Q I r h;obtain⟨p,ys,rfl,h⟩:=h;obtain⟨u,rfl,rx⟩:=vals1 r;cases rx;rcases h with⟨hq,q⟩|⟨hq,q⟩
 .obtain⟨its,r',pl,hz⟩:=I.list hq
  have hlen:=r'.length;refine call_tuple_list pl.isList (λh' kp=>?_) (by simp only[aC]<;>omega);have I1:Inv X pZ σ H {s with heap:=h'}:=I.kept (t':=s.toks) kp;have I2:Inv X pZ σ (upd H h'.objs.size (.tup ys)) {s with heap:=h'.push {cls:=.type "tuple",data:=.seq its.toArray} }:=
   I1.laid (t':=s.toks) (λb o e=>aA _ e) (ax _) (show d6 X.prog X.w _ _ _ (.tup ys) from #[hz,its,r',FV _ _])
  exact#[.ref h'.objs.size,_,I2,rfl,q _ (I1.dg.fresh (ax _))]
 .obtain⟨its,r',pl,hz⟩:=I.tuple hq
  exact call_tuple_same pl #[.ref p,H,I,rfl,q]
noncomputable def Vf(K:aF)(T:String)(x:V)(H:Hp):Prop:=match x with
 |.str _=>T="str"
 |.int _=>T="int"
 |.ref p=>(T="list"/\∃xs,gH K H p xs)\/(T="tuple"/\∃o,K.lookup p=some o/\o.cls=.type "tuple"/\o.dict=none) \/
   (T="dict"/\((∃kvs,H p=some (.dK kvs))\/∃kvs,H p=some (.dT kvs)))\/(T="set"/\∃S n,H p=some (.set S n))
 |_=>False
theorem GB{pZ:List (Addr×Obj)}{σ:St}{H:Hp}{s:ak}{T:String}{x:V}{v:Value}(I:Inv X pZ σ H s)(r:RelV x v)(ty:Vf X.K T x H):
  s.TypeIs v T/\∀a,v=.ref a->∃ob,s.heap.get? a=some ob/\ob.dict=none:=by
 cases x with
 |str z=>
  obtain⟨t,rfl⟩:=r;cases (show T="str" from ty);exact#[typeIs_str s z t,λ_ e=>nomatch e]
 |int i=>
  obtain⟨t,rfl⟩:=r;cases (show T="int" from ty);exact#[typeIs_int s i t,λ_ e=>nomatch e]
 |ref p=>
  cases r;rcases ty with⟨rfl,xs,hq⟩|⟨rfl,o,hk,hc,hd⟩|⟨rfl,hk⟩|⟨rfl,S,n,hk⟩
  .obtain⟨its,_,pl,_⟩:=I.list hq
   refine#[pl.isList.typeIs,λa e=>?_];cases e;obtain⟨o,n,e,c,hd,_⟩:=pl;exact#[o,e,hd]
  .refine#[#[o,I.kU p o hk,hc],λa e=>?_]
   cases e;exact#[o,I.kU _ o hk,hd]
  .have z:∃o,s.heap.get? p=some o/\o.ExactDict:=by
    rcases hk with⟨kvs,hk⟩|⟨kvs,hk⟩
    .obtain⟨_,_,_,_,o,_,_,e,ex,_⟩:=I.dg p _ hk
     exact#[o,e,ex]
    .obtain⟨_,_,_,_,o,_,_,e,ex,_⟩:=I.dg p _ hk
     exact#[o,e,ex]
   obtain⟨o,e,ex⟩:=z;refine#[#[o,e,ex.1],λa e2=>?_];cases e2;exact#[o,e,ex.2.1]
  .obtain⟨o,_,_,_,e,ex,_⟩:=I.dg p _ hk
   refine#[#[o,e,ex.1],λa e2=>?_];cases e2;exact#[o,e,ex.2.1]
 |_=>exact aJ ty
noncomputable def Wd(K:aF)(T:String)(r:V->List V->Hp->VK->Prop)(to:TE):TE:=λσ H Q=>to σ H λx H1=>Vf K T x H1/\r x [] H1 Q
noncomputable def XI(K:aF)(T:String)(r:V->List V->Hp->VK->Prop)(to:TE)(t:TA):TE:=λσ H Q=>to σ H λx H1=>Vf K T x H1/\t σ H1 λxs H2=>r x xs H2 Q
variable{o e:Expr}{es:List Expr}{to:TE}{t:TA}{name:Str}{apos cpos:Pos}{T id:String}{r:V->List V->Hp->VK->Prop}
theorem N7(pa:PlainAttrs T)(slot:Slot T name id)(hty:typeOf (.builtin id)=pure (.type "method_descriptor"))(hm:FJ X id r)(ho:PE X o to)
  (hbase:i0 o name X.env (eval o X.env)=eval o X.env:=by rfl) (hline:(apos.endLine==cpos.line)=true:=by rfl):PE X (.Call (.Attribute o name apos) [] [] cpos) (Wd X.K T r to):=by
 intro pZ s σ H Q I h;refine wpAny_Call_method0_late hbase hline (fj (ho pZ s σ H _ I h) λv s1 h9=>?_);obtain⟨x,H1,I1,r1,ty,q1⟩:=h9;obtain⟨h1,h2⟩:=GB I1 r1 ty;exact#[T,id,pa,slot,hty,h1,h2,nJ rfl (PySem.evalArgs_none (hm pZ s1 σ H1 x [] v [] Q I1 r1 .nil q1))]
theorem z9(pa:PlainAttrs T)(slot:Slot T name id)(hty:typeOf (.builtin id)=pure (.type "method_descriptor"))(hm:FJ X id r)(ho:PE X o to)(ha:PA X (e::es) t)
  (hbase:i0 o name X.env (eval o X.env)=eval o X.env:=by rfl)
  (hfew:((iN cpos (bS (e::es) X.env)).all (λx=>!x.1)&&(backToKw cpos (kO [] X.env)).all (λx=>x.1.isSome)
   && decide ((e::es).length+([]:List se).length+(if ([]:List se).isEmpty then 0 else 1)<30))=true:=by rfl)
  (hline:(apos.endLine==cpos.line)=true:=by rfl) (hs:bS (e::es) X.env=(false,eval e X.env)::bS es X.env:=by rfl) (hplain:(iN cpos (bS es X.env)).any (·.1)=false:=by rfl):
  PE X (.Call (.Attribute o name apos) (e::es) [] cpos) (XI X.K T r to t):=by
 intro pZ s σ H Q I h;refine wpAny_Call_method_late hbase hfew hline rfl (fj (ho pZ s σ H _ I h) λv s1 h9=>?_);obtain⟨x,H1,I1,r1,ty,q1⟩:=h9;obtain⟨h1,h2⟩:=GB I1 r1 ty;refine#[T,id,pa,slot,hty,h1,h2,?_];have hA:=ha cpos pZ s1 σ H1 _ I1 q1;rw[hs] at hA ⊢;refine nJ (by show(false||(iN cpos (bS es X.env)).any (·.1))=false;rw[hplain]<;>rfl) (Bp ?_);refine fj hA λus s2 h9=>?_
 obtain⟨vs,H2,I2,r2,q2⟩:=h9;exact hm pZ s2 σ H2 x vs v us Q I2 r1 r2 q2
end
noncomputable def XJ(X:Cx)(id:String)(r:V->List V->Hp->VK->Prop):Prop:=
 ∀(pZ:List (Addr×Obj))(s:ak)(σ:St)(H:Hp)(x:V)(xs:List V)(v:Value)(us:List Value)(Q:VK),Inv X pZ σ H s->RelV x v->Vals xs us->r x xs H Q ->
  wpAny (aR X.prog X.w) X.A (call (.builtin id) (v::us)) (EP X pZ σ Q) X.xe s
theorem Vals.one:∀{x:V}{us:List Value},Vals [x] us->∃u,us=[u]/\RelV x u
 := by
 intro _ _ h;cases h with|cons r q=>cases q;exact#[_,rfl,r]
theorem Vals.two:∀{x y:V}{us:List Value},Vals [x,y] us->∃u v,us=[u,v]/\RelV x u/\RelV y v
 := by
 intro _ _ _ h;cases h with|cons r q=>cases q with|cons q q'=>cases q';exact#[_,_,rfl,r,q]
section
variable{X:Cx}{pZ:List (Addr×Obj)}{σ:St}{H:Hp}{s:ak}{l b:Addr}{xs ys zs:List V}
theorem Inv.RP{its its':List Value}{n:Nat}{f:Array Value->Array Value}{t':Nat}(I:Inv X pZ σ H s)(hH:H l=some (.lst xs))
  (e:s.heap.get? l=some {cls:=.type "list",data:=.seq its.toArray n}) (hf:f its.toArray=its'.toArray) (hv:Vals ys its') (hz:ys.length<=sizeLine):
  Inv X pZ σ (upd H l (.lst ys)) {s with heap:=s.heap.update l (qY f),toks:=t'}:=by
 have q:=PySem.IsL.update e f;rw[hf] at q;refine I.write (x:=l) (e:=l) (by rw[hH];exact trivial) (.inl rfl) (λb' u hb hu=>(nZ s.heap (qY f) (dM hb)).trans hu) #[_,q] ?_;exact#[hz,its',_,hv,q]
theorem Inv.RQ{its:List Value}{t':Nat}(I:Inv X pZ σ H s)(hv:Vals ys its)(hz:ys.length<=sizeLine):
  Inv X pZ σ (upd H s.heap.objs.size (.lst ys)) {s with heap:=s.heap.push {cls:=.type "list",data:=.seq its.toArray},toks:=t'}:=
 I.laid (λ_ _ q=>aA _ q) (ax _) #[hz,its,0,hv,bz _ rfl]
theorem Inv.fresh(I:Inv X pZ σ H s):H s.heap.objs.size=none:=I.dg.fresh (ax _)
theorem Inv.ED(I:Inv X pZ σ H s)(hH:H l=some (.lst xs)):xs.length<=sizeLine/\∃(its:List Value)(n:Nat),Vals xs its/\xs.length=its.length/\s.heap.get? l=some {cls:=.type "list",data:=.seq its.toArray n}:=by
 obtain⟨z,its,n,r,e⟩:=I.dg l _ hH;exact#[z,its,n,r,r.length,e]
theorem GD{n:Nat}(h:n<=sizeLine):Builtin.List.listTooLong n=false:=by
 unfold Builtin.List.listTooLong;exact decide_eq_false ∅
end
section
variable{X:Cx}
noncomputable def Km:V->List V->Hp->VK->Prop:=λx vs H Q=>∃l xs y,x=.ref l/\vs=[y]/\H l=some (.lst xs)/\xs.length<sizeLine/\Q .bK (upd H l (.lst (xs++[y])))
theorem rq:XJ X "list.append" Km:=by
 intro pZ s σ H x vs v us Q I rx rv h;obtain⟨l,xs,y,rfl,rfl,hH,hz,q⟩:=h;cases rx;obtain⟨u,rfl,ru⟩:=rv.one;obtain⟨z,its,n,r,hl,e⟩:=I.ED hH;refine call_meets F.slot_list_append #[_,e,rfl] F.entry_list_append (F.args_list_append_2 _ _) (PySem.list_append l its.toArray n u (by rw[aC];omega)) #[e,?_];refine#[.bK,_,I.RP (its':=its++[u]) hH e (by simp) (r.append (.cons ru .nil)) ?_,rfl,q];rw[aB,gk]
 omega
noncomputable def Kn:V->List V->Hp->VK->Prop:=λx vs H Q=>∃l b xs zs,x=.ref l/\vs=[.ref b]/\H l=some (.lst xs)/\H b=some (.lst zs)/\xs.length+zs.length<=sizeLine/\Q .bK (upd H l (.lst (xs++zs)))
theorem wX:XJ X "list.extend" Kn:=by
 intro pZ s σ H x vs v us Q I rx rv h;obtain⟨l,b,xs,zs,rfl,rfl,hH,hB,hz,q⟩:=h;cases rx;obtain⟨u,rfl,ru⟩:=rv.one;cases ru;obtain⟨z,its,n,r,hl,e⟩:=I.ED hH;obtain⟨z2,its2,n2,r2,hl2,e2⟩:=I.ED hB;have hsz:its.toArray.size+its2.toArray.size<=sizeLine:=by rw[aC,aC];omega
 have hlong:¬(!its.toArray.isEmpty&&Builtin.List.listTooLong (its.toArray.size+its2.toArray.size))=true:=by
  rw[GD hsz,wA]
  exact aX
 refine call_meets F.slot_list_extend #[_,e,rfl] F.entry_list_extend (F.args_list_extend_2 _ _)
  (AutoSeq1.list_extend_list_list_0 l its.toArray n b its2.toArray n2 hlong (by rw[aC];omega) ∅) #[e,e2,?_]
 refine#[.bK,_,I.RP (its':=its++its2) hH e (by simp) (r.append r2) ?_,rfl,q];rw[aB]
 omega
noncomputable def We:R2:=λx y H Q=>∃l b xs zs,x=.ref l/\y=.ref b/\H l=some (.lst xs)/\H b=some (.lst zs)/\xs.length+zs.length<=sizeLine/\∀p,H p=none->Q (.ref p) (upd H p (.lst (xs++zs)))
theorem N8:gw X (cA .Add) We:=by
 intro pZ s σ H x y v u Q I rx ry h;obtain⟨l,b,xs,zs,rfl,rfl,hH,hB,hz,q⟩:=h;cases rx;cases ry;obtain⟨z,its,n,r,hl,e⟩:=I.ED hH;obtain⟨z2,its2,n2,r2,hl2,e2⟩:=I.ED hB;refine PySem.P.add_list e e2 ?_ (by rw[aC,aC];omega);have ea:its.toArray++its2.toArray=(its++its2).toArray:=by simp
 rw[ea]
 exact#[.ref _,_,I.RQ (t':=s.toks) (r.append r2) (by rw[aB];omega),rfl,q _ I.fresh]
end
end L2
namespace XM
open PySem PySem.W PySem.Calls PyProof.Rows
theorem sW{P:FZ}{h:Heap}:∀(ns:List Int)(vs:List Value),WellAll P h vs (ns.map WData.int)->F3 vs ns:=by
 intro ns;induction ns with
 |nil=>
  intro vs w;rw[Ba] at w;cases w;exact .nil
 |cons n ns ih=>
  intro vs w;rw[aD] at w;cases w with
  |cons a b=>
   cases a;exact .cons _ _ (ih _ b)
theorem EE{l:F4}{n:Nat}(hn:l.most=some n){P:FZ}{h:Heap}{args:List WData}{vals:List Value}
  (hpre:l.row.toRowW.claim.pre args=true) (hwl:WellAll P h vals args):
  ∃a vs ns,vals=[aS a]/\args=[WData.list (ns.map WData.int)]/\h.get? a=some {cls:=.type "list",data:=.seq vs.toArray}/\F3 vs ns/\ns.length<=n:=by
 have hsh:WShape.hasAll [] args [.list .int]=true:=(pre_splitW hpre).1;have hc:l.pre.holds [] {args:=args}= true:=(pre_splitW hpre).2;obtain⟨d,r,rfl,h1,h2⟩:=hasAllW_cons hsh;obtain rfl:=hasAllW_nil h2;obtain⟨xs,rfl,h3⟩:=hasW_list h1;obtain⟨ns,rfl⟩:=items_int h3;have hlen:ns.length<=n:=by
  unfold OpenLaw.pre at hc;have h4:(WTm.not (.lt (.lit (.int (n:Int))) (.len (.arg 0)))).holds [] {args:=[.list (ns.map .int)]}= true:=by
   have h4:=(holds_andW hc).1;rw[hn] at h4;exact h4
  have h5:=condW_of h4 (w_not (w_lt w_lit (w_len_list (w_arg rfl))));rw[ar] at h5;refine JI λq=>?_
  have q':(n:Int)<((ns.length:Nat):Int):=∅
  first
   | (rw[decide_eq_true q'] at h5;exact absurd h5 ⋯)
   | (simp at h5;omega)
 cases hwl with
 |cons w1 w2=>
  cases w2;cases w1 with
  |list ho hall=>exact#[_,_,ns,rfl,rfl,ho,sW ns _ hall,hlen]
theorem EF(l:F4)(args:List WData):l.row.toRowW.claim.post args (.bool true) args=true:=
 postW_of (r:=l.row.toRowW) (X:=(true==true))
  (show WShape.has [] (.bool true) .bool=true by first|rfl|decide|simp[WShape.has,WShape.arms,WShape.armsAll])
  (show(WTm.eq .res (.lit (.bool true))).value [] {args:=args,res:=some (.bool true),after:=args}= some (.bool (true==true)) from w_eq_bool (w_res rfl) w_lit) rfl
theorem Aa{l:F4}{n:Nat}{q:bC}{loose:List Str}{XP:(Str->Option Value)->Heap->Prop}{YP:bZ->Heap->Prop}{d:DefRec}
  (hn:l.most=some n) (hdf:d.params.defaults=[])
  (call:∀(w:bZ)(s₀ s₁:ak)(mg mb:Str->Option Value)(fa:Addr)(o:Obj)(pm cd doc:Value)(a:Addr)(vs:List Value)(ns:List Int),
   Ground q loose [] XP w s₀ mg mb s₁.heap->YP w s₁.heap ->
   s₁.heap.get? fa=some o->o.data=.func (docDef d.name d.params d.body d.scope pm cd doc)->s₁.heap.CodeRec cd d.name->mg d.name=some (.ref fa) ->
   s₁.heap.get? a=some {cls:=.type "list",data:=.seq vs.toArray}->F3 vs ns->ns.length<=n->s₁.gens = #[] ->
   nY (aR l.prog w) vP (.call (.ref fa) #[[.ref a],[]]) (λr s'=>r=.ok (.ret (.bool true))/\OldK s₁.heap s'.heap/\s'.os=s₁.os/\nX s'.gens) s₁):
  WalkO q loose XP YP l.row.toRowW d [] (λf vs=>Eb f vs):=by
 intro w s₀ s₁ mg mb G Y fa o pm cd doc dV kV ho hd hcd hD hmg hg args vals as hpre hlay hrd hwl hlo;obtain rfl:dV=.none:=Dflts.none hD hdf;obtain rfl:kV=.none:=Dflts.noKw hD;obtain⟨a,vs,ns,rfl,rfl,hobj,hints,hlen⟩:=EE hn hpre hwl;refine enter_call (mf (call w s₀ s₁ mg mb fa o pm cd doc a vs ns G Y ho (fd_plain hd) hcd hmg hobj hints hlen hg) λr s' hq=>?_);obtain⟨rfl,h2,h3,h4⟩:=hq;exact#[.inl #[.bool true,.bool true,[],rfl,λ_=>rfl,.bool true,EF l _,λ_=>#[List.Pairwise.nil,λ_ hm=>(nomatch hm)]],h2,h3,h4]
end XM
namespace L2
open PySem PySem.Spec PyProof.Rows
theorem wY:∀{vs:List Value}{ns:List Int},F3 vs ns->Vals (ns.map V.int) vs
 |_,_,.nil=>.nil
 |_,_,.cons n t h=>.cons #[t,rfl] (wY h)
noncomputable def Ko(H:Hp):Prop:=∀b,H b=none\/∃o xs,H b=some (.Bz o (.lst xs))
theorem GF{P:bC}{w:bZ}{K:aF}{mg mb:Str->Option Value}{CX:Gv}{k:Nat}{fa a:Addr}{fd:dS}{x:Str}{sp:Sp}{s₁:ak}{vs:List Value}{ns:List Int}
  (KX:K.In s₁.heap) (hns:s₁.heap.Ns bu mg) (hb:s₁.heap.Ns builtinsNs mb) (hbb:∀x:Str,x≠"__name__"->mb x=jG x) (hlim:s₁.heap.NoLimit) (hg:s₁.gens = #[])
  (ha:s₁.heap.get? a=some {cls:=.type "list",data:=.seq vs.toArray}) (hi:F3 vs ns) (hl:ns.length<=sizeLine) (hr:jz k vP)
  (F:∀base:Heap,K.In base->base.Ns bu mg->iK P w K mg base CX k fa fd [x] sp) (hbind:∀(s:ak)(u:Value),A9 s fd #[[u],[]] [(x,u)])
  (hsp:∀H:Hp,Ko H->gH K H a (ns.map V.int)->sp [.ref a] H (λv _=>v=.bl true) λ_ _ _=>False)
  (hCX:∀H e s',CX [] H s₁ (λ_ _ _=>False) e s'->False):
  nY (aR P w) vP (.call (.ref fa) #[[.ref a],[]]) (λr s'=>r=.ok (.ret (.bool true))/\OldK s₁.heap s'.heap/\s'.os=s₁.os/\nX s'.gens) s₁:=by
 have rv:=wY hi;have lenV:=hi.length;have core:∀H:Hp,Ko H->gH K H a (ns.map V.int)->og P w H s₁.heap->(∀b,H b≠none->b=a)->(H a≠none->K.lookup a=none) ->
   nY (aR P w) vP (.call (.ref fa) #[[.ref a],[]]) (λr s'=>r=.ok (.ret (.bool true))/\OldK s₁.heap s'.heap/\s'.os=s₁.os/\nX s'.gens) s₁:=by
  intro H hO hS dg hA hK;have iq:∀{b:Addr}{o:Obj},s₁.heap.get? b=some o->H b=none->(yz s₁.heap H).get? b=some o:=λe n=>Ga e n
  have noA:∀{b:Addr}{o:Obj}{es:Array DictEntry}{ep:Nat},s₁.heap.get? b=some o->o.data=.dict es ep->H b=none:=λ{b o es ep}e d=>by
   cases q:H b with
   |none=>rfl
   |some u=>
    have e':b=a:=hA b (by rw[q];simp);subst e';rw[ha] at e;cases e;have d':Data.seq vs.toArray _=Data.dict es ep:=d;cases d'
  have nsK:∀{b:Addr}{m:Str->Option Value},s₁.heap.Ns b m->(yz s₁.heap H).Ns b m:=λ{b m} ⟨o,es,ep,e,d,r⟩=>#[o,es,ep,iq e (noA e d),d,r]
  have hKb:K.In (yz s₁.heap H):=λb o e=>iq (KX b o e) (by
   cases q:H b with
   |none=>rfl
   |some u=>
    have e':b=a:=hA b (by rw[q];simp);subst e';rw[hK (by rw[q];simp)] at e;cases e)
  have hM:Mod K mg (yz s₁.heap H):=#[hKb,nsK hns,#[mb,nsK hb,hbb],let ⟨mc,h1,h2⟩:=hlim;#[mc,nsK h1,h2]]
  have e0:BL P w K mg (yz s₁.heap H) vP [] s₁ H:=#[rfl,hM,λb o e=>JS e,Bm (Eo _ _),trivial,λb hb=>absurd (show b∈([]:List Addr) from hb) (by simp),dg,.of_eq hg]
  refine mf ((F _ hKb (nsK hns)).run vP [] s₁ H #[[.ref a],[]] [.ref a] [.ref a] _ _ hr e0 (hbind s₁ (.ref a)) (.cons rfl .nil) (hsp H hO hS)) λr s' h=>?_
  cases r with
  |error e=>exact(hCX H e s' h).elim
  |ok fl=>
   cases fl with
   |next=>exact aJ h
   |brk=>exact aJ h
   |cont=>exact aJ h
   |ret u=>
    obtain⟨v,H',os,bare,un,hok',r',q⟩:=h;have q':v=.bl true:=q;subst q';obtain rfl:u=iI true:=r';refine#[rfl,OldK.of_keep λb o e=>?_,os,bare];cases q:H b with
    |none=>exact un.keep b o e q (by intro z;exact absurd (show b∈([]:List Addr) from z) (by simp)) (by simp)
    |some u=>
     rcases hO b with z|⟨ob,xs,z⟩
     .rw[q] at z;cases z
     .have z2:=un.vR b ob _ z
      obtain⟨e1,_⟩:=dg b _ z;obtain⟨e2,_⟩:=hok' b _ z2;rw[e] at e1;cases e1;exact e2
 cases hk:K.lookup a with
 |some o=>
  have e:=KX a o hk;rw[ha] at e;cases e;refine core (λ_=>none) (λ_=>.inl rfl) (.inr #[_,vs.toArray,_,hk,rfl,rfl,rfl,by rw[aC,lenV];exact hl,by simpa using rv]) (λb u z=>by have z':(none:Option HO)=some u:=z;cases z') (λb z=>absurd rfl z) λz=>absurd rfl z
 |none=>
  refine core (λb=>if b=a then some (.Bz {cls:=.type "list",data:=.seq vs.toArray} (.lst (ns.map V.int))) else none) (λb=>?_) (.inl (.inr #[{cls:=.type "list",data:=.seq vs.toArray},if_pos rfl])) (λb u z=>?_) (λb z=>?_) λ_=>hk
  .by_cases hb:b=a
   .exact .inr #[_,_,if_pos hb]
   .exact .inl (if_neg hb)
  .by_cases hb:b=a
   .have z':=(if_pos hb).symm.trans z
    cases z';subst hb;exact#[ha,by rw[ar];exact hl,vs,_,rv,ha]
   .have z':=(if_neg hb).symm.trans z
    cases z'
  .by_cases hb:b=a
   .exact hb
   .exact absurd (if_neg hb) z
theorem Kp{l:PySem.W.OpenLaw}{n k:Nat}{q:bC}{loose:List Str}{XP:(Str->Option Value)->Heap->Prop}{YP:bZ->Heap->Prop}{d:DefRec}{K:FZ->aF}{CX:bZ->Gv}{sp:bZ->Sp}{x:Str}
  (hn:l.most=some n) (hn2:n<=sizeLine) (hdf:d.params.defaults=[]) (hr:jz k vP)
  (hY:∀(w:bZ)(h:Heap),YP w h->(K w.params).In h)
  (F:∀(w:bZ)(mg:Str->Option Value)(fa:Addr)(h:Heap),(K w.params).In h->h.Ns bu mg->mg d.name=some (.ref fa) ->
   ∃fd:dS,(∀(s:ak)(u:Value),A9 s fd #[[u],[]] [(x,u)]) /\
    ∀base:Heap,(K w.params).In base->base.Ns bu mg->iK l.prog w (K w.params) mg base (CX w) k fa fd [x] (sp w))
  (hsp:∀(w:bZ)(H:Hp)(a:Addr)(ns:List Int),ns.length<=n->Ko H->gH (K w.params) H a (ns.map V.int)->sp w [.ref a] H (λv _=>v=.bl true) λ_ _ _=>False)
  (hCX:∀(w:bZ)(H:Hp)(s:ak)(e:Value)(s':ak),CX w [] H s (λ_ _ _=>False) e s'->False):
  PySem.W.WalkO q loose XP YP l.row.toRowW d [] (λf vs=>Eb f vs):=by
 refine XM.Aa hn hdf λw s₀ s₁ mg mb fa o pm cd doc a vs ns G Y ho hd hcd hmg hobj hints hlen hg=>?_
 have KX:=hY w _ Y;obtain⟨fd,hb,hF⟩:=F w mg fa _ KX G.T.g hmg;exact GF KX G.T.g G.T.b G.T.builtins G.T.nolimit hg hobj hints (aT hlen hn2) hr hF hb (λH hO hS=>hsp w H a ns hlen hO hS) λH e s'=>hCX w H s₁ e s'
noncomputable def inClass(s:Stmt)(j:Nat):Stmt:=match s with
 |.ClassDef _ _ _ body _ _ _ _ _ _ _=>body.getD j (.Pass #[0,0,0,0])
 |_=>.Pass #[0,0,0,0]
noncomputable def jV(s:Stmt):Arguments:=match s with
 |.FunctionDef _ a _ _ _ _ _ _ _ _=>a
 |_=>{posonlyargs:=[],args:=[],vararg:=none,kwonlyargs:=[],kw_defaults:=[],kwarg:=none,defaults:=[]}
noncomputable def dN(s:Stmt):List Stmt:=match s with
 |.FunctionDef _ _ b _ _ _ _ _ _ _=>b
 |_=>[]
noncomputable def bc(s:Stmt):kJ:=match s with
 |.FunctionDef _ _ _ _ _ _ sc _ _ _=>sc
 |_=>{kind:=.function,names:=[],isGenerator:=false,isCoroutine:=false}
structure BQ(K:aF)(x qual:Str)(st:Stmt)(f:Addr)(fd:dS):Prop where
 ex:∃(oc:Value)(od:Option Addr)(kV doc pm:Value)(an:Option Addr)(cdv ct:Value)(osl:Array (Option Value)),
  fd=jT x qual (jV st) (dN st) (bc st) .none kV doc pm an cdv ct/\K.lookup f=some #[oc,od,.func fd,osl]/\t8 K cdv qual=true
 kp:n9 K (.ref f)=true
section
variable{P:bC}{w:bZ}{K:aF}{mg:Str->Option Value}{base:Heap}
theorem BQ.binds{x qual:Str}{st:Stmt}{f:Addr}{fd:dS}{ps:List Str}(F:BQ K x qual st f fd)
  (h:∀(kV doc pm:Value)(an:Option Addr)(cdv ct:Value)(us:List Value),us.length=ps.length->Bo (jT x qual (jV st) (dN st) (bc st) .none kV doc pm an cdv ct) #[us,[]]=pure (ps.zip us)):Binds K fd ps []:=by
 obtain⟨oc,od,kV,doc,pm,an,cdv,ct,osl,rfl,lk,hcd⟩:=F.ex;exact .all (h kV doc pm an cdv ct)
theorem GG{x qual:Str}{st:Stmt}{f:Addr}{oc:Value}{od an:Option Addr}{osl:Array (Option Value)}{kV doc pm cdv ct:Value}(l:K.lookup f=some #[oc,od,.func (jT x qual (jV st) (dN st) (bc st) .none kV doc pm an cdv ct),osl])
  (c:t8 K cdv qual=true) (k:n9 K (.ref f)=true):BQ K x qual st f (jT x qual (jV st) (dN st) (bc st) .none kV doc pm an cdv ct):=#[#[oc,od,kV,doc,pm,an,cdv,ct,osl,rfl,l,c],k]
end
section
variable{κ:Type}[DecidableEq κ]
noncomputable def sX(kvs:List (κ×V))(k:κ):Option V:=(kvs.find? λkv=>decide (kv.1=k)).map (·.2)
theorem uo{p:κ×V}{r:List (κ×V)}{k:κ}(e:p.1=k):sX (p::r) k=some p.2:=by simp[sX,fV,e]
theorem ur{p:κ×V}{r:List (κ×V)}{k:κ}(e:¬p.1=k):sX (p::r) k=sX r k:=by simp[sX,fV,e]
theorem nN.getD{o:Option V}{u:Option Value}{d:V}{d':Value}(r:nN o u)(rd:RelV d d'):RelV (o.getD d) (u.getD d'):=by
 cases o with
 |none=>cases u with
  |none=>exact rd
  |some _=>exact(show False from r).elim
 |some _=>cases u with
  |none=>exact(show False from r).elim
  |some _=>exact r
theorem KV.val{kvs:List (κ×V)}{vs:List (κ×Value)}(r:KV kvs vs)(k:κ):nN (sX kvs k) (Bb vs k):=by
 unfold KV at r;induction r with
 |nil=>exact dU
 |@cons p q ps qs h t ih=>
  obtain⟨h1,h2⟩:=h;by_cases e:p.1=k
  .have e':q.1=k:=h1.symm.trans e
   have b:Bb (q::qs) k=some q.2:=by simp[Bb,fV,e']
   rw[uo e,b];exact h2
  .have e':¬q.1=k:=λz=>e (h1.trans z)
   have b:Bb (q::qs) k=Bb qs k:=by simp[Bb,fV,e']
   rw[ur e,b];exact ih
theorem KV.keys{kvs:List (κ×V)}{vs:List (κ×Value)}(r:KV kvs vs):kvs.map (·.1)=vs.map (·.1):=by
 unfold KV at r;induction r with
 |nil=>rfl
 |cons h t ih=>rw[aD,aD,ih,h.1]
theorem KV.length{kvs:List (κ×V)}{vs:List (κ×Value)}(r:KV kvs vs):kvs.length=vs.length:=Paired.length r
end
theorem GH{P:bC}{w:bZ}{k:Key}{u:Value}(r:RelV (kV k) u):(eQ P w).is k u=true:=by
 cases k with
 |inl i=>obtain⟨t,e⟩:=(show ∃t,u=mN i t from r);subst e;exact zU P w i t
 |inr x=>obtain⟨t,e⟩:=(show ∃t,u=jx x t from r);subst e;exact zV P w x t
theorem N9{a b:Key}(e:kV a=kV b):a=b:=by
 cases a with
 |inl i=>cases b with
  |inl j=>have e':V.int i=V.int j:=e;injection e' with e';rw[e']
  |inr y=>exact nomatch (show V.int i=V.str y from e)
 |inr x=>cases b with
  |inl j=>exact nomatch (show V.str x=V.int j from e)
  |inr y=>have e':V.str x=V.str y:=e;injection e' with e';rw[e']
theorem wZ{P:bC}{w:bZ}:∀{ks:List Key}{us:List Value},Vals (ks.map kV) us->ItemsAre (eQ P w) ks us
 |[],_,r=>by rw[Ba] at r;cases r;exact .nil
 |k::ks,_,r=>by
  rw[aD] at r;cases r with
  |cons h t=>exact .cons (GH h) (wZ t)
abbrev KT(H:Hp):List (List Key×V)->List (List Key×Addr×Value)->Prop:=Paired λp q=>p.1=q.1/\H q.2.1=some (.tup (p.1.map kV))/\RelV p.2 q.2.2
theorem KT.val{H:Hp}{kvs:List (List Key×V)}{xs:List (List Key×Addr×Value)}(r:KT H kvs xs)(k:List Key):nN (sX kvs k) ((atKey xs k).map (·.2)):=by
 induction r with
 |nil=>exact dU
 |@cons p q ps qs h t ih=>
  obtain⟨h1,_,h2⟩:=h;by_cases e:p.1=k
  .have e':q.1=k:=h1.symm.trans e
   have b:atKey (q::qs) k=some q.2:=by simp[atKey,fV,e']
   rw[uo e,b];exact h2
  .have e':¬q.1=k:=λz=>e (h1.trans z)
   have b:atKey (q::qs) k=atKey qs k:=by simp[atKey,fV,e']
   rw[ur e,b];exact ih
section
variable{P:bC}{w:bZ}{H:Hp}{h:Heap}{a:Addr}
theorem MC{u:HO}(ok:og P w H h)(e:Rd H a u):d6 P w H h a u:=e.ok ok
theorem GI{kvs:List (Key×V)}(ok:og P w H h)(e:Rd H a (.dK kvs)):kvs.length<=sizeLine/\(a==dH)=false/\∃vs,KV kvs vs/\h.DictOf (eQ P w) a vs:=
 show d6 P w H h a (.dK kvs) from MC ok e
theorem GJ{ks:List Key}(ok:og P w H h)(e:H a=some (.tup (ks.map kV))):(x9 (eQ P w)).is h ks a:=by
 obtain⟨_,its,r,o,h1,h2,n,h3⟩:=(show d6 P w H h a (.tup (ks.map kV)) from ok a _ e)
 exact#[o,its.toArray,n,h1,h2,h3,by simpa using wZ r]
theorem MD{kvs:List (List Key×V)}(ok:og P w H h)(e:Rd H a (.dT kvs)):kvs.length<=sizeLine/\(a==dH)=false /\
  ∃xs,KT H kvs xs/\h.DictOfH (x9 (eQ P w)) a xs:=by
 obtain⟨z,y,xs,r,o,es,ep,h1,h2,h3,h4,h5⟩:=(show d6 P w H h a (.dT kvs) from MC ok e)
 refine#[z,y,xs,r,o,es,ep,h1,h2,h3,h4,λx hx=>?_,h5];have all:∀{l:List (List Key×V)}{m:List (List Key×Addr×Value)},KT H l m->∀x∈m,(x9 (eQ P w)).is h x.1 x.2.1:=by
  intro l m q;induction q with
  |nil=>intro x hx;exact nomatch hx
  |@cons p q ps qs hq t ih=>
   intro x hx;rcases bg.mp hx with e|hx
   .subst e
    exact GJ ok (by rw[<-hq.1];exact hq.2.1)
   .exact ih x hx
 exact all r x hx
end
noncomputable def GK(H:Hp)(a:Addr)(y:V)(r:Option V):Prop:=
 (∃kvs k,Rd H a (.dK kvs)/\y=kV k/\r=sX kvs k)\/∃kvs k b,Rd H a (.dT kvs)/\y=.ref b/\H b=some (.tup (k.map kV))/\r=sX kvs k
theorem GK.k{H:Hp}{a:Addr}{kvs:List (Key×V)}{k:Key}(e:H a=some (.dK kvs)):GK H a (kV k) (sX kvs k):=.inl #[kvs,k,.inl e,rfl,rfl]
section
variable{X:Cx}{pZ:List (Addr×Obj)}{σ:St}{H:Hp}{s:ak}{a:Addr}{y v:V}{u r:Value}{o:Option V}{A:cB}{E:Value->ak->Prop}
theorem Inv.big(I:Inv X pZ σ H s):dH<s.heap.objs.size:=by
 have h:bu<s.heap.objs.size:=(I.mod.glob.keeps I.bk).lt;exact Nat.lt_trans ⋯ h
theorem Oa{P:bC}{w:bZ}{H':Hp}{h':Heap}{kvs:List (Key×V)}{vs:List (Key×Value)}(z:kvs.length<=sizeLine)(hd:(a==dH)=false)(rel:KV kvs vs)(dd:h'.DictOf (eQ P w) a vs):
  d6 P w H' h' a (.dK kvs):=#[z,hd,vs,rel,dd]
end
section
variable{X:Cx}{pZ:List (Addr×Obj)}{σ:St}{H:Hp}{s:ak}{a:Addr}{kvs:List (Key×V)}{k:Key}{u:Value}{A:cB}{E:Value->ak->Prop}
theorem RS{Q:Value->ak->Prop}(I:Inv X pZ σ H s)(e:Rd H a (.dK kvs))(h:∀t s',Inv X pZ σ H s'->Q (.int kvs.length t) s'):wpAny (aR X.prog X.w) A (call (.builtin "len") [.ref a]) Q E s:=by
 obtain⟨z,hd,vs,rel,dd⟩:=GI I.dg e;refine call_len_dict hd dd (by rw[<-rel.length];rw[jc] at z;omega) ?_;rw[<-rel.length]
 exact h _ _ (I.tok _)
end
structure M2(X:Cx)(o:Expr)(m:Str)(apos:Pos)(e f:Expr)(cpos:Pos):Prop where
 base:i0 o m X.env (eval o X.env)=eval o X.env
 YY:((iN cpos (bS [e,f] X.env)).all (λx=>!x.1)&&(backToKw cpos (kO [] X.env)).all (λx=>x.1.isSome)
  && decide (([e,f]:List Expr).length+([]:List se).length+(if ([]:List se).isEmpty then 0 else 1)<30))=true
 line:(apos.endLine==cpos.line)=true
 trees:iN cpos (bS [e,f] X.env)= [(false,eval e X.env),(false,eval f X.env)]
noncomputable def XO(H:Hp)(a:Addr):Prop:=(∃kvs,Rd H a (.dK kvs))\/∃kvs,Rd H a (.dT kvs)
theorem Ob{X:Cx}{pZ:List (Addr×Obj)}{σ:St}{H:Hp}{s:ak}{a:Addr}(I:Inv X pZ σ H s)(d:XO H a):
  s.TypeIs (.ref a) "dict"/\(∀b,aS a=.ref b->∃ob,s.heap.get? b=some ob/\ob.dict=none)/\(a==dH)=false:=by
 rcases d with⟨kvs,e⟩|⟨kvs,e⟩
 .obtain⟨_,hd,vs,_,dd⟩:=GI I.dg e
  refine#[dd.typeIs,λb q=>?_,hd];cases q;obtain⟨ob,_,_,h1,h2,_⟩:=dd;exact#[ob,h1,h2.2.1]
 .obtain⟨_,hd,xs,_,dd⟩:=MD I.dg e
  refine#[dd.typeIs,λb q=>?_,hd];cases q;obtain⟨ob,_,_,h1,h2,_⟩:=dd;exact#[ob,h1,h2.2.1]
section
variable{X:Cx}{pZ:List (Addr×Obj)}{σ:St}{H:Hp}{s:ak}{a:Addr}{y d:V}{u r:Value}{o:Option V}{A:cB}{E:Value->ak->Prop}
theorem Oc{Q:Value->ak->Prop}(hu:A.units+1<kg)(I:Inv X pZ σ H s)(g:GK H a y o)(ry:RelV y u)(rd:RelV d r)(h:∀w' s',Inv X pZ σ H s'->RelV (o.getD d) w'->Q w' s'):
  wpAny (aR X.prog X.w) A (call (.builtin "dict.get") [.ref a,u,r]) Q E s:=by
 rcases g with⟨kvs,k,e,ey,l⟩|⟨kvs,k,b,e,ey,eb,l⟩
 .subst ey
  obtain⟨z,hd,vs,rel,dd⟩:=GI I.dg e;refine call_meetsIn nK dd.typeIs yq (wB _ _ _) (meets_dict_get_default (eQ X.prog X.w) a (GH ry) hd r) #[_,dd.mapOf,h _ _ (I.tok _) ?_];rw[l]
  exact(rel.val k).getD rd
 .subst ey
  cases (show u=aS b from ry);obtain⟨z,hd,xs,rel,dd⟩:=MD I.dg e;refine call_meetsIn nK dd.typeIs yq (wB _ _ _) (meetsH_dict_get_default (x9 (eQ X.prog X.w)) a b hd r) #[tupleKind_room_in1 hu,k,xs,GJ I.dg eb,dd,h _ _ (I.tok _) ?_];rw[l]
  exact(rel.val k).getD rd
end
noncomputable def Od(td ty tx:TE):TE:=λσ H Q=>td σ H λx H1=>∃a,x=.ref a/\XO H1 a/\ty σ H1 λy H2=>tx σ H2 λz H3=>∃o,GK H3 a y o/\Q (o.getD z) H3
section
variable{X:Cx}{o e f:Expr}{apos cpos:Pos}{td ty tx:TE}
theorem GL(hu:X.A.units+1<kg)(ho:PE X o td)(he:PE X e ty)(hf:PE X f tx)(m:M2 X o "get" apos e f cpos):PE X (.Call (.Attribute o "get" apos) [e,f] [] cpos) (Od td ty tx):=by
 intro pZ s σ H Q I h;refine wpAny_Call_method m.base m.YY m.line PySem.F.plainAttrs_dict nK PySem.F.type_dict_get (fj (ho pZ s σ H _ I h) λu s1 h9=>?_);obtain⟨x,H1,I1,rx,a,ex,d,q1⟩:=h9;subst ex;obtain rfl:u=aS a:=rx;obtain⟨t1,t2,_⟩:=Ob I1 d;refine#[t1,t2,?_];rw[m.trees]
 refine nJ rfl (Bp (kL (fj (he pZ s1 σ H1 _ I1 q1) λiv s2 #[y,H2,I2,ry,q2]=>
  kL (fj (hf pZ s2 σ H2 _ I2 q2) λfv s3 #[z,H3,I3,rz,ov,g,q3]=>qX ?_))))
 exact Oc hu I3 g ry rz λw' s4 I4 rw'=>#[_,H3,I4,rw',q3]
end
section
variable{X:Cx}
theorem EG:iP X (.builtin "len") (λxs H Q=>∃a kvs,xs=[V.ref a]/\H a=some (.dK kvs)/\Q (.int kvs.length) H):=by
 intro pZ s σ H xs us Q I r h;obtain⟨a,kvs,rfl,ha,q⟩:=h;obtain⟨u,rfl,ru⟩:=vals1 r;cases ru;exact RS I (.inl ha) λt s' I'=>#[.int kvs.length,H,I',#[t,rfl],q]
end
noncomputable def vI(h:Heap)(e:Addr)(c:Value)(dx:Option Addr):Option (Addr×Value)->Prop
 |none=>∃vs sl,h.get? e=some #[c,dx,.fields vs,sl]/\vs[1]?=some .none
 |some (T,fl)=>∃vs sl,h.get? e=some #[c,dx,.fields vs,sl]/\vs[1]?=some (.ref T)/\T≠e/\∃oT ts,h.get? T=some oT/\oT.data=.fields ts/\ts[3]?=some fl
theorem vI.obj{h:Heap}{e:Addr}{c:Value}{dx:Option Addr}{tb:Option (Addr×Value)}(x:vI h e c dx tb):∃vs sl,h.get? e=some #[c,dx,.fields vs,sl]:=by
 cases tb with
 |none=>obtain⟨vs,sl,a,_⟩:=x;exact#[vs,sl,a]
 |some p=>obtain⟨vs,sl,a,_⟩:=x;exact#[vs,sl,a]
structure jA(fs ch:List Addr)(h h':Heap):Prop where
 keep:∀b o,h.get? b=some o->b∉fs->b∉ch->h'.get? b=some o
 slot:∀b o,h.get? b=some o->b∈fs->b∉ch->∃sl,h'.get? b=some {o with slots:=sl}
 there:∀b o,h.get? b=some o->∃o',h'.get? b=some o'
theorem jA.trans{fs ch:List Addr}{h1 h2 h3:Heap}(x:jA fs ch h1 h2)(y:jA fs ch h2 h3):jA fs ch h1 h3:=
 #[λb o e n m=>y.keep b o (x.keep b o e n m) n m,λb o e n m=>by
  obtain⟨s1,q1⟩:=x.slot b o e n m;obtain⟨s2,q2⟩:=y.slot b _ q1 n m;exact#[s2,q2],λb o e=>by
  obtain⟨o1,q1⟩:=x.there b o e;exact y.there b o1 q1]
theorem jA.mono{fs fs' ch ch':List Addr}{h h':Heap}(x:jA fs ch h h')(a:∀b∈fs,b∈fs')(c:∀b∈ch,b∈ch'):jA fs' ch' h h':=
 #[λb o e n m=>x.keep b o e (λz=>n (a b z)) λz=>m (c b z),λb o e n m=>by
  by_cases z:b∈fs
  .exact x.slot b o e z λy=>m (c b y)
  .exact#[o.slots,x.keep b o e z λy=>m (c b y)],x.there]
theorem gy{h:Heap}{a b:Addr}{f:Obj->Obj}{o:Obj}(e:h.get? b=some o)(n:b≠a):(h.update a f).get? b=some o:=by
 rw[nZ h f (dM n)]
 exact e
theorem mU{fs:List Addr}{h:Heap}{a:Addr}{o:Obj}{f:Obj->Obj}(e:h.get? a=some o)(hf:(f o).isFreed=false):jA fs [a] h (h.update a f):=
 #[λb o' q _ m=>gy q λz=>m (by simp[z]),λb o' q _ m=>#[o'.slots,gy q λz=>m (by simp[z])],λb o' q=>by
  by_cases z:b=a
  .subst z;exact#[_,dY f e hf]
  .exact#[o',gy q z]]
theorem BR{fs ch:List Addr}{h:Heap}(o:Obj):jA fs ch h (h.push o):=
 #[λb _ q _ _=>aA o q,λb o' q _ _=>#[o'.slots,aA o q],λb o' q=>#[o',aA o q]]
section
variable{M:Fv}{A:cB}{E:Value->ak->Prop}{s:ak}{base:Heap}{env:Env}{outer:List Env}{L e:Addr}{c:Value}{dx:Option Addr}{Q:Unit->ak->Prop}
theorem GN{vs:Array Value}{sl:Array (Option Value)}{head:Value}{b:Bool}(hfr:A.frames=some (env::outer))(hl:s.heap.FunFrames base (env::outer))(hf:env.frame=some L)
  (he:s.heap.get? e=some #[c,dx,.fields vs,sl]) (hsz:1<vs.size)
  (q:∀h' T,jA (vS (env::outer)) [e] s.heap h'->s.heap.objs.size<=T->vI h' e c dx (some (T,pP L))->Q () {s with heap:=h'}):
  wpAny M A (do let a <-frameOf env;let pl <-entryPlaceOf L b;let t <-yr head a .none (pP L) .none pl;setField (.ref e) 1 t) Q E s:=by
 have ne:e∉vS (env::outer):=λhm=>by
  obtain⟨_,o,ho,hnf⟩:=hl.mem hm;rw[he] at ho;cases ho;exact hnf vs rfl
 refine aj (wpAny_frameOf_fun hfr hl hf λh1 k1=>aj (wpAny_entryPlaceOf λpl hpl=>?_));unfold yr newFields;refine aj (gZ ?_ (hpl.sizeOk5 _ _ _ _ _));have e1:h1.get? e=some #[c,dx,.fields vs,sl]:=(k1.2.1 e ne).trans he;have kk:jA (vS (env::outer)) [e] s.heap h1:=#[λb o z n _=>(k1.2.1 b n).trans z,λb o z _ _=>k1.2.2 b o z,λb o z=>let ⟨_,z'⟩:=k1.2.2 b o z;#[_,z']]
 generalize htb:({cls:=.type "traceback",dict:=none,data:=.fields ([head,.ref L,.none,pP L,.none]++(if pl.isEmpty then dq 6 dh else pl)).toArray}:Obj)=tb;have e2:(h1.push tb).get? e=some #[c,dx,.fields vs,sl]:=aA tb e1;refine Bq e2 rfl hsz (q _ h1.objs.size ((kk.trans (BR tb)).trans (mU e2 rfl)) ?_ ?_)
 .rw[k1.1]
  exact ax _
 .have nT:h1.objs.size≠e:=kK (aL e1)
  refine#[_,_,dY _ e2 rfl,by simp[hsz],nT,tb,_,gy (bz h1 (by rw[<-htb];rfl)) nT,by rw[<-htb],?_]
  first| (simp;done)| (rcases hpl with rfl|⟨_,_,_,_,_,_,_,rfl⟩<;>simp)
theorem ME{tb:Option Addr}(hfr:A.frames=some (env::outer))(hl:s.heap.FunFrames base (env::outer))(hf:env.frame=some L)(x:vI s.heap e c dx (tb.map λT=>(T,dh)))
  (q:∀h' T,jA (vS (env::outer)) (e::tb.toList) s.heap h'->s.heap.objs.size<=T->vI h' e c dx (some (T,pP L))->Q () {s with heap:=h'}):
  wpAny M A (FA (.ref e) env) Q E s:=by
 unfold FA;simp only[hf];cases tb with
 |none=>
  obtain⟨vs,sl,he,h1⟩:=x;refine aj (kM he rfl h1 ?_);rw[if_neg ⋯]
  exact GN hfr hl hf he (gG.mp h1).1 q
 |some T=>
  obtain⟨vs,sl,he,h1,nT,oT,ts,hT,hd,h3⟩:=x;refine aj (kM he rfl h1 ?_);rw[if_pos (show(aS T !=dh)=true by simp)]
  refine aj (kM hT hd h3 ?_);rw[if_neg (show ¬((dh==pP L)=true) by simp[pP])]
  refine aj (Bq hT hd (gG.mp h3).1 ?_);have kT:jA (vS (env::outer)) [T] s.heap (s.heap.update T (Obj.mapFields (·.setIfInBounds 3 dh))):=mU hT (CY (qZ hd _));have e2:=gy (f:=Obj.mapFields (·.setIfInBounds 3 dh)) he (dM nT);refine GN hfr (hl.of_keeps λb o hb hnf=>?_) hf e2 (gG.mp h1).1 λh' T' k n z=>?_
  .have nb:b≠T:=λz=>by rw[z,hT] at hb;cases hb;exact hnf ts hd
   exact#[o,gy hb nb,rfl]
  .refine q h' T' ((kT.mono (λ_ y=>y) (by simp)).trans (k.mono (λ_ y=>y) (by simp))) ?_ z
   rw[Heap.size_after_update] at n;exact n
theorem GO{T:Addr}{fl:Value}(x:vI s.heap e c dx (some (T,fl)))(q:∀h',jA [] [T] s.heap h'->vI h' e c dx (some (T,.none))->Q () {s with heap:=h'}):wpAny M A (setFlight (.ref e) none) Q E s:=by
 obtain⟨vs,sl,he,h1,nT,oT,ts,hT,hd,h3⟩:=x;have sz:=(gG.mp h3).1;unfold setFlight;refine aj (kM he rfl h1 ?_);rw[if_pos (show(aS T !=dh)=true by simp)]
 have fr:=CY (qZ hd (·.setIfInBounds 3 dh));refine Bq hT hd sz (q _ (mU hT fr) #[vs,sl,gy he (dM nT),h1,nT,_,_,dY _ hT fr,qZ hd _,by simp[sz]])
theorem Oe{tb:Option Addr}(hfr:A.frames=some (env::outer))(hl:s.heap.FunFrames base (env::outer))(hf:env.frame=some L)(x:vI s.heap e c dx (tb.map λT=>(T,dh)))
  (q:∀h' T,jA (vS (env::outer)) (e::tb.toList) s.heap h'->s.heap.objs.size<=T->vI h' e c dx (some (T,.none))->Q () {s with heap:=h'}):
  wpAny M A (leaving env (.ref e)) Q E s:=by
 unfold leaving;refine aj (ME hfr hl hf x λh1 T k1 n1 x1=>?_);refine GO (s:={s with heap:=h1}) x1 λh2 k2 x2=>q h2 T ?_ n1 x2
 refine#[λb o z n m=>?_,λb o z n m=>?_,λb o z=>?_]
 .exact k2.keep b o (k1.keep b o z n m) (by simp) λy=>by
   have y':b=T:=by simpa using y
   rw[y'] at z;exact absurd (aL z) (yt.mpr n1)
 .obtain⟨sl,z1⟩:=k1.slot b o z n m
  refine#[sl,k2.keep b _ z1 (by simp) λy=>?_];have y':b=T:=by simpa using y
  rw[y'] at z;exact absurd (aL z) (yt.mpr n1)
 .obtain⟨o1,z1⟩:=k1.there b o z
  exact k2.there b o1 z1
end
noncomputable def pX(P:bC)(w:bZ):Gv:=λouter H s E e s'=>∃(a T:Addr)(c:Value)(dx:Option Addr)(H':Hp),e=.ref a/\s'.os=s.os/\nX s'.gens/\Un (vS outer) [] H H' s.heap s'.heap/\og P w H' s'.heap /\
 vI s'.heap a c dx (some (T,.none))/\(H' a=none/\H' T=none)/\(s.heap.objs.size<=a/\s.heap.objs.size<=T)/\E c dx H'
theorem og.rA{P:bC}{w:bZ}{H:Hp}{h h':Heap}{fs ch:List Addr}(x:og P w H h)(k:jA fs ch h h')(hf:∀b∈fs,H b=none)(hc:∀b∈ch,H b=none):og P w H h':=λa o e=>by
 have nf:∀b u,H b=some u->b∉fs/\b∉ch:=λb u q=>#[λz=>(by rw[hf b z] at q;cases q),λz=>(by rw[hc b z] at q;cases q)]
 refine(x a o e).jI (λb u hb q=>?_) (λ_ q=>q) λ_ _ q=>q
 rcases hb with rfl|hb
 .exact k.keep b u q (nf b _ e).1 (nf b _ e).2
 .exact k.keep b u q (nf b _ hb).1 (nf b _ hb).2
noncomputable def BS(X:Cx)(pZ:List (Addr×Obj))(H:Hp)(b:Addr):Prop:=H b=none/\X.s₀.heap.objs.size<=b/\b≠X.env.locals/\(∀x c,X.env.cells.lookup x=some c->c≠b)/\∀p∈X.pn++pZ,p.1≠b
theorem Inv.RT{X:Cx}{pZ:List (Addr×Obj)}{σ:St}{H:Hp}{s:ak}{b:Addr}(I:Inv X pZ σ H s)(hb:s.heap.objs.size<=b):BS X pZ H b:=by
 have no:∀o,¬s.heap.get? b=some o:=λo e=>absurd (aL e) (yt.mpr hb)
 refine#[I.dg.fresh hb,aT I.sz hb,λe=>?_,λx c e z=>?_,λp hp z=>?_]
 .exact absurd I.lt (yt.mpr (e▸hb))
 .obtain⟨v,o,ho,_⟩:=I.cell x c e
  rw[z] at ho;exact no o ho
 .have:=(I.pin p hp).1
  rw[z] at this;exact no _ this
theorem Inv.rA{X:Cx}{pZ:List (Addr×Obj)}{σ:St}{H:Hp}{s:ak}{h':Heap}{ch:List Addr}(I:Inv X pZ σ H s)(k:jA (vS X.stack) ch s.heap h')(hc:∀b∈ch,BS X pZ H b):Inv X pZ σ H {s with heap:=h'}:=by
 have any:∀b o,b∉ch->s.heap.get? b=some o->∃sl,h'.get? b=some {o with slots:=sl}:=λb o n e=>by
  by_cases z:b∈vS X.stack
  .exact k.slot b o e z n
  .exact#[o.slots,k.keep b o e z n]
 refine I.step (g':=s.gens) (t':=s.toks) (d':=s.drawn) (ch:=ch) (λb m=>#[.inr (hc b m).2.1,(hc b m).2.2.1,(hc b m).2.2.2.1,(hc b m).2.2.2.2]) (λb o nl nf nc e _=>k.keep b o e (λz=>?_) nc) (λb o _ _ nc e _=>any b o nc e) (λ_ _ _ _ n=>n)
  (λb o nc e=>let ⟨_,q⟩:=any b o nc e;#[_,q]) (λ_ _ e=>e) (λ_ _ _ e=>e) (λb ps e=>#[#[],by rw[e];simp]) (λm hm=>?_) (I.dg.rA k I.yA λb m=>(hc b m).1) I.bare
 .rcases bg.mp (I.ue b z) with q|q
  .exact nl q
  .exact nf q
 .obtain⟨o,es,ep,ho,r⟩:=hm
  obtain⟨sl,q⟩:=any _ o (λz=>(hc _ z).2.2.1 rfl) ho;exact#[_,es,ep,q,r]
noncomputable def RV(X:Cx)(E:XK):Prop:=∀(pZ:List (Addr×Obj))(σ:St)(H:Hp)(s:ak)(a:Addr)(tb:Option Addr)(c:Value)(dx:Option Addr),Inv X pZ σ H s->vI s.heap a c dx (tb.map λT=>(T,dh)) ->
 (∀b∈a::tb.toList,BS X pZ H b)->E c dx H->X.xe (.ref a) s
theorem pX.inv{X:Cx}{E:XK}{pZ:List (Addr×Obj)}{σ:St}{H:Hp}{s:ak}{e:Value}{s':ak}(I:Inv X pZ σ H s)(h:pX X.prog X.w X.stack H s E e s'):
  ∃a T c dx H',e=.ref a/\Inv X pZ σ H' s'/\vI s'.heap a c dx (some (T,.none))/\(∀b∈[a,T],BS X pZ H' b)/\E c dx H':=by
 obtain⟨a,T,c,dx,H',rfl,os,bare,un,dg,x,⟨ha,hT⟩,⟨fa,fT⟩,q⟩:=h;have I':Inv X pZ σ H' s':=I.MB (ch:=[]) os un dg bare (λb z=>absurd z (by simp));refine#[a,T,c,dx,H',rfl,I',x,λb m=>?_,q];rcases bg.mp m with e|m
 .subst e;exact#[ha,(I.RT fa).2]
 .have e:b=T:=by simpa using m
  subst e;exact#[hT,(I.RT fT).2]
theorem GQ{P:bC}{w:bZ}{K:aF}{mg:Str->Option Value}{base:Heap}{N:List Str}{qual:Str}{scope:kJ}{f:Addr}{cd:Value}{A:cB}{outer:List Env}{s:ak}{H:Hp}{E:XK}:
  RV (z6 (pX P w) P w K mg base N qual scope f cd A outer s H E) E:=by
 intro pZ σ H1 s1 a tb c dx I x fr q;show wpAny _ _ (leaving _ (.ref a)) _ _ s1;have hL:(pQ qual scope s.heap.objs.size f cd).frame=some s.heap.objs.size:=rfl;refine Oe (base:=base) (L:=s.heap.objs.size) I.ok.frames I.stack hL x λh' T' k n x'=>?_
 have I':=I.rA k fr;have fa:s.heap.objs.size<=a:=(fr a bf).2.1;have sz:s.heap.objs.size<=s1.heap.objs.size:=I.sz;refine#[a,T',c,dx,H1,rfl,I.os,I.bare,?_,I'.dg,x',#[(fr a bf).1,I.dg.fresh n],#[fa,aT sz n],q];exact I'.base
theorem BQ.Wf{P:bC}{w:bZ}{K:aF}{mg:Str->Option Value}{base:Heap}{x qual:Str}{st:Stmt}{f:Addr}{fd:dS}{N ps:List Str}{k:Nat}{sp:Sp}(F:BQ K x qual st f fd)(S:fX N ps (bc st))(len:∀vs H Q E,sp vs H Q E->vs.length=ps.length)
  (hbody:∀(cdv:Value)(A:cB)(outer:List Env)(s:ak)(H:Hp)(vs:List V)(Q:VK)(E:XK),jz k (A.deeper (pQ qual (bc st) s.heap.objs.size f cdv))->sp vs H Q E ->
   ∃t,sV (z6 (pX P w) P w K mg base N qual (bc st) f cdv A outer s H E) (dN st) t/\t {nx:=λ_ H'=>Q .bK H',rt:=Q} (start N vs) H):iK P w K mg base (pX P w) (k+1) f fd ps sp:=by
 obtain⟨oc,od,kV,doc,pm,an,cdv,ct,osl,rfl,lk,hcd⟩:=F.ex;exact RI lk hcd S len λA outer s H vs Q E hr hsp=>hbody cdv A outer s H vs Q E hr hsp
open PySem.W
open Builtin Builtin.ObjectAttr
noncomputable abbrev xj:List Value:=[.type "ValueError",.type "Exception",.type "BaseException",.type "object"]
structure oq(K:Frag)(C:Addr)(bm:List Value):Prop where
 ob:∃nm q N bs sn sub ab col dd k0 k1 k2 k3 k5,K.lookup C=some (kP nm q C N bs bm true sn sub ab col dd k0 k1 k2 k3 k5 "ValueError.__new__")
 tl:tailIn K xj bm=true
theorem oq.tail{K:Frag}{C:Addr}{bm:List Value}{h:Heap}(x:oq K C bm)(X:K.In h):OwnTail h xj bm:=tail_of_in X x.tl
theorem oq.base{K:Frag}{C:Addr}{bm:List Value}{h:Heap}(x:oq K C bm)(X:K.In h):bm.contains (.type "BaseException")=true:=(x.tail X).hasType F.excBase_ValueError.hasBase
section
variable{prog:bC}{w:bZ}{A:cB}{E:Value->ak->Prop}{h:Heap}{g:Array JF}{d:Drawn}{t:Nat}{os:OsState}
variable{nm q:Str}{C N:Addr}{bs bm bmB:List Value}{sn:List Str}{sub:List Value}{ab:Bool}{col:Option Bool}{dd:Option Addr}{k0 k1 k2 k3 k5:Option Value}{B newId initId:String}
theorem Ab(F:ExcBaseFacts B newId initId bmB)(T:OwnTail h bmB bm){rest:List Value}{fI:Addr}{Q:Fin->ak->Prop}
  (hC:h.get? C=some (kP nm q C N bs bm true sn sub ab col dd k0 k1 k2 k3 k5 newId)) (hI:Br (aR prog w) h (t9 (.ref C) "__init__") (some (.ref fI)))
  (hB:∀self,Br (aR prog w) h (bindSpecial (.ref fI) self) (.ref fI,[self]))
  (hq:∀h' e,Heap.MadeExcOf h h' e (.ref C) rest->h.objs.size<=e->wpAny (aR prog w) A (call (.ref fI) (.ref e::rest)) (λr s'=>r=.none/\Q (.done (.ret (.ref e))) s') E #[h',g,d,t,os]) (hrest:rest.length<=sizeLine):
  wpAny (aR prog w) A (Builtin.«type.__call__» #[.ref C::rest,[]]) Q E #[h,g,d,t,os]:=by
 generalize e1:({cls:=.type "tuple",data:=.seq rest.toArray}:Obj)=o1;generalize e2:({cls:=.ref C,data:=.fields (List.toArray [.ref h.objs.size,.none,.none,.none,.bool false,.none])}:Obj)=o2;have kp:∀b o,h.get? b=some o->((h.push o1).push o2).get? b=some o:=λb o z=>aA o2 (aA o1 z)
 repeat (first|with_reducible refine fq hC ?_|with_reducible refine wpAny_madeBy_exc hC ?_|wp_step)
 refine codeAny_call_builtin_code (FC _ F.quiet) (wpAny_check_new_subT F T hC (codeAny_exc_new_subT F T hC ?_ hrest));rw[e1,e2]
 show wpAny _ _ _ _ _ _
 have hC1:=kp C _ hC;have hget:((h.push o1).push o2).get? (h.objs.size+1)=some o2:=by rw[<-e1,<-e2];heap_get
 have hcls:o2.cls=.ref C:=by rw[<-e2]
 have hcC:(aS C::bm).contains (.ref C)=true:=by simp
 unfold isInstance
 repeat (first| (with_reducible refine fq hget ?_;rw[hcls])| (with_reducible refine l7 hC1 ?_;rw[hcC])|wp_step)
 show wpAny _ _ (t9 (.ref C) _) _ _ _
 refine(hI.keeps kp).here ?_;refine gT (aj (((hB (.ref (h.objs.size+1))).keeps kp).here ?_));refine aj (bL (hq _ (h.objs.size+1) #[kp,pH (gV _),h.objs.size,by rw[hget,<-e2],pH (ax _),?_] (gV _)) (λr s' hr=>?_) λ_ _ x=>x)
 .rw[e1]
  exact aA o2 (Heap.get?_push_at (by rfl) (by rw[<-e1];rfl))
 .obtain⟨rfl,hQ⟩:=hr
  wp_walk
  exact hQ
theorem x_call(F:ExcBaseFacts B newId initId bmB)(T:OwnTail h bmB bm){rest:List Value}{fI:Addr}{Q:Value->ak->Prop}
  (hC:h.get? C=some (kP nm q C N bs bm true sn sub ab col dd k0 k1 k2 k3 k5 newId)) (hI:Br (aR prog w) h (t9 (.ref C) "__init__") (some (.ref fI)))
  (hB:∀self,Br (aR prog w) h (bindSpecial (.ref fI) self) (.ref fI,[self]))
  (hq:∀h' e,Heap.MadeExcOf h h' e (.ref C) rest->h.objs.size<=e->wpAny (aR prog w) (A.under (.builtin "type.__call__" #[.ref C::rest,[]])) (call (.ref fI) (.ref e::rest)) (λr s'=>r=.none/\Q (.ref e) s') E #[h',g,d,t,os]) (hrest:rest.length<=sizeLine):
  wpAny (aR prog w) A (call (.ref C) rest) Q E #[h,g,d,t,os]:=by
 have f1:=tc_lookup;have f2:=tc_bind (.ref C);have hT:(#[h,g,d,t,os]:ak).TypeIs (.ref C) "type":=#[_,hC,rfl]
 refine pR (codeAny_of_tree ?_);show wpAny _ _ (callAny (.ref C) _) _ _ _
 repeat (any_goals (first|assumption|with_reducible refine fq hC ?_|wp_step))
 exact#[rfl,codeAny_call_builtin_at (FC _ (by decide +kernel)) entry_typeCall (wpAny_check_type_call_sub hC (Ab F T hC hI hB (λh' e hm hs=>hq h' e hm hs) hrest))]
theorem Ac{env:Env}{M:Fv}{s:ak}{x:Sem Value}{Q:Flow->ak->Prop}(hbase:bm.contains (.type "BaseException")=true)(hh:A.handled=none)
  (hx:wpAny M A x (λv s₁=>∃e dx,v=.ref e/\s₁.heap.get? C=some (kP nm q C N bs bm true sn sub ab col dd k0 k1 k2 k3 k5 newId)/\vI s₁.heap e (.ref C) dx none/\E (.ref e) s₁) E s):
  wpAny M A (raiseStmt env (some x) none) Q E s:=by
 have hcB:(aS C::bm).contains (.type "BaseException")=true:=by rw[kY,hbase,Bc]
 unfold raiseStmt;refine aj (bL hx (λv s₁ h₁=>?_) λ_ _ x=>x);obtain⟨e,dx,rfl,hC,⟨vs,sl,he,h1⟩,hE⟩:=h₁;obtain⟨hp,g,d,tk,os⟩:=s₁
 repeat (first|with_reducible refine fq he ?_|with_reducible refine fq hC ?_| (with_reducible refine l7 hC ?_;rw[hcB])|wp_step)
 rw[h1]
 refine aK ?_;rw[if_neg ⋯]
 exact aK (wpAny_raiseNew_none hh hE)
end
structure XGet(K:Frag)(C:Addr):Prop where
 ga:iC K (.ref C) "__getattribute__"=some (some (.builtin "BaseException.__getattribute__"))
 gh:iC K (.ref C) "__getattr__"=some none
 hb:mroIn K C (.type "BaseException")=some true
 hd:hasDictIn K C=true
 sa:iC K (.ref C) "__setattr__"=some (some (.builtin "object.__setattr__"))
 mo:∃cd bm,clsIn K C=some cd/\cd.mro=.ref C::bm/\tailIn K xj bm=true
noncomputable def YZ(e C:Addr)(od:Option Addr):Heap->Prop:=λh=>vI h e (.ref C) od none
noncomputable def Wg(d:Addr)(fs:List (Str×V)):Heap->Prop:=λh=>∃mA,h.Ns1 d mA/\(∀f,nN (fs.lookup f) (mA f))/\kj mA (fs.map (·.1))
noncomputable abbrev HO.xo(e C:Addr)(od:Option Addr):HO:=.ext (YZ e C od)
noncomputable abbrev HO.xf(d:Addr)(fs:List (Str×V)):HO:=.ext (Wg d fs)
section
variable{P:bC}{w:bZ}{H:Hp}{h:Heap}{e C d:Addr}{od:Option Addr}{fs:List (Str×V)}
theorem MF(x:vI h e (.ref C) od none):d6 P w H h e (.xo e C od):=by
 obtain⟨vs,sl,a,b⟩:=id x;exact#[x,#[_,a],λh1 h2 #[vs,sl,a,b] k=>#[vs,sl,k _ a,b]]
theorem MG(x:Wg d fs h):d6 P w H h d (.xf d fs):=by
 obtain⟨mA,⟨o,es,ep,e,c⟩,r⟩:=id x;exact#[x,#[_,e],λh1 h2 #[mA,#[o,es,ep,e,c],r] k=>#[mA,#[o,es,ep,k _ e,c],r]]
theorem Dd(dg:og P w H h)(q:H e=some (.xo e C od)):vI h e (.ref C) od none:=(dg e _ q).1
theorem De(dg:og P w H h)(q:H d=some (.xf d fs)):Wg d fs h:=(dg d _ q).1
end
theorem sA{K:Frag}(self:Value):∀{l:List Value},tailIn K xj l=true->refuseLoop self "__setattr__" l=pure ()
 |[],e=>by simp[tailIn] at e
 |v::r,e=>by
  unfold tailIn at e;rcases Bool.or_eq_true_iff.mp e with q|q
  .rw[beq_iff_eq.mp q]
   exact PySem.F.store_ValueError.passes self
  .split at q
   .split at q
    .simp only[af] at q
     rw[refuseLoop_ref]
     exact sA self q.2
    .cases q
   .cases q
section
variable{prog:bC}{w:bZ}{A:cB}{E:Value->ak->Prop}{s:ak}{K:Frag}{x C:Addr}{name:Str}{v:Value}{Q:Unit->ak->Prop}
theorem uv{ox:Obj}{od:Option Obj}(X:K.In s.heap)(G:XGet K C)(I:gu s.heap x ox C od)(ht:takerIn K C name=some none)
  (h:∀(b:Bool)(t:Nat),wpAny (aR prog w) A.in1 (storeInOwnDict (.ref x) (.ref C) (.str name s.toks) name v b) (λfin s'=>match fin with|.done (.ret _)=>Q () s'|_=>False) E {s with toks:=s.toks+1}):
  wpAny (aR prog w) A (FR (.ref x) name v) Q E s:=by
 have SF:=PySem.F.store_object;obtain⟨cd,bm,hc,hm,tl⟩:=G.mo;have T:OwnTail s.heap xj bm:=tail_of_in X tl;have ne:¬cd.mro.isEmpty=true:=by rw[hm];simp
 have ho:cd.mro.contains (.type "object")=true:=by rw[hm,kY,T.hasType (X:="object") (b:=true) (by decide +kernel),Bc]
 have sub:Br (aR prog w) s.heap (isInstance (.ref x) (.type "object")) true:=I.type.andThen (looks_mroIn X (by unfold mroIn;rw[hc,FD,if_neg ne,ho]));refine set_plain X I G.sa ?_;refine JJ SF.slot.plain SF.entry (@check_slot (aR prog w) _ _ {s with toks:=s.toks+1} "object.__setattr__" "object" "__setattr__" (.ref x) [.str name s.toks,v] [] _ SF.kind SF.split sub (SF.args (.ref x) (.str name s.toks) v) ?_);obtain⟨attr,ha,hr⟩:=ao.mp ht;have hmro:Br (aR prog w) s.heap (mroOf (.ref C)) cd.mro:=(JK X hc).andThen .now;have L3:Br (aR prog w) s.heap (storeTaker? attr) none:=by
  cases attr with
  |none=>exact .now
  |some a=>
   obtain⟨b,hb,hb2⟩:=ag.mp hr;cases b with
   |true=>cases hb2
   |false=>exact(looks_takesIn X hb).andThen .now
 rw[osa_eq,refuse_eq]
 have I':Br (aR prog w) s.heap (typeOf (.ref x)) (.ref C):=I.type;refine aj (aj (kQ (s:={s with toks:=s.toks+1}) I' (aj (kQ (s:={s with toks:=s.toks+1}) hmro ?_))));rw[hm,refuseLoop_ref,sA _ tl]
 refine aK (aj (kQ (s:={s with toks:=s.toks+1}) I' (aj (kQ (s:={s with toks:=s.toks+1}) (vQ X ha) (aj (kQ (s:={s with toks:=s.toks+1}) L3 ?_))))));refine bL (h attr.isSome 0) (λfin s' z=>?_) λ_ _ z=>z
 cases fin with
 |again c=>exact z.elim
 |done f=>
  cases f with
  |ret u=>exact z
  |next=>exact z.elim
  |brk=>exact z.elim
  |cont=>exact z.elim
end
theorem BU{mA:Str->Option Value}{f:Str}{y:V}{u:Value}{fs:List (Str×V)}(wi:kj mA (fs.map (·.1))):kj (λg=>if g=f then some u else mA g) ((gx f y fs).map (·.1)):=λg hg=>by
 by_cases q:g=f
 .rw[q];exact(mn f y fs).1
 .refine(mn f y fs).2 g (wi g λz=>hg ?_)
  show(if g=f then some u else mA g)=none
  rw[if_neg q];exact z
theorem GU{mA:Str->Option Value}{f:Str}{y:V}{u:Value}{fs:List (Str×V)}(r:∀g,nN (fs.lookup g) (mA g))(ry:RelV y u)(g:Str):nN ((gx f y fs).lookup g) (if g=f then some u else mA g):=by
 rw[oj]
 by_cases q:g=f
 .rw[if_pos q,if_pos q];exact ry
 .rw[if_neg q,if_neg q];exact r g
section
variable{X:Cx}{pZ:List (Addr×Obj)}{σ:St}{H:Hp}{s:ak}{a C d:Addr}{fs:List (Str×V)}{f:Str}{y:V}{u:Value}{A:cB}{E:Value->ak->Prop}
theorem qw{Q:Fin->ak->Prop}{tk:Tok}(I:Inv X pZ σ H s)(hd:H d=some (.xf d fs))(hl:fs.length<1000)(ry:RelV y u)
  (h:∀s',Inv X pZ σ (upd H d (.xf d (gx f y fs))) s'->Q (.done (.ret .none)) s'):
  wpAny (aR X.prog X.w) A (storeInDict d (.str f tk) f u) Q E s:=by
 obtain⟨mA,ns,r,wi⟩:=De I.dg hd;unfold storeInDict newKeyGuard;refine aj (aK (aj (wpAny_nsSet1 ns λh' hn2 hs2=>?_)));obtain⟨oD,esD,epD,hoD,hdD,hcD⟩:=hn2.count (yd f u wi);refine aj (wpAny_lookBehind hoD (by rw[hdD];exact pastItsLine_dict (aT hcD (by rw[aQ,ar,jc];omega))) ?_);refine aK (h _ (I.write (x:=d) (e:=d) (by rw[hd];exact dU) (.inl rfl) (λb q hb z=>(hs2.2 b hb).trans z) #[oD,hoD] (MG #[_,hn2,GU r ry,BU wi])))
theorem Of{od:Option Addr}(I:Inv X pZ σ H s)(e:H a=some (.xo a C od)):∃vs sl,s.heap.get? a=some #[.ref C,od,.fields vs,sl]:=by
 obtain⟨vs,sl,q,_⟩:=Dd I.dg e;exact#[vs,sl,q]
theorem BV{Q:Unit->ak->Prop}(I:Inv X pZ σ H s)(G:XGet X.K C)(n:fD X.K C f)(e:H a=some (.xo a C none))(ry:RelV y u)
  (h:∀d s',H d=none->d≠a->Inv X pZ σ (upd (upd H d (.xf d [(f,y)])) a (.xo a C (some d))) s'->Q () s'):wpAny (aR X.prog X.w) A (FR (.ref a) f u) Q E s:=by
 obtain⟨vs,sl,q,q1⟩:=Dd I.dg e;refine uv (ox:=#[.ref C,none,.fields vs,sl]) (od:=none) I.kU G #[q,rfl,rfl,dU] n.Gs λb t=>?_
 obtain⟨cd,hc,hd'⟩:=JL G.hd;refine aj (aK (aj (aj (qW (s:={s with toks:=s.toks+1}) q (aj (kQ (s:={s with toks:=s.toks+1}) (JK I.kU hc) ?_))))));rw[hd']
 generalize eD:({cls:=.type "dict",data:=.dict #[]}:Obj)=D0;have n0:H s.heap.objs.size=none:=I.dg.fresh (ax _);have na:s.heap.objs.size≠a:=kK (aL q);have e1:(s.heap.push D0).get? s.heap.objs.size=some D0:=bz s.heap (by rw[<-eD];rfl);have e3:(s.heap.push D0).Ns s.heap.objs.size (λ_=>none):=#[D0,#[],_,e1,by rw[<-eD],(λe he=>absurd he (by simp)),λ_=>rfl]
 have I1:=I.laid (a:=s.heap.objs.size) (o:=.xf s.heap.objs.size []) (h':=s.heap.push D0) (t':=s.toks+1) (λb u q=>aA _ q) (ax _) (MG #[_,Bn e3,λ_=>dU,λy hy=>absurd rfl hy]);have qa:(s.heap.push D0).get? a=some #[.ref C,none,.fields vs,sl]:=aA _ q;have fr:(({(#[.ref C,none,.fields vs,sl]:Obj) with dict:=some s.heap.objs.size}):Obj).isFreed=false:=rfl;have I2:=I1.write (x:=a) (e:=a) (o:=.xo a C (some s.heap.objs.size)) (h':=(s.heap.push D0).update a λo=>{o with dict:=some s.heap.objs.size}) (t':=s.toks+1) (by rw[bw (dM na),e];exact dU) (.inl rfl) (λb u hb z=>gy z hb)
  #[_,dY _ qa fr] (MF #[vs,sl,dY _ qa fr,q1])
 refine aj (wpAny_alloc (aj (wpAny_update (a:=a) (s:={s with heap:=s.heap.push D0,toks:=s.toks+1}) qa (aK ?_))));refine qw (fs:=[]) I2 (by rw[bw na,bF]) ⋯ ry λs' I3=>h s.heap.objs.size s' n0 na ?_
 have hh:upd (upd (upd H s.heap.objs.size (.xf s.heap.objs.size [])) a (.xo a C (some s.heap.objs.size))) s.heap.objs.size (.xf s.heap.objs.size (gx f y []))=upd (upd H s.heap.objs.size (.xf s.heap.objs.size [(f,y)])) a (.xo a C (some s.heap.objs.size)):=by
  funext b
  by_cases z:b=s.heap.objs.size
  .rw[z,bF,bw na,bF];rfl
  .rw[bw z]
   by_cases z2:b=a
   .rw[z2,bF,bF]
   .rw[bw z2,bw z2,bw z,bw z]
 rw[<-hh]
 exact I3
theorem BW{Q:Unit->ak->Prop}(I:Inv X pZ σ H s)(G:XGet X.K C)(n:fD X.K C f)(e:H a=some (.xo a C (some d)))(hd:H d=some (.xf d fs))(hl:fs.length<1000)(ry:RelV y u)
  (h:∀s',Inv X pZ σ (upd H d (.xf d (gx f y fs))) s'->Q () s'):wpAny (aR X.prog X.w) A (FR (.ref a) f u) Q E s:=by
 obtain⟨vs,sl,q⟩:=Of I e;obtain⟨mA,⟨oD,es,ep,eo,c⟩,r⟩:=De I.dg hd;refine uv (ox:=#[.ref C,some d,.fields vs,sl]) (od:=some oD) I.kU G #[q,rfl,rfl,eo] n.Gs λb t=>?_
 obtain⟨cd,hc,hd'⟩:=JL G.hd;refine aj (aK (aj (aj (qW (s:={s with toks:=s.toks+1}) q (aj (kQ (s:={s with toks:=s.toks+1}) (JK I.kU hc) ?_))))));rw[hd']
 refine aK (a:=some d) ?_;exact qw (I.tok (s.toks+1)) hd hl ry λs' I'=>h s' I'
noncomputable def RW(K:Frag)(ta tv:TE)(f:Str):TS:=λD σ H=>tv σ H λy H1=>ta σ H1 λx H2=>∃a C,x=.ref a/\XGet K C/\fD K C f /\
  ((H2 a=some (.xo a C none)/\∀d,H2 d=none->d≠a->D.nx σ (upd (upd H2 d (.xf d [(f,y)])) a (.xo a C (some d)))) \/
   ∃d fs,H2 a=some (.xo a C (some d))/\H2 d=some (.xf d fs)/\fs.length<1000/\D.nx σ (upd H2 d (.xf d (gx f y fs))))
theorem yH{o value:Expr}{pos pos':Pos}{ta tv:TE}(ha:PE X o ta)(hv:PE X value tv)(hs:iJ value (some (.Attribute o f pos')) pos.line X.env=pure false):PS X (.Assign [.Attribute o f pos'] value pos) (RW X.K ta tv f):=by
 intro pZ s σ H D I h;refine wt (fj (hv pZ s σ H _ I h) λu s1 h9=>?_) hs;obtain⟨y,H1,I1,ry,q⟩:=h9;refine fj (ha pZ s1 σ H1 _ I1 q) λov s2 h9=>?_
 obtain⟨x,H2,I2,rx,a,C,ex,G,n,q2⟩:=h9;subst ex;obtain rfl:ov=aS a:=rx;rcases q2 with⟨e,k⟩|⟨d,fs,e,hd,hl,k⟩
 .exact BV I2 G n e ry λd s3 hn ne I3=>#[σ,_,I3,k d hn ne]
 .exact BW I2 G n e hd hl ry λs3 I3=>#[σ,_,I3,k]
end
noncomputable def sC(H:Hp)(a:Addr):Hp:=λb=>if b=a then none else H b
theorem pY{H:Hp}{a:Addr}:sC H a a=none:=if_pos rfl
theorem ko{H:Hp}{a b:Addr}(n:b≠a):sC H a b=H b:=if_neg n
section
variable{X:Cx}{pZ:List (Addr×Obj)}{σ:St}{H:Hp}{s:ak}{a C:Addr}{od:Option Addr}
theorem Inv.RX(I:Inv X pZ σ H s)(e:H a=some (.xo a C od)):Inv X pZ σ (sC H a) s:=by
 have no:∀b u,H b=some u->(∀φ,u≠.ext φ)->b≠a:=λb u q k z=>by
  subst z;rw[e] at q;exact k _ (aG q).symm
 have J:=I.step (g':=s.gens) (t':=s.toks) (d':=s.drawn) (h':=s.heap) (H':=sC H a) (ch:=[]) (λ_ z=>absurd z (by simp)) (λb o _ _ _ q _=>q) (λb o _ _ _ q _=>#[o.slots,q]) (λb o _ _ n=>by
   by_cases z:b=a
   .rw[z];exact pY
   .rw[ko z];exact n) (λb o _ q=>#[o,q]) (λb xs q=>by rw[ko (no b _ q (by intro φ z;cases z))];exact q) (λb o u q=>by rw[ko (no b _ q (by intro φ z;cases z))];exact q)
  (λb ps q=>#[#[],by rw[ko (no b _ q (by intro φ z;cases z)),q];simp]) (λm hm=>hm) (λb u q=>?_) I.bare
 .exact J
 .by_cases z:b=a
  .rw[z,pY] at q;cases q
  .rw[ko z] at q
   exact(I.dg b u q).jI (λ_ _ _ q=>q) (λc q=>by rw[ko (no c _ q (by intro φ z;cases z))];exact q) λc xs q=>by rw[ko (no c _ q (by intro φ z;cases z))];exact q
end
section
variable{M:Fv}{A:cB}{E:Value->ak->Prop}{s:ak}
theorem yI{K:Frag}{C C' a:Addr}{bm bm':List Value}{dx:Option Addr}{tb:Option (Addr×Value)}{Q:Bool->ak->Prop}(X:K.In s.heap)(c:oq K C bm)(c':oq K C' bm')(x:vI s.heap a (.ref C) dx tb)
  (h:Q ((aS C::bm).contains (.ref C')) s):wpAny M A (excMatches (.ref a) (.ref C')) Q E s:=by
 obtain⟨nm,q,N,bs,sn,sub,ab,col,dd,k0,k1,k2,k3,k5,hC0⟩:=c.ob;obtain⟨nm',q',N',bs',sn',sub',ab',col',dd',k0',k1',k2',k3',k5',hC0'⟩:=c'.ob;have hb:=c'.base X;obtain⟨vs,sl,he⟩:=x.obj;have hC:=X _ _ hC0;have hC':=X _ _ hC0';obtain⟨hp,g,d,tk,os⟩:=s;have hcB:(aS C'::bm').contains (.type "BaseException")=true:=by rw[kY,hb,Bc]
 have f:=tc_notTuple;unfold excMatches
 repeat (first|with_reducible refine fq he ?_|with_reducible refine fq hC' ?_| (with_reducible refine l7 hC' ?_;rw[hcB])|with_reducible refine l7 hC ?_|wp_step)
 cases hb2:(aS C::bm).contains (.ref C')<;>(rw[hb2] at h;wp_walk;exact h)
end
noncomputable abbrev Cx.hand(X:Cx)(a:Addr):Cx:={X with A:=X.A.mark (some (.ref a)),calm:=false,xe:=λ_ _=>False}
section
variable{X:Cx}{pZ:List (Addr×Obj)}{σ:St}{H:Hp}{s:ak}{a:Addr}
theorem Cx.Ok.hand(ok:X.Ok)(a:Addr):(X.hand a).Ok:=
 #[ok.mod,ok.kind,ok.glob,ok.blt,ok.above,ok.inj,ok.has,ok.MA,λz=>absurd (show false=true from z) ⋯,ok.frames,ok.Ep,ok.Ra,ok.bs,ok.FI,ok.zX,ok.BA,ok.pS,ok.Jv]
theorem Inv.hand(I:Inv X pZ σ H s)(a:Addr):Inv (X.hand a) pZ σ H s:=#[I.ok.hand a,I.os,I.bare,I.base,I.loc,I.cell,I.free,I.kn,I.pin,I.dg,I.len]
theorem Inv.yJ(ok:X.Ok)(I:Inv (X.hand a) pZ σ H s):Inv X pZ σ H s:=#[ok,I.os,I.bare,I.base,I.loc,I.cell,I.free,I.kn,I.pin,I.dg,I.len]
noncomputable def Y0(a:Addr)(c:Value)(dx:Option Addr):Heap->Prop:=λh=>∃vs sl,h.get? a=some #[c,dx,.fields vs,sl]
noncomputable abbrev HO.xc(a:Addr)(c:Value)(dx:Option Addr):HO:=.ext (Y0 a c dx)
theorem Inv.RY{c:Value}{dx:Option Addr}{tb:Option (Addr×Value)}(I:Inv X pZ σ H s)(f:BS X pZ H a)(x:vI s.heap a c dx tb):Inv X pZ σ (upd H a (.xc a c dx)) s:=by
 have ne:∀b u,H b=some u->b≠a:=λb u e z=>by rw[z,f.1] at e;cases e
 have J:=I.step (g':=s.gens) (t':=s.toks) (d':=s.drawn) (h':=s.heap) (H':=upd H a (.xc a c dx)) (ch:=[a]) (λb m=>by
   have e:b=a:=by simpa using m
   subst e;exact#[.inr f.2.1,f.2.2.1,f.2.2.2.1,f.2.2.2.2]) (λb o _ _ _ q _=>q) (λb o _ _ _ q _=>#[o.slots,q]) (λb o n _ z=>by rw[bw (λe=>n (by simp[e]))];exact z) (λb o _ q=>#[o,q])
  (λb xs q=>by rw[bw (ne b _ q)];exact q) (λb o u q=>by rw[bw (ne b _ q)];exact q) (λb ps q=>#[#[],by rw[bw (ne b _ q),q];simp]) (λm hm=>hm) (λb u q=>?_) I.bare
 .exact J
 .by_cases z:b=a
  .subst z
   rw[bF] at q;cases q;obtain⟨vs,sl,e⟩:=x.obj;exact#[#[vs,sl,e],#[_,e],λh1 h2 #[vs,sl,e] k=>#[vs,sl,k _ e]]
  .rw[bw z] at q
   exact(I.dg b u q).jI (λ_ _ _ q=>q) (λc q=>by rw[bw (ne c _ q)];exact q) λc xs q=>by rw[bw (ne c _ q)];exact q
theorem oO{A:cB}{E:Value->ak->Prop}{M:Fv}{i:Nat}{n:Str}{pos:Pos}{Q:Unit->ak->Prop}(I:Inv X pZ σ H s)(hN:X.N.Nodup)(hi:X.N[i]?=some n)(hk:X.env.scope.names.lookup n=some .local)
  (h:∀s',Inv X pZ (σ.set i none) H s'->Q () s'):wpAny M A (do bindName X.env n .none;JM X.env n pos) Q E s:=by
 have hcls:(X.env.scope.kind==.class||(X.env.scope.kind==.module&&X.env.locals !=X.env.globals))=false:=by rw[I.ok.kind];rfl
 have hiσ:i<σ.length:=by rw[I.len];exact(ae.mp hi).1
 refine aj (wpAny_bindName (mm (v:=.bK) I hN hi (.inl hk) rfl (λs1 I1=>?_) (.inr hk)));unfold JM;refine wpAny_onRaise ?_;obtain⟨m,hn,hl⟩:=id I1.loc;obtain⟨u0,r0,l0⟩:=hl i n .bK hi (by rw[bU hiσ]) (.inl hk);have hv:m n=some u0:=by
  rcases l0 with⟨_,q⟩|⟨k,_⟩
  .exact q
  .have k':X.env.scope.names.lookup n=some .cell\/X.env.scope.names.lookup n=some .free:=k
   rw[hk] at k';rcases k' with z|z<;>cases z
 refine wpAny_unbindName_local hk hn hv hcls λh' u hn' hs=>h _ ?_
 obtain⟨oL,_,_,hoL,_⟩:=id hn;have tracked:og X.prog X.w H h':=λb ob e=>by
  refine(I1.dg b ob e).jI (λc w' hc q=>(hs.2 c ?_).trans q) (λ_ q=>q) λ_ _ q=>q
  rintro rfl;rcases hc with rfl|hc
  .rw[I1.free] at e;cases e
  .rw[I1.free] at hc;cases hc
 have lt:∀b o,X.s₀.heap.get? b=some o->b≠X.env.locals:=λb o e=>b7 (aM (aL e) I1.ok.above)
 refine#[I1.ok,I1.os,I1.bare,#[λb o e n hb hx=>(hs.2 b (lt b o e)).trans (I1.base.keep b o e n hb hx),λb o e n hb hx=>?_,I1.base.free,λb o e hx=>?_,I1.base.yx,I1.base.vR,I1.base.yy],#[_,hn',λj y v' e1 e2 e3=>?_],λy c e=>?_,I1.free,I1.kn,λp hp=>?_,tracked,?_]
 .obtain⟨sl,e1⟩:=I1.base.slot b o e n hb hx
  exact#[sl,(hs.2 b (lt b o e)).trans e1]
 .obtain⟨o',e1⟩:=I1.base.there b o e hx
  exact#[o',(hs.2 b (lt b o e)).trans e1]
 .have hj:j≠i:=by
   rintro rfl;rw[bU hiσ] at e2;cases e2
  rw[av (dM hj)] at e2;obtain⟨u',r',q⟩:=hl j y v' e1 (by rw[av (dM hj)];exact e2) e3;refine#[u',r',?_];rcases q with⟨k,e⟩|⟨k,c,e,z⟩
  .refine .inl #[k,?_]
   have:y≠n:=λe=>hj (uf hN e1 (e▸hi))
   simp[this,e]
  .exact .inr #[k,c,e,z.sameBut hs (I1.JT y c e)]
 .obtain⟨w',z⟩:=I1.cell y c e
  exact#[w',z.sameBut hs (I1.JT y c e)]
 .obtain⟨e,n,ne,nf,d⟩:=I1.pin p hp
  exact#[(hs.2 p.1 ne).trans e,n,ne,nf,d]
 .rw[cZ];exact I.len
end
noncomputable def XE(X:Cx)(pZ:List (Addr×Obj))(σ:St)(E:XK)(ex:Value)(s':ak):Prop:=
 ∃(a:Addr)(tb:Option Addr)(c:Value)(dx:Option Addr)(H':Hp),ex=.ref a/\Inv X pZ σ H' s'/\vI s'.heap a c dx (tb.map λT=>(T,dh))/\(∀b∈a::tb.toList,BS X pZ H' b)/\E c dx H'
noncomputable def RZ(X:Cx)(pZ:List (Addr×Obj))(E:St->XK)(ex:Value)(s':ak):Prop:=∃σ',XE X pZ σ' (E σ') ex s'
noncomputable def eI(X:Cx)(e:Expr)(t:XK->TE):Prop:=
 ∀(pZ:List (Addr×Obj))(s:ak)(σ:St)(H:Hp)(Q:VK)(E:XK),Inv X pZ σ H s->t E σ H Q->wpAny (aR X.prog X.w) X.A (eval e X.env) (EP X pZ σ Q) (XE X pZ σ E) s
section
variable{X:Cx}{st:Stmt}{rest:List Stmt}{e:Expr}{es:List Expr}{pos p apos:Pos}
section
variable{k:Nat}{f C:Addr}{fd:dS}{ps:List Str}{sp:Sp}{dvs:List V}{ds:List Value}{x m:Str}{o:Expr}{ta:TE}{t:TA}
theorem tH{pZ:List (Addr×Obj)}{σ:St}{H:Hp}{s:ak}{Q:VK}{E:XK}{us:List Value}{vs:List V}(F:iK X.prog X.w X.K X.mg X.base (pX X.prog X.w) k f fd ps sp)(hr:jz k X.A)(hb:Binds X.K fd ps ds)(hd:Vals dvs ds)
  (I:Inv X pZ σ H s) (r:Vals vs us) (h:sp (vs++dvs) H Q E):wpAny (aR X.prog X.w) X.A (call (.ref f) us) (EP X pZ σ Q) (XE X pZ σ E) s:=by
 have r2:Vals (vs++dvs) (us++ds):=r.append hd;have hl:(us++ds).length=ps.length:=by rw[<-r2.length];exact F.len _ _ _ _ h
 refine pR (mf (F.run X.A X.stack s H #[us,[]] (us++ds) (vs++dvs) Q E hr I.NX (hb s us I.kU hl) r2 h) λr s' hq=>?_);cases r with
 |error e=>
  obtain⟨a,T,c,dx,H',e1,I',x,fr,q⟩:=pX.inv I hq;exact#[a,some T,c,dx,H',e1,I',x,fr,q]
 |ok fl=>
  cases fl with
  |ret u=>exact I.after hq
  |next=>exact aJ hq
  |brk=>exact aJ hq
  |cont=>exact aJ hq
end
noncomputable def Wh(K:Frag)(C':Addr)(i:Nat)(tb:(St->XK)->TS)(th:TS):TS:=λD σ H=>tb (λσ' c dx H'=>∃C bm,c=.ref C/\oq K C bm/\(aS C::bm).contains (.ref C')=true/\∀a,H' a=none ->
 th {nx:=λσ2 H2=>D.nx (σ2.set i none) H2,rt:=D.rt,bk:=λσ2 H2=>D.bk (σ2.set i none) H2,ct:=λσ2 H2=>D.ct (σ2.set i none) H2} (σ'.set i (some (.ref a))) (upd H' a (.xc a c dx))) D σ H
end
noncomputable def sY(env:Env):List (Str×NameKind)->List (Str×Addr)->List (Str×Addr)
 |[],acc=>acc
 | (n,k)::r,acc=>sY env r (if k=.free then(n,(env.cells.lookup n).getD 0)::acc else acc)
theorem uw{env:Env}{scope:kJ}(h:∀n,(n,bQ)∈scope.names->∃c,env.cells.lookup n=some c):closureFor scope env=pure (sY env scope.names []):=by
 have all:∀(l:List (Str×NameKind))(acc:List (Str×Addr)),(∀n,(n,bQ)∈l->∃c,env.cells.lookup n=some c) ->
   (forIn (m:=Sem) l acc λ(x:Str×NameKind)(cs:List (Str×Addr))=>if (x.2==.free)=true then do let c <-cellOf env x.1;pure (dW ((x.1,c)::cs)) else pure (dW cs))=pure (sY env l acc):=by
  intro l;induction l with
  |nil=>intro acc _;rfl
  |cons p r ih=>
   intro acc hl;obtain⟨n,k⟩:=p;rw[List.forIn_cons]
   have hr:∀m,(m,bQ)∈r->∃c,env.cells.lookup m=some c:=λm hm=>hl m (aV _ hm)
   by_cases hk:k=.free
   .subst hk
    obtain⟨c,hc⟩:=hl n bf;have e:cellOf env n=pure c:=by unfold cellOf;rw[hc]
    show(do let x <-(if (bQ==bQ)=true then do let c <-cellOf env n;pure (dW ((n,c)::acc)) else pure (dW acc));_)=_
    rw[if_pos ⋯,e]
    show(forIn (m:=Sem) r ((n,c)::acc) _)=_
    rw[ih _ hr]
    show _=pure (sY env r (if bQ=bQ then(n,(env.cells.lookup n).getD 0)::acc else acc))
    rw[if_pos rfl,hc]
    rfl
   .have hb:(k==bQ)=false:=by simpa using hk
    show(do let x <-(if (k==bQ)=true then do let c <-cellOf env n;pure (dW ((n,c)::acc)) else pure (dW acc));_)=_
    rw[hb,if_neg ⋯]
    show(forIn (m:=Sem) r acc _)=_
    rw[ih _ hr]
    show _=pure (sY env r (if k=bQ then(n,(env.cells.lookup n).getD 0)::acc else acc))
    rw[if_neg hk]
 have:=all scope.names [] h;unfold closureFor;simpa using this
theorem sD{env:Env}:∀(l:List (Str×NameKind))(acc:List (Str×Addr))(y:Str)(c:Addr),(sY env l acc).lookup y=some c->(c=(env.cells.lookup y).getD 0/\(y,bQ)∈l)\/acc.lookup y=some c
 |[],acc,y,c,h=>.inr h
 | (n,k)::r,acc,y,c,h=>by
  rcases sD r _ y c h with⟨e,m⟩|q
  .exact .inl #[e,aV _ m]
  .by_cases hk:k=.free
   .rw[if_pos hk] at q
    by_cases e:y=n
    .subst e
     subst hk;rw[oK] at q;cases q;exact .inl #[rfl,bf]
    .rw[ba,show(y==n)=false by simpa using e] at q
     exact .inr q
   .rw[if_neg hk] at q
    exact .inr q
theorem Ad{env:Env}:∀(l:List (Str×NameKind))(acc:List (Str×Addr))(y:Str),(∃c,acc.lookup y=some c)->∃c,(sY env l acc).lookup y=some c
 |[],_,_,h=>h
 | (n,k)::r,acc,y,h=>by
  refine Ad r _ y ?_;by_cases hk:k=.free
  .rw[if_pos hk]
   by_cases e:y=n
   .subst e;exact#[_,oK]
   .rw[ba,show(y==n)=false by simpa using e];exact h
  .rw[if_neg hk];exact h
theorem uA{env:Env}:∀(l:List (Str×NameKind))(acc:List (Str×Addr))(y:Str),(y,bQ)∈l->∃c,(sY env l acc).lookup y=some c
 | (n,k)::r,acc,y,h=>by
  rcases bg.mp h with e|m
  .have e1:y=n:=congrArg Prod.fst e
   have e2:bQ=k:=congrArg Prod.snd e;subst e1;refine Ad r _ y ?_;rw[if_pos e2.symm]
   exact#[_,oK]
  .exact uA r _ y m
noncomputable def Cx.vV(X:Cx)(scope:kJ)(C:Addr)(N:List Str)(s₀:ak)(H₀:Hp)(ex:List Addr):Cx:=
 {X with N:=N,s₀:=s₀,H₀:=H₀,env:=compEnvC scope (sY X.env scope.names []) C X.env,outer:=X.stack,stack:=X.stack,ex:=ex,fn:=λ_=>false,pn:=[],xe:=λ_ _=>False}
structure EH(X:Cx)(scope:kJ)(x:List Str):Prop where
 kind:scope.kind=.function
 nc:∀y∈scope.names,y.2≠.cell
 lo:∀y∈scope.names,y.2=.local->scope.names.lookup y.1=some .local
 fr:∀y∈scope.names,y.2=.free->X.env.scope.names.lookup y.1=some .cell
 nm:∀y∈x,scope.names.lookup y=some .local
 nd:x.Nodup
 lk:∀y,scope.names.lookup y=some .free->(y,bQ)∈scope.names
theorem gB{env : Env} : ∀(names : List (Str×NameKind))(x : Str)(k : NameKind),
    (names.map λ(n, k) => if (k==bQ&&env.scope.kind==.function&&env.kindOf n==some .cell) then (n, NameKind.cell) else (n, k)).lookup x=some k -> names.lookup x=some k \/ (k=.cell /\ names.lookup x=some .free)
  |[], _, _, h => by cases h
  | (n, k0)::r, x, k, h => by
    rw [aD] at h;dsimp only at h;by_cases hc : (k0==bQ&&env.scope.kind==.function&&env.kindOf n==some .cell)=true
    · rw [if_pos hc] at h
      simp only [af, beq_iff_eq] at hc;by_cases e : (x==n)=true
      · rw [ba, e] at h
        cases h;refine .inr #[rfl, ?_];rw [ba, e, hc.1.1]
      · have e' : (x==n)=false := by simpa using e
        rw [ba, e'] at h;rw [ba, e'];exact gB r x k h
    · rw [if_neg hc] at h
      by_cases e : (x==n)=true
      · rw [ba, e] at h
        cases h;refine .inl ?_;rw [ba, e]
      · have e' : (x==n)=false := by simpa using e
        rw [ba, e'] at h;rw [ba, e'];exact gB r x k h
section
variable{X:Cx}{pZ:List (Addr×Obj)}{σ:St}{H:Hp}{s:ak}{scope:kJ}{x:List Str}
theorem EH.cells(B:EH X scope x)(ok:X.Ok):∀n,(n,bQ)∈scope.names->∃c,X.env.cells.lookup n=some c:=λn hn=>ok.has n (.inl (B.fr _ hn rfl))
theorem EH.cl(B:EH X scope x)(ok:X.Ok){y:Str}{c:Addr}(h:(sY X.env scope.names []).lookup y=some c):X.env.cells.lookup y=some c/\X.env.scope.names.lookup y=some .cell:=by
 rcases sD _ _ _ _ h with⟨e,m⟩|q
 .obtain⟨c',hc'⟩:=B.cells ok y m
  rw[hc'] at e;rw[e]
  exact#[hc',B.fr _ m rfl]
 .cases q
theorem Inv.block{C:Addr}{h':Heap}{t':Nat}{ex:List Addr}{N:List Str}{τ:St}(I:Inv X pZ σ H s)(B:EH X scope x)(hC:C=s.heap.objs.size)(hns:h'.Ns C λ_=>none)
  (kp:∀b o,s.heap.get? b=some o->h'.get? b=some o) (hex:∀b∈ex,pW X pZ H b/\b<s.heap.objs.size) (hl:τ.length=N.length)
  (hτ:∀(i:Nat)(y:Str)(v:V),N[i]?=some y->τ[i]?=some (some v)->scope.names.lookup y=some .free/\∃j:Nat,X.N[j]?=some y/\σ[j]?=some (some v)):
  Inv (X.vV scope C N s H ex) [] τ H {s with heap:=h',toks:=t'}:=by
 have ok:=I.ok;have cleq:∀y c,(X.vV scope C N s H ex).env.cells.lookup y=some c->X.env.cells.lookup y=some c/\X.env.scope.names.lookup y=some .cell:=λy c e=>B.cl ok e
 have hfr:H C=none:=by rw[hC];exact I.dg.fresh (ax _)
 refine#[#[ok.mod,B.kind,ok.glob,ok.blt,Bm hC.symm,λy z c h1 h2=>ok.inj y z c (cleq y c h1).1 (cleq z c h2).1,λy hy=>?_,λy c z=>absurd (show false=true from z) ⋯,ok.hd,ok.frames,.inl rfl,λb hb=>?_,λb o e=>I.bs b o e,aT ok.FI I.sz,λb o e hb=>?_,λb hb=>?_,I.stack,I.yA],
  rfl,I.bare,Un.kept kp,#[_,hns,λi y v e1 e2 e3=>?_],λy c e=>?_,hfr,λy c e=>I.kn y c (cleq y c e).1,λp hp=>absurd (show p∈([]:List (Addr×Obj)) from hp) (by simp),I.dg.kept kp,hl]
 .have hy':scope.names.lookup y=some .free:=by
   rcases hy with h|h
   .rcases gB (env:=X.env) scope.names y .cell h with q|q
    .exact absurd rfl (B.nc _ (fh q))
    .exact q.2
   .rcases gB (env:=X.env) scope.names y .free h with q|q
    .exact q
    .exact absurd q.1 ⋯
  exact uA _ _ _ (B.lk y hy')
 .refine#[λz=>?_,λy c e z=>(hex b hb).1.2.2.2.2.1 y c (cleq y c e).1 z]
  have:=(hex b hb).2;rw[z,show(X.vV scope C N s H ex).env.locals=C from rfl,hC] at this;exact absurd this (dJ _)
 .obtain⟨f0,f1,f2,f3,f4,f5⟩:=(hex b hb).1
  rcases f3 with z|z
  .exact ok.zX b o e z
  .exact absurd (aM (aL (ok.bs b o e).1) z) (dJ _)
 .obtain⟨f0,f1,f2,_⟩:=(hex b hb).1
  intro z;rcases bg.mp (I.ue b z) with q|q
  .exact f1 q
  .exact f2 q
 .obtain⟨hf,j,hj,hv⟩:=hτ i y v e1 e2
  obtain⟨m,_,hlk⟩:=I.loc;have hcell:=B.fr _ (B.lk y hf) rfl;obtain⟨u,r,l⟩:=hlk j y v hj hv (.inr (.inl hcell));refine#[u,r,.inr #[?_,?_]]
  .show(F5 scope X.env).names.lookup y=some .cell\/(F5 scope X.env).names.lookup y=some .free
   have:=e3;rcases this with q|q|q
   .rcases gB (env:=X.env) scope.names y .local q with z|z
    .rw[hf] at z;cases z
    .exact absurd z.1 ⋯
   .exact .inl q
   .exact .inr q
  .rcases l with⟨k,_⟩|⟨_,c,hc,z⟩
   .have k':X.env.scope.names.lookup y=some .local:=k
    rw[hcell] at k';cases k'
   .obtain⟨c',hc'⟩:=uA (env:=X.env) scope.names [] y (B.lk y hf)
    have hc2:=(B.cl ok hc').1;rw[hc] at hc2;cases hc2;obtain⟨o,ho,hd⟩:=z;exact#[c,hc',#[o,kp _ _ ho,hd]]
 .obtain⟨v,o,ho,hd⟩:=I.cell y c (cleq y c e).1
  exact#[v,o,kp _ _ ho,hd]
theorem Inv.Kq{C:Addr}{ex:List Addr}{N:List Str}{τ:St}{H':Hp}{s':ak}(I:Inv X pZ σ H s)(J:Inv (X.vV scope C N s H ex) [] τ H' s')(hex:∀b∈ex,pW X pZ H b):Inv X pZ σ H' s':=
 I.MB (ch:=ex) J.os J.base J.dg J.bare λb hb=>#[(hex b hb).2.2.2.1,(hex b hb).2.1,(hex b hb).2.2.2.2.1,(hex b hb).2.2.2.2.2]
end
noncomputable def Kr(X:Cx)(ifs:List Expr)(t:TT):Prop:=
 ∀(pZ:List (Addr×Obj))(s:ak)(σ:St)(H:Hp)(Q:Bool->Hp->Prop),Inv X pZ σ H s->t σ H Q ->
  wpAny (aR X.prog X.w) X.A (forIn ifs true λc r=>if r=true then do let ok <-isTrue c X.env (eval c X.env);pure (dW ok) else pure (dW r)) (TP X pZ σ Q) X.xe s
noncomputable def R7:TT:=λ_ H Q=>Q true H
theorem Ks{X:Cx}:Kr X [] R7:=λ_ _ _ H _ I q=>wpAny_tests_nil #[H,I,q]
theorem Kt{X:Cx}{c:Expr}{t:TT}(h:PT X c t):Kr X [c] t:=λpZ s σ H Q I q=>wpAny_tests_one (h pZ s σ H Q I q)
noncomputable def gC(σ:St)(ci:List Nat):St:=ci.map λj=>(σ[j]?).join
noncomputable def R8(K:Frag)(pr:Bool)(y:V)(H:Hp)(k:St->Prop):Prop:=match pr with
 |false=>k [some y]
 |true=>∃p a b,y=.ref p/\lU K H p [a,b]/\k [some a,some b]
abbrev MH(bd:V->Hp->(St->Prop)->Prop)(J:It)(D:Addr)(tc:TT)(te:TE)(caps:St)(R:Hp->Prop)(H1:Hp):Prop:=
 ∃W:Nat->Nat->List V->Hp->Prop,(∃m,W 0 m [] (upd H1 D (.lst [])))/\∀i m acc H2,W i m acc H2->H2 D=some (.lst acc)/\acc.length<sizeLine /\
  ((J.stop i H2/\R H2)\/(J.go i H2/\∀y H3,J.Rt i H2 y H3->bd y H3 λτ=>tc (τ++caps) H3 λb H4=>
   if b=true then te (τ++caps) H4 λz H5=>H5 D=some (.lst acc)/\∃m',m'<m/\W (i+1) m' (acc++[z]) (upd H5 D (.lst (acc++[z]))) else ∃m',m'<m/\W (i+1) m' acc H4))
noncomputable def GV(bd:V->Hp->(St->Prop)->Prop)(wi:TI)(ci:List Nat)(tc:TT)(te:TE):TE:=λσ H Q=>wi σ H λJ H1=>∀D,H1 D=none->MH bd J D tc te (gC σ ci) (λH2=>Q (.ref D) H2) H1
structure yK(X:Cx)(scope:kJ)(cn:List Str)(ci:List Nat):Prop where
 len:ci.length=cn.length
 at_:∀(k:Nat)(y:Str),cn[k]?=some y->∃j:Nat,ci[k]?=some j/\X.N[j]?=some y
 fr:∀y∈cn,scope.names.lookup y=some .free
section
variable{X:Cx}{pZ:List (Addr×Obj)}{σ:St}{H:Hp}{s:ak}{scope:kJ}{x:List Str}
theorem rB{cn:List Str}{X:Cx}{scope:kJ}{ci:List Nat}(cp:yK X scope cn ci)(B:EH X scope x)(hn:cn.Nodup):(x++cn).Nodup:=
 mh.mpr #[B.nd,hn,λy hy z hz e=>(by
  subst e;have q:=cp.fr y hz;rw[B.nm y hy] at q;cases q)]
noncomputable def QQ(X:Cx)(tg:Expr)(scope:kJ)(x cn:List Str)(bd:V->Hp->(St->Prop)->Prop):Prop:=
 ∀(C:Addr)(s₀:ak)(H₀:Hp)(ex:List Addr)(pZ:List (Addr×Obj))(s:ak)(τ caps:St)(H:Hp)(v:V)(u:Value)(k:St->Prop),Inv (X.vV scope C (x++cn) s₀ H₀ ex) pZ (τ++caps) H s->τ.length=x.length->RelV v u->bd v H k ->
  wpAny (aR X.prog X.w) X.A (ya tg (X.vV scope C (x++cn) s₀ H₀ ex).env u) (λ_ s'=>∃τ',τ'.length=x.length/\Inv (X.vV scope C (x++cn) s₀ H₀ ex) pZ (τ'++caps) H s'/\k τ') (λ_ _=>False) s
theorem R9{α:Type}{l:List α}(h:l.length=2):∃a b,l=[a,b]:=by
 cases l with
 |nil=>cases h
 |cons a t=>obtain⟨b,e⟩:=i5.mp (Jj h);exact#[a,b,by rw[e]]
theorem GX{y:Str}{py:Pos}{cn:List Str}{ci:List Nat}(B:EH X scope [y])(cp:yK X scope cn ci)(hnd:cn.Nodup):QQ X (.Name y py) scope [y] cn (R8 X.K false):=by
 intro C s₀ H₀ ex pZ s τ caps H v u k I hl r h;have hx:(X.vV scope C ([y]++cn) s₀ H₀ ex).env.scope.names.lookup y=some .local:=rf (B.nm y (by simp));obtain⟨o,rfl⟩:=i5.mp hl;exact vM (mm I (rB cp B hnd) (i:=0) rfl (.inl hx) r (λs8 J8=>#[[some v],rfl,J8,h]) (.inr hx))
theorem GY{y z:Str}{py pz pt:Pos}{n:Nat}{cn:List Str}{ci:List Nat}(B:EH X scope [y,z])(cp:yK X scope cn ci)(hnd:cn.Nodup)(hc:X.calm=true):QQ X (.Tuple [.Name y py,.Name z pz] n pt) scope [y,z] cn (R8 X.K true):=by
 intro C s₀ H₀ ex pZ s τ caps H v u k I hl r h;have hy:(X.vV scope C ([y,z]++cn) s₀ H₀ ex).env.scope.names.lookup y=some .local:=rf (B.nm y (by simp));have hz:(X.vV scope C ([y,z]++cn) s₀ H₀ ex).env.scope.names.lookup z=some .local:=rf (B.nm z (by simp));have nd:=rB cp B hnd;obtain⟨p,a,b,e,hq,q⟩:=h;obtain⟨o,o',rfl⟩:=R9 hl;refine bL (Ge (X:=X.vV scope C ([y,z]++cn) s₀ H₀ ex) (pos:=pt) (k:=n) hc (qo (qm (i:=0) (pos:=py) nd rfl (.inl hy) (.inr hy)) (qo (qm (i:=1) (pos:=pz) nd rfl (.inl hz) (.inr hz)) C3)) rfl rfl pZ s _ H v u (λσ' H'=>H'=H/\σ'=[some a,some b]++caps) I r ?_) (λ_ s' #[σ',H',I',e1,e2]=>?_) λ_ _ z=>z
 .exact#[p,[a,b],e,hq,rfl,a,[b],rfl,b,[],rfl,rfl,rfl,rfl]
 .subst e1 e2
  exact#[[some a,some b],rfl,I',q]
theorem Ae{elt iter tg:Expr}{bd:V->Hp->(St->Prop)->Prop}{pos:Pos}{ifs:List Expr}{it:Addr}{fp:List Addr}{tn:Nat->Heap->Prop}{J:It}{tc:TT}{te:TE}{cn:List Str}{ci:List Nat}{RR:Value->Addr->Result->ak->Prop}{Rq:Addr->Hp->Prop}{E:Value->ak->Prop}
  (I:Inv X pZ σ H s) (B:EH X scope x) (cp:yK X scope cn ci) (hnd:cn.Nodup) (hcalm:X.calm=true) (ht:QQ X tg scope x cn bd) (T:Turn X.prog X.w X.K tg J fp it tn) (t0:tn 0 s.heap) (hf:∀b∈fp,pW X pZ H b)
  (hc:∀C s₀ H₀ ex,Kr (X.vV scope C (x++cn) s₀ H₀ ex) ifs tc) (he:∀C s₀ H₀ ex,PE (X.vV scope C (x++cn) s₀ H₀ ex) elt te)
  (h:∀D,H D=none->MH bd J D tc te (gC σ ci) (Rq D) H)
  (fin:∀C D H5 s5,Inv X pZ σ H5 s5->Rq D H5->(∃m,s5.heap.Ns C m)->BS X pZ H5 C->RR (.ref D) C (.ok .next) s5):
  wpAny (aR X.prog X.w) X.A (newList []) (λacc s₃=>wpAny (aR X.prog X.w) X.A (newFunctionEnv scope X.env.globals (sY X.env scope.names []) [] X.env.qual none .none (some X.env)) (λcenv s₄=>
   nY (aR X.prog X.w) X.A (.compStart (.ListComp elt [#[tg,iter,ifs,0]] scope pos) 0 (.ref it) acc {cenv with scope:=F5 scope X.env}) (RR acc cenv.locals) s₄) E s₃) E s:=by
 have ok:=I.ok;obtain⟨W,⟨m0,w0⟩,turn⟩:=h s.heap.objs.size (I.dg.fresh (ax _));generalize hD:s.heap.objs.size=D at turn w0;refine gZ ?_;have I2:Inv X pZ σ (upd H D (.lst [])) {s with heap:=s.heap.push {cls:=.type "list",dict:=none,data:=.seq ([]:List Value).toArray} }:=by
  have:=I.RQ (its:=[]) (ys:=[]) (t':=s.toks) .nil (dw _);rw[hD] at this;exact this
 generalize hH2:s.heap.push {cls:=.type "list",dict:=none,data:=.seq ([]:List Value).toArray}= h2 at I2 ⊢;have k2:∀b o,s.heap.get? b=some o->h2.get? b=some o:=λb o e=>by rw[<-hH2];exact aA _ e
 have sz2:h2.objs.size=s.heap.objs.size+1:=by rw[<-hH2,wq]
 have fpl:∀b∈fp,b<s.heap.objs.size:=λb hb=>by
  obtain⟨o,e,_⟩:=T.obj _ _ t0 b hb;exact aL e
 have nD:∀b∈fp,b≠D:=λb hb=>by rw[<-hD];exact b7 (fpl b hb)
 have hf2:∀b∈fp,pW X pZ (upd H D (.lst [])) b:=λb hb=>#[by rw[bw (nD b hb)];exact(hf b hb).1,(hf b hb).2]
 have t2:tn 0 h2:=T.keep _ _ _ t0 λb _ o e=>k2 b o e
 show wpAny _ _ _ _ _ {s with heap:=h2}
 refine wpAny_newFunctionEnv B.nc (by intro y hy;simp at hy) (λh3 ns3 sb3=>?_) B.kind;have kp3:∀b o,h2.get? b=some o->h3.get? b=some o:=λb o e=>(sb3.2 b (b7 (aL e))).trans (aA _ e)
 have hl:((x.map λ_=>none)++gC σ ci:St).length=(x++cn).length:=by
  rw[aB,aB,ar,gC,ar,cp.len]
 have J3:Inv (X.vV scope h2.objs.size (x++cn) {s with heap:=h2} (upd H D (.lst [])) fp) [] ((x.map λ_=>none)++gC σ ci) (upd H D (.lst [])) {s with heap:=h3,toks:=s.toks+0}:=
  I2.block (s:={s with heap:=h2}) (h':=h3) (t':=s.toks+0) (N:=x++cn) B rfl ns3 kp3 (λb hb=>#[hf2 b hb,by rw[sz2];exact cM (fpl b hb)]) hl (λi y v e1 e2=>by
   by_cases lt:i<x.length
   .rw[aq (by simpa using lt),au,aa lt] at e2
    cases e2
   .have e1':cn[i-x.length]?=some y:=by rw[ay ∅] at e1;exact e1
    have e2':(gC σ ci)[i-x.length]?=some (some v):=by rw[ay (by simpa using lt),ar] at e2;exact e2
    refine#[cp.fr y (aw e1'),?_];obtain⟨j,hj,hy⟩:=cp.at_ _ y e1';refine#[j,hy,?_];rw[gC,au,hj] at e2';have e3:(σ[j]?).join=some v:=aG e2';cases q:σ[j]? with
    |none=>rw[q] at e3;cases e3
    |some w=>rw[q] at e3;exact congrArg some e3)
 generalize hY:X.vV scope h2.objs.size (x++cn) {s with heap:=h2} (upd H D (.lst [])) fp=Y at J3;have ePr:Y.prog=X.prog:=by rw[<-hY];rfl
 have eW:Y.w=X.w:=by rw[<-hY];rfl
 have eK:Y.K=X.K:=by rw[<-hY];rfl
 have eC:Y.calm=true:=by rw[<-hY];exact hcalm
 have eA:Y.A=X.A:=by rw[<-hY];rfl
 have eE:Y.env=compEnvC scope (sY X.env scope.names []) h2.objs.size X.env:=by rw[<-hY];rfl
 have hPc:Kr Y ifs tc:=by rw[<-hY];exact hc _ _ _ _
 have hPe:PE Y elt te:=by rw[<-hY];exact he _ _ _ _
 have eN:Y.N=x++cn:=by rw[<-hY];rfl
 have eX:Y.xe=λ_ _=>False:=by rw[<-hY];rfl
 have TY:Turn Y.prog Y.w Y.K tg J fp it tn:=by rw[ePr,eW,eK];exact T
 have fpY:∀{H':Hp},(∀b∈fp,H' b=none)->∀b∈fp,pW Y [] H' b:=λhn b hb=>by
  obtain⟨f0,f1,f2,f3,f4,f5⟩:=hf2 b hb;have lt2:b<h2.objs.size:=by rw[sz2];exact cM (fpl b hb)
  refine#[hn b hb,λz=>?_,λz=>?_,.inl (by rw[<-hY];exact hb),λy c e=>?_,λp hp=>?_]
  .have z':b=h2.objs.size:=by rw[eE] at z;exact z
   exact absurd lt2 (by rw[z'];exact dJ _)
  .have z':b∈vS X.stack:=by rw[<-hY] at z;exact z
   rcases bg.mp (I.ue b z') with q|q
   .exact f1 q
   .exact f2 q
  .rw[eE] at e
   exact f4 y c (B.cl ok e).1
  .have:p∈([]:List (Addr×Obj)):=by rw[<-hY] at hp;exact hp
   exact absurd this (by simp)
 have loop:∀s4:ak,s4={s with heap:=h3,toks:=s.toks+0}->nY (aR X.prog X.w) X.A (.compLoop (.ListComp elt [#[tg,iter,ifs,0]] scope pos) 0 (.ref it) (.ref D) Y.env) (RR (.ref D) h2.objs.size) s4:=by
  rintro s4 rfl;refine codeAny_loop rfl (λn s'=>∃i acc τ H',τ.length=x.length/\Inv Y [] (τ++gC σ ci) H' s'/\tn i s'.heap/\(∀b∈fp,H' b=none)/\W i n acc H') ?_ m0 #[0,[],x.map λ_=>none,_,by simp,J3,T.keep _ _ _ t2 λb _ o e=>kp3 b o e,λb hb=>(hf2 b hb).1,w0];rintro n s5 ⟨i,acc,τ,H5,hτ,J5,t5,f5,w5⟩;obtain⟨hD5,hz5,alt⟩:=turn i n acc H5 w5;show wpAny _ X.A ((compTurn (.ListComp elt [#[tg,iter,ifs,0]] scope pos) 0 (.ref it) (.ref D) Y.env).onRaise (λx=>do FA x Y.env;theTreesLotGoes x)) _ _ s5;refine wpAny_noted ?_;rw[compTurn_list,<-eA]
  rcases alt with⟨stop,q5⟩|⟨go,step⟩
  .refine aj (oa (aj ?_))
   rw[<-ePr,<-eW]
   refine fj (TY.done Y rfl rfl rfl eC i [] s5 _ H5 _ J5 (fpY f5) t5 stop) λr s6 h9=>?_
   obtain⟨hr,J6⟩:=h9;subst hr;refine aK ?_;have J6':Inv (X.vV scope h2.objs.size (x++cn) {s with heap:=h2} (upd H D (.lst [])) fp) [] (τ++gC σ ci) H5 s6:=by rw[hY];exact J6
   have I6:=I2.Kq J6' hf2;obtain⟨m6,ns6,_⟩:=J6'.loc;have fC:=I2.RT (b:=h2.objs.size) (ax _);exact fin h2.objs.size D H5 s6 I6 q5 #[m6,ns6] #[J6'.free,fC.2]
  .refine aj (oa (aj ?_))
   rw[<-ePr,<-eW]
   refine fj (TY.item Y rfl rfl rfl eC i [] s5 _ H5 _ J5 (fpY f5) t5 go) λr s6 h9=>?_
   obtain⟨u,hr,h6⟩:=h9;subst hr;refine aj ?_;rw[eA,<-eA]
   refine fj h6 λ_ s7 h9=>?_
   obtain⟨y,H7,J7,r7,y7,t7,f7⟩:=h9;have J7':=J7.pinned (fpY f7) (T.obj _ _ t7);have noE:∀{α:Type}{t:Sem α}{Q:α->ak->Prop}{E:Value->ak->Prop}{s:ak},wpAny (aR Y.prog Y.w) Y.A t Q Y.xe s->wpAny (aR Y.prog Y.w) Y.A t Q E s:=λh=>bL h (λ_ _ z=>z) λ_ _ z=>by rw[eX] at z;exact z.elim
   have ht':wpAny (aR Y.prog Y.w) Y.A (ya tg Y.env u) (λ_ s8=>∃τ',τ'.length=x.length/\Inv Y ([]++rh fp s7.heap) (τ'++gC σ ci) H7 s8/\tc (τ'++gC σ ci) H7 λb H4=>
     if b=true then te (τ'++gC σ ci) H4 λz H5=>H5 D=some (.lst acc)/\∃m',m'<n/\W (i+1) m' (acc++[z]) (upd H5 D (.lst (acc++[z]))) else ∃m',m'<n/\W (i+1) m' acc H4) (λ_ _=>False) s7:=by
    have st:=step y H7 y7;subst hY;exact ht _ _ _ _ _ s7 τ _ H7 y u _ J7' hτ r7 st
   refine aj (bL ht' (λ_ s8 h9=>?_) λ_ _ z=>z.elim);obtain⟨τ',hτ',J8',q8⟩:=h9;refine aj (noE (fj (hPc _ s8 _ H7 _ J8' q8) λb s9 h9=>?_));obtain⟨H9,J9,q9⟩:=h9;have again:∀{acc':List V}{H':Hp}{s':ak},Inv Y ([]++rh fp s7.heap) (τ'++gC σ ci) H' s'->(∃m',m'<n/\W (i+1) m' acc' H')->∃m,m<n/\∃i acc τ H',τ.length=x.length/\Inv Y [] (τ++gC σ ci) H' s'/\tn i s'.heap/\(∀b∈fp,H' b=none)/\W i m acc H':=λ{acc' H' s'}J' ⟨m',lt,w'⟩=>by
    refine#[m',lt,i+1,acc',τ',H',hτ',J'.qp,T.keep _ _ _ t7 λb hb o e=>(J'.pin (b,o) (aW _ (aW _ (mT hb e)))).1,λb hb=>?_,w'];obtain⟨o,e,d⟩:=T.obj _ _ t7 b hb;exact(J'.pin (b,o) (aW _ (aW _ (mT hb e)))).2.1
   cases b with
   |false=>exact aK #[rfl,again J9 q9]
   |true=>
    refine aj (aj (noE (fj (hPe _ s9 _ H9 _ J9 q9) λv s10 h9=>?_)));obtain⟨z,H10,J10,r10,hD10,q10⟩:=h9;refine aj (noE (fj (rq _ s10 _ H10 (.ref D) [z] (.ref D) [v] (λ_ H11=>H11=upd H10 D (.lst (acc++[z]))) J10 rfl (.cons r10 .nil) #[D,acc,z,rfl,rfl,hD10,hz5,rfl]) λv11 s11 h9=>?_));obtain⟨z11,H11,J11,_,e11⟩:=h9;subst e11;exact aK (aK #[rfl,again J11 q10])
 rw[eE] at loop;subst hD;exact codeAny_compStart_list (loop _ rfl) (T.self _ 0 _ _ _ (T.keep _ _ _ t2 λb _ o e=>kp3 b o e) (loop _ rfl))
theorem Ku{elt iter tg:Expr}{bd:V->Hp->(St->Prop)->Prop}{pos:Pos}{ifs:List Expr}{wi:TI}{tc:TT}{te:TE}{cn:List Str}{ci:List Nat}(B:EH X scope x)(cp:yK X scope cn ci)(hnd:cn.Nodup)(hcalm:X.calm=true)(ht:QQ X tg scope x cn bd)(hi:PI X tg iter wi)
  (hc:∀C s₀ H₀ ex,Kr (X.vV scope C (x++cn) s₀ H₀ ex) ifs tc) (he:∀C s₀ H₀ ex,PE (X.vV scope C (x++cn) s₀ H₀ ex) elt te) (hs:∀x,foldedSetIterable iter X.env x=pure x:=by intro _;rfl):
  PE X (.ListComp elt [#[tg,iter,ifs,0]] scope pos) (GV bd wi ci tc te):=by
 intro pZ s σ H Q I h;rw[eval_ListComp]
 refine Ec (use:=none) rfl hs (uw (B.cells I.ok)) B.kind B.lo (fj (hi pZ s σ H _ I h) λv s1 h1=>fj h1 λitv s2 h2=>?_);obtain⟨it,fp,tn,J,H2,e,I2,T,t2,f2,q⟩:=h2;subst e;refine Ae (RR:=λacc C=>compPost (aR X.prog X.w) X.A X.xe none (EP X pZ σ Q) acc C) (Rq:=λD H2=>Q (.ref D) H2) I2 B cp hnd hcalm ht T t2 f2 hc he q λC D H5 s5 I5 q5 hn fC=>?_
 obtain⟨m,hm⟩:=hn;refine#[m,hm,λh' sb=>#[.ref D,H5,?_,rfl,q5]];exact I5.turned (it:=C) (t':=s5.toks) (λb o hb e=>(sb.2 b hb).trans e) fC.1 fC.2.2.1 (.inr fC.2.1) fC.2.2.2.1 fC.2.2.2.2
theorem BX{elt iter tg:Expr}{bd:V->Hp->(St->Prop)->Prop}{py pos spos:Pos}{ifs:List Expr}{wi:TI}{tc:TT}{te:TE}{cn:List Str}{ci:List Nat}{i:Nat}{y:Str}(B:EH X scope x)(cp:yK X scope cn ci)(hnd:cn.Nodup)(hcalm:X.calm=true)(ht:QQ X tg scope x cn bd)(hi:PI X tg iter wi)
  (hc:∀C s₀ H₀ ex,Kr (X.vV scope C (x++cn) s₀ H₀ ex) ifs tc) (he:∀C s₀ H₀ ex,PE (X.vV scope C (x++cn) s₀ H₀ ex) elt te) (hN:X.N.Nodup) (hy:X.N[i]?=some y) (hk:X.env.scope.names.lookup y=some .local)
  (hsw:iJ (.ListComp elt [#[tg,iter,ifs,0]] scope pos) (some (.Name y py)) spos.line X.env=pure true) (hs:∀x,foldedSetIterable iter X.env x=pure x:=by intro _;rfl):
  PS X (.Assign [.Name y py] (.ListComp elt [#[tg,iter,ifs,0]] scope pos) spos) (Ro (GV bd wi ci tc te) (wL i)):=by
 intro pZ s σ H D I h;rw[exec_Assign_Name_used _ _ _ _ hsw]
 refine aj (oa (aj ?_));show wpAny _ X.A (do let _ <-comprehension (.ListComp elt [#[tg,iter,ifs,0]] scope pos) scope X.env _ (newList []) false (eval iter X.env) (some (ya (.Name y py) X.env))) _ _ s;refine aj (bL (Ec (use:=some (ya (.Name y py) X.env)) (Q:=λ_ s'=>SP X pZ D .next s') rfl hs (uw (B.cells I.ok)) B.kind B.lo (fj (hi pZ s σ H _ I h) λv s1 h1=>fj h1 λitv s2 h2=>?_))
  (λ_ s' hq=>aK (aK hq)) λ_ _ e=>e)
 obtain⟨it,fp,tn,J,H2,e,I2,T,t2,f2,q⟩:=h2;subst e;refine Ae (RR:=λacc C=>compPost (aR X.prog X.w) X.A X.xe (some (ya (.Name y py) X.env)) (λ_ s'=>SP X pZ D .next s') acc C) (Rq:=λD' H2=>(wL i) (.ref D') σ H2 D.nx) I2 B cp hnd hcalm ht T t2 f2 hc he q λC D' H5 s5 I5 q5 hn fC=>?_
 obtain⟨m,hm⟩:=hn;show wpAny _ X.A (ya (.Name y py) X.env (.ref D')) _ _ _;refine vM (wJ (v:=.ref D') I5 hN hy (.inl hk) rfl (λs6 I6 sb6=>?_) (.inr hk));obtain⟨a,sb,ha⟩:=sb6;have nC:C≠a:=by
  rcases ha with z|z
  .rw[z];exact fC.2.2.1
  .intro w;exact fC.2.2.2.1 y a z w.symm
 refine#[m,hm.sameBut sb nC,λh' sb'=>#[_,H5,?_,q5]];exact I6.turned (it:=C) (t':=s6.toks) (λb o hb e=>(sb'.2 b hb).trans e) fC.1 fC.2.2.1 (.inr fC.2.1) fC.2.2.2.1 fC.2.2.2.2
noncomputable def Sa(z:Str):It:=#[λi _=>i<z.cps.size,λi H x H'=>H'=H/\∃c,z.cps[i]?=some c/\x=.str #[(List.toArray [c])],λi _=>z.cps.size<=i]
theorem GZ{P:bC}{w:bZ}{K:Frag}{tg:Expr}(it:Addr)(z:Str)(t:Tok)(b:Bool):Turn P w K tg (Sa z) [it] it (λi h=>h.IsStrIter it (if b then "str_ascii_iterator" else "str_iterator") z t i) where
 mem:=by simp
 obj:=λi h st c hc=>by
  have e:c=it:=by simpa using hc
  subst e;obtain⟨o,e,_,d⟩:=st;exact#[o,e,λv q=>by rw[d] at q;cases q]
 keep:=λi h h' st k=>by
  obtain⟨o,e,c,d⟩:=st;exact#[o,k it (by simp) o e,c,d]
 item:=by
  intro X hP hw hK hc i pZ s σ H E I hf st hg;subst hP hw hK;obtain⟨f0,f1,f2,f3,f4,f5⟩:=hf it (by simp);have hx:z.cps[i]?=some (z.cps[i]'hg):=Array.getElem?_eq_getElem hg;have done:∀h',h'.IsStrIter it (if b then "str_ascii_iterator" else "str_iterator") z t (i+1)->sd it s.heap h' ->
    ∃u,(some (jx #[(List.toArray [z.cps[i]'hg])] s.toks):Option Value)=some u/\wpAny (aR X.prog X.w) X.A (qg tg (.ref it) u) (λ_ s2=>∃x H',Inv X pZ σ H' s2/\RelV x u/\(Sa z).Rt i H x H'/\s2.heap.IsStrIter it (if b then "str_ascii_iterator" else "str_iterator") z t (i+1)/\∀b∈[it],H' b=none) E {s with heap:=h',toks:=s.toks+1}:=λh' st' sb=>by
   have I1:Inv X pZ σ H {s with heap:=h',toks:=s.toks+1}:=I.turned (t':=s.toks+1) (λb o hb e=>(sb.2 b hb).trans e) f0 f1 f3 f4 f5;obtain⟨o,e,c,d⟩:=id st';exact#[_,rfl,C4 (s:={s with heap:=h',toks:=s.toks+1}) e c d (by cases b<;>decide) #[.str #[(List.toArray [z.cps[i]'hg])],H,I1,#[_,rfl],#[rfl,_,hx,rfl],st',λb hb=>(hf b hb).1]]
  cases b with
  |true=>exact wpAny_pyNext_ascii_item st hx λh' st' sb=>done h' st' sb
  |false=>exact wpAny_pyNext_wide_item st hx λh' st' sb=>done h' st' sb
 done:=by
  intro X hP hw hK hc i pZ s σ H E I hf st hg;subst hP hw hK;obtain⟨f0,f1,f2,f3,f4,f5⟩:=hf it (by simp);have hx:z.cps[i]?=none:=Array.getElem?_eq_none hg;cases b with
  |true=>exact wpAny_pyNext_ascii_end (I.ok.hd hc) st hx λh' eb=>#[rfl,I.turned (t':=s.toks) (λb o hb e=>eb b o hb e) f0 f1 f3 f4 f5]
  |false=>exact wpAny_pyNext_wide_end (I.ok.hd hc) st hx λh' eb=>#[rfl,I.turned (t':=s.toks) (λb o hb e=>eb b o hb e) f0 f1 f3 f4 f5]
 self:=λA i s Q E st h=>by
  cases b with
  |true=>exact wpAny_pyIter_striter_ascii st h
  |false=>exact wpAny_pyIter_striter_wide st h
end
noncomputable abbrev tx(l:List Nat):Str:=#[l.toArray]
theorem Sb(z:Str):z=tx z.cps.toList:=by
 obtain⟨a⟩:=z;simp
theorem yL(a b:List Nat):tx a++tx b=tx (a++b):=by
 show Str.mk (a.toArray++b.toArray)=Str.mk (a++b).toArray
 simp
theorem cX(a:List Nat):(tx a).length=a.length:=by simp[FY]
theorem rC{a b:List Nat}(h:tx a=tx b):a=b:=by
 have:=congrArg (λz:Str=>z.cps.toList) h;simpa using this
theorem MI{a b:List Nat}:(tx a=tx b)↔a=b:=#[rC,λh=>by rw[h]]
theorem Dg{a b:List Nat}:(V.str (tx a)=V.str (tx b))↔a=b:=#[λh=>rC (V.str.inj h),λh=>by rw[h]]
section
variable{X:Cx}
theorem EI:gw X (cA .Add) (λx y H Q=>∃a b,x=.str (tx a)/\y=.str (tx b)/\a.length+b.length<=sizeLine/\Q (.str (tx (a++b))) H):=by
 intro pZ s σ H x y v u Q I rx ry h;obtain⟨a,b,rfl,rfl,hz,q⟩:=h;refine BH pZ s σ H _ _ v u Q I rx ry #[tx a,tx b,rfl,rfl,by rw[cX,cX];exact hz,?_];rw[yL]
 exact q
theorem BY:gw X (gS .Add) (λx y H Q=>∃a b,x=.str (tx a)/\y=.str (tx b)/\a.length+b.length<=sizeLine/\Q (.str (tx (a++b))) H):=by
 intro pZ s σ H x y v u Q I rx ry h;obtain⟨a,b,rfl,rfl,hz,q⟩:=h;refine zZ pZ s σ H _ _ v u Q I rx ry #[tx a,tx b,rfl,rfl,by rw[cX,cX];exact hz,?_];rw[yL]
 exact q
theorem Kv{l:List Nat}{c:Nat}(h:c∈l):Txt.find (tx l) (tx [c])=((l.idxOf c:Nat):Int)/\(Builtin.Str.occurrences (tx l) (tx [c]) 0 (tx l).length 1).isEmpty=false:=by
 have h2:(!(Builtin.Str.occurrences (tx l) #[(List.toArray [c])] 0 (tx l).length 1).isEmpty)=true:=by rw[StrLaws.found_one];simpa using h
 refine#[?_,by simpa using h2];have at_iff:∀i,StrLaws.At (tx l) (tx [c]) (tx l).length i↔l[i]?=some c:=λi=>by
  have:=StrLaws.subAt_one (tx l) c i;simpa[StrLaws.At] using this
 rcases find_whole (tx l) (tx [c]) with⟨_,no⟩|⟨i,e,hi,lo⟩
 .obtain⟨j,hj,ej⟩:=Ed h
  exact absurd ((at_iff j).mpr (by rw[aa hj,ej])) (no j)
 .rw[e]
  have hi':=(at_iff i).mp hi;obtain⟨hlt,ei⟩:=ae.mp hi';have e1:l.idxOf c=i:=by
   have hk:=List.idxOf_lt_length_of_mem h;rcases Nat.lt_trichotomy (l.idxOf c) i with q|q|q
   .exact absurd ((at_iff _).mpr (by rw[aa hk,List.getElem_idxOf])) (lo _ q)
   .exact q
   .have:=List.not_of_lt_findIdx (p:=(·==c)) (xs:=l) (i:=i) q
    simp[ei] at this
  rw[e1]
noncomputable def Og:V->List V->Hp->VK->Prop:=λx xs H Q=>∃l c,x=.str (tx l)/\xs=[.str (tx [c])]/\c∈l/\Q (.int ((l.idxOf c:Nat):Int)) H
theorem Af(hA:X.A.handled=none):FJ X "str.index" Og:=by
 intro pZ s σ H x xs v us Q I rx rs h;obtain⟨l,c,rfl,rfl,hc,q⟩:=h;obtain⟨t,rfl⟩:=rx;obtain⟨u,rfl,t',rfl⟩:=vals1 rs;obtain⟨e,ne⟩:=Kv hc;refine index_or hA (λz w=>?_) λ_ _=>#[.int _,H,I.tok _,#[_,rfl],by rw[e];exact q]
 rw[ne] at w;cases w
end
noncomputable def uB(sep:List Nat):List (List Nat)->List Nat
 |[]=>[]
 |[x]=>x
 |x::r=>x++sep++uB sep r
theorem Kw(sep:List Nat):∀ts:List (List Nat),Txt.join (tx sep) (ts.map tx)=tx (uB sep ts):=by
 intro ts;show Builtin.Str.glued (tx sep) (ts.map tx)=_;rw[StrLaws.glued_eq_join]
 induction ts with
 |nil=>rfl
 |cons a r ih=>
  cases r with
  |nil=>rfl
  |cons b r=>
   show tx a++tx sep++Str.join (tx sep) ((b::r).map tx)=tx (a++sep++uB sep (b::r))
   rw[ih,yL,yL]
theorem uC:∀{ts:List (List Nat)}{us:List Value},Vals (ts.map λt=>V.str (tx t)) us->StrsAre us (ts.map tx)
 |[],_,.nil=>.nil
 |a::ts,_,.cons (b:=u) r h=>by
  obtain⟨t,e⟩:=(show ∃t,u=jx (tx a) t from r)
  subst e;exact .cons _ _ (uC h)
section
variable{X:Cx}
noncomputable def rJoin(K:Frag):V->List V->Hp->VK->Prop:=λx xs H Q=>∃sep ts p,x=.str (tx sep)/\xs=[.ref p]/\gH K H p (ts.map λt=>V.str (tx t))/\(ts.map cQ).sum+ts.length*sep.length<=1000000/\Q (.str (tx (uB sep ts))) H
theorem Dh:FJ X "str.join" (rJoin X.K):=by
 intro pZ s σ H x xs v us Q I rx rs h;obtain⟨sep,ts,p,rfl,rfl,hl,hz,q⟩:=h;obtain⟨t,rfl⟩:=rx;obtain⟨u,rfl,ru⟩:=vals1 rs;cases ru;obtain⟨its,r,pl,_⟩:=I.list hl;refine join_list pl.isList (ys:=ts.map tx) (by simpa using uC r) ?_ λt' k=>#[.str (tx (uB sep ts)),H,I.tok k,#[t',by rw[Kw]],q]
 have e:((ts.map tx).map (·.length)).sum=(ts.map cQ).sum:=by
  congr 1
  rw[bM]
  exact Ee λa _=>cX a
 rw[e,ar,cX]
 omega
theorem uD{f g:Nat->Option Nat}:∀{l:List Nat},(∀k∈l,f k=g k)->l.filterMap f=l.filterMap g
 |[],_=>rfl
 |a::l,h=>by
  rw[fk,fk,h a bf,uD λk hk=>h k (aV _ hk)]
theorem mv(l:List Nat):∀(n i:Nat),i+n<=l.length->(cy n).filterMap (λk=>l[i+k]?)=(l.drop i).take n
 |0,i,_=>by simp
 |n+1,i,h=>by
  rw[Bd,fk,qS]
  have hi:i<l.length:=∅
  have e:l[i+0]?=some l[i]:=by simp[hi]
  rw[e,eH hi,Ef]
  have:=mv l n (i+1) ∅;rw[<-this]
  show l[i]::_=l[i]::_
  congr 1
  refine uD λk _=>?_
  show l[i+(k+1)]?=l[i+1+k]?
  rw[show i+(k+1)=i+1+k by omega]
noncomputable def BZ(l:List Nat)(i j:Nat):List Nat:=(l.drop i).take (j-i)
theorem G6(l:List Nat)(lo hi:Option Int)(i j:Nat)(hlo:lo=none/\i=0\/∃a:Int,lo=some a/\0<=a/\i=min a.toNat l.length)(hhi:hi=none/\j=l.length\/∃b:Int,hi=some b/\0<=b/\j=min b.toNat l.length):
  Txt.slice (tx l) lo hi=tx (BZ l i j):=by
 have hi':i<=l.length:=by rcases hlo with⟨_,e⟩|⟨a,_,_,e⟩<;>omega
 have hj':j<=l.length:=by rcases hhi with⟨_,e⟩|⟨b,_,_,e⟩<;>omega
 have key:Builtin.Str.strSliceIndices lo hi 1 l.length=(cy (j-i)).map λk=>i+k:=by
  have e0:Builtin.Str.strSliceIndices lo hi 1 l.length=sliceRange (i:Int) (j:Int) 1:=by
   unfold Builtin.Str.strSliceIndices;rcases hlo with⟨rfl,rfl⟩|⟨a,rfl,h0,rfl⟩<;>rcases hhi with⟨rfl,rfl⟩|⟨b,rfl,h1,rfl⟩
   .rfl
   .simp only[show ¬b<0 by omega,if_false,show(1:Int)>0 by decide,if_true]
    congr 1
    omega
   .simp only[show ¬a<0 by omega,if_false,show(1:Int)>0 by decide,if_true]
    congr 1
    omega
   .simp only[show ¬a<0 by omega,show ¬b<0 by omega,if_false,show(1:Int)>0 by decide,if_true]
    congr 1<;>omega
  rw[e0]
  unfold sliceRange;simp only[show(1:Int)>0 by decide,if_true,Int.ediv_one];have e3:(if (i:Int)<(j:Int) then(j:Int)-i+1-1 else 0).toNat=j-i:=by split<;>omega
  rw[e3]
  refine Ee λk _=>?_
  omega
 have len:(tx l).length=l.length:=cX l;unfold Txt.slice;rw[len,key]
 have e4:((cy (j-i)).map λk=>i+k).length=j-i:=by simp
 rw[e4]
 by_cases hw:j-i=l.length
 .rw[if_pos (by simp[hw])]
  have:BZ l i j=l:=by
   unfold BZ;have:i=0:=∅
   subst this;rw[hw,kZ,b9]
  rw[this]
 .rw[if_neg (by simp[hw])]
  show tx _=tx _
  congr 1
  rw[qS]
  by_cases hij:i<=j
  .have:=mv l (j-i) i ∅
   unfold BZ;rw[<-this]
   refine uD λk _=>?_
   simp
  .have:j-i=0:=∅
   unfold BZ;rw[this]
   simp
noncomputable def Wi:V->Option Int->Option Int->Hp->VK->Prop:=λx lo hi H Q=>∃l i j,x=.str (tx l)/\l.length<=sizeLine/\(lo=none/\i=0\/∃a:Int,lo=some a/\0<=a/\i=min a.toNat l.length)/\(hi=none/\j=l.length\/∃b:Int,hi=some b/\0<=b/\j=min b.toNat l.length)/\Q (.str (tx (BZ l i j))) H
theorem Sd:RK X Wi:=by
 intro pZ s σ H x v vl vu lo hi sl Q I rx hs pl pu h;obtain⟨l,i,j,rfl,hz,h1,h2,q⟩:=h;obtain⟨t,rfl⟩:=rx;refine#["str",_,F.slot_str_getitem.lookup,typeIs_str _ _ _,?_];have fin:∀(a b:Option (Int×Tok)),vl=partValue a->vu=partValue b->lo=a.map (·.1)->hi=b.map (·.1)->wpAny (aR X.prog X.w) X.A (vN (.str (tx l) t) (.ref sl)) (EP X pZ σ Q) X.xe s:=λa b e1 e2 e3 e4=>by
  refine wpAny_getItem_str_slice (l:=a) (u:=b) (st:=none) (by rw[e1,e2] at hs;exact hs) rfl ?_;refine post_val_or_str #[aT (Txt.slice_le (tx l) _ _) (by rw[cX];exact hz),λt' k=>#[.str (tx (BZ l i j)),H,I.tok k,#[t',?_],q]];have:=G6 l lo hi i j h1 h2;rw[e3,e4] at this;rw[<-this]
  rfl
 cases pl with
 |none=>
  cases pu with
  |none=>exact fin none none rfl rfl rfl rfl
  |int b u=>exact fin none (some (b,u)) rfl rfl rfl rfl
 |int a u=>
  cases pu with
  |none=>exact fin (some (a,u)) none rfl rfl rfl rfl
  |int b u2=>exact fin (some (a,u)) (some (b,u2)) rfl rfl rfl rfl
theorem Oh(c:Nat)(n:Nat):Txt.mul (tx [c]) (n:Int)=tx (dq n c):=by
 unfold Txt.mul;by_cases h:(n:Int)<1
 .rw[if_pos h]
  have:n=0:=∅
  subst this
  rfl
 .rw[if_neg h]
  by_cases h1:n=1
  .subst h1
   rfl
  .rw[if_neg (by simp[FY];omega)]
   show Str.mk _=Str.mk _
   congr 1
   have all:∀(m:Nat)(acc:List Nat),List.foldl (λx1 x2=>x1++x2) acc.toArray (dq m ((List.toArray [c]):Array Nat))=(acc++dq m c).toArray:=by
    intro m;induction m with
    |zero=>intro acc;simp
    |succ m ih=>
     intro acc;rw[Eg,vE]
     have:acc.toArray ++ (List.toArray [c])=(acc++[c]).toArray:=by simp
     rw[this,ih,Eg]
     simp
   have:=all n [];simpa using this
noncomputable def Se:R2:=λx y H Q=>∃c n:Nat,x=.str (tx [c])/\y=.int (n:Int)/\n<=1000/\Q (.str (tx (dq n c))) H
theorem EJ:gw X (cA .Mult) Se:=by
 intro pZ s σ H x y v u Q I rx ry h;obtain⟨c,n,rfl,rfl,hn,q⟩:=h;obtain⟨t,rfl⟩:=rx;obtain⟨t',rfl⟩:=ry;refine SB.mul #[by simp;omega,λh1 h2=>?_,λh1 h2=>?_] λt' k=>#[.str _,H,I.tok k,#[t',by rw[Oh]],q]
 .rw[cX]
  have:(n:Int)<=1000:=∅
  have h3:(1:Int)<=(2^63-1)/(n:Int):=by
   rw[Int.le_ediv_iff_mul_le ∅]
   omega
  show ¬(1:Int)>_
  omega
 .rw[cX]
  show Builtin.Str.tooLong (1*n)=false
  unfold Builtin.Str.tooLong;simp
  rw[jc]
  omega
end
section
variable{prog:bC}{w:bZ}{A:cB}{E:Value->ak->Prop}{hh:Heap}{g:Array JF}{d:Drawn}{t:Nat}{os:OsState}{K:Frag}{x C:Addr}{ox:Obj}{od:Option Obj}{name:Str}
theorem G7{Q:Value->ak->Prop}{fill expr:Bool}{tk:Tok}(X:K.In hh)(I:gu hh x ox C od)(G:XGet K C)
  (h:wpAny (aR prog w) A.in1 («object.__getattribute__» #[[.ref x,.str name tk],[]])
    (λfin s'=>match fin with
     |.done (.ret v)=>wpAny (aR prog w) A (FE v) Q E s'
     |.done _=>False
     |.again c'=>c'.quiet=true/\nY (aR prog w) A c' (λr s'=>match r with|.ok (.ret v)=>wpAny (aR prog w) A (FE v) Q E s'|_=>False) s') (λ_ _=>False) #[hh,g,d,t,os]):
  wpAny (aR prog w) A (getAttrBy (.ref x) (.str name tk) fill expr) Q E #[hh,g,d,t,os]:=by
 have L0:=I.type (M:=aR prog w);have L1:=vQ (M:=aR prog w) X G.ga;have L2:=vQ (M:=aR prog w) X G.gh;have fb:=wC.ga.bind (.ref x);have hx0:(expr&&onTheHeap (qh "BaseException.__getattribute__"))=false:=by cases expr<;>rfl
 have hx2:(qh "BaseException.__getattribute__"==qh "object.__getattribute__")=false:=by decide +kernel
 unfold getAttrBy;refine gT (aj (L0.at (aj (L1.at ?_))));dsimp only;rw[hx2,wA,if_neg (by simp)]
 unfold getAttrByItsOwn hookBefore;rw[if_pos (by rfl)]
 refine aj (L2.at ?_);refine aj (wpAny_attempt (gT ?_));unfold callGetattribute;rw[hx0,if_neg (by simp)]
 unfold boundAndCalled;rw[fb]
 refine aj (aK ?_);refine pR (JJ wC.ga.plain F.entry_bexc_ga ?_);have hk:builtinKind "BaseException.__getattribute__"=some .slot:=by decide +kernel
 have hsplit:splitId "BaseException.__getattribute__"=some ("BaseException","__getattribute__"):=by decide +kernel
 have sub:Br (aR prog w) hh (isInstance (.ref x) (.type "BaseException")) true:=I.type.andThen (looks_mroIn X G.hb);refine @check_slot (aR prog w) _ _ #[hh,g,d,t,os] "BaseException.__getattribute__" "BaseException" "__getattribute__" (.ref x) [.str name tk] [] _ hk hsplit sub (F.args_bexc_ga (.ref x) (.str name tk)) ?_;refine bL h (λfin s' z=>?_) (λ_ _ z=>z.elim);cases fin with
 |done f=>cases f<;>first|exact z|exact z.elim
 |again c'=>
  refine#[z.1,mf z.2 λr s2 q=>?_];rcases r with e|f
  .exact q.elim
  .cases f<;>first|exact q|exact q.elim
theorem Kx{Q:Value->ak->Prop}{expr:Bool}{v:Value}{s:ak}(X:K.In s.heap)(I:gu s.heap x ox C od)(G:XGet K C)
  (hf:findObj K C od name=some (.value v)) (hh:handedIn v=true) (h:Q v {s with toks:=s.toks+1}):wpAny (aR prog w) A (FQ (.ref x) name expr) Q E s:=by
 obtain⟨hp,g,d,t,os⟩:=s;unfold FQ;refine aj (wpAny_mkText ?_);refine G7 X I G ?_;have L0:=I.type (M:=aR prog w);have L1:=looks_find (M:=aR prog w) X I hf;refine aj (aK (aj (aK (aj (L0.at (aj (L1.at ?_)))))));refine aK ?_;show wpAny _ _ (FE v) _ _ _;rw[handedOut_of hh];exact aK h
structure Oi(K:Frag)(C:Addr):Prop extends XGet K C where
 ha:iC K (.ref C) "__class__"=some (some (.builtin "object.__class__"))
 hn:specialIn K (.builtin "object.__class__") "__get__"=some (some (.builtin "getset_descriptor.__get__"))
 NV:takesIn K (.builtin "object.__class__")=some true
 hm:mroIn K C (.type "object")=some true
theorem Ky{Q:Option Value->ak->Prop}{s:ak}{oD:Obj}(X:K.In s.heap)(I:gu s.heap x ox C (some oD))(G:Oi K C)
  (h:Q (some (.ref C)) {s with toks:=s.toks+1}):wpAny (aR prog w) A (JN (.ref x) "__class__") Q E s:=by
 have hf:findObj K C (some oD) "__class__"=some (.bind (.builtin "getset_descriptor.__get__") (.builtin "object.__class__")):=findObj_data (by obtain⟨_,e,_⟩:=JL G.hd;rw[e];rfl) G.ha G.hn G.NV;obtain⟨hp,g,d,t,os⟩:=s;unfold JN getAttrBy?;refine aj (wpAny_mkText (aj (wpAny_attempt ?_)));refine G7 X I G.toXGet ?_;have L0:=I.type (M:=aR prog w);have L1:=looks_find (M:=aR prog w) X I hf;refine aj (aK (aj (aK (aj (L0.at (aj (L1.at ?_)))))));show wpAny _ _ (holding [.builtin "object.__class__"] (call (.builtin "getset_descriptor.__get__") [.builtin "object.__class__",.ref x,.ref C])>>=ret) _ _ _;refine aj (gT (pR (class_get (s:=#[hp,g,d,t+1,os]) (ox:=ox) (od:=some oD) X I G.hm ?_)));refine aK ?_;show wpAny _ _ (FE (.ref C)) _ _ _;rw[handedOut_of rfl]
 exact aK (aK h)
theorem Kz(h:hasDictIn K C=true):∃c0 d0 cd0 sl0,K.lookup C=some #[c0,d0,.cls cd0,sl0]:=by
 obtain⟨_,e,_⟩:=JL h;unfold clsIn at e;split at e
 .exact#[_,_,_,_,by assumption]
 .cases e
theorem Ag{oD:Obj}(G:Oi K C):KitX K (.ref x) (.ref C) (λh=>gu h x ox C (some oD)):=by
 obtain⟨c0,d0,cd0,sl0,lk⟩:=Kz G.hd;refine#[λ_ _ _ J=>J.type,λ_ _ KI _=>?_,λhp tp dd its n sl KI e=>?_,λKI J k=>Ky KI J G k]
 .intro A1 Q1 E1 s1 sub q
  unfold isType loadHead;exact aj (qW (sub _ _ (KI _ _ lk)) (aK q))
 .refine Bool.eq_false_iff.mpr λz=>?_
  cases Value.ref.inj (beq_iff_eq.mp z);exact nomatch (KI _ _ lk).symm.trans e
end
section
variable{X:Cx}{pZ:List (Addr×Obj)}{σ:St}{H:Hp}{s:ak}{a C d:Addr}{fs:List (Str×V)}{f:Str}{v:V}
theorem Di(I:Inv X pZ σ H s)(e:H a=some (.xc a (.ref C) (some d)))(hd:H d=some (.xf d fs)):∃vs sl oD,gu s.heap a #[.ref C,some d,.fields vs,sl] C (some oD)/\s.heap.get? d=some oD:=by
 obtain⟨⟨vs,sl,q⟩,_⟩:=I.dg a _ e;obtain⟨mA,⟨oD,es,ep,eo,c⟩,r⟩:=De I.dg hd;exact#[vs,sl,oD,#[q,rfl,rfl,eo],eo]
inductive Vg(K:Frag)(H:Hp):V->Value->Prop where
 |of{x:V}{t:Value}:rj K H x t->Vg K H x t
 |exc{a C d:Addr}{fs:List (Str×V)} (e:H a=some (.xc a (.ref C) (some d))) (hd:H d=some (.xf d fs)) (cl:Oi K C):Vg K H (.ref a) (.ref C)
noncomputable def XQ:V->Value->Prop
 |.ty n,u=>u=.type n
 |.ref C,u=>u=.ref C
 |_,_=>False
theorem G8:iP X (.builtin "isinstance") (λxs H Q=>∃x c t u b,xs=[x,c]/\Vg X.K H x t/\XQ c u/\rg X.K t u=some b/\Q (.bl b) H):=by
 intro pZ s σ H xs us Q I r h;obtain⟨x,c,t,u,b,rfl,ty,rc,e,q⟩:=h;obtain⟨ux,uc,rfl,rx,rc'⟩:=r.two;have eu:uc=u:=by
  cases c with
  |ref C=>exact Eq.trans (show uc=aS C from rc') (show u=aS C from rc).symm
  |ty n=>exact Eq.trans (show uc=vK n from rc') (show u=vK n from rc).symm
  |_=>exact aJ rc
 subst eu;have fin:∀tk,EP X pZ σ Q (.bool b) {s with toks:=tk}:=λtk=>#[.bl b,H,I.tok tk,rfl,q]
 cases ty with
 |of ty=>exact EB I rx ty e fin
 |@exc a C d fs ea hd cl=>
  cases (show ux=aS a from rx);obtain⟨vs,sl,oD,J,_⟩:=Di I ea hd;exact kia_one (Ag cl) I.kU J e (λz=>nomatch z) fin
theorem xk:∀{cs:List Addr}{us:List Value},Vals (cs.map V.ref) us->us=cs.map aS
 |[],_,.nil=>rfl
 |c::cs,_,.cons (b:=u) r h=>by
  cases (show u=aS c from r);rw[xk h]
  rfl
theorem EK:iP X (.builtin "isinstance") (λxs H Q=>∃(a C d:Addr)(fs:List (Str×V))(p:Addr)(cs:List Addr)(b:Bool),xs=[.ref a,.ref p]/\H a=some (.xc a (.ref C) (some d))/\H d=some (.xf d fs)/\Oi X.K C/\H p=some (.tup (cs.map V.ref))/\kitAny X.K (.ref C) (cs.map aS)=some b/\Q (.bl b) H):=by
 intro pZ s σ H xs us Q I r h;obtain⟨a,C,d,fs,p,cs,b,rfl,ea,hd,cl,hp,e,q⟩:=h;obtain⟨ux,uc,rfl,rx,rc⟩:=r.two;cases (show ux=aS a from rx);cases (show uc=aS p from rc);obtain⟨_,its,rv,⟨⟨oc,od,odt,osl⟩,ho,hc,n,hdt⟩⟩:=(show d6 X.prog X.w H s.heap p (.tup (cs.map V.ref)) from I.dg p _ hp)
 dsimp only at hc hdt;subst hc hdt;have eits:its=cs.map aS:=xk rv;subst eits;obtain⟨vs,sl,oD,J,_⟩:=Di I ea hd;exact kia_tup (Ag cl) I.kU J ho e (λz=>nomatch z) λtk=>#[.bl b,H,I.tok tk,rfl,q]
structure Oj(K:Frag)(P:FZ)(a:Addr)(kvs:List (Str×V)):Prop where
 ex:∃es n,K.lookup a=some #[.type "dict",none,.dict es n,#[]]/\Be P es.toList
 at_:∀k v,kvs.lookup k=some v->∃u,RelV v u/\nsIn K a k=some (some u)
 no:∀k,kvs.lookup k=none->nsIn K a k=some none
 ns:(a==dH)=false
noncomputable def Wj(K:Frag)(P:FZ):R2:=λx y H Q=>∃a kvs k v,x=.ref a/\y=.str k/\Oj K P a kvs/\kvs.lookup k=some v/\Q v H
theorem yM:QP X (Wj X.K X.w.params):=by
 intro value slice pZ s σ H x y v u Q I rx ry h hs;obtain⟨a,kvs,k,z,rfl,rfl,T,e,q⟩:=h;cases rx;obtain⟨t,rfl⟩:=ry;obtain⟨es,n,lk,kl⟩:=T.ex;obtain⟨w,rw',ew⟩:=T.at_ k z e;have hm:=mapOf_K (prog:=X.prog) (w:=X.w) I.kU lk kl;exact tail_any hm.typeIs slot_dict_getitem.lookup (wpAny_getItem_of (strKind_is X.prog X.w k t) hm (find_K lk ew) #[z,H,I.tok _,rw',q]) hs
end
inductive Dv where
 |bK|bl (b:Bool)|int (i:Int)|str (l:List Nat)|tup (ds:List Dv)|lst (ds:List Dv)
mutual
noncomputable def Dv.depth:Dv->Nat
 |.tup ds=>Dv.iD ds+1
 |.lst ds=>Dv.iD ds+1
 |_=>0
noncomputable def Dv.iD:List Dv->Nat
 |[]=>0
 |d::ds=>max d.depth (Dv.iD ds)
end
mutual
noncomputable def mM:Dv->Dv->Bool
 |.bK,.bK=>true
 |.bl a,.bl b=>a==b
 |.bl a,.int b=>(if a then 1 else 0)== b
 |.int a,.bl b=>a==(if b then 1 else 0)
 |.int a,.int b=>a==b
 |.str a,.str b=>a==b
 |.tup xs,.tup ys=>nO xs ys
 |.lst xs,.lst ys=>nO xs ys
 |_,_=>false
noncomputable def nO:List Dv->List Dv->Bool
 |[],[]=>true
 |x::xs,y::ys=>mM x y&&nO xs ys
 |_,_=>false
end
mutual
noncomputable def fJ(K:Frag)(H:Hp):V->Dv->Prop
 |v,.bK=>v=.bK
 |v,.bl b=>v=.bl b
 |v,.int i=>v=.int i
 |v,.str l=>v=.str (tx l)
 |v,.tup ds=>∃a vs,v=.ref a/\lU K H a vs/\hU K H vs ds
 |v,.lst ds=>∃a vs,v=.ref a/\gH K H a vs/\hU K H vs ds
noncomputable def hU(K:Frag)(H:Hp):List V->List Dv->Prop
 |[],[]=>True
 |v::vs,d::ds=>fJ K H v d/\hU K H vs ds
 |_,_=>False
end
theorem hU.len{K:Frag}{H:Hp}:∀{vs:List V}{ds:List Dv},hU K H vs ds->vs.length=ds.length
 |[],[],_=>rfl
 |_::vs,_::ds,h=>by
  unfold hU at h;rw[aQ,aQ,hU.len h.2]
 |[],_::_,h=>by unfold hU at h;exact h.elim
 |_::_,[],h=>by unfold hU at h;exact h.elim
theorem hU.get{K:Frag}{H:Hp}:∀{vs:List V}{ds:List Dv}{i:Nat}{v:V}{d:Dv},hU K H vs ds->vs[i]?=some v->ds[i]?=some d->fJ K H v d
 |v::vs,d::ds,0,_,_,h,e1,e2=>by
  unfold hU at h;simp at e1 e2;subst e1 e2;exact h.1
 |v::vs,d::ds,i+1,_,_,h,e1,e2=>by
  unfold hU at h;exact hU.get (i:=i) h.2 (by simpa using e1) (by simpa using e2)
 |[],_,_,_,_,_,e1,_=>by simp at e1
 |_,[],_,_,_,_,_,e2=>by simp at e2
mutual
theorem uE:∀d:Dv,mM d d=true
 |.bK=>by unfold mM;rfl
 |.bl b=>by unfold mM;simp
 |.int i=>by unfold mM;simp
 |.str l=>by unfold mM;simp
 |.tup ds=>by unfold mM;exact rD ds
 |.lst ds=>by unfold mM;exact rD ds
theorem rD:∀ds:List Dv,nO ds ds=true
 |[]=>by unfold nO;rfl
 |d::ds=>by unfold nO;rw[uE d,rD ds];rfl
end
theorem mV:∀(xs ys:List Dv)(e:Nat->Bool),(∀i x y,xs[i]?=some x->ys[i]?=some y->e i=mM x y)->((cy (min xs.length ys.length)).all e&&xs.length==ys.length)=nO xs ys
 |[],[],e,_=>by unfold nO;simp
 |[],y::ys,e,_=>by unfold nO;simp
 |x::xs,[],e,_=>by unfold nO;simp
 |x::xs,y::ys,e,h=>by
  have ih:=mV xs ys (λi=>e (i+1)) λi a b h1 h2=>h (i+1) a b (by simpa using h1) (by simpa using h2)
  unfold nO;rw[<-ih,<-h 0 x y rfl rfl]
  rw[aQ,aQ,Nat.succ_min_succ,Bd,bj,sf]
  have:(xs.length+1==ys.length+1)=(xs.length==ys.length):=by simp
  rw[this,Bool.and_assoc]
  rfl
section
variable{X:Cx}{pZ:List (Addr×Obj)}{σ:St}{H:Hp}{s:ak}
mutual
theorem fJ.inj(I:Inv X pZ σ H s):∀{d d':Dv}{v:V},fJ X.K H v d->fJ X.K H v d'->d=d'
 |.bK,d',v,h,h'=>by
  unfold fJ at h;subst h;cases d'<;>unfold fJ at h'<;>first|rfl| (cases h';done)| (obtain⟨_,_,z,_⟩:=h';cases z)
 |.bl b,d',v,h,h'=>by
  unfold fJ at h;subst h;cases d'<;>unfold fJ at h'<;>first| (cases h';rfl)| (cases h';done)| (obtain⟨_,_,z,_⟩:=h';cases z)
 |.int b,d',v,h,h'=>by
  unfold fJ at h;subst h;cases d'<;>unfold fJ at h'<;>first| (cases h';rfl)| (cases h';done)| (obtain⟨_,_,z,_⟩:=h';cases z)
 |.str l,d',v,h,h'=>by
  unfold fJ at h;subst h;cases d'<;>unfold fJ at h'<;>first| (rw[Dg.mp h'])| (cases h';done)| (obtain⟨_,_,z,_⟩:=h';cases z)
 |.tup ds,d',v,h,h'=>by
  unfold fJ at h;obtain⟨a,vs,rfl,hq,hd⟩:=h;cases d' with
  |tup ds'=>
   unfold fJ at h';obtain⟨a',vs',e,hq',hd'⟩:=h';cases e;rw[I.wK hq' hq] at hd';rw[hU.inj I hd hd']
  |lst ds'=>
   unfold fJ at h';obtain⟨a',vs',e,hq',hd'⟩:=h';cases e;exfalso;obtain⟨its,_,⟨o,e1,c1,_⟩,_⟩:=I.tuple hq;obtain⟨its',_,⟨o',n',e2,c2,_,_⟩,_⟩:=I.list hq';rw[e1] at e2;cases e2;rw[c1] at c2;injection c2 with c2
   exact absurd c2 ⋯
  |_=>unfold fJ at h';cases h'
 |.lst ds,d',v,h,h'=>by
  unfold fJ at h;obtain⟨a,vs,rfl,hq,hd⟩:=h;cases d' with
  |lst ds'=>
   unfold fJ at h';obtain⟨a',vs',e,hq',hd'⟩:=h';cases e;rw[I.ug hq' hq] at hd';rw[hU.inj I hd hd']
  |tup ds'=>
   unfold fJ at h';obtain⟨a',vs',e,hq',hd'⟩:=h';cases e;exfalso;obtain⟨its,_,⟨o,e1,c1,_⟩,_⟩:=I.tuple hq';obtain⟨its',_,⟨o',n',e2,c2,_,_⟩,_⟩:=I.list hq;rw[e1] at e2;cases e2;rw[c1] at c2;injection c2 with c2
   exact absurd c2 ⋯
  |_=>unfold fJ at h';cases h'
theorem hU.inj(I:Inv X pZ σ H s):∀{ds ds':List Dv}{vs:List V},hU X.K H vs ds->hU X.K H vs ds'->ds=ds'
 |[],[],_,_,_=>rfl
 |[],_::_,[],_,h'=>by unfold hU at h';exact h'.elim
 |[],_::_,_::_,h,_=>by unfold hU at h;exact h.elim
 |_::_,[],[],h,_=>by unfold hU at h;exact h.elim
 |_::_,[],_::_,_,h'=>by unfold hU at h';exact h'.elim
 |d::ds,d'::ds',[],h,_=>by unfold hU at h;exact h.elim
 |d::ds,d'::ds',v::vs,h,h'=>by
  unfold hU at h h';rw[fJ.inj I h.1 h'.1,hU.inj I h.2 h'.2]
end
theorem mw:∀{ds:List Dv}{i:Nat}{d:Dv},ds[i]?=some d->d.depth<=Dv.iD ds
 |d::ds,0,_,h=>by
  simp at h;subst h;unfold Dv.iD;exact Nat.le_max_left _ _
 |d::ds,i+1,_,h=>by
  have:=mw (ds:=ds) (i:=i) (by simpa using h);unfold Dv.iD;exact aT this (Nat.le_max_right _ _)
 |[],_,_,h=>by simp at h
theorem B0(I:Inv X pZ σ H s):∀(n:Nat){A:cB}{d d':Dv}{x y:V}{u v:Value},d.depth<=n->A.units+n<kg->fJ X.K H x d->fJ X.K H y d'->RelV x u->RelV y v->vO A s u v (mM d d'):=by
 intro n;induction n with
 |zero=>
  intro A d d' x y u v hn hu hx hy rx ry;cases d with
  |tup ds=>unfold Dv.depth at hn;omega
  |lst ds=>unfold Dv.depth at hn;omega
  |bK=>
   unfold fJ at hx;subst hx;cases rx;cases d'<;>unfold fJ at hy
   .subst hy;cases ry;exact me _
   .subst hy;cases ry;exact wx _
   .subst hy;obtain⟨t,rfl⟩:=ry;exact yh _ _
   .subst hy;obtain⟨t,rfl⟩:=ry;exact yi _ _
   .obtain⟨a,vs,rfl,hq,_⟩:=hy;cases ry;obtain⟨its,_,p,_⟩:=I.tuple hq;exact SeqAt.EqAt.none_tuple p ∅
   .obtain⟨a,vs,rfl,hq,_⟩:=hy;cases ry;obtain⟨its,_,p,_⟩:=I.list hq;exact SeqAt.EqAt.none_list p.isList ∅
  |bl b=>
   unfold fJ at hx;subst hx;cases rx;cases d'<;>unfold fJ at hy
   .subst hy;cases ry;exact wy _
   .subst hy;cases ry;exact wz _ _
   .subst hy;obtain⟨t,rfl⟩:=ry;exact yj _ _ _
   .subst hy;obtain⟨t,rfl⟩:=ry;exact yk _ _ _
   .obtain⟨a,vs,rfl,hq,_⟩:=hy;cases ry;obtain⟨its,_,p,_⟩:=I.tuple hq;exact SeqAt.EqAt.bool_tuple _ p ∅
   .obtain⟨a,vs,rfl,hq,_⟩:=hy;cases ry;obtain⟨its,_,p,_⟩:=I.list hq;exact SeqAt.EqAt.bool_list _ p.isList ∅
  |int i=>
   unfold fJ at hx;subst hx;obtain⟨t0,rfl⟩:=rx;cases d'<;>unfold fJ at hy
   .subst hy;cases ry;exact ym _ _
   .subst hy;cases ry;exact yn _ _ _
   .subst hy;obtain⟨t,rfl⟩:=ry;exact zH _ _ _ _
   .subst hy;obtain⟨t,rfl⟩:=ry;exact oI _ _ _ _
   .obtain⟨a,vs,rfl,hq,_⟩:=hy;cases ry;obtain⟨its,_,p,_⟩:=I.tuple hq;exact SeqAt.EqAt.int_tuple _ _ p ∅
   .obtain⟨a,vs,rfl,hq,_⟩:=hy;cases ry;obtain⟨its,_,p,_⟩:=I.list hq;exact SeqAt.EqAt.int_list _ _ p.isList ∅
  |str l=>
   unfold fJ at hx;subst hx;obtain⟨t0,rfl⟩:=rx;cases d' with
   |bK=>unfold fJ at hy;subst hy;cases ry;exact yo _ _
   |bl b=>unfold fJ at hy;subst hy;cases ry;exact yp _ _ _
   |int i=>unfold fJ at hy;subst hy;obtain⟨t,rfl⟩:=ry;exact oJ _ _ _ _
   |str l'=>
    unfold fJ at hy;subst hy;obtain⟨t,rfl⟩:=ry;have e:(tx l==tx l')=mM (.str l) (.str l'):=by
     unfold mM;rw[cY,beq_iff_eq,beq_iff_eq]
     exact MI
    rw[<-e]
    exact zI _ _ _ _
   |tup ds=>unfold fJ at hy;obtain⟨a,vs,rfl,hq,_⟩:=hy;cases ry;obtain⟨its,_,p,_⟩:=I.tuple hq;exact SeqAt.EqAt.str_tuple _ _ p ∅
   |lst ds=>unfold fJ at hy;obtain⟨a,vs,rfl,hq,_⟩:=hy;cases ry;obtain⟨its,_,p,_⟩:=I.list hq;exact SeqAt.EqAt.str_list _ _ p.isList ∅
 |succ n ih=>
  intro A d d' x y u v hn hu hx hy rx ry;have items:∀{vs vs':List V}{ds ds':List Dv}{its its':List Value},Dv.iD ds<=n->hU X.K H vs ds->hU X.K H vs' ds'->Vals vs its->Vals vs' its' ->
    ∃e:Nat->Bool,(∀j(h1:j<its.toArray.size)(h2:j<its'.toArray.size),vO A.in1 s its.toArray[j] its'.toArray[j] (e j))/\((cy (min its.toArray.size its'.toArray.size)).all e&&its.toArray.size==its'.toArray.size)=nO ds ds':=by
   intro vs vs' ds ds' its its' hd h1 h2 r1 r2;have l1:=h1.len;have l2:=h2.len;have m1:=r1.length;have m2:=r2.length;refine#[λj=>match ds[j]?,ds'[j]? with|some a,some b=>mM a b|_,_=>true,λj k1 k2=>?_,?_]
   .rw[aC] at k1 k2
    have j1:j<ds.length:=∅
    have j2:j<ds'.length:=∅
    have i1:j<vs.length:=∅
    have i2:j<vs'.length:=∅
    have e1:ds[j]?=some ds[j]:=aa j1;have e2:ds'[j]?=some ds'[j]:=aa j2;have f1:vs[j]?=some vs[j]:=aa i1;have f2:vs'[j]?=some vs'[j]:=aa i2;obtain⟨w1,g1,q1⟩:=r1.get f1;obtain⟨w2,g2,q2⟩:=r2.get f2;have a1:its.toArray[j]=w1:=by
     obtain⟨_,z⟩:=ae.mp g1;simpa using z
    have a2:its'.toArray[j]=w2:=by
     obtain⟨_,z⟩:=ae.mp g2;simpa using z
    rw[a1,a2]
    dsimp only;rw[e1,e2]
    exact ih (aT (mw e1) hd) (by show A.units+1+n<kg;omega) (h1.get f1 e1) (h2.get f2 e2) q1 q2
   .rw[aC,aC,<-m1,<-m2,l1,l2]
    refine mV ds ds' _ λi a b h1 h2=>?_
    rw[h1,h2]
  by_cases hz:d.depth<=n
  .exact ih hz ∅ hx hy rx ry
  .cases d with
   |bK=>unfold Dv.depth at hz;omega
   |bl b=>unfold Dv.depth at hz;omega
   |int b=>unfold Dv.depth at hz;omega
   |str b=>unfold Dv.depth at hz;omega
   |tup ds=>
    have hx0:=hx;unfold fJ at hx;obtain⟨a,vs,rfl,hq,hd⟩:=hx;cases rx;obtain⟨its,r1,p,_⟩:=I.tuple hq;unfold Dv.depth at hn;cases d' with
    |bK=>unfold fJ at hy;subst hy;cases ry;exact SeqAt.EqAt.tuple_none p ∅
    |bl b=>unfold fJ at hy;subst hy;cases ry;exact SeqAt.EqAt.tuple_bool _ p ∅
    |int i=>unfold fJ at hy;subst hy;obtain⟨t,rfl⟩:=ry;exact SeqAt.EqAt.tuple_int _ _ p ∅
    |str l'=>unfold fJ at hy;subst hy;obtain⟨t,rfl⟩:=ry;exact SeqAt.EqAt.tuple_str _ _ p ∅
    |lst ds'=>unfold fJ at hy;obtain⟨a',vs',rfl,hq',_⟩:=hy;cases ry;obtain⟨its',_,p',_⟩:=I.list hq';exact SeqAt.EqAt.tuple_list p p'.isList ∅
    |tup ds'=>
     have hy0:=hy;unfold fJ at hy;obtain⟨a',vs',rfl,hq',hd'⟩:=hy;cases ry;obtain⟨its',r2,p',_⟩:=I.tuple hq';by_cases e:a=a'
     .subst e
      rw[fJ.inj I hx0 hy0,uE]
      exact me _
     .obtain⟨f,hf,ef⟩:=items ∅ hd hd' r1 r2
      unfold mM;rw[<-ef]
      exact zJ e (zS p p' ∅ hf)
   |lst ds=>
    have hx0:=hx;unfold fJ at hx;obtain⟨a,vs,rfl,hq,hd⟩:=hx;cases rx;obtain⟨its,r1,p,_⟩:=I.list hq;unfold Dv.depth at hn;cases d' with
    |bK=>unfold fJ at hy;subst hy;cases ry;exact SeqAt.EqAt.list_none p.isList ∅
    |bl b=>unfold fJ at hy;subst hy;cases ry;exact SeqAt.EqAt.list_bool _ p.isList ∅
    |int i=>unfold fJ at hy;subst hy;obtain⟨t,rfl⟩:=ry;exact SeqAt.EqAt.list_int _ _ p.isList ∅
    |str l'=>unfold fJ at hy;subst hy;obtain⟨t,rfl⟩:=ry;exact SeqAt.EqAt.list_str _ _ p.isList ∅
    |tup ds'=>unfold fJ at hy;obtain⟨a',vs',rfl,hq',_⟩:=hy;cases ry;obtain⟨its',_,p',_⟩:=I.tuple hq';exact SeqAt.EqAt.list_tuple p.isList p' ∅
    |lst ds'=>
     have hy0:=hy;unfold fJ at hy;obtain⟨a',vs',rfl,hq',hd'⟩:=hy;cases ry;obtain⟨its',r2,p',_⟩:=I.list hq';by_cases e:a=a'
     .subst e
      rw[fJ.inj I hx0 hy0,uE]
      exact me _
     .obtain⟨f,hf,ef⟩:=items ∅ hd hd' r1 r2
      unfold mM;rw[<-ef]
      refine zJ e ?_;by_cases el:its.toArray.size=its'.toArray.size
      .have:((cy (min its.toArray.size its'.toArray.size)).all f&&its.toArray.size==its'.toArray.size)=(cy its.toArray.size).all f:=by
        rw[el,Bs]
        simp
       rw[this]
       exact Bf p.isList p'.isList el ∅ hf
      .have:((cy (min its.toArray.size its'.toArray.size)).all f&&its.toArray.size==its'.toArray.size)=false:=by
        have:(its.toArray.size==its'.toArray.size)=false:=by simpa using el
        rw[this,wA]
       rw[this]
       exact tw p.isList p'.isList (by simpa using el) ∅
noncomputable def Wk(K:Frag):R2:=λx y H Q=>∃ds d',fJ K H x (.tup ds)/\fJ K H y d'/\Dv.iD ds<=100/\Q (.bl (mM (.tup ds) d')) H
theorem G9(hu:X.A.units+200<kg):gw X (bD .Eq) (Wk X.K):=by
 intro pZ s σ H x y u v Q I rx ry h;obtain⟨ds,d',hx,hy,hz,q⟩:=h;have fin:∀b,b=mM (.tup ds) d'->EP X pZ σ Q (.bool b) s:=λb e=>by rw[e];exact#[.bl _,H,I,rfl,q]
 have hx0:=hx;unfold fJ at hx;obtain⟨a,vs,rfl,hq,hd⟩:=hx;cases rx;obtain⟨its,r1,p,_⟩:=I.tuple hq;cases d' with
 |bK=>unfold fJ at hy;subst hy;cases ry;exact SeqAt.RcAt.tuple_none p ∅ _ _ _ _ (fin _ (by unfold mM;rfl))
 |bl b=>unfold fJ at hy;subst hy;cases ry;exact SeqAt.RcAt.tuple_bool _ p ∅ _ _ _ _ (fin _ (by unfold mM;rfl))
 |int i=>unfold fJ at hy;subst hy;obtain⟨t,rfl⟩:=ry;exact SeqAt.RcAt.tuple_int _ _ p ∅ _ _ _ _ (fin _ (by unfold mM;rfl))
 |str l'=>unfold fJ at hy;subst hy;obtain⟨t,rfl⟩:=ry;exact SeqAt.RcAt.tuple_str _ _ p ∅ _ _ _ _ (fin _ (by unfold mM;rfl))
 |lst ds'=>unfold fJ at hy;obtain⟨a',vs',rfl,hq',_⟩:=hy;cases ry;obtain⟨its',_,p',_⟩:=I.list hq';exact SeqAt.RcAt.tuple_list p p'.isList ∅ _ _ _ _ (fin _ (by unfold mM;rfl))
 |tup ds'=>
  unfold fJ at hy;obtain⟨a',vs',rfl,hq',hd'⟩:=hy;cases ry;obtain⟨its',r2,p',_⟩:=I.tuple hq';have l1:=hd.len;have l2:=hd'.len;have m1:=r1.length;have m2:=r2.length;refine zS (e:=λj=>match ds[j]?,ds'[j]? with|some a,some b=>mM a b|_,_=>true) p p' ∅ (λj k1 k2=>?_) _ _ _ _ (fin _ ?_)
  .rw[aC] at k1 k2
   have e1:ds[j]?=some (ds[j]'∅):=aa _;have e2:ds'[j]?=some (ds'[j]'∅):=aa _;have f1:vs[j]?=some (vs[j]'∅):=aa _;have f2:vs'[j]?=some (vs'[j]'∅):=aa _;obtain⟨w1,g1,q1⟩:=r1.get f1;obtain⟨w2,g2,q2⟩:=r2.get f2;have a1:its.toArray[j]=w1:=by
    obtain⟨_,z⟩:=ae.mp g1;simpa using z
   have a2:its'.toArray[j]=w2:=by
    obtain⟨_,z⟩:=ae.mp g2;simpa using z
   rw[a1,a2,e1,e2]
   exact B0 I 100 (aT (mw e1) hz) (by show X.A.units+1+100<kg;omega) (hd.get f1 e1) (hd'.get f2 e2) q1 q2
  .rw[aC,aC,<-m1,<-m2,l1,l2]
   rw[show mM (.tup ds) (.tup ds')=nO ds ds' from by unfold mM;rfl]
   refine mV ds ds' _ λi a b h1 h2=>?_
   rw[h1,h2]
end
end L2
namespace PL
theorem _root_.L2.ff{P:Prop}(h:false=true):P:=by cases h
theorem _root_.L2.nn{α:Type}{x:α}{P:Prop}(h:(none:Option α)=some x):P:=by cases h
inductive U where
 |bK|bl (b:Bool)|int (i:Int)|str (l:List Nat)|tup (us:List U)|loc (n:Nat)
 |pF (ns:List Int)|tab (kvs:List (List Nat×List Nat))|exc (c:String) (us:List U)
instance:Inhabited U:=#[.bK]
inductive SO where
 |lst (us:List U)|vJ (kvs:List (U×U))|ins (c:String) (fs:List (String×U))
structure Xn where
 c:String
 us:List U
abbrev Env:=List (Option U)
abbrev bJ:=List SO
abbrev KU:=U->bJ->Prop
abbrev KX:=Xn->bJ->Prop
abbrev Spec:=List U->bJ->KU->KX->Prop
abbrev bY:=String->Spec
inductive FK where|add|sub|mul|fdiv|mod|band|bor|shl|shr
inductive Ol where|eq|ne|lt|le|gt|ge|isin|nF|KA|Ah
inductive Sf where|len|tuple|list|sum|all|any|int|dict|uG
inductive Om where|join|index|startswith|append|extend|get|mW
inductive Ty where|int|bool|str|list|tuple|dict|KC|own (c:String)
mutual
inductive Ex where
 |var (i:Nat)|lit (u:U)
 |bin (o:FK) (a b:Ex)|neg (a:Ex)|not (a:Ex)|and (a b:Ex)|or (a b:Ex)
 |cmp (o:Ol) (a b:Ex)|xm (c:Tx) (a b:Ex)
 |call (f:String) (as:yN)|mk (c q:String) (as:yN)|cu (c m q:String) (o:Ex) (as:yN)
 |blt (f:Sf) (as:yN)|kW (m:Om) (o:Ex) (as:yN)
 |fld (o:Ex) (f:String)|ix (o i:Ex)|sl (o:Ex) (lo hi:Ox)
 |tup (as:yN)|lst (as:yN)|vJ (ks vs:yN)
 |comp (pr:Bool) (e:Ex) (it:It) (c:Tx) (ci:List Nat)
 |Jw (a:Ex) (ts:List Ty)
inductive yN where|nil|cons (e:Ex) (es:yN)
inductive It where|val (e:Ex)|range (e:Ex)|enum (e:Ex)|rev (e:Ex)
inductive Ox where|no|e (a:Ex)
inductive Tx where|cg (e:Ex)|not (t:Tx)|and (a b:Tx)|or (a b:Tx)
end
inductive Tg where|name (i:Nat)|pair (i j:Nat)
mutual
inductive Sm where
 |set (i:Nat) (e:Ex)|iQ (o:Ex) (f:String) (e:Ex)|Wl (o i e:Ex)
 |aug (i:Nat) (p:FK) (e:Ex)|vW (o:Ex) (f:String) (p:FK) (e:Ex)|EL (o i:Ex) (p:FK) (e:Ex)
 |ex (e:Ex)|ret (e:Ex)|ifs (c:Tx) (a b:dj)|Ai (c:Tx) (b:dj)|i9 (t:Tg) (it:It) (b:dj)
 |raise (c:String) (as:yN)|Oo (b:dj) (c:String) (i:Nat) (h:dj)
inductive dj where|nil|cons (s:Sm) (ss:dj)
end
section
variable{α:Type}
noncomputable def opt(o:Option α)(Q:α->Prop):Prop:=match o with|some a=>Q a|none=>False
noncomputable def yO(o:Option (Option U))(Q:U->Prop):Prop:=match o with|some (some u)=>Q u|_=>False
noncomputable def getL(o:Option SO)(Q:List U->Prop):Prop:=match o with|some (.lst us)=>Q us|_=>False
noncomputable def getD(o:Option SO)(Q:List (U×U)->Prop):Prop:=match o with|some (.vJ kvs)=>Q kvs|_=>False
noncomputable def mz(o:Option SO)(Q:String->List (String×U)->Prop):Prop:=match o with|some (.ins c fs)=>Q c fs|_=>False
noncomputable def MJ(x:U)(Q:Bool->Prop):Prop:=match x with|.bl b=>Q b|_=>False
noncomputable def k7(x:U)(Q:Int->Prop):Prop:=match x with|.int i=>Q i|_=>False
noncomputable def zK(x:U)(Q:Nat->Prop):Prop:=match x with|.loc n=>Q n|_=>False
noncomputable def MK(x:U)(Q:U->U->Prop):Prop:=match x with|.tup [a,b]=>Q a b|_=>False
@[simp] theorem aP{a:α}{Q:α->Prop}:opt (some a) Q=Q a:=rfl
@[simp] theorem Sg:opt none Q=False:=rfl
@[simp] theorem oQ:yO (some (some u)) Q=Q u:=rfl
@[simp] theorem aH{us:List U}{Q:List U->Prop}:getL (some (.lst us)) Q=Q us:=rfl
@[simp] theorem getD_some:getD (some (.vJ us)) Q=Q us:=rfl
@[simp] theorem aZ:mz (some (.ins c fs)) Q=Q c fs:=rfl
@[simp] theorem Ha:MJ (.bl b) Q=Q b:=rfl
@[simp] theorem KD:k7 (.int i) Q=Q i:=rfl
@[simp] theorem Dj:zK (.loc n) Q=Q n:=rfl
@[simp] theorem Vh:MK (.tup [a,b]) Q=Q a b:=rfl
theorem gI:opt o Q↔∃a,o=some a/\Q a:=by cases o<;>simp[opt]
theorem Aj:yO o Q↔∃a,o=some (some a)/\Q a:=by
 rcases o with _|_|a<;>simp[yO]
theorem cF:getL o Q↔∃a,o=some (.lst a)/\Q a:=
 #[λw=>by rcases o with _|a|a|a<;>first|exact#[_,rfl,w]|exact aJ w,by rintro⟨b,rfl,w⟩;exact w]
theorem Ak:getD o Q↔∃a,o=some (.vJ a)/\Q a:=
 #[λw=>by rcases o with _|a|a|a<;>first|exact#[_,rfl,w]|exact aJ w,by rintro⟨b,rfl,w⟩;exact w]
theorem mB{o:Option SO}{Q:String->List (String×U)->Prop}:mz o Q↔∃c fs,o=some (.ins c fs)/\Q c fs:=
 #[λw=>by rcases o with _|a|a|a<;>first|exact#[_,_,rfl,w]|exact aJ w,by rintro⟨b,c,rfl,w⟩;exact w]
theorem yP:MJ x Q↔∃b,x=.bl b/\Q b:=#[λw=>by cases x<;>first|exact#[_,rfl,w]|exact aJ w,by rintro⟨b,rfl,w⟩;exact w]
theorem eR:k7 x Q↔∃b,x=.int b/\Q b:=#[λw=>by cases x<;>first|exact#[_,rfl,w]|exact aJ w,by rintro⟨b,rfl,w⟩;exact w]
theorem k8:zK x Q↔∃b,x=.loc b/\Q b:=#[λw=>by cases x<;>first|exact#[_,rfl,w]|exact aJ w,by rintro⟨b,rfl,w⟩;exact w]
theorem Dk:MK x Q↔∃a b,x=.tup [a,b]/\Q a b:=by
 refine#[λw=>?_,by rintro⟨a,b,rfl,w⟩;exact w];cases x<;>first|exact aJ w|skip
 rename_i us;rcases us with _|⟨a,_|⟨b,_|_⟩⟩<;>first|exact aJ w|exact#[_,_,rfl,w]
end
noncomputable def cL:String->List String
 |"BadRule"=>["rule","at"]
 |"TakesNothing"=>["rule"]
 |"TooMany"=>["rule"]
 |"NoToken"=>["at"]
 |_=>[]
noncomputable def mC:String->List String
 |"TokenError"=>["TokenError"]
 |"BadRule"=>["BadRule","TokenError"]
 |"TakesNothing"=>["TakesNothing","TokenError"]
 |"TooMany"=>["TooMany","TokenError"]
 |"NoToken"=>["NoToken","TokenError"]
 |_=>[]
mutual
noncomputable def vX:U->Bool
 |.bK=>true|.bl _=>true|.int _=>true|.str _=>true
 |.tup us=>jJ us
 |_=>false
noncomputable def jJ:List U->Bool
 |[]=>true
 |u::us=>vX u&&jJ us
end
mutual
noncomputable def dep:U->Nat
 |.tup us=>jK us+1
 |_=>0
noncomputable def jK:List U->Nat
 |[]=>0
 |u::us=>max (dep u) (jK us)
end
mutual
noncomputable def oR:U->U->Bool
 |.bK,.bK=>true
 |.bl a,.bl b=>a==b
 |.bl a,.int b=>(if a then 1 else 0)== b
 |.int a,.bl b=>a==(if b then 1 else 0)
 |.int a,.int b=>a==b
 |.str a,.str b=>a==b
 |.tup as,.tup bs=>qy as bs
 |_,_=>false
noncomputable def qy:List U->List U->Bool
 |[],[]=>true
 |x::xs,y::ys=>oR x y&&qy xs ys
 |_,_=>false
end
noncomputable def Hb:U->U->Bool
 |.tup _,_=>true
 |.bK,.bK=>true|.bK,.int _=>true|.bK,.bl _=>true|.bK,.str _=>true
 |.int _,.bK=>true|.int _,.int _=>true|.int _,.str _=>true
 |.bl _,.bK=>true|.bl _,.bl _=>true|.bl _,.str _=>true
 |.str _,.bK=>true|.str _,.int _=>true|.str _,.bl _=>true|.str _,.str _=>true
 |_,_=>false
noncomputable def tI(x y:U)(Q:Bool->Prop):Prop:=(Hb x y=true/\vX x=true/\vX y=true/\dep x<=100)/\Q (oR x y)
noncomputable def Hc:U->Bool
 |.tup _=>false
 |_=>true
noncomputable def Al:U->U->Bool
 |.tup _,.tup _=>true
 |.tup _,_=>false
 |_,_=>true
noncomputable def flat:U->Bool
 |.bK=>true|.bl _=>true|.int _=>true|.str _=>true
 |_=>false
noncomputable def qz(x:U)(us:List U)(Q:Bool->Prop):Prop:=(flat x=true/\us.all flat=true)/\Q (us.any λy=>oR y x)
noncomputable def iE:List Nat->List Nat->Bool
 |a,[]=>a.isEmpty
 |a,b::bs=>a.isPrefixOf (b::bs)||iE a bs
noncomputable def p9(S:bJ):U->Option Nat
 |.str l=>some l.length
 |.tup us=>some us.length
 |.pF ns=>some ns.length
 |.loc n=>match S[n]? with
  |some (.lst us)=>some us.length
  |some (.vJ kvs)=>some kvs.length
  |_=>none
 |_=>none
noncomputable def rE(S:bJ):U->Option Bool
 |.bK=>some false
 |.bl b=>some b
 |.int i=>some (i !=0)
 |.str _=>none
 |u=>(p9 S u).map λn=>n !=0
noncomputable def Oq(n:Nat)(i:Int):Option Nat:=if 0<=i then(if i<n then some i.toNat else none) else if -(n:Int)<=i then some (i+n).toNat else none
noncomputable def tJ{α:Type}(xs:List α)(i:Int):Option α:=(Oq xs.length i).bind λj=>xs[j]?
noncomputable def lV{α:Type}(xs:List α)(lo hi:Option Int):List α:=(xs.drop (min (lo.getD 0).toNat xs.length)).take (min (hi.getD xs.length).toNat xs.length-min (lo.getD 0).toNat xs.length)
noncomputable def ML(x:U)(Q:List Nat->Prop):Prop:=match x with|.str a=>Q a|_=>False
noncomputable def Vi(x:U)(Q:Prop):Prop:=match x with|.bK=>Q|_=>False
noncomputable def XR(x:U)(Q:List U->Prop):Prop:=match x with|.tup a=>Q a|_=>False
theorem oS:ML x Q↔∃b,x=.str b/\Q b:=#[λw=>by cases x<;>first|exact#[_,rfl,w]|exact aJ w,by rintro⟨b,rfl,w⟩;exact w]
theorem KG:XR x Q↔∃b,x=.tup b/\Q b:=#[λw=>by cases x<;>first|exact#[_,rfl,w]|exact aJ w,by rintro⟨b,rfl,w⟩;exact w]
theorem kq{x y:U}{P:Int->Int->Prop}(w:k7 x λi=>k7 y (P i)):∃i j,x=.int i/\y=.int j/\P i j:=by
 obtain⟨i,e,w⟩:=eR.mp w;obtain⟨j,e',w⟩:=eR.mp w;exact#[i,j,e,e',w]
noncomputable def jL(o:FK)(x y:U)(S:bJ)(Q:KU):Prop:=
 match o with
 |.add=>match x with
  |.int i=>k7 y λj=>Q (.int (i+j)) S
  |.str a=>ML y λb=>a.length+b.length<=1000000/\Q (.str (a++b)) S
  |.tup a=>XR y λb=>a.length+b.length<=1000000/\Q (.tup (a++b)) S
  |.loc m=>zK y λn=>getL S[m]? λa=>getL S[n]? λb=>a.length+b.length<=1000000/\Q (.loc S.length) (S++[.lst (a++b)])
  |_=>False
 |.sub=>k7 x λi=>k7 y λj=>Q (.int (i-j)) S
 |.mul=>match x with
  |.int i=>k7 y λj=>((-(2^64)<i/\i<2^64)\/(-(2^64)<j/\j<2^64))/\Q (.int (i*j)) S
  |.str a=>k7 y λj=>∃c,a=[c]/\0<=j/\j<=1000/\Q (.str (dq j.toNat c)) S
  |_=>False
 |.fdiv=>k7 x λi=>k7 y λj=>(0<j/\j<1073741824)/\Q (.int (i/j)) S
 |.mod=>k7 x λi=>k7 y λj=>0<j/\Q (.int (i%j)) S
 |.band=>k7 x λi=>k7 y λj=>(0<=i/\0<=j)/\Q (.int ((i.toNat&&&j.toNat:Nat):Int)) S
 |.bor=>k7 x λi=>k7 y λj=>(0<=i/\0<=j)/\Q (.int ((i.toNat|||j.toNat:Nat):Int)) S
 |.shl=>k7 x λi=>k7 y λj=>(0<=i/\i<1000/\0<=j/\j<=1000)/\Q (.int (i*2^j.toNat)) S
 |.shr=>k7 x λi=>k7 y λj=>(0<=i/\0<=j)/\Q (.int (i/2^j.toNat)) S
noncomputable def sZ(o:FK)(x y:U)(S:bJ)(Q:KU):Prop:=
 match x with
 |.int i=>jL o (.int i) y S Q
 |.str a=>jL o (.str a) y S Q
 |_=>False
noncomputable def uH(x:U):Bool:=match x with|.bK=>true|_=>false
noncomputable def Ot(x y:U)(Q:Bool->Prop):Prop:=Al x y=true/\tI x y λb=>Q !b
noncomputable def Wm(x:U)(us:List U)(Q:Bool->Prop):Prop:=match x with
 |.tup xs=>(jJ xs=true/\jJ us=true/\jK us<=100)/\Q !(us.any λy=>oR y (.tup xs))
 |x=>qz x us λb=>Q !b
noncomputable def Jx(S:bJ)(a:U)(o:Option (List U)):Prop:=(a=.bK/\o=none)\/∃n us,a=.loc n/\S[n]?=some (.lst us)/\(jJ us=true/\jK us<=90)/\o=some us
noncomputable def Vj:Option (List U)->Option (List U)->Bool
 |none,none=>true
 |some a,some b=>qy a b
 |_,_=>false
noncomputable def KH(us:List U)(y:U)(S:bJ)(Q:Bool->Prop):Prop:=∃a i b j o o',us=[a,.int i]/\y=.tup [b,.int j]/\Jx S a o/\Jx S b o'/\Q (Vj o o'&&i==j)
noncomputable def iR(o:Ol)(x y:U)(S:bJ)(Q:Bool->Prop):Prop:=
 match o with
 |.eq=>match x with
  |.tup us=>tI (.tup us) y Q\/KH us y S Q
  |.loc m=>zK y λn=>getL S[m]? λus=>S[n]?=some (.lst [])/\Q us.isEmpty
  |x=>tI x y Q
 |.ne=>match x with
  |.loc m=>match y with
   |.loc n=>getL S[m]? λus=>S[n]?=some (.lst [])/\Q (!us.isEmpty)
   |y=>Ot (.loc m) y Q
  |.tup us=>Ot (.tup us) y Q\/KH us y S λb=>Q !b
  |x=>Ot x y Q
 |.lt=>k7 x λi=>k7 y λj=>Q (decide (i<j))
 |.le=>k7 x λi=>k7 y λj=>Q (decide (i<=j))
 |.gt=>k7 x λi=>k7 y λj=>Q (decide (j<i))
 |.ge=>k7 x λi=>k7 y λj=>Q (decide (j<=i))
 |.isin=>match y with
  |.str b=>ML x λa=>Q (iE a b)
  |.tab kvs=>ML x λa=>Q (kvs.lookup a).isSome
  |.tup us=>qz x us Q
  |.loc n=>getL S[n]? λus=>qz x us Q
  |_=>False
 |.nF=>match y with
  |.str b=>ML x λa=>Q !(iE a b)
  |.tup us=>qz x us λb=>Q !b
  |.loc n=>getL S[n]? λus=>Wm x us Q
  |_=>False
 |.KA=>Vi y (Q (uH x))
 |.Ah=>Vi y (Q !(uH x))
noncomputable def Jy(x y:U)(S:bJ)(Q:U->Prop):Prop:=
 match x with
 |.str l=>k7 y λi=>l.length<=1000000/\opt (tJ l i) λc=>Q (.str [c])
 |.tup us=>k7 y λi=>us.length<=1000000/\opt (tJ us i) Q
 |.pF ns=>k7 y λi=>ns.length<=1000000/\opt (tJ ns i) λn=>Q (.int n)
 |.loc n=>k7 y λi=>getL S[n]? λus=>opt (tJ us i) Q
 |.tab kvs=>ML y λk=>opt (kvs.lookup k) λv=>Q (.str v)
 |_=>False
noncomputable def EM(x:U)(lo hi:Option Int)(S:bJ)(Q:KU):Prop:=
 ((∀i,lo=some i->0<=i)/\∀i,hi=some i->0<=i)/\match x with
 |.str l=>l.length<=1000000/\Q (.str (lV l lo hi)) S
 |.tup us=>(us.length<=1000000/\us≠[]/\0<lo.getD 0)/\Q (.tup (lV us lo hi)) S
 |.loc n=>getL S[n]? λus=>Q (.loc S.length) (S++[.lst (lV us lo hi)])
 |_=>False
noncomputable def k9(sep:List Nat):List (List Nat)->List Nat
 |[]=>[]
 |[x]=>x
 |x::r=>x++sep++k9 sep r
noncomputable def sE(n:Nat):Nat:=if n=0 then 0 else n.log2+1
noncomputable def tf(f:Sf)(us:List U)(S:bJ)(Q:KU):Prop:=
 match f,us with
 |.len,[x]=>opt (p9 S x) λn=>n<=1000000/\Q (.int n) S
 |.tuple,[.loc n]=>getL S[n]? λus=>Q (.tup us) S
 |.list,[.loc n]=>getL S[n]? λus=>Q (.loc S.length) (S++[.lst us])
 |.list,[.tup us]=>us.length<=1000000/\Q (.loc S.length) (S++[.lst us])
 |.all,[.loc n]=>∃bs:List Bool,S[n]?=some (.lst (bs.map .bl))/\Q (.bl (bs.all id)) S
 |.any,[.loc n]=>∃bs:List Bool,S[n]?=some (.lst (bs.map .bl))/\Q (.bl (bs.any id)) S
 |.sum,[.loc n]=>∃is:List Int,S[n]?=some (.lst (is.map .int))/\Q (.int is.sum) S
 |.dict,[.loc n]=>∃ps:List (List Nat×U),S[n]?=some (.lst (ps.map λp=>.tup [.str p.1,p.2]))/\(ps.map (·.1)).Nodup/\Q (.loc S.length) (S++[.vJ (ps.map λp=>(.str p.1,p.2))])
 |.uG,[.loc n]=>∃t ts,S[n]?=some (.lst ((t::ts).map .str))/\(∀u∈t::ts,u.length<=1000000)/\Q (.str (ts.foldl (λb x=>if x.length<b.length then x else b) t)) S
 |_,_=>False
noncomputable def vY(m:Om)(x:U)(us:List U)(S:bJ)(Q:KU):Prop:=
 match m,x,us with
 |.join,.str sep,[.loc n]=>∃ts:List (List Nat),S[n]?=some (.lst (ts.map .str))/\(ts.map cQ).sum+ts.length*sep.length<=1000000/\Q (.str (k9 sep ts)) S
 |.index,.str l,[.str k]=>∃c,k=[c]/\c∈l/\Q (.int (l.idxOf c:Nat)) S
 |.startswith,.str l,[.str k]=>Q (.bl (k.isPrefixOf l)) S
 |.mW,.int i,[]=>0<=i/\Q (.int (sE i.toNat:Nat)) S
 |.get,.loc n,[.str k,d]=>getD S[n]? λkvs=>∃ps:List (List Nat×U),kvs=(ps.map λp=>(U.str p.1,p.2))/\Q ((ps.lookup k).getD d) S
 |.append,.loc n,[u]=>getL S[n]? λus=>us.length<1000000/\Q .bK (S.set n (.lst (us++[u])))
 |.extend,.loc n,[.loc m]=>getL S[n]? λus=>getL S[m]? λws=>us.length+ws.length<=1000000/\Q .bK (S.set n (.lst (us++ws)))
 |_,_,_=>False
noncomputable def vZ(m:Om)(x:U)(S:bJ):Prop:=
 match m,x with
 |.join,.str _=>True|.index,.str _=>True|.startswith,.str _=>True
 |.append,.loc n=>getL S[n]? λ_=>True
 |.extend,.loc n=>getL S[n]? λ_=>True
 |.get,.loc n=>getD S[n]? λ_=>True
 |.mW,.int _=>True
 |_,_=>False
noncomputable def Dl:Option SO->Ty->Option Bool
 |some (.lst _),.list=>some true
 |some (.vJ _),.dict=>some true
 |some (.ins _ _),_=>none
 |some _,.own _=>none
 |some _,_=>some false
 |none,_=>none
noncomputable def KJ(S:bJ):U->Ty->Option Bool
 |.int _,.int=>some true|.bl _,.int=>some true|.bl _,.bool=>some true
 |.bK,.own _=>none
 |.loc n,t=>Dl S[n]? t
 |.str _,.str=>some true|.tup _,.tuple=>some true
 |.exc c _,.own d=>some ((mC c).contains d)
 |.exc _ _,.KC=>some true
 |.exc _ _,_=>none
 |.pF _,_=>none|.tab _,_=>none
 |_,.own _=>none
 |_,.KC=>none
 |_,_=>some false
noncomputable def ou(S:bJ)(u:U):List Ty->Option Bool
 |[]=>some false
 |t::ts=>match KJ S u t,ou S u ts with
  |some a,some b=>some (a||b)
  |_,_=>none
noncomputable def d7(f:String)(v:U):List (String×U)->List (String×U)
 |[]=>[(f,v)]
 | (g,x)::r=>if g=f then(g,v)::r else(g,x)::d7 f v r
noncomputable def jB(x:U)(f:String)(S:bJ)(Q:U->Prop):Prop:=
 match x with
 |.loc n=>mz S[n]? λ_ fs=>opt (fs.lookup f) Q
 |.exc c us=>opt (((cL c).zip us).lookup f) Q
 |_=>False
noncomputable def uI(g:bJ->Prop)(turn:U->Env->bJ->(Env->bJ->Prop)->Prop)(fin:Env->bJ->Prop):List U->Env->bJ->Prop
 |[],env,S=>g S/\fin env S
 |u::us,env,S=>g S/\turn u env S (uI g turn fin us)
noncomputable def nG(g:bJ->Prop)(c:U->bJ->(Bool->bJ->Prop)->Prop)(e:U->bJ->KU->Prop)(Q:List U->bJ->Prop):List U->List U->bJ->Prop
 |[],acc,S=>g S/\acc.length<1000000/\Q acc S
 |u::us,acc,S=>g S/\acc.length<1000000/\c u S λb S1=>if b=true then e u S1 λv S2=>nG g c e Q us (acc++[v]) S2 else nG g c e Q us acc S1
noncomputable def yQ(c:Env->bJ->(Bool->bJ->Prop)->Prop)(b:Env->bJ->(Env->bJ->Prop)->Prop)(fin:Env->bJ->Prop):Nat->Env->bJ->Prop
 |0,_,_=>False
 |n+1,env,S=>c env S λt S1=>if t=true then b env S1 (yQ c b fin n) else fin env S1
noncomputable def Hd(x:U)(S:bJ)(R:List U->(bJ->Prop)->Prop):Prop:=
 match x with
 |.str l=>R (l.map λc=>.str [c]) (λ_=>True)
 |.tup us=>us.length<=1000000/\R us (λ_=>True)
 |.loc n=>getL S[n]? λus=>R us (λS'=>S'[n]?=some (.lst us))
 |_=>False
noncomputable def lg(env:Env)(ci:List Nat):Env:=ci.map λj=>(env[j]?).join
noncomputable def pJ(pr:Bool)(u:U)(caps:Env)(k:Env->Prop):Prop:=
 match pr with
 |false=>k (some u::caps)
 |true=>MK u λa b=>k (some a::some b::caps)
mutual
noncomputable def WE(Γ:bY):Ex->Env->bJ->KU->KX->Prop
 |.var i,env,S,Q,_=>yO env[i]? λu=>Q u S
 |.lit u,_,S,Q,_=>Q u S
 |.bin o a b,env,S,Q,E=>WE Γ a env S (λx S1=>WE Γ b env S1 (λy S2=>jL o x y S2 Q) E) E
 |.neg a,env,S,Q,E=>WE Γ a env S (λx S1=>k7 x λi=>Q (.int (-i)) S1) E
 |.not a,env,S,Q,E=>WE Γ a env S (λx S1=>MJ x λb=>Q (.bl !b) S1) E
 |.and a b,env,S,Q,E=>WE Γ a env S (λx S1=>MJ x λc=>if c=true then WE Γ b env S1 Q E else Q (.bl false) S1) E
 |.or a b,env,S,Q,E=>WE Γ a env S (λx S1=>MJ x λc=>if c=true then Q (.bl true) S1 else WE Γ b env S1 Q E) E
 |.cmp o a b,env,S,Q,E=>WE Γ a env S (λx S1=>WE Γ b env S1 (λy S2=>iR o x y S2 λr=>Q (.bl r) S2) E) E
 |.xm c a b,env,S,Q,E=>WT Γ c env S (λt S1=>if t=true then WE Γ a env S1 Q E else WE Γ b env S1 Q E) E
 |.call f as,env,S,Q,E=>uJ Γ as env S (λus S1=>Γ f us S1 Q E) E
 |.mk c q as,env,S,Q,E=>uJ Γ as env S (λus S1=>Γ q (.loc S1.length::us) (S1++[.ins c []]) (λv S2=>v=.bK/\Q (.loc S1.length) S2) E) E
 |.cu c m q o as,env,S,Q,E=>WE Γ o env S (λx S1=>zK x λn=>mz S1[n]? λc' fs=>(c'=c/\fs.lookup m=none)/\uJ Γ as env S1 (λus S2=>Γ q (x::us) S2 Q E) E) E
 |.blt f as,env,S,Q,E=>uJ Γ as env S (λus S1=>tf f us S1 Q) E
 |.kW m o as,env,S,Q,E=>WE Γ o env S (λx S1=>vZ m x S1/\uJ Γ as env S1 (λus S2=>vY m x us S2 Q) E) E
 |.fld o f,env,S,Q,E=>WE Γ o env S (λx S1=>jB x f S1 λv=>Q v S1) E
 |.ix o i,env,S,Q,E=>WE Γ o env S (λx S1=>WE Γ i env S1 (λy S2=>Jy x y S2 λv=>Q v S2) E) E
 |.sl o lo hi,env,S,Q,E=>WE Γ o env S (λx S1=>WO Γ lo env S1 (λl S2=>WO Γ hi env S2 (λh S3=>EM x l h S3 Q) E) E) E
 |.tup as,env,S,Q,E=>uJ Γ as env S (λus S1=>us.length<=1000000/\Q (.tup us) S1) E
 |.lst as,env,S,Q,E=>uJ Γ as env S (λus S1=>us.length<=1000000/\Q (.loc S1.length) (S1++[.lst us])) E
 |.vJ ks vs,env,S,Q,E=>uJ Γ ks env S (λus S1=>uJ Γ vs env S1 (λws S2=>us.length<=100/\Q (.loc S2.length) (S2++[.vJ (us.zip ws)])) E) E
 |.comp pr e it c ci,env,S,Q,E=>WI Γ it env S (λus g S1=>nG g (λu S2 k=>pJ pr u (lg env ci) λen=>WT Γ c en S2 k λ_ _=>False)
   (λu S2 k=>pJ pr u (lg env ci) λen=>WE Γ e en S2 k λ_ _=>False) (λacc S3=>Q (.loc S3.length) (S3++[.lst acc])) us [] S1) E
 |.Jw a ts,env,S,Q,E=>WE Γ a env S (λx S1=>opt (ou S1 x ts) λb=>Q (.bl b) S1) E
noncomputable def uJ(Γ:bY):yN->Env->bJ->(List U->bJ->Prop)->KX->Prop
 |.nil,_,S,Q,_=>Q [] S
 |.cons e es,env,S,Q,E=>WE Γ e env S (λx S1=>uJ Γ es env S1 (λxs S2=>Q (x::xs) S2) E) E
noncomputable def WO(Γ:bY):Ox->Env->bJ->(Option Int->bJ->Prop)->KX->Prop
 |.no,_,S,Q,_=>Q none S
 |.e a,env,S,Q,E=>WE Γ a env S (λx S1=>k7 x λj=>Q (some j) S1) E
noncomputable def WI(Γ:bY):It->Env->bJ->(List U->(bJ->Prop)->bJ->Prop)->KX->Prop
 |.val e,env,S,R,E=>WE Γ e env S (λx S1=>Hd x S1 λus g=>R us g S1) E
 |.range e,env,S,R,E=>WE Γ e env S (λx S1=>k7 x λn=>n<=1000000/\-(1000000:Int)<=n/\R ((cy n.toNat).map λk=>.int (k:Nat)) (λ_=>True) S1) E
 |.enum e,env,S,R,E=>WE Γ e env S (λx S1=>zK x λn=>getL S1[n]? λus=>R (us.mapIdx λi u=>.tup [.int (i:Nat),u]) (λS'=>S'[n]?=some (.lst us)) S1) E
 |.rev e,env,S,R,E=>WE Γ e env S (λx S1=>zK x λn=>getL S1[n]? λus=>R us.reverse (λS'=>S'[n]?=some (.lst us)) S1) E
noncomputable def WT(Γ:bY):Tx->Env->bJ->(Bool->bJ->Prop)->KX->Prop
 |.cg e,env,S,Q,E=>WE Γ e env S (λx S1=>opt (rE S1 x) λb=>Q b S1) E
 |.not t,env,S,Q,E=>WT Γ t env S (λb S1=>Q (!b) S1) E
 |.and a b,env,S,Q,E=>WT Γ a env S (λc S1=>if c=true then WT Γ b env S1 Q E else Q false S1) E
 |.or a b,env,S,Q,E=>WT Γ a env S (λc S1=>if c=true then Q true S1 else WT Γ b env S1 Q E) E
end
structure Ends where
 nx:Env->bJ->Prop
 rt:KU
 ex:Env->KX
mutual
noncomputable def WS(Γ:bY):Sm->Ends->Env->bJ->Prop
 |.set i e,D,env,S=>WE Γ e env S (λu S1=>D.nx (env.set i (some u)) S1) (D.ex env)
 |.iQ o f e,D,env,S=>WE Γ e env S (λu S1=>WE Γ o env S1 (λx S2=>zK x λn=>mz S2[n]? λc fs=>fs.length<100/\D.nx env (S2.set n (.ins c (d7 f u fs)))) (D.ex env)) (D.ex env)
 |.Wl o i e,D,env,S=>WE Γ e env S (λu S1=>WE Γ o env S1 (λx S2=>WE Γ i env S2 (λy S3=>zK x λn=>k7 y λk=>getL S3[n]? λus=>opt (Oq us.length k) λj=>D.nx env (S3.set n (.lst (us.set j u)))) (D.ex env)) (D.ex env)) (D.ex env)
 |.aug i p e,D,env,S=>yO env[i]? λx=>WE Γ e env S (λy S1=>sZ p x y S1 λz S2=>D.nx (env.set i (some z)) S2) (D.ex env)
 |.vW o f p e,D,env,S=>WE Γ o env S (λx S1=>zK x λn=>mz S1[n]? λc fs=>opt (fs.lookup f) λv=>
   WE Γ e env S1 (λy S2=>sZ p v y S2 λz S3=>mz S3[n]? λc' fs'=>c'=c/\fs'.length<100/\D.nx env (S3.set n (.ins c (d7 f z fs')))) (D.ex env)) (D.ex env)
 |.EL o i p e,D,env,S=>WE Γ o env S (λx S1=>WE Γ i env S1 (λy S2=>zK x λn=>k7 y λk=>getL S2[n]? λus=>0<=k/\opt (us[k.toNat]?) λv=>
   WE Γ e env S2 (λz S3=>sZ p v z S3 λr S4=>getL S4[n]? λus'=>k.toNat<us'.length/\D.nx env (S4.set n (.lst (us'.set k.toNat r)))) (D.ex env)) (D.ex env)) (D.ex env)
 |.ex e,D,env,S=>WE Γ e env S (λ_ S1=>D.nx env S1) (D.ex env)
 |.ret e,D,env,S=>WE Γ e env S D.rt (D.ex env)
 |.ifs c a b,D,env,S=>WT Γ c env S (λt S1=>if t=true then rF Γ a D env S1 else rF Γ b D env S1) (D.ex env)
 |.Ai c b,D,env,S=>∃n,yQ (λen S1 k=>WT Γ c en S1 k (D.ex en)) (λen S1 k=>rF Γ b {D with nx:=k} en S1) D.nx n env S
 |.i9 t it b,D,env,S=>WI Γ it env S (λus g S1=>uI g (λu en S2 k=>match t with
   |.name i=>rF Γ b {D with nx:=k} (en.set i (some u)) S2
   |.pair i j=>MK u λx y=>rF Γ b {D with nx:=k} ((en.set i (some x)).set j (some y)) S2) D.nx us env S1) (D.ex env)
 |.raise c as,D,env,S=>uJ Γ as env S (λus S1=>us.length=(cL c).length/\D.ex env #[c,us] S1) (D.ex env)
 |.Oo b c i h,D,env,S=>rF Γ b {D with ex:=λen x S1=>(mC x.c).contains c=true/\rF Γ h {nx:=λen2 S2=>D.nx (en2.set i none) S2,rt:=D.rt,ex:=λ_ _ _=>False} (en.set i (some (.exc x.c x.us))) S1} env S
noncomputable def rF(Γ:bY):dj->Ends->Env->bJ->Prop
 |.nil,D,env,S=>D.nx env S
 |.cons s ss,D,env,S=>WS Γ s {D with nx:=λen S1=>rF Γ ss D en S1} env S
end
end PL
namespace L2
open PySem PySem.Spec PyProof.Rows PySem.W
open Builtin Builtin.Str
theorem Dm{a:List Nat}:∀{b:List Nat},PL.iE a b=true↔∃i,i+a.length<=b.length/\(b.drop i).take a.length=a
 |[]=>by
  unfold PL.iE;rw[List.isEmpty_iff]
  constructor
  .rintro rfl;exact#[0,ax _,rfl]
  .rintro⟨i,h,_⟩
   exact fM (by have h:i+a.length<=0:=h;omega)
 |x::b=>by
  unfold PL.iE;rw[aO,Dm (b:=b),wD]
  constructor
  .rintro(h|⟨i,h1,h2⟩)
   .refine#[0,by have:=h.length_le;omega,?_]
    rw[kZ];exact(nB.mp h).symm
   .exact#[i+1,by simp;omega,by rw[Eh];exact h2]
  .rintro⟨i,h1,h2⟩
   cases i with
   |zero=>rw[kZ] at h2;exact .inl (nB.mpr h2.symm)
   |succ i=>rw[Eh] at h2;exact .inr #[i,by simp at h1;omega,h2]
theorem Am(a b:List Nat):(!(occurrences (tx b) (tx a) 0 (tx b).length 1).isEmpty)=PL.iE a b:=by
 rw[cY,StrLaws.found_iff,Dm]
 refine exists_congr λi=>?_
 rw[cX,cX]
 refine and_congr_right λh=>?_
 rw[StrLaws.subAt_eq,beq_iff_eq]
 simp[cX]
section
variable{X:Cx}
theorem EN:gw X (bD .In) (λx y H Q=>∃a b,x=.str (tx a)/\y=.str (tx b)/\Q (.bl (PL.iE a b)) H):=by
 intro pZ s σ H x y v u Q I rx ry h;obtain⟨a,b,rfl,rfl,q⟩:=h;refine Ey pZ s σ H _ _ v u Q I rx ry #[tx a,tx b,rfl,rfl,?_];rw[Am]
 exact q
theorem yR:gw X (bD .NotIn) (λx y H Q=>∃a b,x=.str (tx a)/\y=.str (tx b)/\Q (.bl (!PL.iE a b)) H):=by
 intro pZ s σ H x y v u Q I rx ry h;obtain⟨a,b,rfl,rfl,q⟩:=h;refine yG pZ s σ H _ _ v u Q I rx ry #[tx a,tx b,rfl,rfl,?_];rw[Am]
 exact q
theorem xn:FJ X "str.startswith" (λx xs H Q=>∃a b,x=.str (tx a)/\xs=[.str (tx b)]/\Q (.bl (b.isPrefixOf a)) H):=by
 intro pZ s σ H x xs v us Q I rx rs h;obtain⟨a,b,rfl,rfl,q⟩:=h;obtain⟨t,rfl⟩:=rx;obtain⟨u,rfl,t',rfl⟩:=vals1 rs;refine SC.startswith #[.bl _,H,I,?_,q];show iI (Txt.startswith (tx a) (tx b))=iI (b.isPrefixOf a)
 congr 1
 unfold Txt.startswith;rw[cY,af,decide_eq_true_eq,StrLaws.subAt_eq,beq_iff_eq,wD,nB,cX,cX]
 simp only[kZ,cX,Nat.zero_add];constructor
 .rintro⟨_,h⟩;exact h.symm
 .intro h
  refine#[?_,h.symm];have:=congrArg cQ h;simp at this;omega
theorem uK:∀{bs:List Bool}{us:List Value},Vals (bs.map V.bl) us->us=bs.map iI
 |[],_,.nil=>rfl
 |b::bs,_,.cons r h=>by
  cases r;rw[uK h];rfl
theorem B1(hc:X.calm=true):iP X (.builtin "all") (λxs H Q=>∃p,∃bs:List Bool,xs=[.ref p]/\gH X.K H p (bs.map V.bl)/\Q (.bl (bs.all id)) H):=by
 intro pZ s σ H xs us Q I r h;obtain⟨p,bs,rfl,hl,q⟩:=h;obtain⟨u,rfl,ru⟩:=vals1 r;cases ru;obtain⟨its,r,pl,_⟩:=I.list hl;have hl:=pl.isList;have hits:=uK r;have hlt:p<s.heap.objs.size:=by obtain⟨_,e,_⟩:=hl;exact aL e
 refine call_all_walk (n6 hl ?_);refine#[s.heap.objs.size,[s.heap.objs.size,p],[s.heap.objs.size],its.toArray.size,_,_,λi=>(bs[i]?).getD true,rfl,Walks.list (A:=X.A.in1) (I.ok.hd hc) _ p (b7 hlt) its.toArray,
  #[#[_,bz _ rfl,rfl,rfl],hl.push _],λi v s' Q' E' hP hQ=>?_,λh' tk hk=>?_]
 .have hP:its[i]?=some v:=by simpa using hP
  rw[hits,au] at hP;cases e:bs[i]? with
  |none=>rw[e] at hP;cases hP
  |some b=>
   rw[e] at hP;have hQ:Q' ((bs[i]?).getD true) s':=hQ;rw[e] at hQ;cases hP;exact fm hQ
 .have e:((cy its.toArray.size).all λi=>(bs[i]?).getD true)=bs.all id:=by
   rw[aC,hits,ar];exact LSm.range_all bs
  rw[e]
  exact#[.bl _,H,I.kept (LSm.kept_iter hk),rfl,q]
theorem Dn:∀{is:List Int}{us:List Value},Vals (is.map V.int) us->∃ps:List (Int×Tok),us=ps.map (λp=>mN p.1 p.2)/\ps.map (·.1)=is
 |[],_,.nil=>#[[],rfl,rfl]
 |i::is,_,.cons (b:=u) r h=>by
  obtain⟨t,e⟩:=(show ∃t,u=mN i t from r)
  subst e;obtain⟨ps,e1,e2⟩:=Dn h;exact#[(i,t)::ps,by rw[e1];rfl,by rw[aD,e2]]
theorem B3(hc:X.calm=true):iP X (.builtin "sum") (λxs H Q=>∃p,∃is:List Int,xs=[.ref p]/\gH X.K H p (is.map V.int)/\Q (.int is.sum) H):=by
 intro pZ s σ H xs us Q I r h;obtain⟨p,is,rfl,hl,q⟩:=h;obtain⟨u,rfl,ru⟩:=vals1 r;cases ru;obtain⟨its,r,pl,_⟩:=I.list hl;obtain⟨ps,e1,e2⟩:=Dn r;have hl:s.heap.IsList p (intItems ps.toArray):=by
  have:=pl.isList;rw[e1] at this;simpa[intItems] using this
 refine sum_intListG (I.ok.hd hc) hl λh' tk t' hk=>#[.int is.sum,H,I.kept hk,#[t',?_],q]
 rw[preSum_eq,bN (by simp)]
 simp[e2]
theorem He(hu:X.A.units+200<kg):gw X (bD .NotEq) (λx y H Q=>∃ds ds',fJ X.K H x (.tup ds)/\fJ X.K H y (.tup ds')/\Dv.iD ds<=100/\Q (.bl (!nO ds ds')) H):=by
 intro pZ s σ H x y u v Q I rx ry h;obtain⟨ds,ds',hx,hy,hz,q⟩:=h;unfold fJ at hx hy;obtain⟨a,vs,rfl,hq,hd⟩:=hx;obtain⟨a',vs',rfl,hq',hd'⟩:=hy;cases rx;cases ry;obtain⟨its,r1,p,_⟩:=I.tuple hq;obtain⟨its',r2,p',_⟩:=I.tuple hq';have l1:=hd.len;have l2:=hd'.len;have m1:=r1.length;have m2:=r2.length;refine SeqAt.RcNeAt.tuples (e:=λj=>match ds[j]?,ds'[j]? with|some a,some b=>mM a b|_,_=>true) p p' ∅ (λj k1 k2=>?_) _ _ _ _ #[.bl _,H,I,?_,q]
 .rw[aC] at k1 k2
  have e1:ds[j]?=some (ds[j]'∅):=aa _;have e2:ds'[j]?=some (ds'[j]'∅):=aa _;have f1:vs[j]?=some (vs[j]'∅):=aa _;have f2:vs'[j]?=some (vs'[j]'∅):=aa _;obtain⟨w1,g1,q1⟩:=r1.get f1;obtain⟨w2,g2,q2⟩:=r2.get f2;have a1:its.toArray[j]=w1:=by
   obtain⟨_,z⟩:=ae.mp g1;simpa using z
  have a2:its'.toArray[j]=w2:=by
   obtain⟨_,z⟩:=ae.mp g2;simpa using z
  rw[a1,a2,e1,e2]
  exact B0 I 100 (aT (mw e1) hz) (by show X.A.units+1+100<kg;omega) (hd.get f1 e1) (hd'.get f2 e2) q1 q2
 .show iI _=iI _
  congr 2
  rw[aC,aC,<-m1,<-m2,l1,l2]
  refine mV ds ds' _ λi a b h1 h2=>?_
  rw[h1,h2]
theorem Hf:gw X (bD .In) (λx y H Q=>∃a k r,x=.str k/\y=.ref a/\(∃es n,X.K.lookup a=some #[.type "dict",none,.dict es n,#[]]/\Be X.w.params es.toList)/\(a==dH)=false/\nsIn X.K a k=some r/\Q (.bl r.isSome) H):=by
 intro pZ s σ H x y v u Q I rx ry h;obtain⟨a,k,r,rfl,rfl,⟨es,n,lk,kl⟩,lo,e,q⟩:=h;obtain⟨t,rfl⟩:=rx;cases ry;exact wpAny_in_of (strKind_is X.prog X.w k t) lo (mapOf_K (prog:=X.prog) (w:=X.w) I.kU lk kl) (by rw[find_K lk e];exact#[.bl _,H,I.tok _,rfl,q])
end
section
variable{X:Cx}{pZ:List (Addr×Obj)}{σ:List (Option V)}{H:Hp}{s:ak}{h':Heap}
theorem Inv.Ou{t':Nat}{m:Str->Option Value}(I:Inv X pZ σ H s)(k:∀b o,b≠X.env.locals->s.heap.get? b=some o->h'.get? b=some o)(h1:s.heap.Ns X.env.locals m)(h2:h'.Ns X.env.locals m):Inv X pZ σ H {s with heap:=h',toks:=t'}:=by
 have nL:∀b u,H b=some u->b≠X.env.locals:=λb u e z=>by rw[z,I.free] at e;cases e
 refine I.step (g':=s.gens) (d':=s.drawn) (ch:=[]) (λ_ z=>nomatch z) (λb o hL _ _ e _=>k b o hL e) (λb o hL _ _ e _=>#[o.slots,k b o hL e]) (λ_ _ _ _ n=>n)
  (λb o _ e=>?_) (λ_ _ e=>e) (λ_ _ _ e=>e) (λb ps e=>#[#[],by rw[e];simp]) (λm' hm=>?_) (λb u e=>?_) I.bare
 .by_cases z:b=X.env.locals
  .obtain⟨o',_,_,ho,_⟩:=h2
   exact#[o',by rw[z];exact ho]
  .exact#[o,k b o z e]
 .rw[hm.eq_nsMap,<-h1.eq_nsMap];exact h2
 .refine(I.dg b u e).jI (λc v hc q=>k c v ?_ q) (λ_ q=>q) λ_ _ q=>q
  rcases hc with z|z
  .rw[z];exact nL b u e
  .exact nL c _ z
end
section
variable{X:Cx}
noncomputable def An(t:List Nat)(ts:List (List Nat)):List Nat:=ts.foldl (λb x=>if x.length<b.length then x else b) t
theorem Dp:∀{ts:List (List Nat)}{us:List Value},Vals (ts.map λt=>V.str (tx t)) us->us.length=ts.length/\∀(i:Nat)v,us[i]?=some v->∃t k,ts[i]?=some t/\v=jx (tx t) k
 |[],_,.nil=>#[rfl,λi v h=>by simp at h]
 |t::ts,_,.cons (b:=u) r h=>by
  obtain⟨k,e⟩:=(show ∃k,u=jx (tx t) k from r)
  subst e;obtain⟨e1,e2⟩:=Dp h;refine#[by simp[e1],λi v q=>?_];cases i with
  |zero=>simp at q;exact#[t,k,rfl,q.symm]
  |succ i=>exact e2 i v (by simpa using q)
theorem tK(b:List Nat):∀(ts:List (List Nat))(i:Nat)(t:List Nat),(b::ts)[i]?=some t->(∀j u,(b::ts)[j]?=some u->t.length<=u.length/\(j<i->t.length<u.length))->An b ts=t
 |[],i,t,h,_=>by
  cases i with
  |zero=>simp at h;exact h
  |succ i=>simp at h
 |x::ts,i,t,h,m=>by
  show An (if x.length<b.length then x else b) ts=t
  have mb:=m 0 b rfl;have mx:=m 1 x rfl;by_cases z:x.length<b.length
  .rw[if_pos z]
   cases i with
   |zero=>simp at h;subst h;omega
   |succ i=>
    refine tK x ts i t (by simpa using h) λj u hj=>?_
    have:=m (j+1) u (by simpa using hj);exact#[this.1,λq=>this.2 ∅]
  .rw[if_neg z]
   cases i with
   |zero=>
    simp at h;subst h;refine tK b ts 0 b rfl λj u hj=>#[?_,λq=>∅]
    cases j with
    |zero=>simp at hj;subst hj;exact ax _
    |succ j=>exact(m (j+2) u (by simpa using hj)).1
   |succ i=>
    cases i with
    |zero=>simp at h;subst h;have:=mb.2 ∅;omega
    |succ i=>
     refine tK b ts (i+1) t (by simpa using h) λj u hj=>?_
     cases j with
     |zero=>simp at hj;subst hj;exact#[mb.1,λ_=>mb.2 ∅]
     |succ j=>
      have:=m (j+2) u (by simpa using hj);exact#[this.1,λq=>this.2 ∅]
theorem Ao{pZ:List (Addr×Obj)}{s:ak}{σ:St}{H:Hp}{Q:VK}{p:Addr}{t:List Nat}{ts:List (List Nat)}(hc:X.calm=true)(I:Inv X pZ σ H s)(hl:gH X.K H p ((t::ts).map λt=>V.str (tx t)))
  (hz:∀u∈t::ts,u.length<=1000000) (q:Q (.str (tx (An t ts))) H){E:Value->ak->Prop}:
  wpAny (aR X.prog X.w) X.A (call (.builtin "min") [.ref p] [(b8 "key",.builtin "len")]) (EP X pZ σ Q) E s:=by
 obtain⟨its,r,pl,_⟩:=I.list hl;obtain⟨e1,e2⟩:=Dp r;obtain⟨m,F⟩:=I.fr;have kp:∀h,Fr X.base X.env.locals h m->News X.base X.env.locals h (oN X.base s.heap X.env.locals)->∀b o,b≠X.env.locals->s.heap.get? b=some o->h.get? b=some o:=λh F' N' b o hb e=>by
  cases z:X.base.get? b with
  |some o'=>have:=I.bk b o' z;rw[e] at this;cases this;exact F'.keep b _ z
  |none=>exact(N' (b,o) (zW hb z e)).1
 obtain⟨ol,hol,hc1,n1,hd1⟩:=pl.isList;have pL:p≠X.env.locals:=λe=>by
  obtain⟨o',es,ep,ho',hd',_⟩:=F.ns;rw[<-e,hol] at ho';cases ho';rw[hd1] at hd';cases hd'
 refine kmb_min (kid:="len") (vs:=its) (news:=oN X.base s.heap X.env.locals) (λi=>(((t::ts)[i]?).getD []).length) (I.ok.hd hc) F Gb (λh F' N'=>?_) (by rw[e1];simp) (λi v hv h tk own F' N'=>?_) (λi v h' tk' hv hb F' N'=>?_)
 .exact#[ol,kp h F' N' p ol pL hol,hc1,n1,hd1]
 .obtain⟨u,k,hu,rfl⟩:=e2 i v hv
  have hn:=oh;have hu':=hz u (aw hu);refine len_str (by rw[cX];omega) ?_;rw[hu,cD,cX]
  exact KskEnd.intro F' N' λp hp=>hp
 .obtain⟨u,k,hu,rfl⟩:=e2 i v hv
  have eb:An t ts=u:=tK t ts i u hu λj w hj=>by
   have hj':j<its.length:=by rw[e1];exact(ae.mp hj).1
   have:=hb j hj';rw[hu,hj] at this;simp only[cD] at this;exact#[∅,λq=>by have:=this.2 q;omega]
  rw[eb] at q;refine#[.str (tx u),H,?_,#[k,rfl],q];refine I.Ou (λb o hb e=>?_) F.ns F'.ns;exact kp h' F' N' b o hb e
theorem EO{e:Expr}{p pl kp pos:Pos}{te:TE}(hc:X.calm=true)(hg:Gl X "min")(hm:X.mg "min"=none)(hg2:Gl X "len")(hm2:X.mg "len"=none)(ha:PE X e te)(hs:bS [e] X.env=[(false,eval e X.env)]:=by rfl):
  PE X (.Call (.Name "min" p) [e] [#[some "key",.Name "len" pl,kp]] pos) (λσ H Q=>te σ H λv H1=>∃a t ts,v=.ref a/\gH X.K H1 a ((t::ts).map λt=>V.str (tx t))/\(∀u∈t::ts,u.length<=1000000)/\Q (.str (tx (An t ts))) H1):=by
 intro pZ s σ H Q I h;refine dy (pV I hg hm boot_min ?_);refine callWith_kw (e:=e) (rest:=[]) ?_ (by rw[hs];rfl) (by rw[hs];rfl);rw[hs]
 refine kL (fj (ha pZ s σ H _ I h) λu s1 h9=>?_);obtain⟨x,H1,I1,r1,a,t,ts,e2,hl,hz,q⟩:=h9;refine qX ?_;subst e2;cases r1;refine kws_cons (pV I1 hg2 hm2 JO (kws_nil ?_));exact Ao hc I1 hl hz q
end
section
variable{X:Cx}{pZ:List (Addr×Obj)}{σ:St}{H:Hp}{s:ak}
theorem Inv.KL{ch:List Addr}{h':Heap}{t':Nat}{a:Addr}{o:HO}(I:Inv X pZ σ H s)(k:∀b u,b∉ch->s.heap.get? b=some u->h'.get? b=some u)(hf:∀b∈ch,pW X pZ H b)(hp:s.heap.objs.size<=a)
  (new:d6 X.prog X.w (upd H a o) h' a o):Inv X pZ σ (upd H a o) {s with heap:=h',toks:=t'}:=by
 have hn:=I.dg.fresh hp;have na:∀b u,s.heap.get? b=some u->b≠a:=λb u e z=>absurd (aM (aL e) hp) (by rw[z];exact dJ _)
 have nt:∀b u,H b=some u->b∉ch:=λb u e z=>by rw[(hf b z).1] at e;cases e
 have tr:∀b u,H b=some u->upd H a o b=some u:=λb u e=>by rw[bw (fB e hn)];exact e
 refine I.step (g':=s.gens) (d':=s.drawn) (ch:=ch) (λb hb=>?_) (λb u _ _ hc e _=>k b u hc e) (λb u _ _ hc e _=>#[u.slots,k b u hc e]) (λb u _ e n=>by rw[bw (na b u e)];exact n)
  (λb u hc e=>#[u,k b u hc e]) (λb _ e=>tr b _ e) (λb _ _ e=>tr b _ e) (λb ps e=>#[#[],by rw[tr b _ e];simp]) (λm hm=>?_) (λb u e=>?_) I.bare
 .obtain⟨f0,f1,f2,f3,f4,f5⟩:=hf b hb
  exact#[f3,f1,f4,f5]
 .obtain⟨q,es,ep,ho,r⟩:=hm
  exact#[q,es,ep,k _ q (λz=>(hf _ z).2.1 rfl) ho,r]
 .by_cases hb:b=a
  .subst hb;rw[bF] at e;cases e;exact new
  .rw[bw hb] at e
   refine(I.dg b u e).jI (λc v hc q=>k c v ?_ q) (λc q=>tr c _ q) λc xs q=>tr c _ q
   rcases hc with z|z
   .rw[z];exact nt b u e
   .exact nt c _ z
noncomputable def Vk(K:aF)(a:Addr):It:=
 #[λi H=>∃xs x,gH K H a xs/\xs[i]?=some x,λi H y H'=>∃p x,H p=none/\y=.ref p/\H'=upd H p (.tup [.int i,x])/\∀xs,gH K H a xs->xs[i]?=some x,λi H=>∃xs,gH K H a xs/\xs.length<=i]
theorem ER{P:bC}{w:bZ}{K:aF}{es:List Expr}{k:Nat}{pos:Pos}(a e it:Addr)(hne:e≠it):
  Turn P w K (.Tuple es k pos) (Vk K a) [e,it] e (λi h=>(∃old,IsEnum h e it i old)/\h.IsListIter it a i) where
 mem:=by simp
 obj:=λi h st b hb=>by
  obtain⟨⟨old,h1⟩,o,h2,c,d⟩:=st;rcases bg.mp hb with rfl|hb
  .exact#[_,h1,λv z=>by cases z]
  .have e:b=it:=by simpa using hb
   subst e;exact#[o,h2,λv z=>by rw[d] at z;cases z]
 keep:=λi h h' st k=>by
  obtain⟨⟨old,h1⟩,h2⟩:=st;exact#[#[old,k e (by simp) _ h1],h2.at λo q=>k it (by simp) o q]
 item:=by
  intro X hP hw hK hc i pZ s σ H E I hf st hg;subst hP hw hK;obtain⟨xs,x,hq,hx⟩:=hg;obtain⟨its,rv,p,hz⟩:=I.list hq;obtain⟨u,hu,ru⟩:=rv.get hx;obtain⟨⟨old,h1⟩,h2⟩:=st;refine wpAny_pyNext_enum_item h1 h2 p.isList (x:=u) (by simpa using hu) hne λh' ho hit' hT hsz hk=>?_
  refine#[_,rfl,wpAny_letOwnedTupleGo_enum ho λh'' he'' sb=>?_];have hel:e<s.heap.objs.size:=aL h1;have nT:s.heap.objs.size≠e:=kK hel;have k2:∀b v,b∉[e,it]->s.heap.get? b=some v->h''.get? b=some v:=λb v hb q=>by
   simp only[bg,bP,or_false,not_or] at hb;exact(sb.2 b hb.1).trans (hk b v hb.1 hb.2 q)
  have hfr:=I.fresh;refine#[.ref s.heap.objs.size,upd H s.heap.objs.size (.tup [.int i,x]),I.KL (t':=s.toks+1) (h':=h'') k2 hf (ax _) ?_,rfl,#[_,x,hfr,rfl,rfl,λys hy=>by rw[I.ug hy hq];exact hx],?_,λb hb=>?_]
  .exact#[show 2<=sizeLine by decide,[.int i s.toks,u],.cons #[_,rfl] (.cons ru .nil),_,(sb.2 _ nT).trans hT,rfl,_,rfl]
  .exact#[#[u,by simpa using he''],hit'.at λo q=>(sb.2 it hne.symm).trans q]
  .rw[bw]
   .exact(hf b hb).1
   .intro z
    obtain⟨f0,_⟩:=hf b hb;rcases bg.mp hb with q|hb
    .exact nT (z▸q.symm▸rfl)
    .have q:b=it:=by simpa using hb
     obtain⟨o,h3,_⟩:=h2;have:=aL h3;rw[<-q,z] at this;exact dJ _ this
 done:=by
  intro X hP hw hK hc i pZ s σ H E I hf st hg;subst hP hw hK;obtain⟨xs,hq,hx⟩:=hg;obtain⟨its,rv,p,hz⟩:=I.list hq;obtain⟨⟨old,h1⟩,h2⟩:=st;have hl:=rv.length;obtain⟨f0,f1,f2,f3,f4,f5⟩:=hf it (by simp);exact wpAny_pyNext_enum_end (I.ok.hd hc) h1 h2 p.isList (by simp;omega) λh' eb=>#[rfl,I.turned (t':=s.toks) (λb o hb e=>eb b o hb e) f0 f1 f3 f4 f5]
 self:=λ_ _ _ _ _ st h=>by
  obtain⟨⟨old,h1⟩,h2⟩:=st;exact wpAny_pyIter_enum h1 h
noncomputable def Sh(K:aF)(ta:TA):TI:=λσ H R=>ta σ H λvs H1=>∃a,vs=[.ref a]/\(∃xs,gH K H1 a xs)/\R (Vk K a) H1
theorem KN{X:Cx}{a:Expr}{ta:TA}{p pos:Pos}{es:List Expr}{k:Nat}{tp:Pos}(hg:Gl X "enumerate")(hm:X.mg "enumerate"=none)(ha:PA X [a] ta)(hs:bS [a] X.env=[(false,eval a X.env)]:=by rfl):
  PI X (.Tuple es k tp) (.Call (.Name "enumerate" p) [a] [] pos) (Sh X.K ta):=by
 intro pZ s σ H R I h;refine Call_ (pV I hg hm boot_enumerate (jb (fj (ha pos pZ s σ H _ I h) λus s1 h9=>?_) hs rfl));obtain⟨vs,H1,I1,r1,q1⟩:=h9;obtain⟨l,e,⟨xs,hq⟩,q⟩:=q1;subst e;cases r1 with
 |cons r rr=>
  cases rr;cases r;obtain⟨its,rv,p,hz⟩:=I1.list hq;refine call_enumerate_list p.isList λh' hE hI hsz hk=>wpAny_pyIter_enum hE ?_
  have I2:Inv X pZ σ H1 {s1 with heap:=h'}:=I1.kept (t':=s1.toks) λb o e=>hk b o e
  refine#[_,[s1.heap.objs.size+1,s1.heap.objs.size],_,Vk X.K l,H1,rfl,I2,ER l _ _ (Nat.succ_ne_self _),#[#[_,hE],hI],λb hb=>?_,q];rcases bg.mp hb with e|hb
  .subst e
   exact I1.Er (gV _) (I1.dg.fresh (gV _))
  .have e:b=s1.heap.objs.size:=by simpa using hb
   subst e;exact I1.Er (ax _) (I1.dg.fresh (ax _))
end
theorem yS:t9 (.type "list") "keys"=pure none:=by rw[typeLookup_type,builtinLookup_eq_fast];kernel_rfl
theorem oU:plainId "dict.update.loop"=true:=by decide +kernel
theorem xp:entryFor table "dict.update.loop"=some Builtin.«dict.update.loop»:=entryFor_of_tree (by kernel_rfl)
section
variable{prog:bC}{w:bZ}{A:cB}{E:Value->ak->Prop}{s:ak}{a l it D:Addr}{its:Array Value}{n:Nat}{K:Type}[DecidableEq K]{knd:KeyKind prog w K}
theorem ES{Q:Option Value->ak->Prop}(hx:s.heap.get? a=some {cls:=.type "list",data:=.seq its n})(hA:A.handled=none)
  (hq:∀h' t',(∀b o,s.heap.get? b=some o->h'.get? b=some o)->Q none {s with heap:=h',toks:=t'}):wpAny (aR prog w) A (JN (.ref a) "keys") Q E s:=by
 obtain⟨h,g,d,t,os⟩:=s;have hT:(#[h,g,d,t,os]:ak).TypeIs (.ref a) "list":=#[_,hx,rfl]
 have f1:=sub_AttributeError;have f3:=nM.lookup;have f4:=nM.bind (.ref a);have f5:=am_list_getattr_none;unfold JN getAttrBy? getAttrBy
 repeat (any_goals (first|assumption| ((with_reducible show wpAny _ _ (call (qh "list.__getattribute__") _ _) _ _ _);refine call_meets nM (show Shared.TypeIs _ _ "list" from #[_,hx,rfl]) am_entry_list_getattribute (F.args_list_getattribute_2 _ _) (meets_getattribute_miss_list a its n #[] "keys" _ yS (by decide +kernel)) #[hx,hA,λh' tk' e hx'=>?_])|wp_step))
 obtain⟨t',u',he⟩:=hx'.there;show wpAny _ _ (getattributeRaised _ _ _ _ _ _ _) _ _ _;unfold getattributeRaised
 repeat (any_goals (first|assumption|wp_step))
 exact hq _ _ hx'.keeps
theorem rG{h:Heap}{a b:Addr}{o u:Obj}(ha:h.get? a=some o)(hb:h.get? b=some u)(n:o.cls≠u.cls):a≠b:=λe=>by
 rw[e,hb] at ha;cases ha;exact n rfl
theorem ET{R:Result->ak->Prop}{more:List (K×Value)}{res:Value}(hh:A.handled=none)(hz:its.size=more.length):∀(k i:Nat)(s:ak)(acc:List (K×Value)),more.length-i=k->i<=more.length->s.heap.IsListIter it l i->s.heap.IsList l its ->
  (∀(j:Nat)(kk:K)(v:Value),more[j]?=some (kk,v)->∃T key,its[j]?=some (.ref T)/\s.heap.IsTuple T (List.toArray [key,v])/\knd.is kk key=true)->s.heap.DictOf knd D acc->acc.length+k<=sizeLine ->
  (∀h' t',h'.DictOf knd D (merged acc (more.drop i))->(∀b o,b≠D->b≠it->s.heap.get? b=some o->h'.get? b=some o)->R (.ok (.ret res)) {s with heap:=h',toks:=t'}) ->
  nY (aR prog w) A (.builtin "dict.update.loop" #[[aS D,aS it,pP i,res],[]]) R s:=by
 intro k;induction k with
 |zero=>
  intro i s acc hk hi hit hl hp hd hs hR;have hin:i=more.length:=∅
  refine codeAny_builtin xp ?_;rw[Bg oU _]
  show wpAny _ A.in1 (pyNext (.ref it)>>=_) _ _ s
  obtain⟨oi,hoi,ci,di⟩:=id hit;obtain⟨od,es,ep,hod,hcd,r⟩:=id hd;have nd:D≠it:=rG hod hoi (by rw[hcd.1,ci];decide);refine aj (Ji hh hit hl (by rw[hin,<-hz];simp) λh' eb=>?_);refine aj (aK (aK ?_));refine hR h' s.toks ?_ λb o _ hb e=>eb b o hb e
  rw[hin,tB]
  exact#[od,es,ep,eb D od nd hod,hcd,r]
 |succ k ih=>
  intro i s acc hk hi hit hl hp hd hs hR;have lt:i<more.length:=∅
  obtain⟨⟨kk,v⟩,hkv⟩:∃p,more[i]?=some p:=#[_,aa lt]
  obtain⟨T,key,hT,ht,hk'⟩:=hp i kk v hkv;refine codeAny_builtin xp ?_;rw[Bg oU _]
  show wpAny _ A.in1 (pyNext (.ref it)>>=_) _ _ s
  obtain⟨oi,hoi,ci,di⟩:=id hit;obtain⟨od,es,ep,hod,hcd,r⟩:=id hd;obtain⟨ol,hol,cl,dl⟩:=id hl;have nd:D≠it:=rG hod hoi (by rw[hcd.1,ci];decide);have nl:l≠it:=rG hol hoi (by rw[cl,ci];decide);have nld:l≠D:=rG hol hod (by rw[cl,hcd.1];decide);have nt:∀{T:Addr}{vs:Array Value},s.heap.IsTuple T vs->T≠it/\T≠D:=λ⟨ot,hot,ct,_⟩=>#[rG hot hoi (by rw[ct,ci];decide),rG hot hod (by rw[ct,hcd.1];decide)]
  refine aj (FP hit hl hT λh1 hit1 sb1=>?_);obtain⟨ot,hot,ct,nn,dt⟩:=id ht;have hot1:h1.get? T=some ot:=(sb1.2 T (nt ht).1).trans hot;refine aj (gT (aj (wpAny_tryCatch ?_)));unfold Builtin.Dict.pairItems;refine aj (FU (T:="tuple") #[ot,hot1,ct] ?_);rw[if_pos ⋯]
  refine aj (wpAny_seqItems hot1 dt (aK ?_));show wpAny _ A.in1 (holding [key,v] (dictSet D key v)) _ _ _;refine gT (gT (aj (knd.pyHash hk' ?_)));have hd1:h1.DictOf knd D acc:=#[od,es,ep,(sb1.2 D nd).trans hod,hcd,r]
  refine wpAny_dictSetHashed_pairs hk' hd1 (λh2 hd2 sb2=>aK #[plainId_quiet oU _,?_]) ∅;have kp:∀b o,b≠D->b≠it->s.heap.get? b=some o->h2.get? b=some o:=λb o n1 n2 e=>(sb2.2 b n1).trans ((sb1.2 b n2).trans e)
  have e1:(pP ((i:Int)+1))=pP ((i+1:Nat):Int):=by push_cast;rfl
  rw[e1]
  refine ih (i+1) _ (stored acc kk v) ∅ lt (hit1.at λo e=>(sb2.2 it nd.symm).trans e) #[ol,kp l ol nld nl hol,cl,dl] (λj kk v e=>?_) hd2 ?_ λh' t' hd' kp'=>?_
  .obtain⟨T,key,q1,⟨ot,hot,r⟩,q3⟩:=hp j kk v e
   exact#[T,key,q1,#[ot,kp T ot (nt #[ot,hot,r]).2 (nt #[ot,hot,r]).1 hot,r],q3]
  .have:(stored acc kk v).length<=acc.length+1:=by
    unfold stored;split
    .rw[ar];omega
    .rw[aB];simp
   omega
  .refine hR h' t' ?_ λb o n1 n2 e=>kp' b o n1 n2 (kp b o n1 n2 e)
   rw[eH lt]
   have:more[i]=(kk,v):=by rw[aa lt] at hkv;exact aG hkv
   rw[this]
   exact hd'
theorem B4{more:List (K×Value)}{Q:Value->ak->Prop}(hh:A.handled=none)(hl:s.heap.get? l=some {cls:=.type "list",data:=.seq its n})(hz:its.size=more.length)(hm:more.length<=sizeLine)
  (hp:∀(j:Nat)(kk:K)(v:Value),more[j]?=some (kk,v)->∃T key,its[j]?=some (.ref T)/\s.heap.IsTuple T (List.toArray [key,v])/\knd.is kk key=true)
  (h:∀h' t',h'.DictOf knd s.heap.objs.size (merged [] more)->(∀b o,s.heap.get? b=some o->h'.get? b=some o)->Q (.ref s.heap.objs.size) {s with heap:=h',toks:=t'}):
  wpAny (aR prog w) A (call (.type "dict") [.ref l]) Q E s:=by
 refine callType_codes (Q₁:=λobj s₁=>obj=.ref s.heap.objs.size/\s₁={s with heap:=s.heap.push {cls:=.type "dict",data:=.dict #[]} }) F.kt_called_dict (F.kt_typeCall_dict_1 _) F.entry_dict_init (kt_code_dict_new _ #[rfl,rfl]) ?_;rintro obj s₁ ⟨rfl,rfl⟩;have hnew:(s.heap.push {cls:=.type "dict",data:=.dict #[]}).DictOf knd s.heap.objs.size []:=Heap.DictOf.new s.heap;have kp:∀b o,s.heap.get? b=some o->(s.heap.push {cls:=.type "dict",data:=.dict #[]}).get? b=some o:=λb o e=>aA _ e
 generalize s.heap.push {cls:=.type "dict",data:=.dict #[]}= h1 at hnew kp;refine#[hnew.typeIs,F.args_dict_init_2 _ _,?_];unfold Builtin.«dict.__init__»;refine aj ?_;unfold Builtin.Dict.selfAndRest;refine aj (wpAny_notOrdered_dict hnew.typeIs ?_);show wpAny _ _ (pure (s.heap.objs.size,[aS l])) _ _ _;refine aK ?_;show wpAny _ _ (Builtin.Dict.updateFrom "dict.__init__" s.heap.objs.size (.ref l) [] .none) _ _ _;unfold Builtin.Dict.updateFrom;refine aj (FU (T:="list") #[_,kp l _ hl,rfl] ?_);rw[if_pos ⋯]
 refine aj (ES (kp l _ hl) hh λh2 t2 k2=>?_);rw[if_pos (by rfl)]
 refine aj (wpAny_rule ?_);have hl2:=k2 l _ (kp l _ hl);refine aj (n6 #[_,hl2,rfl,_,rfl] (aK #[plainId_quiet oU _,?_]));have nD:s.heap.objs.size<h2.objs.size:=by
  obtain⟨od,_,_,hod,_⟩:=hnew;exact aL (k2 _ _ hod)
 have kp3:∀b o,s.heap.get? b=some o->(h2.push {cls:=.type "list_iterator",data:=.fields (List.toArray [.ref l,.int 0 0])}).get? b=some o:=λb o e=>aA _ (k2 b o (kp b o e))
 refine ET (A:=A.in1) (knd:=knd) (its:=its) (l:=l) hh hz more.length 0 _ [] ∅ (dw _) ?_ ?_ (λj kk v e=>?_) ?_ (by simpa using hm) λh' t' hd' kp'=>?_
 .exact#[_,bz _ rfl,rfl,rfl]
 .exact#[{cls:=.type "list",data:=.seq its n},aA _ hl2,rfl,n,rfl]
 .obtain⟨T,key,q1,⟨ot,hot,r⟩,q3⟩:=hp j kk v e
  exact#[T,key,q1,#[ot,kp3 T ot hot,r],q3]
 .obtain⟨od,es,ep,hod,r⟩:=hnew
  exact#[od,es,ep,aA _ (k2 _ _ hod),r]
 .refine#[rfl,h h' t' hd' λb o e=>kp' b o ?_ ?_ (kp3 b o e)]
  .exact b7 (aL e)
  .exact b7 (aL (k2 b o (kp b o e)))
end
section
variable{X:Cx}{pZ:List (Addr×Obj)}{σ:St}{H:Hp}{s:ak}
abbrev Ow(H:Hp)(v:V)(kv:Key×V):Prop:=∃T,v=.ref T/\H T=some (.tup [kV kv.1,kv.2])
theorem KO(I:Inv X pZ σ H s):∀{vs:List V}{kvs:List (Key×V)}{its:List Value},Paired (Ow H) vs kvs->Vals vs its->∃more,KV kvs more/\its.length=more.length /\
  ∀(j:Nat)(kk:Key)(v:Value),more[j]?=some (kk,v)->∃T key,its[j]?=some (.ref T)/\s.heap.IsTuple T (List.toArray [key,v])/\(eQ X.prog X.w).is kk key=true
 := by
 intro vs kvs its hp hv;induction hp generalizing its with
 |nil=>cases hv;exact#[[],.nil,rfl,λj kk v e=>by cases e]
 |cons ha hr ih=>
  rename_i b _ _;obtain⟨k,x⟩:=b;obtain⟨T,e,hT⟩:=ha;cases hv with|cons r rr=>?_
  subst e;cases r;obtain⟨more,h1,h2,h3⟩:=ih rr;obtain⟨z,its',rv,p⟩:=I.dg T _ hT;cases rv with
  |cons r1 rr1=>
   rename_i ku us';cases rr1 with
   |cons r2 rr2=>
    rename_i xu _;cases rr2;refine#[(k,xu)::more,.cons #[rfl,r2] h1,by simp[h2],λj kk v e=>?_];cases j with
    |zero=>
     simp at e;obtain⟨rfl,rfl⟩:=e;exact#[T,ku,rfl,p,GH r1]
    |succ j=>simpa using h3 j kk v (by simpa using e)
theorem B5(hA:X.A.handled=none):iP X (.type "dict") (λxs H Q=>∃a vs kvs,xs=[.ref a]/\H a=some (.lst vs)/\Paired (Ow H) vs kvs/\(kvs.map (·.1)).Nodup/\∀p,H p=none->Q (.ref p) (upd H p (.dK kvs))):=by
 intro pZ s σ H xs us Q I rv h;obtain⟨a,vs,kvs,rfl,hH,hp,hn,q⟩:=h;obtain⟨u,rfl,ru⟩:=rv.one;cases ru;obtain⟨z,its,n,r,hl,e⟩:=I.ED hH;obtain⟨more,h1,h2,h3⟩:=KO I hp r;have hk:=h1.keys;refine B4 (knd:=eQ X.prog X.w) (more:=more) hA e (by simpa using h2) (by rw[<-h2,<-hl];exact z) (λj kk v ej=>?_) λh' t' hd kp=>?_
 .obtain⟨T,key,q1,q2,q3⟩:=h3 j kk v ej
  exact#[T,key,by simpa using q1,q2,q3]
 .rw[merged_nil_of_nodup more (by rw[<-hk];exact hn)] at hd
  have hf:=I.fresh;refine#[.ref s.heap.objs.size,_,I.laid (t':=t') kp (ax _) (Oa (kvs:=kvs) (by rw[h1.length,<-h2,<-hl];exact z) ?_ h1 hd),rfl,q _ hf];have:=I.big;exact beq_eq_false_iff_ne.mpr (kK this)
end
section
variable{X:Cx}
theorem yT{i j:Int}(hi:0<=i)(hj:0<=j):Builtin.bitAnd i j=((i.toNat&&&j.toNat:Nat):Int):=by
 unfold Builtin.bitAnd;rw[decide_eq_true hi,decide_eq_true hj]
theorem B6{i j:Int}(hi:0<=i)(hj:0<=j):Builtin.bitOr i j=((i.toNat|||j.toNat:Nat):Int):=by
 unfold Builtin.bitOr Builtin.bitAnd Builtin.bitNot;rw[decide_eq_false ∅,decide_eq_false ∅,show -(-i-1)-1=i by omega,show -(-j-1)-1=j by omega]
 dsimp only;omega
theorem EV:FJ X "int.bit_length" (λx xs H Q=>∃i:Nat,x=.int i/\xs=[]/\Q (.int (if i=0 then 0 else i.log2+1:Nat)) H):=by
 intro pZ s σ H x xs v us Q I rx rs h;obtain⟨i,rfl,rfl,q⟩:=h;obtain⟨t,rfl⟩:=rx;cases rs;refine call_int_bit_length #[.int _,H,I.tok _,#[_,rfl],?_];have:Builtin.Int.intBits i=if i=0 then 0 else i.log2+1:=by
  unfold Builtin.Int.intBits;by_cases e:i=0
  .subst e;rfl
  .rw[if_neg e,if_neg (by simpa using e)];rfl
 rw[this]
 exact q
theorem Hg:gw X (cA .Add) (λx y H Q=>∃a b ys,x=.ref a/\y=.ref b/\lU X.K H a []/\lU X.K H b ys/\Q (.ref b) H):=by
 intro pZ s σ H x y v u Q I rx ry h;obtain⟨a,b,ys,rfl,rfl,ha,hb,q⟩:=h;cases rx;cases ry;obtain⟨its,r1,p1,_⟩:=I.tuple ha;obtain⟨its2,r2,p2,_⟩:=I.tuple hb;cases r1;obtain⟨⟨cls,dd,data,sl⟩,ho,hc,n,hd⟩:=id p1;obtain⟨⟨cls2,dd2,data2,sl2⟩,ho2,hc2,n2,hd2⟩:=id p2;simp only at hc hd hc2 hd2;subst hc hd hc2 hd2;exact FT #[_,ho,rfl] #[_,ho2,rfl] yf D9 mP md (lS _ _)
  (tuple_addW0 a b _ _ n n2 dd dd2 sl sl2 (by simp)) #[ho,ho2,#[.ref b,H,I,rfl,q]]
theorem Hh(hu:X.A.units+200<kg):gw X (bD .NotEq) (λx y H Q=>∃a b xs,x=.ref a/\y=.ref b/\gH X.K H a xs/\gH X.K H b []/\Q (.bl (!xs.isEmpty)) H):=by
 intro pZ s σ H x y v u Q I rx ry h;obtain⟨a,b,xs,rfl,rfl,ha,hb,q⟩:=h;cases rx;cases ry;obtain⟨its,r1,p1,_⟩:=I.list ha;obtain⟨its2,r2,p2,_⟩:=I.list hb;cases r2;cases r1 with
 |nil=>exact SeqAt.RcNeAt.lists (e:=λ_=>true) p1.isList p2.isList rfl ∅ (λj h1 _=>by simp at h1) _ _ _ _ #[.bl _,H,I,rfl,by simpa using q]
 |cons r rr=>exact SeqAt.RcNeAt.lists_lengths p1.isList p2.isList (by simp) ∅ _ _ _ _ #[.bl _,H,I,rfl,by simpa using q]
theorem Hi(hu:X.A.units+200<kg):gw X (bD .Eq) (λx y H Q=>∃a b xs,x=.ref a/\y=.ref b/\gH X.K H a xs/\gH X.K H b []/\Q (.bl xs.isEmpty) H):=by
 intro pZ s σ H x y v u Q I rx ry h;obtain⟨a,b,xs,rfl,rfl,ha,hb,q⟩:=h;cases rx;cases ry;obtain⟨its,r1,p1,_⟩:=I.list ha;obtain⟨its2,r2,p2,_⟩:=I.list hb;cases r2;cases r1 with
 |nil=>exact Bf (e:=λ_=>true) p1.isList p2.isList rfl ∅ (λj h1 _=>by simp at h1) _ _ _ _ #[.bl _,H,I,rfl,by simpa using q]
 |cons r rr=>exact tw p1.isList p2.isList (by simp) ∅ _ _ _ _ #[.bl _,H,I,rfl,by simpa using q]
theorem B7(hc:X.calm=true):iP X (.builtin "any") (λxs H Q=>∃p,∃bs:List Bool,xs=[.ref p]/\gH X.K H p (bs.map V.bl)/\Q (.bl (bs.any id)) H):=by
 intro pZ s σ H xs us Q I r h;obtain⟨p,bs,rfl,hl,q⟩:=h;obtain⟨u,rfl,ru⟩:=vals1 r;cases ru;obtain⟨its,r,pl,_⟩:=I.list hl;have hl:=pl.isList;have hits:=uK r;have hlt:p<s.heap.objs.size:=by obtain⟨_,e,_⟩:=hl;exact aL e
 refine call_any_walk (n6 hl ?_);refine#[s.heap.objs.size,[s.heap.objs.size,p],[s.heap.objs.size],its.toArray.size,_,_,λi=>(bs[i]?).getD false,rfl,Walks.list (A:=X.A.in1) (I.ok.hd hc) _ p (b7 hlt) its.toArray,
  #[#[_,bz _ rfl,rfl,rfl],hl.push _],λi v s' Q' E' hP hQ=>?_,λh' tk hk=>?_]
 .have hP:its[i]?=some v:=by simpa using hP
  rw[hits,au] at hP;cases e:bs[i]? with
  |none=>rw[e] at hP;cases hP
  |some b=>
   rw[e] at hP;have hQ:Q' ((bs[i]?).getD false) s':=hQ;rw[e] at hQ;cases hP;exact fm hQ
 .have e:((cy its.toArray.size).any λi=>(bs[i]?).getD false)=bs.any id:=by
   rw[aC,hits,ar];exact LSm.range_any bs
  rw[e]
  exact#[.bl _,H,I.kept (LSm.kept_iter hk),rfl,q]
theorem EW(hu:X.A.units+200<kg):gw X (bD .NotIn) (λx y H Q=>∃p xs ds d,y=.ref p/\gH X.K H p xs/\hU X.K H xs ds/\fJ X.K H x d/\Dv.iD ds<=100/\Q (.bl (!ds.any λe=>mM e d)) H):=by
 intro pZ s σ H x y v u Q I rx ry h;obtain⟨p,xs,ds,d,rfl,hq,hd,hx,hz,q⟩:=h;cases ry;obtain⟨its,r,pl,_⟩:=I.list hq
 classical
 have l1:=hd.len;have m1:=r.length
 let e:Value->Bool:=λu=>decide (∃(j:Nat)(d':Dv),its[j]?=some u/\ds[j]?=some d'/\mM d' d=true)
 have key:∀(j:Nat)(w:Value)(d':Dv),its[j]?=some w->ds[j]?=some d'->e w=mM d' d:=λj w d' h1 h2=>by
  have f:∃z,xs[j]?=some z:=#[_,aa (by have:=(ae.mp h2).1;omega)]
  obtain⟨z,hz'⟩:=f;obtain⟨w',g1,q1⟩:=r.get hz';rw[h1] at g1;cases g1;cases q:mM d' d with
  |true=>exact decide_eq_true #[j,d',h1,h2,q]
  |false=>
   refine decide_eq_false ?_;rintro⟨j2,d2,k1,k2,k3⟩;have f2:∃z,xs[j2]?=some z:=#[_,aa (by have:=(ae.mp k2).1;omega)]
   obtain⟨z2,hz2⟩:=f2;obtain⟨w2,g2,q2⟩:=r.get hz2;rw[k1] at g2;cases g2;have ez:=RelV.inj q1 q2;subst ez;have:=fJ.inj I (hd.get hz' h2) (hd.get hz2 k2);rw[this,k3] at q;cases q
 refine Ea e pl.isList (λw hw=>?_) #[.bl _,H,I,rfl,?_]
 .obtain⟨j,hj⟩:=bA (show w∈its by simpa using hw)
  have hjl:=(ae.mp hj).1;have e1:ds[j]?=some (ds[j]'∅):=aa _;have e2:xs[j]?=some (xs[j]'∅):=aa _;obtain⟨w',g1,q1⟩:=r.get e2;rw[hj] at g1;cases g1;rw[key j w _ hj e1]
  exact B0 I 100 (aT (mw e1) hz) (by show X.A.units+1+100<kg;omega) (hd.get e2 e1) hx q1 rx
 .have:its.toArray.any e=ds.any λe=>mM e d:=by
   rw[List.any_toArray,cY,hJ,hJ]
   constructor
   .rintro⟨w,hw,h1⟩
    obtain⟨j,d',_,k2,k3⟩:=of_decide_eq_true h1;exact#[d',aw k2,k3]
   .rintro⟨d',hd',h1⟩
    obtain⟨j,hj⟩:=bA hd';have hjl:=(ae.mp hj).1;have e1:its[j]?=some (its[j]'∅):=aa _;exact#[_,aw e1,by rw[key j _ d' e1 hj];exact h1]
  rw[this]
  exact q
end
end L2
namespace PL
section
variable{S:bJ}{Q:KU}{q:Bool->Prop}{r:U->Prop}{i j:Int}{a b:List Nat}{x y:U}{us vs:List U}{m n:Nat}
theorem Hj:jL .add (.int i) (.int j) S Q=Q (.int (i+j)) S:=rfl
theorem Hk:jL .add (.str a) (.str b) S Q=(a.length+b.length<=1000000/\Q (.str (a++b)) S):=rfl
theorem Oy:jL .add (.tup us) (.tup vs) S Q=(us.length+vs.length<=1000000/\Q (.tup (us++vs)) S):=rfl
theorem Wn:jL .add (.loc m) (.loc n) S Q=getL S[m]? λa=>getL S[n]? λb=>a.length+b.length<=1000000/\Q (.loc S.length) (S++[.lst (a++b)]):=rfl
theorem Oz:jL .sub (.int i) (.int j) S Q=Q (.int (i-j)) S:=rfl
theorem Wo:jL .mul (.int i) (.int j) S Q=(((-(2^64)<i/\i<2^64)\/(-(2^64)<j/\j<2^64))/\Q (.int (i*j)) S):=rfl
theorem Wq:jL .mul (.str a) (.int j) S Q=(∃c,a=[c]/\0<=j/\j<=1000/\Q (.str (dq j.toNat c)) S):=rfl
theorem Vl:jL .fdiv (.int i) (.int j) S Q=((0<j/\j<1073741824)/\Q (.int (i/j)) S):=rfl
theorem Wr:jL .mod (.int i) (.int j) S Q=(0<j/\Q (.int (i%j)) S):=rfl
theorem KP:jL .band (.int i) (.int j) S Q=((0<=i/\0<=j)/\Q (.int ((i.toNat&&&j.toNat:Nat):Int)) S):=rfl
theorem OA:jL .bor (.int i) (.int j) S Q=((0<=i/\0<=j)/\Q (.int ((i.toNat|||j.toNat:Nat):Int)) S):=rfl
theorem OB:jL .shl (.int i) (.int j) S Q=((0<=i/\i<1000/\0<=j/\j<=1000)/\Q (.int (i*2^j.toNat)) S):=rfl
theorem OC:jL .shr (.int i) (.int j) S Q=((0<=i/\0<=j)/\Q (.int (i/2^j.toNat)) S):=rfl
theorem Si:sZ o (.int i) y S Q=jL o (.int i) y S Q:=rfl
theorem Sj:sZ o (.str a) y S Q=jL o (.str a) y S Q:=rfl
theorem XS:iR .eq (.int i) y S q=tI (.int i) y q:=rfl
theorem MM:iR .eq (.str a) y S q=tI (.str a) y q:=rfl
theorem XT:iR .eq .bK y S q=tI .bK y q:=rfl
theorem XU:iR .eq (.tup us) y S q=(tI (.tup us) y q\/KH us y S q):=rfl
theorem XW:iR .eq (.loc m) (.loc n) S q=getL S[m]? λus=>S[n]?=some (.lst [])/\q us.isEmpty:=rfl
theorem XX:iR .ne (.int i) y S q=(Al (.int i) y=true/\tI (.int i) y λb=>q !b):=rfl
theorem XY:iR .ne (.str a) y S q=(Al (.str a) y=true/\tI (.str a) y λb=>q !b):=rfl
theorem XZ:iR .ne .bK y S q=(Al .bK y=true/\tI .bK y λb=>q !b):=rfl
theorem X0:iR .ne (.tup us) y S q=(Ot (.tup us) y q\/KH us y S λb=>q !b):=rfl
theorem X1:iR .ne (.loc m) (.loc n) S q=getL S[m]? λus=>S[n]?=some (.lst [])/\q (!us.isEmpty):=rfl
theorem Y1:(Al (.int i) y=true)=True:=eq_true rfl
theorem Y2:(Al (.str a) y=true)=True:=eq_true rfl
theorem Y3:(Al .bK y=true)=True:=eq_true rfl
theorem Y4:iR .lt (.int i) (.int j) S q=q (decide (i<j)):=rfl
theorem Y5:iR .le (.int i) (.int j) S q=q (decide (i<=j)):=rfl
theorem Y6:iR .gt (.int i) (.int j) S q=q (decide (j<i)):=rfl
theorem Y7:iR .ge (.int i) (.int j) S q=q (decide (j<=i)):=rfl
theorem OD:∀{b:List Nat},iE [c] b=b.contains c
 |[]=>rfl
 |x::xs=>by
  rw[iE,OD (b:=xs),kY]
  simp[List.isPrefixOf]
theorem KQ:iR .isin (.str [k]) (.str b) S q=q (b.contains k):=by
 rw[<-OD];rfl
theorem KR:iR .nF (.str [k]) (.str b) S q=q !(b.contains k):=by
 rw[<-OD];rfl
theorem Ap:iR .isin (.str a) (.tab kvs) S q=q (kvs.lookup a).isSome:=rfl
theorem OE:iR .isin x (.tup us) S q=qz x us q:=rfl
theorem OF:iR .nF x (.tup us) S q=qz x us λb=>q !b:=rfl
theorem OG:iR .isin x (.loc n) S q=getL S[n]? λus=>qz x us q:=rfl
theorem Ws:iR .nF (.str a) (.loc n) S q=getL S[n]? λus=>qz (.str a) us λb=>q !b:=rfl
theorem KS:iR .nF (.tup vs) (.loc n) S q=getL S[n]? λus=>(jJ vs=true/\jJ us=true/\jK us<=100)/\q !(us.any λy=>oR y (.tup vs)):=rfl
theorem Wt:iR .KA x .bK S q=q (uH x):=rfl
theorem OH:iR .Ah x .bK S q=q (!uH x):=rfl
theorem ew(h1:Hb x y=true)(h2:vX x=true)(h3:vX y=true)(h4:dep x<=100)(h:oR x y=v):tI x y q=q v:=by
 rw[<-h];exact propext #[λz=>z.2,λz=>#[#[h1,h2,h3,h4],z]]
theorem Y8:tI (.int i) (.int j) q=q (i==j):=ew rfl rfl rfl (dw _) rfl
theorem Sk:tI (.str a) (.str b) q=q (a==b):=ew rfl rfl rfl (dw _) rfl
theorem Y9:tI .bK .bK q=q true:=ew rfl rfl rfl (dw _) rfl
theorem Zc{a b:Bool}:tI (.bl a) (.bl b) q=q (a==b):=ew rfl rfl rfl (dw _) rfl
theorem Zd:tI (.int i) .bK q=q false:=ew rfl rfl rfl (dw _) rfl
theorem Ze:tI .bK (.int i) q=q false:=ew rfl rfl rfl (dw _) rfl
theorem Zf:tI (.int i) (.str a) q=q false:=ew rfl rfl rfl (dw _) rfl
theorem Zg:tI (.str a) (.int i) q=q false:=ew rfl rfl rfl (dw _) rfl
theorem Sl(l:List (List Nat)):(l.map U.str).all flat=true:=by simp[flat]
theorem anyS{l:List (List Nat)}:qz (.str a) (l.map .str) q=q (l.any (·==a)):=by
 refine propext #[λz=>?_,λz=>#[#[rfl,Sl l],?_]]
 .have:=z.2;rw[si] at this;exact this
 .rw[si];exact z
theorem Sn:Jy (.str a) (.int i) S r=(a.length<=1000000/\opt (tJ a i) λc=>r (.str [c])):=rfl
theorem Dq:Jy (.tup us) (.int i) S r=(us.length<=1000000/\opt (tJ us i) r):=rfl
theorem X2:Jy (.pF ns) (.int i) S r=(ns.length<=1000000/\opt (tJ ns i) λn=>r (.int n)):=rfl
theorem X3:Jy (.loc n) (.int i) S r=getL S[n]? λus=>opt (tJ us i) r:=rfl
theorem yM:Jy (.tab kvs) (.str a) S r=opt (kvs.lookup a) λv=>r (.str v):=rfl
theorem d8{f:String}:jB (.loc n) f S r=mz S[n]? λ_ fs=>opt (fs.lookup f) r:=rfl
theorem X4:jB (.exc c us) f S r=opt (((cL c).zip us).lookup f) r:=rfl
theorem X5:p9 S (.str a)=some a.length:=rfl
theorem X6:p9 S (.tup us)=some us.length:=rfl
theorem X7:p9 S (.pF ns)=some ns.length:=rfl
theorem uL(h:S[n]?=some (.lst us)):p9 S (.loc n)=some us.length:=by simp only[p9,h]
theorem So:rE S (.bl c)=some c:=rfl
theorem X8:rE S .bK=some false:=rfl
theorem X9:rE S (.int i)=some (i !=0):=rfl
theorem Ya:rE S (.pF ns)=some (ns.length !=0):=rfl
theorem Aq(h:S[n]?=some (.lst us)):rE S (.loc n)=some (us.length !=0):=by simp only[rE,uL h,jO]
theorem Yb:tf .len [x] S Q=opt (p9 S x) λn=>n<=1000000/\Q (.int n) S:=rfl
theorem Vm:tf .tuple [.loc n] S Q=getL S[n]? λus=>Q (.tup us) S:=rfl
theorem Wu:tf .list [.loc n] S Q=getL S[n]? λus=>Q (.loc S.length) (S++[.lst us]):=rfl
theorem Vn:tf .list [.tup us] S Q=(us.length<=1000000/\Q (.loc S.length) (S++[.lst us])):=rfl
theorem Yc:tf .all [.loc n] S Q=(∃bs:List Bool,S[n]?=some (.lst (bs.map .bl))/\Q (.bl (bs.all id)) S):=rfl
theorem Sq:tf .any [.loc n] S Q=(∃bs:List Bool,S[n]?=some (.lst (bs.map .bl))/\Q (.bl (bs.any id)) S):=rfl
theorem Wv:tf .dict [.loc n] S Q=(∃ps:List (List Nat×U),S[n]?=some (.lst (ps.map λp=>.tup [.str p.1,p.2]))/\(ps.map (·.1)).Nodup/\Q (.loc S.length) (S++[.vJ (ps.map λp=>(.str p.1,p.2))])):=rfl
theorem Ww:vY .mW (.int i) [] S Q=(0<=i/\Q (.int (sE i.toNat:Nat)) S):=rfl
theorem Yd:vY .get (.loc n) [.str a,x] S Q=getD S[n]? λkvs=>∃ps:List (List Nat×U),kvs=(ps.map λp=>(U.str p.1,p.2))/\Q ((ps.lookup a).getD x) S:=rfl
theorem Vo:vZ .mW (.int i) S=True:=rfl
theorem Wx:vZ .get (.loc n) S=getD S[n]? λ_=>True:=rfl
theorem Dh:vZ .join (.str a) S=True:=rfl
theorem Af:vZ .index (.str a) S=True:=rfl
theorem xn:vZ .startswith (.str a) S=True:=rfl
theorem rq:vZ .append (.loc n) S=getL S[n]? λ_=>True:=rfl
theorem wX:vZ .extend (.loc n) S=getL S[n]? λ_=>True:=rfl
theorem Wy:vY .join (.str a) [.loc n] S Q=(∃ts:List (List Nat),S[n]?=some (.lst (ts.map .str))/\(ts.map cQ).sum+ts.length*a.length<=1000000/\Q (.str (k9 a ts)) S):=rfl
theorem Vp:vY .index (.str a) [.str b] S Q=(∃c,b=[c]/\c∈a/\Q (.int (a.idxOf c:Nat)) S):=rfl
theorem Sr:vY .startswith (.str a) [.str b] S Q=Q (.bl (b.isPrefixOf a)) S:=rfl
theorem Ss:vY .append (.loc n) [x] S Q=getL S[n]? λus=>us.length<1000000/\Q .bK (S.set n (.lst (us++[x]))):=rfl
theorem Su:vY .extend (.loc n) [.loc m] S Q=getL S[n]? λus=>getL S[m]? λws=>us.length+ws.length<=1000000/\Q .bK (S.set n (.lst (us++ws))):=rfl
theorem ZC:Hd (.str a) S R=R (a.map λc=>.str [c]) (λ_=>True):=rfl
theorem Zh:Hd (.tup us) S R=(us.length<=1000000/\R us (λ_=>True)):=rfl
theorem Zi:Hd (.loc n) S R=getL S[n]? λus=>R us (λS'=>S'[n]?=some (.lst us)):=rfl
theorem bind_f:pJ false x caps k=k (some x::caps):=rfl
theorem Wz:pJ true x caps k=MK x λa b=>k (some a::some b::caps):=rfl
theorem ir{α:Type}{xs:List α}{k:Nat}:tJ xs (k:Int)=xs[k]?:=by
 unfold tJ Oq;rw[if_pos ∅]
 split
 .simp
 .rename_i h
  rw[oM ∅]
  rfl
theorem jC{α:Type}{x:α}{xs:List α}:tJ (x::xs) 0=some x:=by
 have:=ir (xs:=x::xs) (k:=0);simpa using this
theorem iF{α:Type}{x y:α}{xs:List α}:tJ (x::y::xs) 1=some y:=by
 have:=ir (xs:=x::y::xs) (k:=1);simpa using this
end
theorem uM{α:Type}{o:Option α}{Q Q':α->Prop}(h:∀a,Q a->Q' a)(w:opt o Q):opt o Q':=by
 cases o with
 |none=>exact w
 |some a=>exact h a w
theorem mD{o:Option SO}{Q Q':List U->Prop}(h:∀a,Q a->Q' a)(w:getL o Q):getL o Q':=by
 obtain⟨a,e,z⟩:=cF.mp w;exact cF.mpr #[a,e,h a z]
theorem uO(h:∀b,Q b->Q' b)(w:tI x y Q):tI x y Q':=#[w.1,h _ w.2]
theorem oV(h:∀b,Q b->Q' b)(w:qz x us Q):qz x us Q':=#[w.1,h _ w.2]
theorem qA{x:U}{Q Q':Int->Prop}(h:∀b,Q b->Q' b)(w:k7 x Q):k7 x Q':=by
 cases x<;>first|exact h _ w|exact w
theorem uP{x:U}{Q Q':List Nat->Prop}(h:∀b,Q b->Q' b)(w:ML x Q):ML x Q':=by
 cases x<;>first|exact h _ w|exact w
theorem Ar(h:Q->Q')(w:Vi x Q):Vi x Q':=by
 cases x<;>first|exact h w|exact w
theorem uQ(h:∀b,Q b->Q' b)(w:Ot x y Q):Ot x y Q':=#[w.1,uO (λb z=>h _ z) w.2]
theorem Hl(h:∀b,Q b->Q' b)(w:Wm x us Q):Wm x us Q':=by
 cases x<;>first|exact#[w.1,h _ w.2]|exact oV (λb z=>h _ z) w
theorem Hm(h:∀b,Q b->Q' b)(w:zK x Q):zK x Q':=by
 cases x<;>first|exact h _ w|exact w
theorem As(h:∀b,Q b->Q' b)(w:KH us y S Q):KH us y S Q':=by
 obtain⟨a,i,b,j,o,o',e1,e2,l1,l2,w⟩:=w;exact#[a,i,b,j,o,o',e1,e2,l1,l2,h _ w]
theorem xq(h:∀b,Q b->Q' b)(w:iR o x y S Q):iR o x y S Q':=by
 cases o with
 |eq=>cases x<;>first|exact uO h w|exact w.imp (uO h) (As h)|exact Hm (λ_ z=>mD (λ_ z=>#[z.1,h _ z.2]) z) w
 |ne=>
  cases x with
  |tup us=>exact w.imp (uQ h) (As λb z=>h _ z)
  |loc m=>cases y<;>first|exact mD (λ_ z=>#[z.1,h _ z.2]) w|exact uQ h w
  |_=>exact uQ h w
 |isin=>cases y<;>first|exact uP (λ_ z=>h _ z) w|exact oV h w|exact mD (λ_ z=>oV h z) w|exact w
 |nF=>cases y<;>first|exact uP (λ_ z=>h _ z) w|exact oV (λb z=>h _ z) w|exact mD (λ_ z=>Hl h z) w|exact w
 |KA=>exact Ar (h _) w
 |Ah=>exact Ar (h _) w
 |_=>exact qA (λ_ z=>qA (λ_ z=>h _ z) z) w
theorem Hn{x y:U}{S:bJ}{Q Q':U->Prop}(h:∀b,Q b->Q' b)(w:Jy x y S Q):Jy x y S Q':=by
 cases x<;>first|exact qA (λ_ z=>#[z.1,uM (λ_ z=>h _ z) z.2]) w|exact qA (λ_ z=>mD (λ_ z=>uM (λ_ z=>h _ z) z) z) w|exact uP (λ_ z=>uM (λ_ z=>h _ z) z) w|exact w
noncomputable def Keeps(Γ:bY)(b:dj)(k:Nat)(sp:Spec):Prop:=∀us S Q E,sp us S Q E->rF Γ b #[λ_ S1=>Q .bK S1,Q,λ_=>E] (us.map some++dq k none) S
section
variable{Γ:bY}{D:Ends}{env:Env}{S:bJ}{i:Nat}{e o:Ex}{c:Tx}{a b ss:dj}{s:Sm}{f:String}
noncomputable def Rest(Γ:bY)(ss:dj)(D:Ends)(env:Env)(S:bJ):Prop:=rF Γ ss D env S
theorem Rest.go(h:rF Γ ss D env S):Rest Γ ss D env S:=h
theorem Ye:rF Γ .nil D env S=D.nx env S:=rfl
theorem WA:rF Γ (.cons s ss) D env S=WS Γ s #[λen S1=>rF Γ ss D en S1,D.rt,D.ex] env S:=rfl
theorem Yf:WS Γ (.ifs c a b) D env S=WT Γ c env S (λt S1=>if t=true then rF Γ a D env S1 else rF Γ b D env S1) (D.ex env):=rfl
theorem Yg:WS Γ (.Ai c b) D env S=∃n,yQ (λen S1 k=>WT Γ c en S1 k (D.ex en)) (λen S1 k=>rF Γ b #[k,D.rt,D.ex] en S1) D.nx n env S:=rfl
theorem Yh:WS Γ (.Oo a f i b) D env S=rF Γ a #[D.nx,D.rt,λen x S1=>(mC x.c).contains f=true/\rF Γ b #[λen2 S2=>D.nx (en2.set i none) S2,D.rt,λ_ _ _=>False] (en.set i (some (.exc x.c x.us))) S1] env S:=rfl
variable{Q:KU}{E:KX}{e1 e2:Ex}{es ks:yN}{P:List U->bJ->Prop}{B:Bool->bJ->Prop}{q m:String}{t1 t2:Tx}{O:Option Int->bJ->Prop}{R:List U->(bJ->Prop)->bJ->Prop}
theorem w_var:WE Γ (.var i) env S Q E=yO env[i]? λu=>Q u S:=rfl
theorem w_lit:WE Γ (.lit u) env S Q E=Q u S:=rfl
theorem Yi{o:FK}:WE Γ (.bin o e1 e2) env S Q E=WE Γ e1 env S (λx S1=>WE Γ e2 env S1 (λy S2=>jL o x y S2 Q) E) E:=rfl
theorem Yj:WE Γ (.neg e1) env S Q E=WE Γ e1 env S (λx S1=>k7 x λi=>Q (.int (-i)) S1) E:=rfl
theorem w_not:WE Γ (.not e1) env S Q E=WE Γ e1 env S (λx S1=>MJ x λb=>Q (.bl !b) S1) E:=rfl
theorem w_and:WE Γ (.and e1 e2) env S Q E=WE Γ e1 env S (λx S1=>MJ x λc=>if c=true then WE Γ e2 env S1 Q E else Q (.bl false) S1) E:=rfl
theorem w_or:WE Γ (.or e1 e2) env S Q E=WE Γ e1 env S (λx S1=>MJ x λc=>if c=true then Q (.bl true) S1 else WE Γ e2 env S1 Q E) E:=rfl
theorem Yk{o:Ol}:WE Γ (.cmp o e1 e2) env S Q E=WE Γ e1 env S (λx S1=>WE Γ e2 env S1 (λy S2=>iR o x y S2 λr=>Q (.bl r) S2) E) E:=rfl
theorem Yl:WE Γ (.xm c e1 e2) env S Q E=WT Γ c env S (λt S1=>if t=true then WE Γ e1 env S1 Q E else WE Γ e2 env S1 Q E) E:=rfl
theorem OI:WE Γ (.call f es) env S Q E=uJ Γ es env S (λus S1=>Γ f us S1 Q E) E:=rfl
theorem w_mk:WE Γ (.mk f q es) env S Q E=uJ Γ es env S (λus S1=>Γ q (.loc S1.length::us) (S1++[.ins f []]) (λv S2=>v=.bK/\Q (.loc S1.length) S2) E) E:=rfl
theorem WB:WE Γ (.cu f m q o es) env S Q E=WE Γ o env S (λx S1=>zK x λn=>mz S1[n]? λc' fs=>(c'=f/\fs.lookup m=none)/\uJ Γ es env S1 (λus S2=>Γ q (x::us) S2 Q E) E) E:=rfl
theorem Sv{b:Sf}:WE Γ (.blt b es) env S Q E=uJ Γ es env S (λus S1=>tf b us S1 Q) E:=rfl
theorem Ym{b:Om}:WE Γ (.kW b o es) env S Q E=WE Γ o env S (λx S1=>vZ b x S1/\uJ Γ es env S1 (λus S2=>vY b x us S2 Q) E) E:=rfl
theorem w_fld:WE Γ (.fld o f) env S Q E=WE Γ o env S (λx S1=>jB x f S1 λv=>Q v S1) E:=rfl
theorem Zj:WE Γ (.ix e1 e2) env S Q E=WE Γ e1 env S (λx S1=>WE Γ e2 env S1 (λy S2=>Jy x y S2 λv=>Q v S2) E) E:=rfl
theorem Zk:WE Γ (.sl o lo hi) env S Q E=WE Γ o env S (λx S1=>WO Γ lo env S1 (λl S2=>WO Γ hi env S2 (λh S3=>EM x l h S3 Q) E) E) E:=rfl
theorem Yn:WE Γ (.tup es) env S Q E=uJ Γ es env S (λus S1=>us.length<=1000000/\Q (.tup us) S1) E:=rfl
theorem Yo:WE Γ (.lst es) env S Q E=uJ Γ es env S (λus S1=>us.length<=1000000/\Q (.loc S1.length) (S1++[.lst us])) E:=rfl
theorem OJ:WE Γ (.comp pr e it c ci) env S Q E=WI Γ it env S (λus g S1=>nG g (λu S2 k=>pJ pr u (lg env ci) λen=>WT Γ c en S2 k λ_ _=>False)
   (λu S2 k=>pJ pr u (lg env ci) λen=>WE Γ e en S2 k λ_ _=>False) (λacc S3=>Q (.loc S3.length) (S3++[.lst acc])) us [] S1) E:=rfl
theorem Yp:WE Γ (.Jw e1 ts) env S Q E=WE Γ e1 env S (λx S1=>opt (ou S1 x ts) λb=>Q (.bl b) S1) E:=rfl
theorem MN:uJ Γ .nil env S P E=P [] S:=rfl
theorem Ho:uJ Γ (.cons e es) env S P E=WE Γ e env S (λx S1=>uJ Γ es env S1 (λxs S2=>P (x::xs) S2) E) E:=rfl
theorem Zl:WO Γ .no env S O E=O none S:=rfl
theorem Zm:WO Γ (.e e1) env S O E=WE Γ e1 env S (λx S1=>k7 x λj=>O (some j) S1) E:=rfl
theorem Sw:WI Γ (.val e) env S R E=WE Γ e env S (λx S1=>Hd x S1 λus g=>R us g S1) E:=rfl
theorem Yq:WI Γ (.range e) env S R E=WE Γ e env S (λx S1=>k7 x λn=>n<=1000000/\-(1000000:Int)<=n/\R ((cy n.toNat).map λk=>.int (k:Nat)) (λ_=>True) S1) E:=rfl
theorem WC:WI Γ (.enum e) env S R E=WE Γ e env S (λx S1=>zK x λn=>getL S1[n]? λus=>R (us.mapIdx λi u=>.tup [.int (i:Nat),u]) (λS'=>S'[n]?=some (.lst us)) S1) E:=rfl
theorem Sx:WT Γ (.cg e) env S B E=WE Γ e env S (λx S1=>opt (rE S1 x) λb=>B b S1) E:=rfl
theorem WD:WT Γ (.not t1) env S B E=WT Γ t1 env S (λb S1=>B (!b) S1) E:=rfl
theorem WG:WT Γ (.and t1 t2) env S B E=WT Γ t1 env S (λc S1=>if c=true then WT Γ t2 env S1 B E else B false S1) E:=rfl
theorem Yr:WT Γ (.or t1 t2) env S B E=WT Γ t1 env S (λc S1=>if c=true then B true S1 else WT Γ t2 env S1 B E) E:=rfl
theorem WH:rF Γ (.cons s ss) D env S=WS Γ s #[λen S1=>Rest Γ ss D en S1,D.rt,D.ex] env S:=rfl
theorem Ys:rF Γ .nil D env S=D.nx env S:=rfl
theorem Yt:WS Γ (.set i e) D env S=WE Γ e env S (λu S1=>D.nx (env.set i (some u)) S1) (D.ex env):=rfl
theorem Yu:WS Γ (.aug i p e) D env S=yO env[i]? λx=>WE Γ e env S (λy S1=>sZ p x y S1 λz S2=>D.nx (env.set i (some z)) S2) (D.ex env):=rfl
theorem Zn:WS Γ (.ex e) D env S=WE Γ e env S (λ_ S1=>D.nx env S1) (D.ex env):=rfl
theorem Yv:WS Γ (.ret e) D env S=WE Γ e env S D.rt (D.ex env):=rfl
theorem Yw:WS Γ (.ifs c a b) D env S=WT Γ c env S (λt S1=>if t=true then Rest Γ a D env S1 else Rest Γ b D env S1) (D.ex env):=rfl
theorem Yx:WS Γ (.Ai c b) D env S=∃n,yQ (λen S1 k=>WT Γ c en S1 k (D.ex en)) (λen S1 k=>Rest Γ b #[k,D.rt,D.ex] en S1) D.nx n env S:=rfl
theorem Yy:WS Γ (.i9 (.name i) it b) D env S=WI Γ it env S (λus g S1=>uI g (λu en S2 k=>Rest Γ b #[k,D.rt,D.ex] (en.set i (some u)) S2) D.nx us env S1) (D.ex env):=rfl
theorem Vq:WS Γ (.raise f as) D env S=uJ Γ as env S (λus S1=>us.length=(cL f).length/\D.ex env #[f,us] S1) (D.ex env):=rfl
theorem Yz:WS Γ (.Oo a f i b) D env S=Rest Γ a #[D.nx,D.rt,λen x S1=>(mC x.c).contains f=true/\Rest Γ b #[λen2 S2=>D.nx (en2.set i none) S2,D.rt,λ_ _ _=>False] (en.set i (some (.exc x.c x.us))) S1] env S:=rfl
theorem WJ:WS Γ (.iQ o f e) D env S=WE Γ e env S (λu S1=>WE Γ o env S1 (λx S2=>zK x λn=>mz S2[n]? λc fs=>fs.length<100/\D.nx env (S2.set n (.ins c (d7 f u fs)))) (D.ex env)) (D.ex env):=rfl
theorem WK:WS Γ (.vW o f p e) D env S=WE Γ o env S (λx S1=>zK x λn=>mz S1[n]? λc fs=>opt (fs.lookup f) λv=>
   WE Γ e env S1 (λy S2=>sZ p v y S2 λz S3=>mz S3[n]? λc' fs'=>c'=c/\fs'.length<100/\D.nx env (S3.set n (.ins c (d7 f z fs')))) (D.ex env)) (D.ex env):=rfl
theorem WL:WS Γ (.EL o j p e) D env S=WE Γ o env S (λx S1=>WE Γ j env S1 (λy S2=>zK x λn=>k7 y λk=>getL S2[n]? λus=>0<=k/\opt (us[k.toNat]?) λv=>
   WE Γ e env S2 (λz S3=>sZ p v z S3 λr S4=>getL S4[n]? λus'=>k.toNat<us'.length/\D.nx env (S4.set n (.lst (us'.set k.toNat r)))) (D.ex env)) (D.ex env)) (D.ex env):=rfl
theorem YA:WS Γ (.i9 (.pair i j) it b) D env S=WI Γ it env S (λus g S1=>uI g (λu en S2 k=>MK u λx y=>Rest Γ b #[k,D.rt,D.ex] ((en.set i (some x)).set j (some y)) S2) D.nx us env S1) (D.ex env):=rfl
theorem ca{sp:Spec}{us:List U}{Q:KU}{E:KX}(h:Γ f=sp)(k:sp us S Q E):Γ f us S Q E:=by rw[h];exact k
end
noncomputable abbrev SG:List Nat:=[10,32,33,34,35,36,38,39,40,41,42,43,44,45,46,47,48,49,50,51,52,53,54,55,56,57,58,59,60,61,62,63,64,65,66,67,68,69,70,71,72,73,74,75,76,77,78,79,80,81,82,83,84,85,86,87,88,89,90,91,92,93,94,95,96,97,98,99,100,101,102,103,104,105,106,107,108,109,110,111,112,113,114,115,116,117,118,119,120,121,122,123,124,125,126]
noncomputable abbrev Zo:List Nat:=[32,33,34,35,36,38,39,40,41,42,43,44,45,46,47,48,49,50,51,52,53,54,55,56,57,58,59,60,61,62,63,64,65,66,67,68,69,70,71,72,73,74,75,76,77,78,79,80,81,82,83,84,85,86,87,88,89,90,91,92,93,94,95,96,97,98,99,100,101,102,103,104,105,106,107,108,109,110,111,112,113,114,115,116,117,118,119,120,121,122,123,124,125,126]
noncomputable def mX:dj:=#v[.ret (.kW .join (.lit (.str [])) #v[.comp false @0 (.val (.lit (.str SG))) (.cg (.cmp .isin @0 @1)) [0]])]
noncomputable def oW:dj:=#v[.ret (.kW .join (.lit (.str [])) #v[.comp false @0 (.val (.lit (.str SG))) (.cg (.cmp .nF @0 @1)) [0]])]
noncomputable def mY:dj:=#v[.ret (.cmp .lt (.kW .index (.lit (.str SG)) #v[@0]) (.kW .index (.lit (.str SG)) #v[@1]))]
noncomputable def oX:dj:=#v[.ret (.sl (.lit (.str SG)) (.e (.kW .index (.lit (.str SG)) #v[@0])) (.e (.bin .add (.kW .index (.lit (.str SG)) #v[@1]) ↑1)))]
noncomputable def yU:dj:=#v[.set 1 (.mk "Reader" "Reader.__init__" #v[@0]),.set 2 (.cu "Reader" "choice" "Reader.choice" @1 .nil),.ifs (.cg (.cmp .lt (.fld @1 "at") (.blt .len #v[@0]))) #v[.raise "BadRule" #v[↑0,.fld @1 "at"]] .nil,.ret @2]
noncomputable def qB:dj:=#v[.ret (.xm (.cg (.cmp .eq (.blt .len #v[@1]) ↑1)) (.ix @1 ↑0) (.tup #v[@0,.blt .tuple #v[@1]]))]
noncomputable def je:dj:=#v[.iQ @0 "text" @1,.iQ @0 "at" ↑0,.iQ @0 "depth" ↑0]
noncomputable def jf:dj:=#v[.ret (.and (.cmp .lt (.fld @0 "at") (.blt .len #v[.fld @0 "text"])) (.cmp .isin (.ix (.fld @0 "text") (.fld @0 "at")) @1))]
noncomputable def iu:dj:=#v[.ifs (.not (.cg (.cu "Reader" "sees" "Reader.sees" @0 #v[@1]))) #v[.raise "BadRule" #v[↑0,.fld @0 "at"]] .nil,.vW @0 "at" .add ↑1,.ret (.ix (.fld @0 "text") (.bin .sub (.fld @0 "at") ↑1))]
noncomputable def iw:dj:=#v[.set 1 (.lst #v[.cu "Reader" "row" "Reader.row" @0 .nil]),.Ai (.cg (.cu "Reader" "sees" "Reader.sees" @0 #v[↑[124]])) #v[.ex (.cu "Reader" "passes" "Reader.passes" @0 #v[↑[124]]),.ex (.kW .append @1 #v[.cu "Reader" "row" "Reader.row" @0 .nil])],.ret (.call "joined" #v[↑[111,114],@1])]
noncomputable def jW:dj:=#v[.set 1 (.lst #v[.cu "Reader" "repeat" "Reader.repeat" @0 .nil]),.Ai (.and (.cg (.cmp .lt (.fld @0 "at") (.blt .len #v[.fld @0 "text"]))) (.not (.cg (.cu "Reader" "sees" "Reader.sees" @0 #v[↑[124,41]])))) #v[.ex (.kW .append @1 #v[.cu "Reader" "repeat" "Reader.repeat" @0 .nil])],.ret (.call "joined" #v[↑[114,111,119],@1])]
noncomputable def iy:dj:=#v[.set 1 (.cu "Reader" "atom" "Reader.atom" @0 .nil),.Ai (.cg (.cu "Reader" "sees" "Reader.sees" @0 #v[↑[42,43,63]])) #v[.set 1 (.tup #v[.ix (.lit (.tab [([42],[115,116,97,114]),([43],[112,108,117,115]),([63],[109,97,121,98,101])])) (.cu "Reader" "passes" "Reader.passes" @0 #v[↑[42,43,63]]),@1])],.ret @1]
noncomputable def jh:dj:=#v[.ifs (.cg (.cu "Reader" "sees" "Reader.sees" @0 #v[↑[40]])) #v[.ret (.cu "Reader" "bracket" "Reader.bracket" @0 .nil)] .nil,.ifs (.cg (.cu "Reader" "sees" "Reader.sees" @0 #v[↑[91]])) #v[.ret (.tup #v[↑[111,110,101],.cu "Reader" "sign_class" "Reader.sign_class" @0 .nil])] .nil,.ifs (.cg (.cu "Reader" "sees" "Reader.sees" @0 #v[↑[46]])) #v[.ex (.cu "Reader" "passes" "Reader.passes" @0 #v[↑[46]]),.ret (.tup #v[↑[111,110,101],.call "all_but" #v[↑[10]]])] .nil,.ret (.tup #v[↑[111,110,101],.cu "Reader" "written_sign" "Reader.written_sign" @0 #v[↑[46,124,40,41,91,93,42,43,63,92]]])]
noncomputable def gJ:dj:=#v[.ifs (.cg (.cmp .eq (.fld @0 "depth") ↑6)) #v[.raise "BadRule" #v[↑0,.fld @0 "at"]] .nil,.ex (.cu "Reader" "passes" "Reader.passes" @0 #v[↑[40]]),.vW @0 "depth" .add ↑1,.set 1 (.cu "Reader" "choice" "Reader.choice" @0 .nil),.ex (.cu "Reader" "passes" "Reader.passes" @0 #v[↑[41]]),.vW @0 "depth" .sub ↑1,.ret @1]
noncomputable def eS:dj:=#v[.ex (.cu "Reader" "passes" "Reader.passes" @0 #v[↑[91]]),.set 1 (.cu "Reader" "sees" "Reader.sees" @0 #v[↑[94]]),.ifs (.cg @1) #v[.ex (.cu "Reader" "passes" "Reader.passes" @0 #v[↑[94]])] .nil,.set 2 (.cu "Reader" "item" "Reader.item" @0 .nil),.Ai (.not (.cg (.cu "Reader" "sees" "Reader.sees" @0 #v[↑[93]]))) #v[.aug 2 .add (.cu "Reader" "item" "Reader.item" @0 .nil)],.ex (.cu "Reader" "passes" "Reader.passes" @0 #v[↑[93]]),.ret (.xm (.cg @1) (.call "all_but" #v[@2]) (.call "in_order" #v[@2]))]
noncomputable def ji:dj:=#v[.set 1 (.cu "Reader" "written_sign" "Reader.written_sign" @0 #v[↑[93,45,92]]),.ifs (.not (.cg (.cu "Reader" "sees" "Reader.sees" @0 #v[↑[45]]))) #v[.ret @1] .nil,.ex (.cu "Reader" "passes" "Reader.passes" @0 #v[↑[45]]),.set 2 (.fld @0 "at"),.set 3 (.cu "Reader" "written_sign" "Reader.written_sign" @0 #v[↑[93,45,92]]),.ifs (.cg (.call "is_ahead" #v[@3,@1])) #v[.raise "BadRule" #v[↑0,@2]] .nil,.ret (.call "stretch" #v[@1,@3])]
noncomputable def dP:dj:=#v[.ifs (.not (.cg (.cu "Reader" "sees" "Reader.sees" @0 #v[↑[92]]))) #v[.ret (.cu "Reader" "passes" "Reader.passes" @0 #v[.call "all_but" #v[@1]])] .nil,.ex (.cu "Reader" "passes" "Reader.passes" @0 #v[↑[92]]),.set 2 (.cu "Reader" "passes" "Reader.passes" @0 #v[↑[46,124,40,41,91,93,42,43,63,92,45,94,110]]),.ret (.xm (.cg (.cmp .eq @2 ↑[110])) ↑[10] @2)]
noncomputable def oY:dj:=#v[.ifs (.cg (.cmp .eq (.ix @0 ↑0) ↑[111,114])) #v[.ret (.kW .join ↑[124] #v[.comp false (.call "row_text" #v[@0]) (.val (.ix @0 ↑1)) (.cg (.lit (.bl true))) []])] .nil,.ret (.call "row_text" #v[@0])]
noncomputable def mZ:dj:=#v[.ifs (.cg (.cmp .eq (.ix @0 ↑0) ↑[114,111,119])) #v[.ret (.kW .join (.lit (.str [])) #v[.comp false (.call "repeat_text" #v[@0]) (.val (.ix @0 ↑1)) (.cg (.lit (.bl true))) []])] .nil,.ret (.call "repeat_text" #v[@0])]
noncomputable def jj:dj:=#v[.set 1 (.lit (.str [])),.set 2 @0,.Ai (.cg (.cmp .isin (.ix @2 ↑0) (.lit (.tab [([115,116,97,114],[42]),([112,108,117,115],[43]),([109,97,121,98,101],[63])])))) #v[.set 1 (.bin .add (.ix (.lit (.tab [([115,116,97,114],[42]),([112,108,117,115],[43]),([109,97,121,98,101],[63])])) (.ix @2 ↑0)) @1),.set 2 (.ix @2 ↑1)],.ret (.bin .add (.call "atom_text" #v[@2]) @1)]
noncomputable def lh:dj:=#v[.ifs (.cg (.cmp .eq (.ix @0 ↑0) ↑[111,110,101])) #v[.ret (.call "place_text" #v[.ix @0 ↑1])] .nil,.ret (.bin .add (.bin .add ↑[40] (.call "written" #v[@0])) ↑[41])]
noncomputable def jX:dj:=#v[.ifs (.cg (.cmp .eq (.blt .len #v[@0]) ↑1)) #v[.ret (.call "sign_text" #v[@0,↑[46,124,40,41,91,93,42,43,63,92]])] .nil,.ifs (.cg (.cmp .eq @0 (.call "all_but" #v[↑[10]]))) #v[.ret ↑[46]] .nil,.ret (.blt .uG #v[.call "class_texts" #v[@0]])]
noncomputable def lj:dj:=#v[.ret (.xm (.cg (.cmp .isin @0 @1)) (.bin .add ↑[92] @0) @0)]
noncomputable def jk:dj:=#v[.set 1 (.lst .nil),.ifs (.cg (.cmp .ne @0 (.lit (.str [])))) #v[.ex (.kW .append @1 #v[.bin .add (.bin .add ↑[91] (.call "guarded" #v[.call "class_items" #v[@0]])) ↑[93]])] .nil,.ifs (.cg (.cmp .ne @0 (.lit (.str SG)))) #v[.ex (.kW .append @1 #v[.bin .add (.bin .add ↑[91,94] (.kW .join (.lit (.str [])) #v[.call "class_items" #v[.call "all_but" #v[@0]]])) ↑[93]])] .nil,.ret @1]
noncomputable def oZ:dj:=#v[.ifs (.not (.cg (.kW .startswith (.ix @0 ↑0) #v[↑[94]]))) #v[.ret (.kW .join (.lit (.str [])) #v[@0])] .nil,.ifs (.cg (.cmp .eq (.blt .len #v[@0]) ↑1)) #v[.ret (.bin .add ↑[92] (.ix @0 ↑0))] .nil,.ret (.bin .add (.kW .join (.lit (.str [])) #v[.sl @0 (.e ↑1) .no]) (.ix @0 ↑0))]
noncomputable def jm:dj:=#v[.set 1 (.lst .nil),.i9 (.name 2) (.val (.call "runs" #v[@0])) #v[.ex (.kW .extend @1 #v[.call "run_items" #v[@2]])],.ret @1]
noncomputable def yV:dj:=#v[.set 1 (.lst .nil),.set 2 (.lit (.str [])),.i9 (.name 3) (.val @0) #v[.ifs (.cg (.cmp .nF (.bin .add @2 @3) (.lit (.str SG)))) #v[.ex (.kW .append @1 #v[@2]),.set 2 (.lit (.str []))] .nil,.aug 2 .add @3],.ex (.kW .append @1 #v[@2]),.ret @1]
noncomputable def lu:dj:=#v[.set 1 (.comp false (.call "sign_text" #v[@0,↑[93,45,92]]) (.val @0) (.cg (.lit (.bl true))) []),.set 2 (.bin .add (.bin .add (.call "sign_text" #v[.ix @0 ↑0,↑[93,45,92]]) ↑[45]) (.call "sign_text" #v[.ix @0 (.neg ↑1),↑[93,45,92]])),.ret (.xm (.cg (.cmp .le (.blt .len #v[.kW .join (.lit (.str [])) #v[@1]]) (.blt .len #v[@2]))) @1 (.lst #v[@2]))]
end PL
namespace PL.tL
noncomputable def ly:dj:=#v[.ifs (.cg @0) #v[.ret (.ix @0 (.bin .mod @1 (.blt .len #v[@0])))] .nil,.ret ↑0]
noncomputable def m9:dj:=#v[.set 2 (.bin .mod (.bin .add (.call "_law_cell" #v[@0,@1]) (.bin .mul ↑104729 (.bin .add @1 ↑1))) ↑4294967291),.set 2 (.bin .mod (.bin .mul @2 ↑48271) ↑4294967279),.ret (.bin .mod (.bin .add (.bin .mul (.bin .fdiv @2 ↑64) ↑69621) @2) ↑4294967231)]
noncomputable def ng:dj:=#v[.set 0 (.lit (.str Zo)),.ret (.bin .add ↑[10] @0)]
end PL.tL
namespace PL.jM
noncomputable def lz:dj:=#v[.set 2 (.mk "Layout" "Layout.__init__" .nil),.i9 (.pair 3 4) (.enum (.sl @0 .no (.e ↑6))) #v[.set 5 (.cu "Layout" "lay" "Layout.lay" @2 #v[.call "tree_of" #v[@4,@3]]),.ifs (.cg (.fld @5 "empty")) #v[.raise "TakesNothing" #v[@3]] .nil,.ifs (.cg (.cmp .gt (.cu "Layout" "how_many" "Layout.how_many" @2 .nil) @1)) #v[.raise "TooMany" #v[@3]] .nil,.ex (.cu "Layout" "close_rule" "Layout.close_rule" @2 #v[@5])],.ifs (.cg (.cmp .gt (.blt .len #v[@0]) ↑6)) #v[.raise "TooMany" #v[↑6]] .nil,.ret (.mk "Places" "Places.__init__" #v[@2])]
noncomputable def o7:dj:=#v[.Oo #v[.ret (.call "read" #v[@0])] "BadRule" 2 #v[.ex (.ix (.lit .bK) (.lit .bK))]]
noncomputable def o9:dj:=#v[.ret (.comp false @0 (.range (.kW .mW @0 .nil)) (.cg (.bin .band (.bin .shr @1 @0) ↑1)) [0])]
noncomputable def lA:dj:=#v[.iQ @0 "empty" @1,.iQ @0 "firsts" @2,.iQ @0 "lasts" @3]
noncomputable def fE:dj:=#v[.set 2 (.xm (.cg (.fld @0 "empty")) (.bin .bor (.fld @0 "firsts") (.fld @1 "firsts")) (.fld @0 "firsts")),.set 3 (.xm (.cg (.fld @1 "empty")) (.bin .bor (.fld @0 "lasts") (.fld @1 "lasts")) (.fld @1 "lasts")),.ret (.mk "Part" "Part.__init__" #v[.and (.fld @0 "empty") (.fld @1 "empty"),@2,@3])]
noncomputable def iS:dj:=#v[.ret (.mk "Part" "Part.__init__" #v[.or (.fld @0 "empty") (.fld @1 "empty"),.bin .bor (.fld @0 "firsts") (.fld @1 "firsts"),.bin .bor (.fld @0 "lasts") (.fld @1 "lasts")])]
noncomputable def jo:dj:=#v[.iQ @0 "signs" (.lst #v[.lit (.str [])]),.iQ @0 "behind" (.lst #v[↑0]),.iQ @0 "ends" (.lst .nil)]
noncomputable def fY:dj:=#v[.ret (.bin .sub (.blt .len #v[.fld @0 "signs"]) ↑1)]
noncomputable def eT:dj:=#v[.EL (.fld @0 "behind") ↑0 .bor (.fld @1 "firsts"),.ex (.kW .append (.fld @0 "ends") #v[.fld @1 "lasts"])]
noncomputable def jq:dj:=#v[.i9 (.name 3) (.val (.call "members" #v[@1])) #v[.EL (.fld @0 "behind") @3 .bor @2]]
noncomputable def jY:dj:=#v[.ifs (.cg (.cmp .eq (.ix @1 ↑0) ↑[111,110,101])) #v[.ret (.cu "Layout" "lay_place" "Layout.lay_place" @0 #v[.ix @1 ↑1])] .nil,.ifs (.cg (.cmp .eq (.ix @1 ↑0) ↑[114,111,119])) #v[.ret (.cu "Layout" "lay_row" "Layout.lay_row" @0 #v[.ix @1 ↑1])] .nil,.ifs (.cg (.cmp .eq (.ix @1 ↑0) ↑[111,114])) #v[.ret (.cu "Layout" "lay_choice" "Layout.lay_choice" @0 #v[.ix @1 ↑1])] .nil,.ret (.cu "Layout" "lay_repeat" "Layout.lay_repeat" @0 #v[@1])]
noncomputable def fF:dj:=#v[.set 2 (.bin .shl ↑1 (.blt .len #v[.fld @0 "signs"])),.ex (.kW .append (.fld @0 "signs") #v[@1]),.ex (.kW .append (.fld @0 "behind") #v[↑0]),.ret (.mk "Part" "Part.__init__" #v[.lit (.bl false),@2,@2])]
noncomputable def gK:dj:=#v[.set 2 (.mk "Part" "Part.__init__" #v[.lit (.bl true),↑0,↑0]),.i9 (.name 3) (.val @1) #v[.set 4 (.cu "Layout" "lay" "Layout.lay" @0 #v[@3]),.ex (.cu "Layout" "link" "Layout.link" @0 #v[.fld @2 "lasts",.fld @4 "firsts"]),.set 2 (.call "one_behind_other" #v[@2,@4])],.ret @2]
noncomputable def eU:dj:=#v[.set 2 (.mk "Part" "Part.__init__" #v[.lit (.bl false),↑0,↑0]),.i9 (.name 3) (.val @1) #v[.set 2 (.call "one_or_other" #v[@2,.cu "Layout" "lay" "Layout.lay" @0 #v[@3]])],.ret @2]
noncomputable def eV:dj:=#v[.set 2 (.lst .nil),.set 3 @1,.Ai (.cg (.cmp .isin (.ix @3 ↑0) (.tup #v[↑[115,116,97,114],↑[112,108,117,115],↑[109,97,121,98,101]]))) #v[.ex (.kW .append @2 #v[.ix @3 ↑0]),.set 3 (.ix @3 ↑1)],.set 4 (.cu "Layout" "lay" "Layout.lay" @0 #v[@3]),.ifs (.or (.cg (.cmp .isin ↑[115,116,97,114] @2)) (.cg (.cmp .isin ↑[112,108,117,115] @2))) #v[.ex (.cu "Layout" "link" "Layout.link" @0 #v[.fld @4 "lasts",.fld @4 "firsts"])] .nil,.set 5 (.or (.fld @4 "empty") (.or (.cmp .isin ↑[115,116,97,114] @2) (.cmp .isin ↑[109,97,121,98,101] @2))),.ret (.mk "Part" "Part.__init__" #v[@5,.fld @4 "firsts",.fld @4 "lasts"])]
noncomputable def iz:dj:=#v[.set 1 (.blt .sum #v[.comp true (.bin .shl ↑1 @0) (.enum (.fld @0 "signs")) (.cg (.cmp .ne @1 (.lit (.str [])))) []]),.set 2 ↑0,.i9 (.name 3) (.val (.fld @0 "ends")) #v[.aug 2 .bor (.bin .band @3 @1)],.set 4 ↑0,.Ai (.cg (.cmp .ne @2 @4)) #v[.set 4 @2,.i9 (.name 5) (.val (.call "members" #v[@1])) #v[.ifs (.cg (.bin .band (.ix (.fld @0 "behind") @5) @4)) #v[.aug 2 .bor (.bin .shl ↑1 @5)] .nil]],.ret @4]
noncomputable def fG:dj:=#v[.ret (.blt .sum #v[.comp true (.bin .shl ↑1 @0) (.enum (.fld @0 "signs")) (.cg (.cmp .isin @2 @1)) [1]])]
noncomputable def jr:dj:=#v[.set 2 (.call "useful_places" #v[@1]),.iQ @0 "behind" (.comp false (.bin .band @0 @1) (.val (.fld @1 "behind")) (.cg (.lit (.bl true))) [2]),.iQ @0 "ends" (.blt .list #v[.fld @1 "ends"]),.iQ @0 "takers" (.blt .dict #v[.comp false (.tup #v[@0,.call "places_that_take" #v[@1,@0]]) (.val (.lit (.str SG))) (.cg (.lit (.bl true))) [1]])]
noncomputable def iA:dj:=#v[.set 2 ↑0,.i9 (.name 3) (.val (.call "members" #v[@1])) #v[.aug 2 .bor (.ix (.fld @0 "behind") @3)],.ret @2]
noncomputable def eY:dj:=#v[.i9 (.pair 2 3) (.enum (.fld @0 "ends")) #v[.ifs (.cg (.bin .band @1 @3)) #v[.ret @2] .nil],.ret (.lit .bK)]
noncomputable def lB:dj:=#v[.iQ @0 "places" @1,.iQ @0 "reach" (.cu "Places" "beyond" "Places.beyond" @1 #v[↑1]),.iQ @0 "passed" ↑0,.iQ @0 "found" (.lit .bK)]
noncomputable def gM:dj:=#v[.ret (.cmp .ne (.fld @0 "reach") ↑0)]
noncomputable def jZ:dj:=#v[.Ai (.and (.cg (.cu "Walk" "may_go_on" "Walk.may_go_on" @0 .nil)) (.cg (.cmp .lt (.fld @0 "passed") (.blt .len #v[@1])))) #v[.ex (.cu "Walk" "step" "Walk.step" @0 #v[.ix @1 (.fld @0 "passed")])]]
noncomputable def lC:dj:=#v[.set 2 (.bin .band (.fld @0 "reach") (.kW .get (.fld (.fld @0 "places") "takers") #v[@1,↑0])),.iQ @0 "reach" (.cu "Places" "beyond" "Places.beyond" (.fld @0 "places") #v[@2]),.vW @0 "passed" .add ↑1,.set 3 (.cu "Places" "first_rule" "Places.first_rule" (.fld @0 "places") #v[@2]),.ifs (.cg (.cmp .Ah @3 (.lit .bK))) #v[.iQ @0 "found" (.tup #v[@3,.fld @0 "passed"])] .nil]
noncomputable def j0:dj:=#v[.iQ @0 "places" (.call "places_of" #v[@1,↑24])]
noncomputable def iT:dj:=#v[.ifs (.cg (.cmp .eq (.ix @0 ↑0) ↑[111,110,101])) #v[.ret (.lit (.bl false))] .nil,.ifs (.cg (.cmp .eq (.ix @0 ↑0) ↑[114,111,119])) #v[.ret (.blt .all #v[.comp false (.call "_law_nothing" #v[@0]) (.val (.ix @0 ↑1)) (.cg (.lit (.bl true))) []])] .nil,.ifs (.cg (.cmp .eq (.ix @0 ↑0) ↑[111,114])) #v[.ret (.blt .any #v[.comp false (.call "_law_nothing" #v[@0]) (.val (.ix @0 ↑1)) (.cg (.lit (.bl true))) []])] .nil,.ret (.or (.cmp .isin (.ix @0 ↑0) (.tup #v[↑[115,116,97,114],↑[109,97,121,98,101]])) (.call "_law_nothing" #v[.ix @0 ↑1]))]
noncomputable def js:dj:=#v[.ifs (.cg (.cmp .eq (.ix @0 ↑0) ↑[111,110,101])) #v[.ret (.xm (.cg (.cmp .isin @1 (.ix @0 ↑1))) (.lst #v[.tup .nil]) (.lst .nil))] .nil,.ifs (.cg (.cmp .eq (.ix @0 ↑0) ↑[111,114])) #v[.set 2 (.lst .nil),.i9 (.name 3) (.val (.ix @0 ↑1)) #v[.set 2 (.bin .add @2 (.call "_law_behind" #v[@3,@1]))],.ret @2] .nil,.ifs (.cg (.cmp .eq (.ix @0 ↑0) ↑[114,111,119])) #v[.set 2 (.lst .nil),.i9 (.name 4) (.range (.blt .len #v[.ix @0 ↑1])) #v[.set 2 (.bin .add @2 (.comp false (.bin .add @0 (.sl (.ix @1 ↑1) (.e (.bin .add @2 ↑1)) .no)) (.val (.call "_law_behind" #v[.ix (.ix @0 ↑1) @4,@1])) (.cg (.lit (.bl true))) [0,4])),.ifs (.not (.cg (.call "_law_nothing" #v[.ix (.ix @0 ↑1) @4]))) #v[.ret @2] .nil],.ret @2] .nil,.set 5 (.xm (.cg (.cmp .eq (.ix @0 ↑0) ↑[109,97,121,98,101])) (.tup .nil) (.tup #v[.tup #v[↑[115,116,97,114],.ix @0 ↑1]])),.ret (.comp false (.bin .add @0 @1) (.val (.call "_law_behind" #v[.ix @0 ↑1,@1])) (.cg (.lit (.bl true))) [5])]
noncomputable def j6:dj:=#v[.set 2 (.lst .nil),.i9 (.name 3) (.val @0) #v[.i9 (.name 4) (.val (.call "_law_behind" #v[.tup #v[↑[114,111,119],@3],@1])) #v[.ifs (.cg (.cmp .nF @4 @2)) #v[.ex (.kW .append @2 #v[@4])] .nil]],.ret @2]
noncomputable def ow:dj:=#v[.ret (.blt .any #v[.comp false (.call "_law_nothing" #v[.tup #v[↑[114,111,119],@0]]) (.val @0) (.cg (.lit (.bl true))) []])]
noncomputable def j7:dj:=#v[.set 3 (.lit .bK),.set 4 (.comp false (.lst #v[.tup #v[@0]]) (.val @0) (.cg (.lit (.bl true))) []),.set 5 ↑0,.Ai (.and (.cg (.cmp .lt (.bin .add @2 @5) (.blt .len #v[@1]))) (.cg (.blt .any #v[.comp false (.cmp .ne @0 (.lst .nil)) (.val @4) (.cg (.lit (.bl true))) []]))) #v[.set 4 (.comp false (.call "_law_rests" #v[@0,.ix @1 (.bin .add @2 @3)]) (.val @4) (.cg (.lit (.bl true))) [1,2,5]),.set 5 (.bin .add @5 ↑1),.set 6 (.comp false @0 (.range (.blt .len #v[@4])) (.cg (.call "_law_ends" #v[.ix @1 @0])) [4]),.ifs (.cg @6) #v[.set 3 (.tup #v[.ix @6 ↑0,@5])] .nil],.ret @3]
noncomputable def j8:dj:=#v[.set 3 (.call "_law_mix" #v[@0,@1]),.set 4 (.bin .mod @3 ↑9),.ifs (.or (.cg (.cmp .eq @2 ↑0)) (.cg (.cmp .lt @4 ↑4))) #v[.ret (.tup #v[↑[111,110,101],.ix (.lst #v[↑[97],↑[98],↑[99],↑[97,98],↑[98,99],.call "_law_all" .nil,↑[97],↑[98],↑[48],.lit (.str [])]) (.bin .mod (.bin .fdiv @3 ↑9) ↑10)])] .nil,.ifs (.cg (.cmp .lt @4 ↑7)) #v[.set 5 (.comp false (.call "_law_small" #v[@1,.bin .add (.bin .add (.bin .mul ↑2 @2) ↑1) @0,.bin .sub @3 ↑1]) (.range ↑2) (.cg (.lit (.bl true))) [0,1,2]),.ret (.tup #v[.ix (.lst #v[↑[114,111,119],↑[111,114],↑[114,111,119]]) (.bin .sub @4 ↑4),.blt .tuple #v[@5]])] .nil,.ret (.tup #v[.ix (.lst #v[↑[115,116,97,114],↑[112,108,117,115],↑[109,97,121,98,101]]) (.bin .mod (.bin .fdiv @3 ↑9) ↑3),.call "_law_small" #v[@0,.bin .add (.bin .mul ↑2 @1) ↑1,.bin .sub @2 ↑1]])]
noncomputable def j9:dj:=#v[.set 4 (.lst .nil),.i9 (.name 5) (.range @2) #v[.set 6 (.call "_law_small" #v[@0,.bin .add @1 (.bin .mul ↑9 @5),@3]),.ifs (.cg (.call "_law_nothing" #v[@6])) #v[.set 6 (.tup #v[↑[114,111,119],.tup #v[.tup #v[↑[111,110,101],.ix ↑[97,98,99] (.bin .mod @5 ↑3)],@6]])] .nil,.ex (.kW .append @4 #v[@6])],.ret @4]
noncomputable def lD:dj:=#v[.ret (.kW .join (.lit (.str [])) #v[.comp false (.ix ↑[97,97,98,98,99,48,97,10,98,97,98] (.bin .mod (.call "_law_mix" #v[@1,.bin .add @2 @0]) ↑11)) (.range @2) (.cg (.lit (.bl true))) [0,1]])]
end PL.jM
namespace PL.qV
open PL
noncomputable def jt:dj:=#v[.iQ @0 "places" (.fld @1 "places"),.iQ @0 "at" ↑0,.iQ @0 "rest" (.lit (.str [])),.iQ @0 "walk" (.mk "Walk" "Walk.__init__" #v[.fld @0 "places"])]
noncomputable def ju:dj:=#v[.vW @0 "rest" .add @1,.ret (.cu "Cutter" "sure_tokens" "Cutter.sure_tokens" @0 #v[.lit (.bl false)])]
noncomputable def kb:dj:=#v[.ret (.cu "Cutter" "sure_tokens" "Cutter.sure_tokens" @0 #v[.lit (.bl true)])]
noncomputable def d9:dj:=#v[.set 2 (.lst .nil),.Ai (.and (.cg (.cu "Cutter" "next_is_sure" "Cutter.next_is_sure" @0 #v[@1])) (.cg (.cmp .Ah (.fld (.fld @0 "walk") "found") (.lit .bK)))) #v[.set 3 (.ix (.fld (.fld @0 "walk") "found") ↑1),.ex (.kW .append @2 #v[.tup #v[.ix (.fld (.fld @0 "walk") "found") ↑0,.sl (.fld @0 "rest") .no (.e @3)]]),.ex (.cu "Cutter" "pass_over" "Cutter.pass_over" @0 #v[@3])],.ifs (.and (.cg (.cmp .eq @2 (.lst .nil))) (.cg (.cu "Cutter" "next_is_sure" "Cutter.next_is_sure" @0 #v[@1]))) #v[.raise "NoToken" #v[.fld @0 "at"]] .nil,.ret @2]
noncomputable def dQ:dj:=#v[.ex (.cu "Walk" "along" "Walk.along" (.fld @0 "walk") #v[.fld @0 "rest"]),.ret (.and (.cmp .ne (.fld @0 "rest") (.lit (.str []))) (.or @1 (.not (.cu "Walk" "may_go_on" "Walk.may_go_on" (.fld @0 "walk") .nil))))]
noncomputable def fH:dj:=#v[.vW @0 "at" .add @1,.iQ @0 "rest" (.sl (.fld @0 "rest") (.e @1) .no),.iQ @0 "walk" (.mk "Walk" "Walk.__init__" #v[.fld @0 "places"])]
noncomputable def ke:dj:=#v[.ifs (.cg (.cmp .eq (.ix @0 ↑0) ↑[111,110,101])) #v[.ret (.cmp .ne (.ix @0 ↑1) (.lit (.str [])))] .nil,.ifs (.cg (.cmp .eq (.ix @0 ↑0) ↑[114,111,119])) #v[.ret (.blt .all #v[.comp false (.call "_law_lives" #v[@0]) (.val (.ix @0 ↑1)) (.cg (.lit (.bl true))) []])] .nil,.ifs (.cg (.cmp .eq (.ix @0 ↑0) ↑[111,114])) #v[.ret (.blt .any #v[.comp false (.call "_law_lives" #v[@0]) (.val (.ix @0 ↑1)) (.cg (.lit (.bl true))) []])] .nil,.ret (.or (.cmp .ne (.ix @0 ↑0) ↑[112,108,117,115]) (.call "_law_lives" #v[.ix @0 ↑1]))]
noncomputable def lE:dj:=#v[.ifs (.cg (.cmp .eq (.ix @0 ↑0) ↑[114,111,119])) #v[.ret (.and (.call "_law_lives" #v[@0]) (.blt .any #v[.comp false (.call "_law_more" #v[@0]) (.val (.ix @0 ↑1)) (.cg (.lit (.bl true))) []]))] .nil,.ifs (.cg (.cmp .eq (.ix @0 ↑0) ↑[111,114])) #v[.ret (.blt .any #v[.comp false (.call "_law_more" #v[@0]) (.val (.ix @0 ↑1)) (.cg (.lit (.bl true))) []])] .nil,.ret (.xm (.cg (.cmp .eq (.ix @0 ↑0) ↑[111,110,101])) (.cmp .ne (.ix @0 ↑1) (.lit (.str []))) (.call "_law_more" #v[.ix @0 ↑1]))]
noncomputable def lF:dj:=#v[.set 2 (.comp false (.lst #v[.tup #v[@0]]) (.val @0) (.cg (.lit (.bl true))) []),.i9 (.name 3) (.val @1) #v[.set 2 (.comp false (.call "_law_rests" #v[@0,@1]) (.val @2) (.cg (.lit (.bl true))) [3])],.ret (.blt .any #v[.comp false (.blt .any #v[.comp false (.call "_law_more" #v[.tup #v[↑[114,111,119],@0]]) (.val @0) (.cg (.lit (.bl true))) []]) (.val @2) (.cg (.lit (.bl true))) []])]
noncomputable def kf:dj:=#v[.set 2 (.lit .bK),.set 3 (.neg ↑1),.Oo #v[.set 2 (.xm (.cg (.cmp .KA @1 (.lit .bK))) (.cu "Cutter" "end" "Cutter.end" @0 .nil) (.cu "Cutter" "take" "Cutter.take" @0 #v[@1]))] "TokenError" 4 #v[.set 3 (.xm (.cg (.Jw @4 [.own "NoToken"])) (.fld @4 "at") (.neg ↑2))],.ret (.tup #v[@2,@3])]
noncomputable def lG:dj:=#v[.set 4 (.lst .nil),.Ai (.and (.cg (.cmp .lt @2 (.blt .len #v[@1]))) (.or (.cg @3) (.not (.cg (.call "_law_open" #v[@0,.sl @1 (.e @2) .no]))))) #v[.set 5 (.call "_law_token" #v[@0,@1,@2]),.ifs (.cg (.cmp .KA @5 (.lit .bK))) #v[.ret (.tup #v[@4,@2,.lit (.bl true)])] .nil,.ex (.kW .append @4 #v[.tup #v[.ix @5 ↑0,.sl @1 (.e @2) (.e (.bin .add @2 (.ix @5 ↑1)))]]),.set 2 (.bin .add @2 (.ix @5 ↑1))],.ret (.tup #v[@4,@2,.lit (.bl false)])]
noncomputable def Dr:dj:=#v[.set 1 (.call "_law_trees" #v[@0,↑0,.bin .add ↑1 (.bin .mod (.call "_law_mix" #v[@0,↑50]) ↑3),↑2]),.set 2 (.call "_law_text" #v[@0,↑51,.bin .mod (.call "_law_mix" #v[@0,↑61]) ↑13]),.set 3 (.mk "Cutter" "Cutter.__init__" #v[.mk "Lexer" "Lexer.__init__" #v[.comp false (.call "written" #v[@0]) (.val @1) (.cg (.lit (.bl true))) []]]),.set 4 ↑0,.set 5 ↑0,.set 6 (.lit (.bl false)),.i9 (.name 7) (.range (.bin .add ↑1 (.bin .mod (.call "_law_mix" #v[@0,↑60]) ↑8))) #v[.set 8 (.bin .mod (.call "_law_mix" #v[@0,.bin .add ↑40 @7]) ↑5),.set 9 (.sl @2 (.e @5) (.e (.bin .add @5 @8))),.set 5 (.bin .add @5 (.blt .len #v[@9])),.set 10 (.call "_law_sure" #v[@1,.sl @2 .no (.e @5),@4,.lit (.bl false)]),.set 11 (.call "_law_asked" #v[@3,@9]),.ifs (.or (.cg @6) (.and (.cg (.ix @10 ↑2)) (.not (.cg (.ix @10 ↑0))))) #v[.ifs (.cg (.cmp .ne @11 (.tup #v[.lit .bK,.ix @10 ↑1]))) #v[.ret (.lit (.bl false))] .nil] #v[.ifs (.cg (.cmp .ne @11 (.tup #v[.ix @10 ↑0,.neg ↑1]))) #v[.ret (.lit (.bl false))] .nil],.set 6 (.or @6 (.ix @10 ↑2)),.set 4 (.ix @10 ↑1)],.set 10 (.call "_law_sure" #v[@1,.sl @2 .no (.e @5),@4,.lit (.bl true)]),.set 11 (.call "_law_asked" #v[@3,.lit .bK]),.ifs (.or (.cg @6) (.and (.cg (.ix @10 ↑2)) (.not (.cg (.ix @10 ↑0))))) #v[.ret (.cmp .eq @11 (.tup #v[.lit .bK,.ix @10 ↑1]))] .nil,.ifs (.or (.cg (.cmp .ne @11 (.tup #v[.ix @10 ↑0,.neg ↑1]))) (.not (.cg (.Jw (.ix @11 ↑0) [.list])))) #v[.ret (.lit (.bl false))] .nil,.ret (.cmp .eq (.call "_law_asked" #v[@3,.lit .bK]) (.xm (.cg (.ix @10 ↑2)) (.tup #v[.lit .bK,.ix @10 ↑1]) (.tup #v[.lst .nil,.neg ↑1])))]
end PL.qV
namespace L2
open PySem
open PL (U SO bJ Xn KU KX Spec bY)
structure Tab where
 const:List (String×U)
 fns:List String
 qb:List String
 qc:List (String×String)
 uS:List String
 v5:List String
 fu:List String
structure Inf where
 names:List (Str×NameKind)
 N:List Str
 calm:Bool
noncomputable def pick(l:List String)(x:Str):Option String:=l.find? λs=>b8 s==x
noncomputable def Au{α:Type}(l:List (String×α))(x:Str):Option (String×α):=l.find? λs=>b8 s.1==x
noncomputable def dz(x:Str):List Str->Option Nat
 |[]=>none
 |y::ys=>if y=x then some 0 else(dz x ys).map (·+1)
noncomputable def KW:Option NameKind->Bool
 |some .local=>true
 |some .cell=>true
 |some .free=>true
 |_=>false
noncomputable def Inf.gl(I:Inf)(x:Str):Bool:=I.names.lookup x==some .globalImplicit
noncomputable def Sy:mO->Option PL.FK
 |.Add=>some .add|.Sub=>some .sub|.Mult=>some .mul|.FloorDiv=>some .fdiv|.Mod=>some .mod|.BitAnd=>some .band|.BitOr=>some .bor|.LShift=>some .shl|.RShift=>some .shr|_=>none
noncomputable def KY:CmpOp->Option PL.Ol
 |.Eq=>some .eq|.NotEq=>some .ne|.Lt=>some .lt|.LtE=>some .le|.Gt=>some .gt|.GtE=>some .ge|.In=>some .isin|.NotIn=>some .nF|.Is=>some .KA|.IsNot=>some .Ah
noncomputable def OK:Expr->Option Str
 |.Name x _=>some x
 |_=>none
theorem Sz:∀e,(∃x p,e=Jk x p)\/OK e=none:=by
 intro e;cases e<;>first|exact .inr rfl|exact .inl #[_,_,rfl]
theorem Av(h:OK e=some x):∃p,e=.Name x p:=by
 rcases Sz e with⟨y,p,rfl⟩|e
 .exact#[p,congrArg (Jk · p) (aG h)]
 .exact nn (e.symm.trans h)
noncomputable def Vr:Expr->Option (Str×Expr)
 |.Call f [a] [] _=>(OK f).map λx=>(x,a)
 |_=>none
theorem SA:∀e,(∃f as ks p,e=Expr.Call f as ks p)\/Vr e=none:=by
 intro e;cases e<;>first|exact .inr rfl|exact .inl #[_,_,_,_,rfl]
theorem MP(h:Vr e=some (x,a)):∃p q,e=.Call (.Name x p) [a] [] q:=by
 rcases SA e with⟨f,as,ks,q,rfl⟩|e
 .cases as with
  |nil=>exact nn h
  |cons a as=>cases as with
   |cons=>exact nn h
   |nil=>cases ks with
    |cons=>exact nn h
    |nil=>
     obtain⟨y,h1,h2⟩:=ag.mp h;cases h2;obtain⟨p,rfl⟩:=Av h1;exact#[p,q,rfl]
 .exact nn (e.symm.trans h)
noncomputable def WM(T:Tab)(I:Inf)(e:Expr):Option PL.Ty:=(OK e).bind λx=>
  if I.gl x&&x !=("__debug__":Str) then
   if x==("int":Str)&&T.fu.contains "int" then some .int else if x==("bool":Str)&&T.fu.contains "bool" then some .bool else if x==("str":Str)&&T.fu.contains "str" then some .str
   else if x==("list":Str)&&T.fu.contains "list" then some .list else if x==("tuple":Str)&&T.fu.contains "tuple" then some .tuple else if x==("dict":Str)&&T.fu.contains "dict" then some .dict
   else if x==("ValueError":Str)&&T.fu.contains "ValueError" then some .KC else(pick T.v5 x).map .own
  else none
noncomputable def KZ(T:Tab)(I:Inf):List Expr->Option (List String)
 |[]=>some []
 |e::ts=>(OK e).bind λx=>if I.gl x&&x !=("__debug__":Str) then do
   let s <-pick T.v5 x
   let r <-KZ T I ts
   some (s::r)
  else none
noncomputable def qC(I : Inf)(names : List (Str×NameKind)) : List (Str×NameKind) := names.map λ(n, k) => if k==bQ&&I.names.lookup n==some .cell then (n, .cell) else (n, k)
noncomputable def uT(I:Inf)(sc:kJ)(xs:List Str):Bool:=
 sc.kind==.function&&sc.names.all (λy=>y.2 !=.cell)&&sc.names.all (λy=>y.2 !=.local||sc.names.lookup y.1==some .local)&&sc.names.all (λy=>y.2 !=.free||I.names.lookup y.1==some .cell)
  && xs.all (λx=>sc.names.lookup x==some .local)&&decide xs.Nodup
noncomputable def ie(I:Inf)(sc:kJ):List Str:=I.N.filter λy=>sc.names.lookup y==some .free
noncomputable def K0:Expr->Option (List Str)
 |.Name x _=>some [x]
 |.Tuple [a,b] _ _=>(OK a).bind λx=>(OK b).map λy=>[x,y]
 |_=>none
noncomputable def noStar:Expr->Bool
 |.Starred ..=>false
 |_=>true
noncomputable def yW:Expr->Bool
 |.ListComp ..=>false
 |.SetComp ..=>false
 |.DictComp ..=>false
 |_=>true
noncomputable def pb:Expr->Bool
 |.Slice ..=>false
 |_=>true
noncomputable def iB:Expr->Bool
 |.Call (.Name _ _) [] [] _=>false
 |_=>true
noncomputable def OL:Str->Option PL.Sf:=λx=>
 if x==("len":Str) then some .len else if x==("tuple":Str) then some .tuple else if x==("list":Str) then some .list
 else if x==("all":Str) then some .all else if x==("sum":Str) then some .sum else if x==("any":Str) then some .any else if x==("dict":Str) then some .dict else none
noncomputable def OM:Str->Option PL.Om:=λx=>
 if x==("join":Str) then some .join else if x==("index":Str) then some .index else if x==("append":Str) then some .append else if x==("extend":Str) then some .extend else if x==("startswith":Str) then some .startswith else none
noncomputable def WN:Const->Option U
 |.none=>some .bK
 |.bool b=>some (.bl b)
 |.int i=>some (.int i)
 |.str x=>some (.str x.cps.toList)
 |_=>none
noncomputable def Hq(I:Inf)(k:se):Bool:=match k with
 |⟨kw,v,_⟩=>kw==some ("key":Str)&&(match v with
  |.Name l _=>l==("len":Str)&&I.gl l
  |_=>false)
structure CF where
 e:Inf->Expr->Option PL.Ex
 es:Inf->List Expr->Option PL.yN
 bo:Inf->BoolOp->List Expr->Option PL.Ex
 o:Inf->Option Expr->Option PL.Ox
 i:Inf->Expr->Option PL.It
 n:Inf->Expr->Option PL.It
 t:Inf->Expr->Option PL.Tx
 tb:Inf->BoolOp->List Expr->Option PL.Tx
noncomputable def QR(T:Tab)(F:CF)(I:Inf)(e:Expr):Option PL.Ex:=match e with
  |.Name x _=>match dz x I.N with
   |some i=>if KW (I.names.lookup x)&&x !=("__debug__":Str)&&x !=("__classdict__":Str) then some (.var i) else none
   |none=>if I.gl x&&x !=("__debug__":Str) then(Au T.const x).map λp=>.lit p.2 else none
  |.Constant c _ _=>(WN c).map .lit
  |.BinOp a op b _=>do
   let o <-Sy op
   let x <-F.e I a
   let y <-F.e I b
   some (.bin o x y)
  |.UnaryOp op a _=>(match op with
   |.USub=>(F.e I a).map .neg
   |.Not=>(F.e I a).map .not
   |_=>none)
  |.BoolOp op vs _=>F.bo I op vs
  |.Compare a ops bs _=>(match ops with
   |[op]=>(match bs with
    |[b]=>do
     let o <-KY op
     let x <-F.e I a
     let y <-F.e I b
     some (.cmp o x y)
    |_=>none)
   |_=>none)
  |.IfExp t a b _=>do
   let c <-F.t I t
   let x <-F.e I a
   let y <-F.e I b
   some (.xm c x y)
  |.Call f args kws cp=>(match f with
   |.Name f _=>(match kws with
    |[]=>if I.gl f&&f !=("__debug__":Str) then
      if f==("isinstance":Str)&&T.fu.contains "isinstance" then(match args with
       |[a,t]=>if !noStar a then none else do
        let x <-F.e I a
        (match WM T I t with
         |some y=>some (.Jw x [y])
         |none=>(match t with
          |.Tuple ts _ _=>do
           let l <-KZ T I ts
           if decide (0<l.length/\l.length<=100) then some (.Jw x (l.map .own)) else none
          |_=>none))
       |_=>none)
      else match OL f with
      |some b=>if (pick T.fu f).isSome && !args.isEmpty&&I.calm then(F.es I args).map (.blt b) else none
      |none=>if !I.calm then none else match pick T.fns f with
       |some q=>(F.es I args).map (.call q)
       |none=>match pick T.qb f with
        |some q=>(F.es I args).map (.mk q (q++".__init__"))
        |none=>none
     else none
    |kw::ks=>(match args with
     |[a]=>if ks.isEmpty&&f==("min":Str)&&Hq I kw&&I.gl f&&T.fu.contains "min"&&T.fu.contains "len"&&I.calm&&noStar a then(F.e I a).map λx=>.blt .uG (.cons x .nil) else none
     |_=>none))
   |.Attribute o m ap=>if !(kws.isEmpty&&iB o&&ap.endLine==cp.line&&decide (args.length<20)&&I.calm) then none else
    match Au T.qc m with
    |some (q,k)=>do
     let x <-F.e I o
     let as <-F.es I args
     some (.cu k q (k++"."++q) x as)
    |none=>(match args with
     |[]=>if m==("bit_length":Str) then(F.e I o).map λx=>.kW .mW x .nil else none
     |a::as=>if m==("get":Str) then(match as with
       |[d]=>if noStar a&&noStar d then do
         let x <-F.e I o
         let y <-F.e I a
         let z <-F.e I d
         some (.kW .get x (.cons y (.cons z .nil)))
        else none
       |_=>none)
      else match OM m with
      |some b=>do
       let x <-F.e I o
       let as <-F.es I (a::as)
       some (.kW b x as)
      |none=>none)
   |_=>none)
  |.Attribute o f _=>if !iB o then none else do
   let q <-pick T.uS f
   let x <-F.e I o
   some (.fld x q)
  |.Subscript o i _=>if pb i then do
    let x <-F.e I o
    let y <-F.e I i
    some (.ix x y)
   else(match i with
   |.Slice lo hi st _=>(match st with
    |none=>do
     let x <-F.e I o
     let a <-F.o I lo
     let b <-F.o I hi
     some (.sl x a b)
    |some _=>none)
   |_=>none)
  |.List es _=>(F.es I es).map .lst
  |.Tuple es _ _=>(F.es I es).map .tup
  |.ListComp elt gs sc _=>(match gs with
   |[g]=>(match g with
    |⟨tg,iter,ifs,as⟩=>match K0 tg with
     |some xs=>if uT I sc xs&&I.calm&&as==0 then do
       let it <-(match xs with
        |[_]=>F.i I iter
        |_=>F.n I iter)
       let cn:=ie I sc
       let J:Inf:=#[qC I sc.names,xs++cn,true]
       let c <-(match ifs with
        |[]=>some (PL.Tx.cg (.lit (.bl true)))
        |[c]=>F.t J c
        |_=>none)
       let e <-F.e J elt
       let ci <-cn.mapM λy=>dz y I.N
       some (.comp (xs.length==2) e it c ci)
      else none
     |none=>none)
   |_=>none)
  |_=>none
noncomputable def Hr(F:CF)(I:Inf):List Expr->Option PL.yN
 |[]=>some .nil
 |e::es=>if !noStar e then none else do
  let x <-F.e I e
  let xs <-F.es I es
  some (.cons x xs)
noncomputable def Hs(F:CF)(I:Inf)(op:BoolOp):List Expr->Option PL.Ex
 |[]=>none
 |[a]=>F.e I a
 |a::b::r=>do
  let x <-F.e I a
  let y <-F.bo I op (b::r)
  some (match op with|.And=>.and x y|.Or=>.or x y)
noncomputable def Vs(F:CF)(I:Inf):Option Expr->Option PL.Ox
 |none=>some .no
 |some e=>(F.e I e).map .e
noncomputable def stI(T:Tab)(F:CF)(I:Inf)(e:Expr):Option PL.It:=match Vr e with
  |some (f,a)=>if f==("range":Str) then(if I.gl f&&T.fu.contains "range" then(F.e I a).map .range else none) else(F.e I e).map .val
  |none=>(F.e I e).map .val
noncomputable def stN(T:Tab)(F:CF)(I:Inf)(e:Expr):Option PL.It:=match Vr e with
  |some (f,a)=>if f==("enumerate":Str)&&I.gl f&&T.fu.contains "enumerate"&&noStar a then(F.e I a).map .enum else none
  |none=>none
noncomputable def YB(F:CF)(I:Inf)(e:Expr):Option PL.Tx:=match e with
  |.UnaryOp .Not a _=>(F.t I a).map .not
  |.BoolOp op vs _=>F.tb I op vs
  |.IfExp ..=>none
  |.Compare a [op] [b] _=>do
   let o <-KY op
   let x <-F.e I a
   let y <-F.e I b
   some (.cg (.cmp o x y))
  |.Compare ..=>none
  |_=>(F.e I e).map .cg
noncomputable def Ht(F:CF)(I:Inf)(op:BoolOp):List Expr->Option PL.Tx
 |[]=>none
 |[a]=>F.t I a
 |a::b::r=>do
  let x <-F.t I a
  let y <-F.tb I op (b::r)
  some (match op with|.And=>.and x y|.Or=>.or x y)
noncomputable def qD(T:Tab):Nat->CF
 |0=>#[λ_ _=>none,λ_ _=>none,λ_ _ _=>none,λ_ _=>none,λ_ _=>none,λ_ _=>none,λ_ _=>none,λ_ _ _=>none]
 |n+1=>#[QR T (qD T n),Hr (qD T n),Hs (qD T n),Vs (qD T n),stI T (qD T n),stN T (qD T n),YB (qD T n),Ht (qD T n)]
noncomputable abbrev cE(T:Tab)(n:Nat):Inf->Expr->Option PL.Ex:=(qD T n).e
noncomputable abbrev QS(T:Tab)(n:Nat):Inf->List Expr->Option PL.yN:=(qD T n).es
noncomputable abbrev Vt(T:Tab)(n:Nat):Inf->BoolOp->List Expr->Option PL.Ex:=(qD T n).bo
noncomputable abbrev cO(T:Tab)(n:Nat):Inf->Option Expr->Option PL.Ox:=(qD T n).o
noncomputable abbrev cI(T:Tab)(n:Nat):Inf->Expr->Option PL.It:=(qD T n).i
noncomputable abbrev cN(T:Tab)(n:Nat):Inf->Expr->Option PL.It:=(qD T n).n
noncomputable abbrev cT(T:Tab)(n:Nat):Inf->Expr->Option PL.Tx:=(qD T n).t
noncomputable abbrev Vu(T:Tab)(n:Nat):Inf->BoolOp->List Expr->Option PL.Tx:=(qD T n).tb
section
variable{T:Tab}{n:Nat}{I:Inf}{x:Expr}{xs:List Expr}{p:BoolOp}{y:Option Expr}
theorem SD:cE T 0 I x=none:=rfl
theorem K1:cE T (n+1) I x=QR T (qD T n) I x:=rfl
theorem MQ:QS T 0 I xs=none:=rfl
theorem Hu:QS T (n+1) I xs=Hr (qD T n) I xs:=rfl
theorem SE:Vt T 0 I p xs=none:=rfl
theorem Hv:Vt T (n+1) I p xs=Hs (qD T n) I p xs:=rfl
theorem WQ:cO T 0 I y=none:=rfl
theorem SH:cO T (n+1) I y=Vs (qD T n) I y:=rfl
theorem WR:cI T 0 I x=none:=rfl
theorem WU:cI T (n+1) I x=stI T (qD T n) I x:=rfl
theorem WV:cN T 0 I x=none:=rfl
theorem WW:cN T (n+1) I x=stN T (qD T n) I x:=rfl
theorem WX:cT T 0 I x=none:=rfl
theorem WY:cT T (n+1) I x=YB (qD T n) I x:=rfl
theorem SI:Vu T 0 I p xs=none:=rfl
theorem Hw:Vu T (n+1) I p xs=Ht (qD T n) I p xs:=rfl
end
noncomputable def WZ(T:Tab)(n:Nat)(J:Inf)(ifs:List Expr):Option PL.Tx:=match ifs with
 |[]=>some (PL.Tx.cg (.lit (.bl true)))
 |[c]=>cT T n J c
 |_=>none
theorem uU(h:cE T (n+1) I (.ListComp elt gs sc pos)=some x):
  ∃tg iter ifs xs it c ee ci,gs=[#[tg,iter,ifs,0]]/\K0 tg=some xs/\(uT I sc xs=true/\I.calm=true)/\((∃y,xs=[y])/\cI T n I iter=some it\/(¬ ∃y,xs=[y])/\cN T n I iter=some it)/\WZ T n #[qC I sc.names,xs++ie I sc,true] ifs=some c /\
   cE T n #[qC I sc.names,xs++ie I sc,true] elt=some ee/\(ie I sc).mapM (λy=>dz y I.N)=some ci/\x=.comp (xs.length==2) ee it c ci:=by
 rw[K1] at h
 delta QR at h
 dsimp only at h;split at h
 .rename_i g
  obtain⟨tg,iter,ifs,as⟩:=g;dsimp only at h;split at h
  .rename_i xs ht
   split at h
   .rename_i hc
    simp only[af] at hc;simp only[aI,ao] at h;obtain⟨it,h1,c,h2,ee,h3,ci,h4,h5⟩:=h;injection h5 with h5
    have e0:as=0:=eq_of_beq hc.2;subst e0;refine#[tg,iter,ifs,xs,it,c,ee,ci,rfl,ht,hc.1,?_,h2,h3,h4,h5.symm];split at h1
    .exact .inl #[#[_,rfl],h1]
    .rename_i hn
     exact .inr #[λ⟨y,e⟩=>hn y e,h1]
   .exact nn h
  .exact nn h
 .exact nn h
theorem SJ:∀e,(∃x p,e=Jk x p)\/(∃es k q,e=Expr.Tuple es k q)\/K0 e=none:=by
 intro e;cases e<;>first|exact .inr (.inr rfl)|exact .inl #[_,_,rfl]|exact .inr (.inl #[_,_,_,rfl])
theorem B8(h:K0 tg=some xs):(∃x p,tg=.Name x p/\xs=[x])\/∃x y p p' k q,tg=.Tuple [.Name x p,.Name y p'] k q/\xs=[x,y]:=by
 rcases SJ tg with⟨x,p,rfl⟩|⟨es,k,q,rfl⟩|e
 .exact .inl #[x,p,rfl,(aG h).symm]
 .cases es with
  |nil=>exact nn h
  |cons a es=>cases es with
   |nil=>exact nn h
   |cons b es=>cases es with
    |cons=>exact nn h
    |nil=>
     obtain⟨x,h1,h⟩:=ao.mp h;obtain⟨y,h2,h3⟩:=ag.mp h;obtain⟨p,rfl⟩:=Av h1;obtain⟨p',rfl⟩:=Av h2;exact .inr #[x,y,p,p',k,q,rfl,h3.symm]
 .exact nn (e.symm.trans h)
open PL (U SO bJ Xn KU KX Spec bY)
noncomputable def tj:Option NameKind->Bool
 |some .local=>true
 |some .cell=>true
 |_=>false
noncomputable def B9:mO->Option PL.FK
 |.Add=>some .add|.Sub=>some .sub|.BitOr=>some .bor|_=>none
structure CG where
 s:Inf->Stmt->Option PL.Sm
 ss:Inf->List Stmt->Option PL.dj
noncomputable def W0(T:Tab)(F:CF)(G:CG)(I:Inf)(s:Stmt):Option PL.Sm:=match s with
  |.Assign ts e _=>(match ts with
   |[t]=>(match t with
    |.Name x _=>(match dz x I.N with
     |some i=>if tj (I.names.lookup x) then(F.e I e).map (.set i) else none
     |none=>none)
    |.Attribute o f _=>do
     let q <-pick T.uS f
     let x <-F.e I o
     let y <-F.e I e
     some (.iQ x q y)
    |_=>none)
   |_=>none)
  |.AugAssign t op e _=>(match t with
   |.Name x _=>(match dz x I.N with
    |some i=>if tj (I.names.lookup x) then do
      let p <-B9 op
      let y <-F.e I e
      some (.aug i p y)
     else none
    |none=>none)
   |.Attribute o f _=>do
    let q <-pick T.uS f
    let p <-B9 op
    let x <-F.e I o
    let y <-F.e I e
    some (.vW x q p y)
   |.Subscript o i _=>if pb i then do
     let p <-B9 op
     let x <-F.e I o
     let j <-F.e I i
     let y <-F.e I e
     some (.EL x j p y)
    else none
   |_=>none)
  |.Expr e _=>if yW e then(F.e I e).map .ex else none
  |.Return e _=>(match e with
   |some e=>(F.e I e).map .ret
   |none=>none)
  |.If c a b _=>do
   let c <-F.t I c
   let a <-G.ss I a
   let b <-G.ss I b
   some (.ifs c a b)
  |.While c b el _=>if el.isEmpty then do
    let c <-F.t I c
    let b <-G.ss I b
    some (.Ai c b)
   else none
  |.For tg it b el _=>if !(I.calm&&el.isEmpty) then none else(match K0 tg with
   |some xs=>(match xs with
    |[x]=>(match dz x I.N with
     |some i=>if tj (I.names.lookup x) then do
       let it <-F.i I it
       let b <-G.ss I b
       some (.i9 (.name i) it b)
      else none
     |none=>none)
    |[x,y]=>(match dz x I.N with
     |some i=>(match dz y I.N with
      |some j=>if tj (I.names.lookup x)&&tj (I.names.lookup y) then do
        let it <-F.n I it
        let b <-G.ss I b
        some (.i9 (.pair i j) it b)
       else none
      |none=>none)
     |none=>none)
    |_=>none)
   |none=>none)
  |.Raise ex ca _=>(match ca with
   |some _=>some (.ex (.ix (.lit .bK) (.lit .bK)))
   |none=>(match ex with
    |some c=>(match c with
     |.Call f args kws _=>(match f with
      |.Name x _=>if kws.isEmpty&&I.gl x&&x !=("__debug__":Str)&&I.calm && !args.isEmpty then do
        let q <-pick T.v5 x
        let as <-F.es I args
        if (PL.cL q).isEmpty then none else some (.raise q as)
       else none
      |_=>none)
     |_=>none)
    |none=>none))
  |.Try b hs el fi _=>(match hs with
   |[h]=>(match h with
    |.ExceptHandler ty nm bd _=>(match ty with
     |some c=>(match c with
      |.Name x _=>(match nm with
       |some y=>(match bd with
        |h0::h=>if el.isEmpty&&fi.isEmpty&&I.gl x&&x !=("__debug__":Str)&&I.calm&&I.names.lookup y==some .local then
          (match dz y I.N with
          |some i=>do
           let q <-pick T.v5 x
           let b <-G.ss I b
           let h <-G.ss {I with calm:=false} (h0::h)
           some (.Oo b q i h)
          |none=>none)
         else none
        |[]=>none)
       |none=>none)
      |_=>none)
     |none=>none))
   |_=>none)
  |_=>none
noncomputable def K2(G:CG)(I:Inf):List Stmt->Option PL.dj
 |[]=>some .nil
 |s::ss=>do
  let x <-G.s I s
  let xs <-G.ss I ss
  some (.cons x xs)
noncomputable def EX(T:Tab):Nat->CG
 |0=>#[λ_ _=>none,λ_ _=>none]
 |n+1=>#[W0 T (qD T n) (EX T n),K2 (EX T n)]
noncomputable abbrev cS(T:Tab)(n:Nat):Inf->Stmt->Option PL.Sm:=(EX T n).s
noncomputable abbrev Jz(T:Tab)(n:Nat):Inf->List Stmt->Option PL.dj:=(EX T n).ss
theorem W2:cS T 0 I x=none:=rfl
theorem W3:cS T (n+1) I x=W0 T (qD T n) (EX T n) I x:=rfl
theorem SK:Jz T 0 I x=none:=rfl
theorem MR:Jz T (n+1) I x=K2 (EX T n) I x:=rfl
open PySem.Spec PyProof.Rows PySem.W
open PL (U SO bJ Xn KU KX Spec bY)
structure Ctx where
 P:bC
 w:bZ
 K:Frag
 mg:Str->Option Value
 base:Heap
 cls:String->Option Addr
 exc:String->Option Addr
noncomputable abbrev nm(s:String):Str:=b8 s
noncomputable def xr(K:Frag)(H:Hp)(a:Addr)(vs:List V):Prop:=
 (∃o,H a=some (.Bz o (.lst vs))) \/
  ∃(o:Obj)(its:Array Value)(n:Nat),K.lookup a=some o/\o.cls=.type "list"/\o.dict=none/\o.data=.seq its n/\its.size<=sizeLine/\Vals vs its.toList
theorem xr.sq{K:Frag}{H:Hp}{a:Addr}{vs:List V}(h:xr K H a vs):gH K H a vs:=by
 rcases h with⟨o,h⟩|h
 .exact .inl (.inr #[o,h])
 .exact .inr h
section
variable(c:Ctx)(ρ:List Addr)(H:Hp)
mutual
noncomputable def Rep:U->V->Prop
 |.bK,v=>v=.bK
 |.bl b,v=>v=.bl b
 |.int i,v=>v=.int i
 |.str l,v=>v=.str (tx l)
 |.tup us,v=>∃a vs,v=.ref a/\H a=some (.tup vs)/\aU us vs
 |.loc n,v=>∃a,v=.ref a/\ρ[n]?=some a
 |.pF ns,v=>∃a,v=.ref a/\xr c.K H a (ns.map .int)
 |.tab kvs,v=>∃a,v=.ref a/\Oj c.K c.w.params a (kvs.map λp=>(tx p.1,V.str (tx p.2)))
 |.exc x us,v=>∃a d C fs,v=.ref a/\c.exc x=some C/\H a=some (.xc a (.ref C) (some d))/\H d=some (.xf d fs)/\fs.map (·.1)=(PL.cL x).map nm/\aU us (fs.map (·.2))
noncomputable def aU:List U->List V->Prop
 |[],vs=>vs=[]
 |u::us,vs=>∃v r,vs=v::r/\Rep u v/\aU us r
end
noncomputable def v8(a:Addr):SO->Prop
 |.lst us=>∃vs,H a=some (.lst vs)/\aU c ρ H us vs
 |.ins x fs=>∃C dx vs,c.cls x=some C/\H a=some (.ins C dx vs)/\vs.map (·.1)=(fs.map (·.1)).map nm/\aU c ρ H (fs.map (·.2)) (vs.map (·.2))
 |.vJ kvs=>∃vs,H a=some (.dK vs)/\vs.length=kvs.length/\aU c ρ H (kvs.map (·.1)) (vs.map λp=>kV p.1)/\aU c ρ H (kvs.map (·.2)) (vs.map (·.2))
structure cj(S:bJ):Prop where
 len:ρ.length=S.length
 nd:ρ.Nodup
 at_:∀(n:Nat)(a:Addr)(o:SO),ρ[n]?=some a->S[n]?=some o->v8 c ρ H a o
end
structure ig(ρ:List Addr)(H:Hp)(ρ':List Addr)(H':Hp):Prop where
 pre:∃more,ρ'=ρ++more
 new:∀b∈ρ',b∉ρ->H b=none
 fr:∀b o,H b=some o->b∉ρ->H' b=some o
section
variable{c:Ctx}{ρ ρ' ρ'':List Addr}{H H' H'':Hp}{S S':bJ}
theorem ig.refl:ig ρ H ρ H:=#[#[[],by simp],λ_ h n=>absurd h n,λ_ _ h _=>h]
theorem ig.trans(a:ig ρ H ρ' H')(b:ig ρ' H' ρ'' H''):ig ρ H ρ'' H'':=by
 obtain⟨m1,e1⟩:=a.pre;obtain⟨m2,e2⟩:=b.pre;refine#[#[m1++m2,by rw[e2,e1,bp]],λx hx nx=>?_,λx o h nx=>?_]
 .by_cases z:x∈ρ'
  .exact a.new x z nx
  .cases q:H x with
   |none=>rfl
   |some o=>exact absurd (a.fr x o q nx) (by rw[b.new x hx z];simp)
 .have q:=a.fr x o h nx
  by_cases z:x∈ρ'
  .exact absurd (a.new x z nx) (by rw[h];simp)
  .exact b.fr x o q z
theorem ig.get(a:ig ρ H ρ' H'){n:Nat}{b:Addr}(h:ρ[n]?=some b):ρ'[n]?=some b:=by
 obtain⟨m,e⟩:=a.pre;rw[e,aq (by obtain⟨h,_⟩:=ae.mp h;exact h)]
 exact h
noncomputable def yX:HO->Bool
 |.lst _=>true
 |.ins _ _ _=>true
 |.dK _=>true
 |_=>false
theorem cj.obj(R:cj c ρ H S)(h:b∈ρ):∃o,H b=some o/\yX o=true:=by
 obtain⟨n,hn,e⟩:=Ed h;have hn':n<S.length:=R.len▸hn;have q:=R.at_ n b S[n] (by rw[aa hn,e]) (aa hn');cases o:S[n] with
 |lst us=>rw[o] at q;obtain⟨vs,h,_⟩:=q;exact#[_,h,rfl]
 |ins x fs=>rw[o] at q;obtain⟨C,dx,vs,_,h,_⟩:=q;exact#[_,h,rfl]
 |vJ kvs=>rw[o] at q;obtain⟨vs,h,_⟩:=q;exact#[_,h,rfl]
theorem cj.not(R:cj c ρ H S)(h:H b=some o)(q:yX o=false):b∉ρ:=λz=>by
 obtain⟨o',h',q'⟩:=R.obj z;rw[h] at h';injection h' with e;subst e
 rw[q] at q';exact Jl q'
theorem cj.K3(R:cj c ρ H S)(h:H b=none):b∉ρ:=λz=>by
 obtain⟨o',h',_⟩:=R.obj z;rw[h] at h';cases h'
mutual
theorem Rep.jD(p:∃more,ρ'=ρ++more)(k:∀b o,H b=some o->yX o=false->H' b=some o):∀{u:U}{v:V},Rep c ρ H u v->Rep c ρ' H' u v
 |.bK,_,h=>by unfold Rep at h ⊢;exact h
 |.bl _,_,h=>by unfold Rep at h ⊢;exact h
 |.int _,_,h=>by unfold Rep at h ⊢;exact h
 |.str _,_,h=>by unfold Rep at h ⊢;exact h
 |.tup us,_,h=>by
  unfold Rep at h ⊢;obtain⟨x,vs,e,hx,hs⟩:=h;exact#[x,vs,e,k x _ hx rfl,aU.jD p k hs]
 |.loc n,_,h=>by
  unfold Rep at h ⊢;obtain⟨x,e,hx⟩:=h;obtain⟨m,rfl⟩:=p;exact#[x,e,by rw[aq (by obtain⟨h,_⟩:=ae.mp hx;exact h)];exact hx]
 |.pF ns,_,h=>by
  unfold Rep at h ⊢;obtain⟨x,e,hx⟩:=h;rcases hx with⟨o,hx⟩|hx
  .exact#[x,e,.inl #[o,k x _ hx rfl]]
  .exact#[x,e,.inr hx]
 |.tab _,_,h=>by unfold Rep at h ⊢;exact h
 |.exc x us,_,h=>by
  unfold Rep at h ⊢;obtain⟨b,d,C,fs,e,hC,hb,hd,hk,hs⟩:=h;exact#[b,d,C,fs,e,hC,k b _ hb rfl,k d _ hd rfl,hk,aU.jD p k hs]
theorem aU.jD(p:∃more,ρ'=ρ++more)(k:∀b o,H b=some o->yX o=false->H' b=some o):∀{us:List U}{vs:List V},aU c ρ H us vs->aU c ρ' H' us vs
 |[],_,h=>by unfold aU at h ⊢;exact h
 |u::us,_,h=>by
  unfold aU at h ⊢;obtain⟨v,r,e,h1,h2⟩:=h;exact#[v,r,e,Rep.jD p k h1,aU.jD p k h2]
end
theorem v8.jD(p:∃more,ρ'=ρ++more)(m:∀b o,H b=some o->yX o=false->H' b=some o)(h:v8 c ρ H b o)(k:H' b=H b):v8 c ρ' H' b o:=by
 cases o with
 |lst us=>obtain⟨vs,h1,h2⟩:=h;exact#[vs,k.trans h1,h2.jD p m]
 |ins x fs=>obtain⟨C,dx,vs,h0,h1,h2,h3⟩:=h;exact#[C,dx,vs,h0,k.trans h1,h2,h3.jD p m]
 |vJ kvs=>obtain⟨vs,h1,h2,h3,h4⟩:=h;exact#[vs,k.trans h1,h2,h3.jD p m,h4.jD p m]
theorem ig.W4(R:cj c ρ H S)(a:ig ρ H ρ' H'):∀b o,H b=some o->yX o=false->H' b=some o:=λb o h q=>a.fr b o h (R.not h q)
theorem Rep.mono(R:cj c ρ H S)(a:ig ρ H ρ' H')(h:Rep c ρ H u v):Rep c ρ' H' u v:=h.jD a.pre (a.W4 R)
theorem aU.mono(R:cj c ρ H S)(a:ig ρ H ρ' H')(h:aU c ρ H us vs):aU c ρ' H' us vs:=h.jD a.pre (a.W4 R)
theorem v8.mono(R:cj c ρ H S)(a:ig ρ H ρ' H')(h:v8 c ρ H b o)(k:H' b=H b):v8 c ρ' H' b o:=h.jD a.pre (a.W4 R) k
theorem Ds(hD:H D=some o)(q:yX o=true):∀b o,H b=some o->yX o=false->upd H D ho b=some o:=λb o' h z=>by
 rw[bw]
 .exact h
 .intro e;subst e;rw[hD] at h;injection h with h;subst h;rw[q] at z;exact Jl z
theorem cj.Hx(R:cj c ρ H S)(ho:HO)(hD:H D=some o)(q:yX o=true)(n:D∉ρ):cj c ρ (upd H D ho) S:=
 #[R.len,R.nd,λm b o' h1 h2=>(R.at_ m b o' h1 h2).jD #[[],by simp] (Ds hD q) (bw λe=>n (e▸aw h1))]
theorem cj.join(R:cj c ρ H S)(n:D∉ρ)(h:v8 c ρ H D o):cj c (ρ++[D]) H (S++[o]):=by
 have p:∃more,ρ++[D]=ρ++more:=#[[D],rfl]
 refine#[by simp[R.len],?_,λm a o' h1 h2=>?_]
 .rw[mh]
  exact#[R.nd,by simp,λx hx y hy=>by rw[fS.mp hy];exact λe=>n (e▸hx)]
 .by_cases z:m<ρ.length
  .rw[aq z] at h1
   rw[aq (R.len▸z)] at h2;exact(R.at_ m a o' h1 h2).jD p (λ_ _ h _=>h) rfl
  .have hz:m=ρ.length:=by
    obtain⟨q,_⟩:=ae.mp h1;simp at q;omega
   subst hz;rw[ay (ax _),cq] at h1;rw[R.len,ay (ax _),cq] at h2;simp at h1 h2;rw[<-h1,<-h2];exact h.jD p (λ_ _ h _=>h) rfl
theorem ig.alloc(R:cj c ρ H S)(hp:H p=none)(o:HO):ig ρ H (ρ++[p]) (upd H p o):=by
 refine#[#[[p],rfl],λb hb nb=>?_,λb o h nb=>?_]
 .rcases aE.mp hb with h|h
  .exact absurd h nb
  .rw[fS.mp h];exact hp
 .rw[bw (fB h hp)];exact h
theorem cj.alloc(R:cj c ρ H S)(hp:H p=none)(h:v8 c (ρ++[p]) (upd H p ho) p o):cj c (ρ++[p]) (upd H p ho) (S++[o]):=by
 have st:=ig.alloc R hp ho;refine#[by simp[R.len],?_,λn a o' h1 h2=>?_]
 .rw[mh]
  exact#[R.nd,by simp,λx hx y hy=>by rw[fS.mp hy];exact λe=>R.K3 hp (e▸hx)]
 .by_cases z:n<ρ.length
  .rw[aq z] at h1
   rw[aq (R.len▸z)] at h2;refine(R.at_ n a o' h1 h2).mono R st (bw λe=>?_);exact R.K3 hp (e▸aw h1)
  .have hz:n=ρ.length:=by
    obtain⟨q,_⟩:=ae.mp h1;simp at q;omega
   subst hz;rw[ay (ax _),cq] at h1;rw[R.len,ay (ax _),cq] at h2;simp at h1 h2;rw[<-h1,<-h2];exact h
theorem ig.lay(R:cj c ρ H S)(hp:H p=none)(o:HO):ig ρ H ρ (upd H p o):=
 #[#[[],by simp],λ_ h n=>absurd h n,λb _ h _=>by rw[bw (fB h hp)];exact h]
theorem cj.lay(R:cj c ρ H S)(hp:H p=none)(o:HO):cj c ρ (upd H p o) S:=
 #[R.len,R.nd,λn a o' h1 h2=>(R.at_ n a o' h1 h2).mono R (ig.lay R hp o) (bw λe=>R.K3 hp (e▸aw h1))]
theorem ig.put(h:a∈ρ)(o:HO):ig ρ H ρ (upd H a o):=
 #[#[[],by simp],λ_ h n=>absurd h n,λb _ q nb=>by rw[bw (show b≠a from λe=>nb (by rw[e];exact h))];exact q]
theorem cj.put(R:cj c ρ H S)(ha:ρ[n]?=some a)(h:v8 c ρ (upd H a ho) a o):cj c ρ (upd H a ho) (S.set n o):=by
 have hm:=aw ha;refine#[by simp[R.len],R.nd,λm b o' h1 h2=>?_];by_cases z:m=n
 .subst z
  rw[ha] at h1;injection h1 with h1;subst h1
  have hl:m<S.length:=R.len▸(ae.mp ha).1;rw[bU hl] at h2;injection h2 with h2;subst h2;exact h
 .rw[av (dM z)] at h2
  refine(R.at_ m b o' h1 h2).mono R (ig.put hm ho) (bw λe=>z ?_);subst e;obtain⟨l1,e1⟩:=ae.mp h1;obtain⟨l2,e2⟩:=ae.mp ha;exact(Jh R.nd).mp (e1.trans e2.symm)
theorem aU.len:∀{us:List U}{vs:List V},aU c ρ H us vs->us.length=vs.length
 |[],_,h=>by unfold aU at h;subst h;rfl
 |_::us,_,h=>by
  unfold aU at h;obtain⟨v,r,e,_,h2⟩:=h;subst e;rw[aQ,aQ,aU.len h2]
theorem aU.nil:aU c ρ H [] []:=by unfold aU;rfl
theorem aU.cons(h:Rep c ρ H u v)(t:aU c ρ H us vs):aU c ρ H (u::us) (v::vs):=by unfold aU;exact#[v,vs,rfl,h,t]
theorem aU.app:∀{us ws:List U}{vs xs:List V},aU c ρ H us vs->aU c ρ H ws xs->aU c ρ H (us++ws) (vs++xs)
 |[],_,_,_,h,k=>by unfold aU at h;subst h;exact k
 |u::us,_,_,_,h,k=>by
  unfold aU at h;obtain⟨v,r,e,h1,h2⟩:=h;subst e;exact aU.cons h1 (aU.app h2 k)
theorem aU.get:∀{us:List U}{vs:List V}{n:Nat}{u:U},aU c ρ H us vs->us[n]?=some u->∃v,vs[n]?=some v/\Rep c ρ H u v
 |[],_,_,_,_,e=>by simp at e
 |u::us,_,n,_,h,e=>by
  unfold aU at h;obtain⟨v,r,e',h1,h2⟩:=h;subst e';cases n with
  |zero=>simp at e;subst e;exact#[v,rfl,h1]
  |succ n=>simp at e ⊢;exact aU.get h2 e
theorem aU.take:∀{us:List U}{vs:List V}(n:Nat),aU c ρ H us vs->aU c ρ H (us.take n) (vs.take n)
 |_,_,0,_=>by simp only[List.take_zero];exact aU.nil
 |[],_,_+1,h=>by unfold aU at h;subst h;simp only[List.take_nil];exact aU.nil
 |u::us,_,n+1,h=>by
  unfold aU at h;obtain⟨v,r,e,h1,h2⟩:=h;subst e;exact aU.cons h1 (aU.take n h2)
theorem aU.drop:∀{us:List U}{vs:List V}(n:Nat),aU c ρ H us vs->aU c ρ H (us.drop n) (vs.drop n)
 |_,_,0,h=>h
 |[],_,_+1,h=>by unfold aU at h;subst h;simp only[List.drop_nil];exact aU.nil
 |u::us,_,n+1,h=>by
  unfold aU at h;obtain⟨v,r,e,h1,h2⟩:=h;subst e;exact aU.drop n h2
end
open PL (U SO bJ Xn KU KX Spec bY)
noncomputable abbrev Cx.at_(X:Cx)(pZ:List (Addr×Obj))(E:St->XK):Cx:={X with pn:=X.pn++pZ,xe:=RZ X pZ E}
section
variable{X:Cx}{pZ pins':List (Addr×Obj)}{E:St->XK}{σ:St}{H:Hp}{s:ak}
theorem Cx.Ok.at_(ok:X.Ok):(X.at_ pZ E).Ok:=
 #[ok.mod,ok.kind,ok.glob,ok.blt,ok.above,ok.inj,ok.has,ok.MA,ok.hd,ok.frames,ok.Ep,ok.Ra,ok.bs,ok.FI,ok.zX,ok.BA,ok.pS,ok.Jv]
theorem Cx.Ok.oy(ok:(X.at_ pZ E).Ok):X.Ok:=
 #[ok.mod,ok.kind,ok.glob,ok.blt,ok.above,ok.inj,ok.has,ok.MA,ok.hd,ok.frames,ok.Ep,ok.Ra,ok.bs,ok.FI,ok.zX,ok.BA,ok.pS,ok.Jv]
theorem Inv.at_(I:Inv X pZ σ H s):Inv (X.at_ pZ E) [] σ H s:=
 #[I.ok.at_,I.os,I.bare,I.base,I.loc,I.cell,I.free,I.kn,λp hp=>I.pin p (by simpa using hp),I.dg,I.len]
theorem Inv.oy(I:Inv (X.at_ pZ E) pins' σ H s):Inv X pZ σ H s:=
 #[I.ok.oy,I.os,I.bare,I.base,I.loc,I.cell,I.free,I.kn,λp hp=>I.pin p (aE.mpr (.inl hp)),I.dg,I.len]
theorem BS.oy(h:BS (X.at_ pZ E) pins' H b):BS X pZ H b:=
 #[h.1,h.2.1,h.2.2.1,h.2.2.2.1,λp hp=>h.2.2.2.2 p (aE.mpr (.inl hp))]
theorem XE.oy(h:XE (X.at_ pZ E) pins' σ (E σ) e s):RZ X pZ E e s:=by
 obtain⟨a,tb,cl,dx,H',e1,I,x,f,q⟩:=h;exact#[σ,a,tb,cl,dx,H',e1,I.oy,x,λb hb=>(f b hb).oy,q]
abbrev atS(σ:St)(E:XK):St->XK:=λσ' cl dx H=>σ'=σ/\E cl dx H
theorem uV(σ:St)(E:XK):atS σ E σ=E:=by
 funext cl dx H
 exact propext #[λh=>h.2,λh=>#[rfl,h]]
theorem RZ.one{e:Value}{E:XK}(h:RZ X pZ (atS σ E) e s):XE X pZ σ E e s:=by
 obtain⟨σ',a,tb,cl,dx,H',e1,I,x,f,q,w⟩:=h;subst q;exact#[a,tb,cl,dx,H',e1,I,x,f,w]
theorem EP.oy(h:EP (X.at_ pZ E) pins' σ Q u s):EP X pZ σ Q u s:=by
 obtain⟨v,H',I,r,q⟩:=h;exact#[v,H',I.oy,r,q]
end
noncomputable def Ca(X:Cx)(e:Expr)(t:XK->TT):Prop:=
 ∀(pZ:List (Addr×Obj))(s:ak)(σ:St)(H:Hp)(Q:Bool->Hp->Prop)(E:XK),Inv X pZ σ H s->t E σ H Q->wpAny (aR X.prog X.w) X.A (isTrue e X.env (eval e X.env)) (TP X pZ σ Q) (XE X pZ σ E) s
noncomputable def Aw(X:Cx)(es:List Expr)(t:XK->TA):Prop:=
 ∀(pos:Pos)(pZ:List (Addr×Obj))(s:ak)(σ:St)(H:Hp)(Q:List V->Hp->Prop)(E:XK),Inv X pZ σ H s->t E σ H Q->wpAny (aR X.prog X.w) X.A (spliced (iN pos (bS es X.env))) (AP X pZ σ Q) (XE X pZ σ E) s
section
variable{X:Cx}{pZ:List (Addr×Obj)}{e:Expr}{es:List Expr}
theorem PE.imp(h:PE X e t)(q:∀σ H Q,t' σ H Q->t σ H Q):PE X e t':=λpZ s σ H Q I z=>h pZ s σ H Q I (q σ H Q z)
theorem PT.imp(h:PT X e t)(q:∀σ H Q,t' σ H Q->t σ H Q):PT X e t':=λpZ s σ H Q I z=>h pZ s σ H Q I (q σ H Q z)
theorem up(h:∀pZ E,PE (X.at_ pZ E) e (λσ H Q=>t (E σ) σ H Q)):eI X e t:=by
 intro pZ s σ H Q E I z;refine bL (h pZ (atS σ E) [] s σ H Q I.at_ (by show t (atS σ E σ) σ H Q;rw[uV];exact z)) (λu s' q=>q.oy) λu s' q=>q.one
theorem dn(h:eI (X.at_ pZ E) e t):PE (X.at_ pZ E) e (λσ H Q=>t (E σ) σ H Q):=by
 intro pins' s σ H Q I z;exact bL (h pins' s σ H Q (E σ) I z) (λu s' q=>q) λu s' q=>q.oy
theorem Vv(h:∀pZ E,PT (X.at_ pZ E) e (λσ H Q=>t (E σ) σ H Q)):Ca X e t:=by
 intro pZ s σ H Q E I z;refine bL (h pZ (atS σ E) [] s σ H Q I.at_ (by show t (atS σ E σ) σ H Q;rw[uV];exact z)) (λu s' #[H',I',q]=>#[H',I'.oy,q]) λu s' q=>q.one
theorem QT(h:Ca (X.at_ pZ E) e t):PT (X.at_ pZ E) e (λσ H Q=>t (E σ) σ H Q):=by
 intro pins' s σ H Q I z;exact bL (h pins' s σ H Q (E σ) I z) (λu s' q=>q) λu s' q=>q.oy
theorem YC(h:∀pZ E,PA (X.at_ pZ E) es (λσ H Q=>t (E σ) σ H Q)):Aw X es t:=by
 intro pos pZ s σ H Q E I z;refine bL (h pZ (atS σ E) pos [] s σ H Q I.at_ (by show t (atS σ E σ) σ H Q;rw[uV];exact z)) (λu s' #[vs,H',I',r,q]=>#[vs,H',I'.oy,r,q]) λu s' q=>q.one
theorem Cb(h:Aw (X.at_ pZ E) es t):PA (X.at_ pZ E) es (λσ H Q=>t (E σ) σ H Q):=by
 intro pos pins' s σ H Q I z;exact bL (h pos pins' s σ H Q (E σ) I z) (λu s' q=>q) λu s' q=>q.oy
end
structure iL(c:Ctx)(ρ:List Addr)(H:Hp)(env:PL.Env)(σ:St):Prop where
 len:env.length=σ.length
 at_:∀(i:Nat)u,env[i]?=some (some u)->∃v,σ[i]?=some (some v)/\Rep c ρ H u v
noncomputable def ExcAt(c:Ctx)(ρ:List Addr)(H:Hp)(x:Xn)(C d:Addr):Prop:=c.exc x.c=some C/\∃fs,H d=some (.xf d fs)/\fs.map (·.1)=(PL.cL x.c).map nm/\aU c ρ H x.us (fs.map (·.2))
section
variable(c:Ctx)(ρ:List Addr)(H:Hp)
noncomputable def QV(QU:KU)(Q:VK):Prop:=∀u S' v H' ρ',QU u S'->ig ρ H ρ' H'->cj c ρ' H' S'->Rep c ρ' H' u v->Q v H'
noncomputable def QB(QU:Bool->bJ->Prop)(Q:Bool->Hp->Prop):Prop:=∀b S' H' ρ',QU b S'->ig ρ H ρ' H'->cj c ρ' H' S'->Q b H'
noncomputable def QA(QU:List U->bJ->Prop)(Q:List V->Hp->Prop):Prop:=∀us S' vs H' ρ',QU us S'->ig ρ H ρ' H'->cj c ρ' H' S'->aU c ρ' H' us vs->Q vs H'
noncomputable def QX(EU:KX)(E:XK):Prop:=∀x S' H' ρ' C d,EU x S'->ig ρ H ρ' H'->cj c ρ' H' S'->ExcAt c ρ' H' x C d->E (.ref C) (some d) H'
end
section
variable{c:Ctx}{ρ ρ':List Addr}{H H':Hp}{S:bJ}
theorem QV.later(q:QV c ρ H QU Q)(a:ig ρ H ρ' H'):QV c ρ' H' QU Q:=λu S' v H2 ρ2 h b R r=>q u S' v H2 ρ2 h (a.trans b) R r
theorem QB.later(q:QB c ρ H QU Q)(a:ig ρ H ρ' H'):QB c ρ' H' QU Q:=λu S' H2 ρ2 h b R=>q u S' H2 ρ2 h (a.trans b) R
theorem QX.later(q:QX c ρ H EU E)(a:ig ρ H ρ' H'):QX c ρ' H' EU E:=λx S' H2 ρ2 C d h b R r=>q x S' H2 ρ2 C d h (a.trans b) R r
theorem QV.now(q:QV c ρ H QU Q)(R:cj c ρ H S)(h:QU u S)(r:Rep c ρ H u v):Q v H:=q u S v H ρ h .refl R r
theorem iL.later(h:iL c ρ H env σ)(R:cj c ρ H S)(a:ig ρ H ρ' H'):iL c ρ' H' env σ:=
 #[h.len,λi u e=>by obtain⟨v,h1,h2⟩:=h.at_ i u e;exact#[v,h1,h2.mono R a]]
end
section
variable(c:Ctx)(Γ:bY)
noncomputable def tE(x:PL.Ex):XK->TE:=λE σ H Q=>∃env ρ S QU EU,iL c ρ H env σ/\cj c ρ H S/\PL.WE Γ x env S QU EU/\QV c ρ H QU Q/\QX c ρ H EU E
noncomputable def tT(x:PL.Tx):XK->TT:=λE σ H Q=>∃env ρ S QU EU,iL c ρ H env σ/\cj c ρ H S/\PL.WT Γ x env S QU EU/\QB c ρ H QU Q/\QX c ρ H EU E
noncomputable def EY(x:PL.yN):XK->TA:=λE σ H Q=>∃env ρ S QU EU,iL c ρ H env σ/\cj c ρ H S/\PL.uJ Γ x env S QU EU/\QA c ρ H QU Q/\QX c ρ H EU E
end
open PL (U SO bJ Xn KU KX Spec bY)
theorem pK(h:n<=1000000):n<=sizeLine:=aT h ⋯
section
variable{c:Ctx}{ρ:List Addr}{H:Hp}{S:bJ}
theorem eh:Rep c ρ H .bK v↔v=.bK:=by unfold Rep;exact jP
theorem dA:Rep c ρ H (.bl b) v↔v=.bl b:=by unfold Rep;exact jP
theorem aN:Rep c ρ H (.int b) v↔v=.int b:=by unfold Rep;exact jP
theorem bq:Rep c ρ H (.str b) v↔v=.str (tx b):=by unfold Rep;exact jP
theorem dB:Rep c ρ H (.tup us) v↔∃a vs,v=.ref a/\H a=some (.tup vs)/\aU c ρ H us vs:=by unfold Rep;exact jP
theorem iU:Rep c ρ H (.loc n) v↔∃a,v=.ref a/\ρ[n]?=some a:=by unfold Rep;exact jP
theorem qE:Rep c ρ H (.pF ns) v↔∃a,v=.ref a/\xr c.K H a (ns.map .int):=by unfold Rep;exact jP
theorem tM:Rep c ρ H (.tab kvs) v↔∃a,v=.ref a/\Oj c.K c.w.params a (kvs.map λp=>(tx p.1,V.str (tx p.2))):=by unfold Rep;exact jP
theorem cj.lst(R:cj c ρ H S)(h:S[n]?=some (.lst us))(r:Rep c ρ H (.loc n) v):∃a vs,v=.ref a/\ρ[n]?=some a/\H a=some (.lst vs)/\aU c ρ H us vs:=by
 obtain⟨a,e,ha⟩:=iU.mp r;obtain⟨vs,h1,h2⟩:=R.at_ n a _ ha h;exact#[a,vs,e,ha,h1,h2]
theorem cj.ins(R:cj c ρ H S)(h:S[n]?=some (.ins x fs))(r:Rep c ρ H (.loc n) v):∃a C dx vs,v=.ref a/\ρ[n]?=some a/\c.cls x=some C/\H a=some (.ins C dx vs)/\vs.map (·.1)=(fs.map (·.1)).map nm/\aU c ρ H (fs.map (·.2)) (vs.map (·.2)):=by
 obtain⟨a,e,ha⟩:=iU.mp r;obtain⟨C,dx,vs,h0,h1,h2,h3⟩:=R.at_ n a _ ha h;exact#[a,C,dx,vs,e,ha,h0,h1,h2,h3]
theorem QV.Hy(q:QV c ρ H QU Q)(R:cj c ρ H S)(r:aU c ρ H us vs)(h:QU (.loc S.length) (S++[.lst us]))(hp:H p=none):Q (.ref p) (upd H p (.lst vs)):=by
 have st:=ig.alloc R hp (.lst vs);have R':cj c (ρ++[p]) (upd H p (.lst vs)) (S++[.lst us]):=R.alloc hp #[vs,bF,r.mono R st];refine q _ _ _ _ _ h st R' (iU.mpr #[p,rfl,?_]);rw[<-R.len,ay (ax _),cq];rfl
theorem QV.K4(q:QV c ρ H QU Q)(R:cj c ρ H S)(r:aU c ρ H us vs)(h:QU (.tup us) S)(hp:H p=none):Q (.ref p) (upd H p (.tup vs)):=by
 have st:=ig.lay R hp (.tup vs);exact q _ _ _ _ _ h st (R.lay hp _) (dB.mpr #[p,vs,rfl,bF,r.mono R st])
end
noncomputable def v9(c:Ctx)(o:PL.FK):R2:=λx y H Q=>∃ux uy ρ S QU,Rep c ρ H ux x/\Rep c ρ H uy y/\cj c ρ H S/\PL.jL o ux uy S QU/\QV c ρ H QU Q
noncomputable def K5:PL.FK->mO
 |.add=>.Add|.sub=>.Sub|.mul=>.Mult|.fdiv=>.FloorDiv|.mod=>.Mod|.band=>.BitAnd|.bor=>.BitOr|.shl=>.LShift|.shr=>.RShift
section
variable{X:Cx}{c:Ctx}
theorem K6:gw X (cA .Add) (v9 c .add):=by
 intro pZ s σ H x y v u Q I rx ry h;obtain⟨ux,uy,ρ,S,QU,hx,hy,R,w,q⟩:=h;cases ux<;>first|exact aJ w|skip
 .rename_i i
  obtain⟨j,rfl,w⟩:=PL.eR.mp w;exact NH pZ s σ H x y v u Q I rx ry #[i,j,aN.mp hx,aN.mp hy,q.now R w (aN.mpr rfl)]
 .rename_i a
  obtain⟨b,rfl,w⟩:=PL.oS.mp w;exact EI pZ s σ H x y v u Q I rx ry #[a,b,bq.mp hx,bq.mp hy,pK w.1,q.now R w.2 (bq.mpr rfl)]
 .rename_i us
  obtain⟨ws,rfl,w⟩:=PL.KG.mp w;obtain⟨a,vs,e1,h1,r1⟩:=dB.mp hx;obtain⟨b,zs,e2,h2,r2⟩:=dB.mp hy;obtain⟨w1,w2⟩:=w;by_cases w0:us=[]
  .subst w0
   have ev:vs=[]:=fM (by rw[<-r1.len];rfl);subst ev;exact Hg pZ s σ H x y v u Q I rx ry #[a,b,zs,e1,e2,lU.of h1,lU.of h2,by rw[<-e2];exact q.now R w2 hy]
  refine Kj pZ s σ H x y v u Q I rx ry #[a,b,vs,zs,e1,e2,lU.of h1,lU.of h2,λe=>w0 ?_,pK (by rw[<-r1.len,<-r2.len];exact w1),λe=>?_,λ_ p hp=>?_]
  .exact fM (by rw[r1.len,e];rfl)
  .have e3:ws=[]:=fM (by rw[r2.len,e];rfl)
   subst e3;rw[bb] at w2;rw[<-e1]
   exact q.now R w2 hx
  .exact q.K4 R (r1.app r2) w2 hp
 .rename_i m
  obtain⟨n,rfl,w⟩:=PL.k8.mp w;obtain⟨us,h1,w1⟩:=PL.cF.mp w;obtain⟨ws,h2,w2,w3⟩:=PL.cF.mp w1;obtain⟨a,vs,e1,_,g1,r1⟩:=R.lst h1 hx;obtain⟨b,zs,e2,_,g2,r2⟩:=R.lst h2 hy;exact N8 pZ s σ H x y v u Q I rx ry #[a,b,vs,zs,e1,e2,g1,g2,pK (by rw[<-r1.len,<-r2.len];exact w2),λp hp=>q.Hy R (r1.app r2) w3 hp]
theorem K7:gw X (cA .Sub) (v9 c .sub):=by
 intro pZ s σ H x y v u Q I rx ry h;obtain⟨ux,uy,ρ,S,QU,hx,hy,R,w,q⟩:=h;obtain⟨i,j,rfl,rfl,w⟩:=PL.kq w;exact NI pZ s σ H x y v u Q I rx ry #[i,j,aN.mp hx,aN.mp hy,q.now R w (aN.mpr rfl)]
theorem K8:gw X (cA .Mult) (v9 c .mul):=by
 intro pZ s σ H x y v u Q I rx ry h;obtain⟨ux,uy,ρ,S,QU,hx,hy,R,w,q⟩:=h;cases ux<;>first|exact aJ w|skip
 .rename_i i
  obtain⟨j,rfl,w⟩:=PL.eR.mp w;exact NJ pZ s σ H x y v u Q I rx ry #[i,j,aN.mp hx,aN.mp hy,w.1,q.now R w.2 (aN.mpr rfl)]
 .rename_i a
  obtain⟨j,rfl,w⟩:=PL.eR.mp w;obtain⟨k,e,w0,w1,w2⟩:=w;subst e;obtain⟨n,rfl⟩:=Int.eq_ofNat_of_zero_le w0;exact EJ pZ s σ H x y v u Q I rx ry #[k,n,bq.mp hx,aN.mp hy,∅,q.now R (by simpa using w2) (bq.mpr rfl)]
theorem Hz:gw X (cA .FloorDiv) (v9 c .fdiv):=by
 intro pZ s σ H x y v u Q I rx ry h;obtain⟨ux,uy,ρ,S,QU,hx,hy,R,w,q⟩:=h;obtain⟨i,j,rfl,rfl,w⟩:=PL.kq w;exact J0 pZ s σ H x y v u Q I rx ry #[i,j,aN.mp hx,aN.mp hy,w.1,q.now R w.2 (aN.mpr rfl)]
theorem K9:gw X (cA .Mod) (v9 c .mod):=by
 intro pZ s σ H x y v u Q I rx ry h;obtain⟨ux,uy,ρ,S,QU,hx,hy,R,w,q⟩:=h;obtain⟨i,j,rfl,rfl,w⟩:=PL.kq w;exact NK pZ s σ H x y v u Q I rx ry #[i,j,aN.mp hx,aN.mp hy,w.1,q.now R w.2 (aN.mpr rfl)]
theorem HA:gw X (cA .BitAnd) (v9 c .band):=by
 intro pZ s σ H x y v u Q I rx ry h;obtain⟨ux,uy,ρ,S,QU,hx,hy,R,w,q⟩:=h;obtain⟨i,j,rfl,rfl,w⟩:=PL.kq w;exact NN pZ s σ H x y v u Q I rx ry #[i,j,aN.mp hx,aN.mp hy,by dsimp only;rw[yT w.1.1 w.1.2];exact q.now R w.2 (aN.mpr rfl)]
theorem Lc:gw X (cA .BitOr) (v9 c .bor):=by
 intro pZ s σ H x y v u Q I rx ry h;obtain⟨ux,uy,ρ,S,QU,hx,hy,R,w,q⟩:=h;obtain⟨i,j,rfl,rfl,w⟩:=PL.kq w;exact Ry pZ s σ H x y v u Q I rx ry #[i,j,aN.mp hx,aN.mp hy,by dsimp only;rw[B6 w.1.1 w.1.2];exact q.now R w.2 (aN.mpr rfl)]
theorem Ld:gw X (cA .LShift) (v9 c .shl):=by
 intro pZ s σ H x y v u Q I rx ry h;obtain⟨ux,uy,ρ,S,QU,hx,hy,R,w,q⟩:=h;obtain⟨i,j,rfl,rfl,w⟩:=PL.kq w;obtain⟨⟨w1,w2,w3,w4⟩,w5⟩:=w;exact NL pZ s σ H x y v u Q I rx ry #[i,j,aN.mp hx,aN.mp hy,#[w3,∅,∅],q.now R w5 (aN.mpr rfl)]
theorem Le:gw X (cA .RShift) (v9 c .shr):=by
 intro pZ s σ H x y v u Q I rx ry h;obtain⟨ux,uy,ρ,S,QU,hx,hy,R,w,q⟩:=h;obtain⟨i,j,rfl,rfl,w⟩:=PL.kq w;exact NM pZ s σ H x y v u Q I rx ry #[i,j,aN.mp hx,aN.mp hy,w.1.2,q.now R w.2 (aN.mpr rfl)]
noncomputable def EZ(c:Ctx)(o:PL.FK):R2:=λx y H Q=>∃ux uy ρ S QU,Rep c ρ H ux x/\Rep c ρ H uy y/\cj c ρ H S/\PL.sZ o ux uy S QU/\QV c ρ H QU Q
theorem HB:gw X (gS .Add) (EZ c .add):=by
 intro pZ s σ H x y v u Q I rx ry h;obtain⟨ux,uy,ρ,S,QU,hx,hy,R,w,q⟩:=h;cases ux<;>first|exact aJ w|skip
 .rename_i i
  obtain⟨j,rfl,w⟩:=PL.eR.mp w;exact J1 pZ s σ H x y v u Q I rx ry #[i,j,aN.mp hx,aN.mp hy,q.now R w (aN.mpr rfl)]
 .rename_i a
  obtain⟨b,rfl,w⟩:=PL.oS.mp w;exact BY pZ s σ H x y v u Q I rx ry #[a,b,bq.mp hx,bq.mp hy,pK w.1,q.now R w.2 (bq.mpr rfl)]
theorem HC:gw X (gS .Sub) (EZ c .sub):=by
 intro pZ s σ H x y v u Q I rx ry h;obtain⟨ux,uy,ρ,S,QU,hx,hy,R,w,q⟩:=h;cases ux<;>first|exact aJ w|skip
 rename_i i;obtain⟨j,rfl,w⟩:=PL.eR.mp w;exact J2 pZ s σ H x y v u Q I rx ry #[i,j,aN.mp hx,aN.mp hy,q.now R w (aN.mpr rfl)]
theorem HD:gw X (gS .BitOr) (EZ c .bor):=by
 intro pZ s σ H x y v u Q I rx ry h;obtain⟨ux,uy,ρ,S,QU,hx,hy,R,w,q⟩:=h;cases ux<;>first|exact aJ w|skip
 rename_i i;obtain⟨j,rfl,w⟩:=PL.eR.mp w;exact NO pZ s σ H x y v u Q I rx ry #[i,j,aN.mp hx,aN.mp hy,by dsimp only;rw[B6 w.1.1 w.1.2];exact q.now R w.2 (aN.mpr rfl)]
theorem Lf:gw X (cA (K5 o)) (v9 c o):=by
 cases o
 .exact K6
 .exact K7
 .exact K8
 .exact Hz
 .exact K9
 .exact HA
 .exact Lc
 .exact Ld
 .exact Le
theorem yY(h:o=.add\/o=.sub\/o=.bor):gw X (gS (K5 o)) (EZ c o):=by
 rcases h with rfl|rfl|rfl
 .exact HB
 .exact HC
 .exact HD
noncomputable def uW(c:Ctx)(o:PL.Ol):R2:=λx y H Q=>∃ux uy ρ S,Rep c ρ H ux x/\Rep c ρ H uy y/\cj c ρ H S/\PL.iR o ux uy S λb=>Q (.bl b) H
end
mutual
noncomputable def i4:U->Dv
 |.bK=>.bK
 |.bl b=>.bl b
 |.int i=>.int i
 |.str l=>.str l
 |.tup us=>.tup (eP us)
 |_=>.bK
noncomputable def eP:List U->List Dv
 |[]=>[]
 |u::us=>i4 u::eP us
end
section
variable{c:Ctx}{ρ:List Addr}{H:Hp}{S:bJ}
mutual
theorem pd:∀{u:U}{v:V},PL.vX u=true->Rep c ρ H u v->fJ c.K H v (i4 u)
 |.bK,_,_,h=>by unfold i4 fJ;exact eh.mp h
 |.bl _,_,_,h=>by unfold i4 fJ;exact dA.mp h
 |.int _,_,_,h=>by unfold i4 fJ;exact aN.mp h
 |.str _,_,_,h=>by unfold i4 fJ;exact bq.mp h
 |.tup us,_,d,h=>by
  unfold i4 fJ;obtain⟨a,vs,e,h1,h2⟩:=dB.mp h;exact#[a,vs,e,lU.of h1,qF (by unfold PL.vX at d;exact d) h2]
 |.loc _,_,d,_=>by cases d
 |.pF _,_,d,_=>by cases d
 |.tab _,_,d,_=>by cases d
 |.exc _ _,_,d,_=>by cases d
theorem qF:∀{us:List U}{vs:List V},PL.jJ us=true->aU c ρ H us vs->hU c.K H vs (eP us)
 |[],_,_,h=>by unfold aU at h;subst h;unfold eP hU;trivial
 |u::us,_,d,h=>by
  unfold aU at h;obtain⟨v,r,e,h1,h2⟩:=h;subst e;unfold PL.jJ at d;rw[af] at d;unfold eP hU;exact#[pd d.1 h1,qF d.2 h2]
end
end
mutual
theorem ON:∀u:U,PL.vX u=true->(i4 u).depth=PL.dep u
 |.bK,_=>by simp[i4,Dv.depth,PL.dep]
 |.bl _,_=>by simp[i4,Dv.depth,PL.dep]
 |.int _,_=>by simp[i4,Dv.depth,PL.dep]
 |.str _,_=>by simp[i4,Dv.depth,PL.dep]
 |.tup us,d=>by
  unfold i4 Dv.depth PL.dep;rw[pf us (by unfold PL.vX at d;exact d)]
 |.loc _,d=>by cases d
 |.pF _,d=>by cases d
 |.tab _,d=>by cases d
 |.exc _ _,d=>by cases d
theorem pf:∀us:List U,PL.jJ us=true->Dv.iD (eP us)=PL.jK us
 |[],_=>by simp[eP,Dv.iD,PL.jK]
 |u::us,d=>by
  unfold PL.jJ at d;rw[af] at d;unfold eP Dv.iD PL.jK;rw[ON u d.1,pf us d.2]
end
mutual
theorem Dt:∀x y:U,PL.vX x=true->PL.vX y=true->PL.oR x y=mM (i4 x) (i4 y)
 |.tup us,y,d,d'=>by
  cases y with
  |tup ws=>exact Cc us ws d d'
  |_=>first|rfl|cases d'
 |.loc _,_,d,_|.pF _,_,d,_|.tab _,_,d,_|.exc _ _,_,d,_=>by cases d
 |.bK,y,_,d|.bl _,y,_,d|.int _,y,_,d|.str _,y,_,d=>by cases y<;>first|rfl|cases d
theorem Cc:∀xs ys:List U,PL.jJ xs=true->PL.jJ ys=true->PL.qy xs ys=nO (eP xs) (eP ys)
 |[],y,_,_=>by cases y<;>rfl
 |_::_,[],_,_=>rfl
 |x::xs,y::ys,d,d'=>by
  have d:=(af _ _).mp d;have d':=(af _ _).mp d'
  change (PL.oR x y&&PL.qy xs ys)=(mM (i4 x) (i4 y)&&nO (eP xs) (eP ys))
  rw[Dt x y d.1 d'.1,Cc xs ys d.2 d'.2]
end
theorem OO:decide (V.str (tx a)=V.str (tx b))=(a==b):=by
 rw[cY]
 simp[Dg]
theorem Du(t:PL.Hb x y=true)(nt:PL.Hc x=true)(hx:Rep c ρ H x v)(hy:Rep c ρ H y w):NQ v w=true/\decide (v=w)=PL.oR x y:=by
 cases x<;>first|exact ff nt|exact ff t| (cases y<;>first|exact ff t| ((first|rw[eh.mp hx]|rw[dA.mp hx]|rw[aN.mp hx]|rw[bq.mp hx]);(first|rw[eh.mp hy]|rw[dA.mp hy]|rw[aN.mp hy]|rw[bq.mp hy]);first|exact#[rfl,rfl]|exact#[rfl,BF]|exact#[rfl,yC]|exact#[rfl,OO]))
section
variable{X:Cx}{c:Ctx}
noncomputable def dO:Option (List U)->Dv
 |none=>.bK
 |some us=>.lst (eP us)
theorem OP(R:cj c ρ H S)(h:PL.Jx S a o)(r:Rep c ρ H a v):fJ c.K H v (dO o)/\(dO o).depth<=91:=by
 rcases h with⟨rfl,rfl⟩|⟨n,us,rfl,g,⟨d1,d2⟩,rfl⟩
 .exact#[by unfold dO fJ;exact eh.mp r,dw _]
 .obtain⟨p,vs,e,_,h1,h2⟩:=R.lst g r
  exact#[by unfold dO fJ;exact#[p,vs,e,gH.of h1,qF d1 h2],by show Dv.iD (eP us)+1<=91;rw[pf us d1];omega]
theorem MS(h:PL.Jx S a o)(h':PL.Jx S b o'):mM (dO o) (dO o')=PL.Vj o o':=by
 rcases h with⟨rfl,rfl⟩|⟨n,us,rfl,g,⟨d1,d2⟩,rfl⟩<;>rcases h' with⟨rfl,rfl⟩|⟨n',us',rfl,g',⟨d1',d2'⟩,rfl⟩<;>first|rfl|exact(Cc us us' d1 d1').symm
theorem yZ(R:cj c ρ H S)(h:PL.Jx S a o)(r:Rep c ρ H (.tup [a,.int i]) v):fJ c.K H v (.tup [dO o,.int i])/\Dv.iD [dO o,.int i]<=100:=by
 obtain⟨p,vs,e,h1,h2⟩:=dB.mp r;unfold aU at h2;obtain⟨v1,t,rfl,r1,h2⟩:=h2;unfold aU at h2;obtain⟨v2,t,rfl,r2,h2⟩:=h2;unfold aU at h2;subst h2;obtain⟨g1,g2⟩:=OP R h r1;refine#[by unfold fJ;exact#[p,_,e,lU.of h1,#[g1,by show v2=_;exact aN.mp r2,trivial]],?_];show max (dO o).depth (max 0 0)<=100;omega
theorem OQ(hK:X.K=c.K)(hu:X.A.units+200<kg):gw X (bD .Eq) (uW c .eq):=by
 intro pZ s σ H x y v u Q I rx ry h;obtain⟨ux,uy,ρ,S,hx,hy,R,w0⟩:=h;have go:(PL.tI ux uy λb=>Q (.bl b) H)->wpAny (aR X.prog X.w) X.A (bD .Eq v u) (EP X pZ σ Q) X.xe s:=by
  intro hh;obtain⟨⟨t,d,d',z⟩,w⟩:=hh;by_cases nt:PL.Hc ux=true
  .obtain⟨e1,e2⟩:=Du t nt hx hy
   exact Rz pZ s σ H x y v u Q I rx ry #[e1,by rw[e2];exact w]
  .cases ux<;>first|exact absurd rfl nt|skip
   rename_i us;have g:=pd d hx;unfold i4 at g;refine G9 hu pZ s σ H x y v u Q I rx ry #[eP us,i4 uy,hK▸g,hK▸pd d' hy,?_,?_]
   .rw[pf us (by unfold PL.vX at d;exact d)];unfold PL.dep at z;omega
   .have:=Dt (.tup us) uy d d'
    rw[show i4 (.tup us)= .tup (eP us) from by simp[i4]] at this;rw[<-this];exact w
 cases ux with
 |tup us=>
  rcases w0 with w|⟨a,i,b,j,o,o',rfl,rfl,l1,l2,w⟩
  .exact go w
  .obtain⟨g1,g2⟩:=yZ R l1 hx
   refine G9 hu pZ s σ H x y v u Q I rx ry #[_,_,hK▸g1,hK▸(yZ R l2 hy).1,g2,?_];rw[show mM (.tup [dO o,.int i]) (.tup [dO o',.int j])=(mM (dO o) (dO o')&&((i==j)&&true)) from rfl,MS l1 l2,mK]
   exact w
 |loc m=>
  obtain⟨n,rfl,w⟩:=PL.k8.mp w0;obtain⟨us,g1,g2,w⟩:=PL.cF.mp w;obtain⟨a,vs,e1,_,h1,h2⟩:=R.lst g1 hx;obtain⟨b,ws,e2,_,h3,h4⟩:=R.lst g2 hy;unfold aU at h4;subst h4;refine Hi hu pZ s σ H x y v u Q I rx ry #[a,b,vs,e1,e2,gH.of h1,gH.of h3,?_];have:vs.isEmpty=us.isEmpty:=by have:=h2.len;cases us<;>cases vs<;>simp at this ⊢
  rw[this];exact w
 |_=>exact go w0
theorem OR(hK:X.K=c.K)(hu:X.A.units+200<kg):gw X (bD .NotEq) (uW c .ne):=by
 intro pZ s σ H x y v u Q I rx ry h;obtain⟨ux,uy,ρ,S,hx,hy,R,w0⟩:=h;by_cases hl:∃m n,ux=.loc m/\uy=.loc n
 .obtain⟨m,n,rfl,rfl⟩:=hl
  obtain⟨us,g1,g2,w⟩:=PL.cF.mp (show PL.getL _ _ from w0);obtain⟨a,vs,e1,_,h1,h2⟩:=R.lst g1 hx;obtain⟨b,ws,e2,_,h3,h4⟩:=R.lst g2 hy;unfold aU at h4;subst h4;refine Hh hu pZ s σ H x y v u Q I rx ry #[a,b,vs,e1,e2,gH.of h1,gH.of h3,?_];have:vs.isEmpty=us.isEmpty:=by have:=h2.len;cases us<;>cases vs<;>simp at this ⊢
  rw[this];exact w
 by_cases hp:∃us,ux=.tup us/\PL.KH us uy S λb=>Q (.bl !b) H
 .obtain⟨_,rfl,a,i,b,j,o,o',rfl,rfl,l1,l2,w⟩:=hp
  obtain⟨g1,g2⟩:=yZ R l1 hx;refine He hu pZ s σ H x y v u Q I rx ry #[_,_,hK▸g1,hK▸(yZ R l2 hy).1,g2,?_];rw[show nO [dO o,.int i] [dO o',.int j]=(mM (dO o) (dO o')&&((i==j)&&true)) from rfl,MS l1 l2,mK]
  exact w
 have w1:PL.Al ux uy=true/\PL.tI ux uy λb=>Q (.bl !b) H:=by
  cases ux with
  |loc=>cases uy<;>first|exact w0|exact absurd #[_,_,rfl,rfl] hl
  |tup us=>exact w0.resolve_right λz=>hp #[us,rfl,z]
  |_=>exact w0
 obtain⟨nt,⟨t,d,d',z⟩,w⟩:=w1;by_cases nt1:PL.Hc ux=true
 .obtain⟨e1,e2⟩:=Du t nt1 hx hy
  exact RA pZ s σ H x y v u Q I rx ry #[e1,by rw[e2];exact w]
 .cases ux<;>first|exact absurd rfl nt1|skip
  cases uy<;>first|exact ff nt|skip
  rename_i us us';have g:=pd d hx;have g':=pd d' hy;unfold i4 at g g';refine He hu pZ s σ H x y v u Q I rx ry #[eP us,eP us',hK▸g,hK▸g',?_,?_]
  .rw[pf us (by unfold PL.vX at d;exact d)];unfold PL.dep at z;omega
  .have:=Dt (.tup us) (.tup us') d d'
   rw[show i4 (.tup us)= .tup (eP us) from by simp[i4],show i4 (.tup us')= .tup (eP us') from by simp[i4]] at this;rw[show nO (eP us) (eP us')=mM (.tup (eP us)) (.tup (eP us')) from by unfold mM;rfl,<-this];exact w
end
open PL (U SO bJ Xn KU KX Spec bY)
section
variable{X:Cx}{c:Ctx}
theorem OS:gw X (bD .Lt) (uW c .lt):=by
 intro pZ s σ H x y v u Q I rx ry h;obtain⟨ux,uy,ρ,S,hx,hy,R,w⟩:=h;obtain⟨i,j,rfl,rfl,w⟩:=PL.kq w;exact RB pZ s σ H x y v u Q I rx ry #[_,_,aN.mp hx,aN.mp hy,w]
theorem OT:gw X (bD .LtE) (uW c .le):=by
 intro pZ s σ H x y v u Q I rx ry h;obtain⟨ux,uy,ρ,S,hx,hy,R,w⟩:=h;obtain⟨i,j,rfl,rfl,w⟩:=PL.kq w;exact RC pZ s σ H x y v u Q I rx ry #[_,_,aN.mp hx,aN.mp hy,w]
theorem OU:gw X (bD .Gt) (uW c .gt):=by
 intro pZ s σ H x y v u Q I rx ry h;obtain⟨ux,uy,ρ,S,hx,hy,R,w⟩:=h;obtain⟨i,j,rfl,rfl,w⟩:=PL.kq w;exact RD pZ s σ H x y v u Q I rx ry #[_,_,aN.mp hx,aN.mp hy,w]
theorem OV:gw X (bD .GtE) (uW c .ge):=by
 intro pZ s σ H x y v u Q I rx ry h;obtain⟨ux,uy,ρ,S,hx,hy,R,w⟩:=h;obtain⟨i,j,rfl,rfl,w⟩:=PL.kq w;exact RE pZ s σ H x y v u Q I rx ry #[_,_,aN.mp hx,aN.mp hy,w]
theorem xt(h:Rep c ρ H u v):decide (v=V.bK)=PL.uH u:=by
 cases u with
 |bK=>rw[eh.mp h];rfl
 |bl b=>rw[dA.mp h];rfl
 |int i=>rw[aN.mp h];rfl
 |str l=>rw[bq.mp h];rfl
 |tup us=>obtain⟨a,vs,e,_⟩:=dB.mp h;rw[e];rfl
 |loc n=>obtain⟨a,e,_⟩:=iU.mp h;rw[e];rfl
 |pF ns=>obtain⟨a,e,_⟩:=qE.mp h;rw[e];rfl
 |tab kvs=>obtain⟨a,e,_⟩:=tM.mp h;rw[e];rfl
 |exc x us=>unfold Rep at h;obtain⟨a,d,C,fs,e,_⟩:=h;rw[e];rfl
theorem OW:gw X (bD .Is) (uW c .KA):=by
 intro pZ s σ H x y v u Q I rx ry h;obtain⟨ux,uy,ρ,S,hx,hy,R,w⟩:=h;have e:uy=.bK:=by cases uy<;>first|rfl|exact aJ w
 subst e;rw[PL.Wt] at w;exact NR pZ s σ H x y v u Q I rx ry #[eh.mp hy,by rw[xt hx];exact w]
theorem HE:gw X (bD .IsNot) (uW c .Ah):=by
 intro pZ s σ H x y v u Q I rx ry h;obtain⟨ux,uy,ρ,S,hx,hy,R,w⟩:=h;have e:uy=.bK:=by cases uy<;>first|rfl|exact aJ w
 subst e;rw[PL.OH] at w;exact J4 pZ s σ H x y v u Q I rx ry #[eh.mp hy,by rw[xt hx];exact w]
theorem oz(f:PL.flat u=true)(h:Rep c ρ H u v):pI v=true:=by
 cases u<;>first|exact ff f| (rw[eh.mp h];rfl)| (rw[dA.mp h];rfl)| (rw[aN.mp h];rfl)| (rw[bq.mp h];rfl)
theorem Lg(f:PL.flat u=true)(f':PL.flat u'=true)(h:Rep c ρ H u v)(h':Rep c ρ H u' v'):Kl v v'=PL.oR u u':=by
 cases u<;>first|exact ff f| (cases u'<;>first|exact ff f'| ((first|rw[eh.mp h]|rw[dA.mp h]|rw[aN.mp h]|rw[bq.mp h]);(first|rw[eh.mp h']|rw[dA.mp h']|rw[aN.mp h']|rw[bq.mp h']);first|rfl|exact cY.mpr (by rename_i a b;show(tx a==tx b)=true↔(a==b)=true;simp[MI])))
theorem qG(f:PL.flat u=true)(h:Rep c ρ H u v):∀{us:List U}{vs:List V},us.all PL.flat=true->aU c ρ H us vs->vs.all pI=true/\Ve v vs=us.any λy=>PL.oR y u
 |[],_,_,r=>by unfold aU at r;subst r;exact#[rfl,rfl]
 |w::us,_,a,r=>by
  unfold aU at r;obtain⟨x,t,e,h1,h2⟩:=r;subst e;rw[bj,af] at a;obtain⟨z1,z2⟩:=qG f h a.2 h2;refine#[by rw[bj,oz a.1 h1,z1];rfl,?_];unfold Ve at z2 ⊢;rw[cV,cV,z2,Lg a.1 f h1 h]
theorem lookup_tab{kvs:List (List Nat×List Nat)}{k v:List Nat}(h:kvs.lookup k=some v):(kvs.map λp=>(tx p.1,V.str (tx p.2))).lookup (tx k)=some (V.str (tx v)):=by
 induction kvs with
 |nil=>cases h
 |cons p r ih=>
  obtain⟨a,b⟩:=p;rw[aD,ba]
  rw[ba] at h;by_cases e:k=a
  .subst e
   simp at h ⊢;exact h
  .have e2:(k==a)=false:=by simp[e]
   have e3:(tx k==tx a)=false:=by
    rw[beq_eq_false_iff_ne];exact λz=>e (rC z)
   rw[e2] at h;simp only[e3];exact ih h
theorem Ax{kvs:List (List Nat×List Nat)}{k:List Nat}(h:kvs.lookup k=none):(kvs.map λp=>(tx p.1,V.str (tx p.2))).lookup (tx k)=none:=by
 induction kvs with
 |nil=>rfl
 |cons p r ih=>
  rw[ba] at h;rw[aD,ba]
  cases z:k==p.1 with
  |true=>rw[z] at h;cases h
  |false=>
   rw[z] at h;have:(tx k==tx p.1)=false:=by
    rw[beq_eq_false_iff_ne] at z ⊢;exact λe=>z (rC e)
   rw[this]
   exact ih h
theorem HF(hu:PL.vX u=true):∀{us:List U},PL.jJ us=true->((eP us).any λe=>mM e (i4 u))=us.any λy=>PL.oR y u
 |[],_=>by unfold eP;rfl
 |w::us,d=>by
  unfold PL.jJ at d;rw[af] at d;unfold eP;rw[cV,cV,HF hu d.2,Dt w u d.1 hu]
theorem OX(hK:X.K=c.K)(hP:X.w.params=c.w.params):gw X (bD .In) (uW c .isin):=by
 intro pZ s σ H x y v u Q I rx ry h;obtain⟨ux,uy,ρ,S,hx,hy,R,w⟩:=h;cases uy with
 |str b=>
  obtain⟨a,rfl,w⟩:=PL.oS.mp w;exact EN pZ s σ H x y v u Q I rx ry #[a,b,bq.mp hx,bq.mp hy,w]
 |tab kvs=>
  obtain⟨k,rfl,w⟩:=PL.oS.mp w;obtain⟨a,e,h1⟩:=tM.mp hy;have w:Q (.bl (kvs.lookup k).isSome) H:=w;have ex:=h1.ex;rw[<-hK,<-hP] at ex;cases z:kvs.lookup k with
  |some t=>
   obtain⟨u',_,e2⟩:=h1.at_ _ _ (lookup_tab z);exact Hf pZ s σ H x y v u Q I rx ry #[a,_,some u',bq.mp hx,e,ex,h1.ns,hK▸e2,by rw[z] at w;exact w]
  |none=>
   have e2:=h1.no _ (Ax z);exact Hf pZ s σ H x y v u Q I rx ry #[a,_,none,bq.mp hx,e,ex,h1.ns,hK▸e2,by rw[z] at w;exact w]
 |tup us=>
  rw[PL.OE] at w;obtain⟨⟨f,a⟩,w⟩:=w;obtain⟨p,vs,e,h1,h2⟩:=dB.mp hy;obtain⟨z1,z2⟩:=qG f hx a h2;exact wW pZ s σ H x y v u Q I rx ry #[p,vs,e,.inr (lU.of h1),oz f hx,z1,by rw[z2];exact w]
 |loc n=>
  rw[PL.OG] at w;obtain⟨us,g,⟨f,a⟩,w⟩:=PL.cF.mp w;obtain⟨p,vs,e,_,h1,h2⟩:=R.lst g hy;obtain⟨z1,z2⟩:=qG f hx a h2;exact wW pZ s σ H x y v u Q I rx ry #[p,vs,e,.inl (gH.of h1),oz f hx,z1,by rw[z2];exact w]
 |_=>exact aJ w
theorem E0(hK:X.K=c.K)(hu:X.A.units+200<kg):gw X (bD .NotIn) (uW c .nF):=by
 intro pZ s σ H x y v u Q I rx ry h;obtain⟨ux,uy,ρ,S,hx,hy,R,w⟩:=h;cases uy with
 |str b=>
  obtain⟨a,rfl,w⟩:=PL.oS.mp w;exact yR pZ s σ H x y v u Q I rx ry #[a,b,bq.mp hx,bq.mp hy,w]
 |tup us=>
  rw[PL.OF] at w;obtain⟨⟨f,a⟩,w⟩:=w;obtain⟨p,vs,e,h1,h2⟩:=dB.mp hy;obtain⟨z1,z2⟩:=qG f hx a h2;exact qu pZ s σ H x y v u Q I rx ry #[p,vs,e,.inr (lU.of h1),oz f hx,z1,by rw[z2];exact w]
 |loc n=>
  by_cases ht:∃ts,ux=.tup ts
  .obtain⟨ts,rfl⟩:=ht
   rw[PL.KS] at w;obtain⟨us,g,⟨d1,d2,d3⟩,w⟩:=PL.cF.mp w;obtain⟨p,vs,e,_,h1,h2⟩:=R.lst g hy;have dt:PL.vX (.tup ts)=true:=by unfold PL.vX;exact d1
   refine EW hu pZ s σ H x y v u Q I rx ry #[p,vs,eP us,i4 (.tup ts),e,gH.of h1,hK▸qF d2 h2,hK▸pd dt hx,by rw[pf us d2];exact d3,?_];rw[HF dt d2]
   exact w
  have w:PL.getL S[n]? λus=>PL.qz ux us λb=>Q (.bl !b) H:=by
   cases ux<;>first|exact w|exact absurd #[_,rfl] ht
  obtain⟨us,g,⟨f,a⟩,w⟩:=PL.cF.mp w;obtain⟨p,vs,e,_,h1,h2⟩:=R.lst g hy;obtain⟨z1,z2⟩:=qG f hx a h2;exact qu pZ s σ H x y v u Q I rx ry #[p,vs,e,.inl (gH.of h1),oz f hx,z1,by rw[z2];exact w]
 |_=>exact aJ w
noncomputable def HG:PL.Ol->CmpOp
 |.eq=>.Eq|.ne=>.NotEq|.lt=>.Lt|.le=>.LtE|.gt=>.Gt|.ge=>.GtE|.isin=>.In|.nF=>.NotIn|.KA=>.Is|.Ah=>.IsNot
theorem Dw(hK:X.K=c.K)(hP:X.w.params=c.w.params)(hu:X.A.units+200<kg)(o:PL.Ol):gw X (bD (HG o)) (uW c o):=by
 cases o
 .exact OQ hK hu
 .exact OR hK hu
 .exact OS
 .exact OT
 .exact OU
 .exact OV
 .exact OX hK hP
 .exact E0 hK hu
 .exact OW
 .exact HE
noncomputable def W5(c:Ctx):R2:=λx y H Q=>∃ux uy ρ S,Rep c ρ H ux x/\Rep c ρ H uy y/\cj c ρ H S/\PL.Jy ux uy S λu=>∀v,Rep c ρ H u v->Q v H
theorem Cd(r:aU c ρ H us vs)(h:PL.tJ us i=some u):∃v,N2 vs i=some v/\Rep c ρ H u v:=by
 unfold PL.tJ at h;unfold N2;have e:N1 vs.length i=PL.Oq us.length i:=by rw[r.len];rfl
 rw[e]
 cases q:PL.Oq us.length i with
 |none=>rw[q] at h;cases h
 |some j=>
  rw[q] at h;exact r.get h
theorem xv:∀{ns:List Int},aU c ρ H (ns.map .int) (ns.map V.int)
 |[]=>aU.nil
 |n::ns=>aU.cons (aN.mpr rfl) xv
theorem OY(hK:X.K=c.K)(hP:X.w.params=c.w.params):QP X (W5 c):=by
 intro value slice pZ s σ H x y v u Q I rx ry h hs;obtain⟨ux,uy,ρ,S,hx,hy,R,w⟩:=h;cases ux<;>first|exact aJ w|skip
 .rename_i l
  obtain⟨i,rfl,w⟩:=PL.eR.mp w;obtain⟨w1,w2⟩:=w;obtain⟨k,g,w3⟩:=PL.gI.mp w2;exact N4 value slice pZ s σ H x y v u Q I rx ry #[_,i,k,bq.mp hx,aN.mp hy,pK (by rw[cX];exact w1),g,w3 _ (bq.mpr rfl)] hs
 .rename_i us
  obtain⟨i,rfl,w⟩:=PL.eR.mp w;obtain⟨w1,w2⟩:=w;obtain⟨k,g,w3⟩:=PL.gI.mp w2;obtain⟨p,vs,e,h1,h2⟩:=dB.mp hx;obtain⟨z,e2,r2⟩:=Cd h2 g;exact N3 value slice pZ s σ H x y v u Q I rx ry #[p,vs,i,z,e,aN.mp hy,lU.of h1,e2,w3 _ r2] hs
 .rename_i n
  obtain⟨i,rfl,w⟩:=PL.eR.mp w;obtain⟨us,g0,w1⟩:=PL.cF.mp w;obtain⟨k,g,w3⟩:=PL.gI.mp w1;obtain⟨p,vs,e,_,h1,h2⟩:=R.lst g0 hx;obtain⟨z,e2,r2⟩:=Cd h2 g;exact Dc value slice pZ s σ H x y v u Q I rx ry #[p,vs,i,z,e,aN.mp hy,gH.of h1,e2,w3 _ r2] hs
 .rename_i ns
  obtain⟨i,rfl,w⟩:=PL.eR.mp w;obtain⟨w1,w2⟩:=w;obtain⟨k,g,w3⟩:=PL.gI.mp w2;obtain⟨p,e,h1⟩:=qE.mp hx;have g':PL.tJ (ns.map U.int) i=some (.int k):=by
   unfold PL.tJ at g ⊢;rw[ar]
   cases q:PL.Oq ns.length i with
   |none=>rw[q] at g;exact nn g
   |some j=>rw[q] at g;simp at g ⊢;exact g
  obtain⟨z,e2,r2⟩:=Cd (c:=c) (ρ:=ρ) (H:=H) xv g';exact Dc value slice pZ s σ H x y v u Q I rx ry #[p,_,i,z,e,aN.mp hy,hK▸h1.sq,e2,w3 _ r2] hs
 .rename_i kvs
  obtain⟨k,rfl,w⟩:=PL.oS.mp w;obtain⟨z,g,w3⟩:=PL.gI.mp w;obtain⟨a,e,h1⟩:=tM.mp hx;exact yM value slice pZ s σ H x y v u Q I rx ry #[a,_,_,_,e,bq.mp hy,by rw[hK,hP];exact h1,lookup_tab g,w3 _ (bq.mpr rfl)] hs
noncomputable def W6(c:Ctx):V->Option Int->Option Int->Hp->VK->Prop:=λx lo hi H Q=>∃ux ρ S QU,Rep c ρ H ux x/\cj c ρ H S/\PL.EM ux lo hi S QU/\QV c ρ H QU Q
theorem HH{lo:Option Int}{n:Nat}(h:∀i,lo=some i->0<=i):HT.i3 n 0 lo=min (lo.getD 0).toNat n:=by
 cases lo with
 |none=>simp[HT.i3]
 |some i=>have:=h i rfl;simp only[HT.i3,cD];rw[if_neg ∅]
theorem OZ(h:∀i,hi=some i->0<=i):HT.i3 n n hi=min (hi.getD n).toNat n:=by
 cases hi with
 |none=>simp[HT.i3]
 |some i=>have:=h i rfl;simp only[HT.i3,cD];rw[if_neg ∅]
theorem Dx{ρ:List Addr}{H:Hp}{us:List U}{vs:List V}{lo hi:Option Int}(h1:∀i,lo=some i->0<=i)(h2:∀i,hi=some i->0<=i)(r:aU c ρ H us vs):aU c ρ H (PL.lV us lo hi) (z8 vs lo hi):=by
 unfold PL.lV z8;rw[HH h1,OZ h2,<-r.len]
 exact(r.drop _).take _
theorem O0(hK:X.K=c.K):RK X (W6 c):=by
 intro pZ s σ H x v vl vu lo hi sl Q I rx hs pl pu h;obtain⟨ux,ρ,S,QU,hx,R,⟨⟨b1,b2⟩,w⟩,q⟩:=h;cases ux<;>try exact aJ w
 .rename_i l
  obtain⟨w1,w2⟩:=w;refine Sd pZ s σ H x v vl vu lo hi sl Q I rx hs pl pu #[l,min (lo.getD 0).toNat l.length,min (hi.getD l.length).toNat l.length,bq.mp hx,pK w1,?_,?_,q.now R w2 (bq.mpr rfl)]
  .cases lo with
   |none=>exact .inl #[rfl,by simp]
   |some a=>exact .inr #[a,rfl,b1 a rfl,rfl]
  .cases hi with
   |none=>exact .inl #[rfl,by simp]
   |some a=>exact .inr #[a,rfl,b2 a rfl,rfl]
 .rename_i us
  obtain⟨⟨w1,w0,w3⟩,w2⟩:=w;obtain⟨a,vs,e,g1,g2⟩:=dB.mp hx;refine N0 pZ s σ H x v vl vu lo hi sl Q I rx hs pl pu #[a,vs,e,lU.of g1,λz=>?_,λp hp=>q.K4 R (Dx b1 b2 g2) w2 hp];have z1:=z.1;rw[HH b1,<-g2.len] at z1;have:0<us.length:=Ei.mpr w0;omega
 .rename_i n
  obtain⟨us,g0,w1⟩:=PL.cF.mp w;obtain⟨a,vs,e,_,g1,g2⟩:=R.lst g0 hx;exact Kk pZ s σ H x v vl vu lo hi sl Q I rx hs pl pu #[a,vs,e,gH.of g1,λp hp=>q.Hy R (Dx b1 b2 g2) w1 hp]
end
open PL (U SO bJ Xn KU KX Spec bY)
noncomputable def sF(c:Ctx)(b:PL.Sf):List V->Hp->VK->Prop:=λxs H Q=>∃us ρ S QU,aU c ρ H us xs/\cj c ρ H S/\PL.tf b us S QU/\QV c ρ H QU Q
noncomputable def uX(c:Ctx)(m:PL.Om):V->List V->Hp->VK->Prop:=λx xs H Q=>∃u us ρ S QU,Rep c ρ H u x/\aU c ρ H us xs/\cj c ρ H S/\PL.vY m u us S QU/\QV c ρ H QU Q
section
variable{X:Cx}{c:Ctx}{ρ:List Addr}{H:Hp}{S:bJ}
theorem lH(h:aU c ρ H [u] vs):∃v,vs=[v]/\Rep c ρ H u v:=by
 unfold aU at h;obtain⟨v,r,e,h1,h2⟩:=h;unfold aU at h2;subst h2;exact#[v,e,h1]
theorem MT(h:aU c ρ H [u,w] vs):∃v z,vs=[v,z]/\Rep c ρ H u v/\Rep c ρ H w z:=by
 unfold aU at h;obtain⟨v,r,e,h1,h2⟩:=h;obtain⟨z,e2,h3⟩:=lH h2;subst e2;exact#[v,z,e,h1,h3]
theorem HI(hK:X.K=c.K)(R:cj c ρ H S)(r:Rep c ρ H u v)(h:PL.p9 S u=some n)(hn:n<=1000000):RG X.K v H n\/∃a kvs,v=.ref a/\H a=some (.dK kvs)/\n=kvs.length:=by
 cases u with
 |str l=>rw[bq.mp r];obtain rfl:=aG h;exact .inl #[pK (by rw[cX];exact hn),(cX l).symm]
 |tup us=>
  obtain⟨a,vs,e,h1,h2⟩:=dB.mp r;obtain rfl:=aG h;rw[e]
  exact .inl (.inr #[vs,lU.of h1,h2.len])
 |pF ns=>
  obtain⟨a,e,h1⟩:=qE.mp r;obtain rfl:=aG h;rw[e]
  exact .inl (.inl #[_,hK▸h1.sq,by simp])
 |loc m=>
  unfold PL.p9 at h;cases q:S[m]? with
  |none=>simp only[q] at h;exact nn h
  |some o=>
   simp only[q] at h;cases o with
   |lst us=>
    obtain⟨a,vs,e,_,h1,h2⟩:=R.lst q r;simp at h;subst h;rw[e]
    exact .inl (.inl #[vs,gH.of h1,h2.len])
   |vJ kvs=>
    obtain⟨a,e,ha⟩:=iU.mp r;obtain⟨vs,h1,h2,_⟩:=R.at_ m a _ ha q;simp at h;subst h;exact .inr #[a,vs,e,h1,h2.symm]
   |ins x fs=>exact nn h
 |_=>exact nn h
theorem Lh(hK:X.K=c.K):iP X (.builtin "len") (sF c .len):=by
 intro pZ s σ H xs us Q I r h;obtain⟨ux,ρ,S,QU,hx,R,w,q⟩:=h
 match ux,w with
 |[u],w=>
  obtain⟨n,e,w1,w2⟩:=PL.gI.mp (show PL.opt _ _ from w);obtain⟨v,e1,r1⟩:=lH hx;rcases HI hK R r1 e w1 with l|⟨a,kvs,e2,g,e3⟩
  .exact Gj pZ s σ H xs us Q I r #[v,n,e1,l,q.now R w2 (aN.mpr rfl)]
  .exact EG pZ s σ H xs us Q I r #[a,kvs,by rw[e1,e2],g,by rw[<-e3];exact q.now R w2 (aN.mpr rfl)]
theorem E2(hK:X.K=c.K):iP X (.type "tuple") (sF c .tuple):=by
 intro pZ s σ H xs us Q I r h;obtain⟨ux,ρ,S,QU,hx,R,w,q⟩:=h
 match ux,w with
 |[.loc n],w=>
  obtain⟨us',e,w1⟩:=PL.cF.mp (show PL.getL _ _ from w);obtain⟨v,e1,r1⟩:=lH hx;obtain⟨a,vs,e2,_,g1,g2⟩:=R.lst e r1;exact vU pZ s σ H xs us Q I r #[a,vs,by rw[e1,e2],.inl #[gH.of g1,λl hl=>q.K4 R g2 w1 hl]]
theorem HJ(hK:X.K=c.K):iP X (.type "list") (sF c .list):=by
 intro pZ s σ H xs us Q I r h;obtain⟨ux,ρ,S,QU,hx,R,w,q⟩:=h
 match ux,w with
 |[.loc n],w=>
  obtain⟨us',e,w1⟩:=PL.cF.mp (show PL.getL _ _ from w);obtain⟨v,e1,r1⟩:=lH hx;obtain⟨a,vs,e2,_,g1,g2⟩:=R.lst e r1;exact qv pZ s σ H xs us Q I r #[a,vs,by rw[e1,e2],.inl (gH.of g1),λl hl=>q.Hy R g2 w1 hl]
 |[.tup us'],w=>
  obtain⟨v,e1,r1⟩:=lH hx;obtain⟨a,vs,e2,g1,g2⟩:=dB.mp r1;exact qv pZ s σ H xs us Q I r #[a,vs,by rw[e1,e2],.inr (lU.of g1),λl hl=>q.Hy R g2 w.2 hl]
theorem qd:∀{bs:List Bool}{vs:List V},aU c ρ H (bs.map .bl) vs->vs=bs.map V.bl
 |[],_,h=>by unfold aU at h;exact h
 |t::ts,_,h=>by
  rw[aD] at h;unfold aU at h;obtain⟨v,r,e,h1,h2⟩:=h;rw[e,dA.mp h1,qd h2];rfl
theorem uY:∀{bs:List Int}{vs:List V},aU c ρ H (bs.map .int) vs->vs=bs.map V.int
 |[],_,h=>by unfold aU at h;exact h
 |t::ts,_,h=>by
  rw[aD] at h;unfold aU at h;obtain⟨v,r,e,h1,h2⟩:=h;rw[e,aN.mp h1,uY h2];rfl
theorem HK(hc:X.calm=true):iP X (.builtin "all") (sF c .all):=by
 intro pZ s σ H xs us Q I r h;obtain⟨ux,ρ,S,QU,hx,R,w,q⟩:=h
 match ux,w with
 |[.loc n],w=>
  obtain⟨bs,e,w1⟩:=w;obtain⟨v,e1,r1⟩:=lH hx;obtain⟨a,vs,e2,_,g1,g2⟩:=R.lst e r1;rw[qd g2] at g1;exact B1 hc pZ s σ H xs us Q I r #[a,bs,by rw[e1,e2],gH.of g1,q.now R w1 (dA.mpr rfl)]
theorem Li(hc:X.calm=true):iP X (.builtin "sum") (sF c .sum):=by
 intro pZ s σ H xs us Q I r h;obtain⟨ux,ρ,S,QU,hx,R,w,q⟩:=h
 match ux,w with
 |[.loc n],w=>
  obtain⟨bs,e,w1⟩:=w;obtain⟨v,e1,r1⟩:=lH hx;obtain⟨a,vs,e2,_,g1,g2⟩:=R.lst e r1;rw[uY g2] at g1;exact B3 hc pZ s σ H xs us Q I r #[a,bs,by rw[e1,e2],gH.of g1,q.now R w1 (aN.mpr rfl)]
theorem HL(hc:X.calm=true):iP X (.builtin "any") (sF c .any):=by
 intro pZ s σ H xs us Q I r h;obtain⟨ux,ρ,S,QU,hx,R,w,q⟩:=h
 match ux,w with
 |[.loc n],w=>
  obtain⟨bs,e,w1⟩:=w;obtain⟨v,e1,r1⟩:=lH hx;obtain⟨a,vs,e2,_,g1,g2⟩:=R.lst e r1;rw[qd g2] at g1;exact B7 hc pZ s σ H xs us Q I r #[a,bs,by rw[e1,e2],gH.of g1,q.now R w1 (dA.mpr rfl)]
theorem uZ:∀{ps:List (List Nat×U)}{vs:List V},aU c ρ H (ps.map λp=>.tup [.str p.1,p.2]) vs->∃kvs:List (Key×V),Paired (Ow H) vs kvs/\kvs.map (·.1)=ps.map (λp=>fw (tx p.1))/\aU c ρ H (ps.map (·.2)) (kvs.map (·.2))
 |[],_,h=>by
  unfold aU at h;subst h;exact#[[],.nil,rfl,aU.nil]
 | (k,u)::ps,_,h=>by
  rw[aD] at h;unfold aU at h;obtain⟨v,r,e,h1,h2⟩:=h;subst e;obtain⟨kvs,g1,g2,g3⟩:=uZ h2;obtain⟨a,vs,e1,ha,hr⟩:=dB.mp h1;obtain⟨x,y,e2,r1,r2⟩:=MT hr;subst e2;rw[bq.mp r1] at ha;exact#[(fw (tx k),y)::kvs,.cons #[a,e1,ha] g1,by rw[aD,aD,g2],aU.cons r2 g3]
theorem xw:∀{ks:List (List Nat)},aU c ρ H (ks.map .str) (ks.map λk=>kV (fw (tx k)))
 |[]=>aU.nil
 |_::_=>aU.cons (bq.mpr rfl) xw
theorem HM(hA:X.A.handled=none):iP X (.type "dict") (sF c .dict):=by
 intro pZ s σ H xs us Q I r h;obtain⟨ux,ρ,S,QU,hx,R,w,q⟩:=h
 match ux,w with
 |[.loc n],w=>
  obtain⟨ps,e,nd,w1⟩:=w;obtain⟨v,e1,r1⟩:=lH hx;obtain⟨a,vs,e2,_,g1,g2⟩:=R.lst e r1;obtain⟨kvs,k1,k2,k3⟩:=uZ g2;refine B5 hA pZ s σ H xs us Q I r #[a,vs,kvs,by rw[e1,e2],g1,k1,?_,λp hp=>?_]
  .rw[k2,show ps.map (λp=>(fw (tx p.1):Key))=(ps.map (·.1)).map (λk=>fw (tx k)) by rw[bM];rfl]
   exact List.Pairwise.map _ (λa b h e=>h (rC (zP e))) nd
  .have st:=ig.alloc R hp (.dK kvs)
   have e5:kvs.map (λp=>kV p.1)=(ps.map (·.1)).map λk=>kV (fw (tx k)):=by
    rw[show kvs.map (λp=>kV p.1)=(kvs.map (·.1)).map kV by rw[bM];rfl,k2,bM,bM];rfl
   have R':cj c (ρ++[p]) (upd H p (.dK kvs)) (S++[.vJ (ps.map λp=>(.str p.1,p.2))]):=R.alloc hp #[kvs,bF,by have:=congrArg cQ k2;simpa using this,by
     rw[e5,bM,show(Prod.fst∘λp:List Nat×U=>(U.str p.1,p.2))=U.str∘Prod.fst from rfl,<-bM];exact xw,by
     rw[bM];exact k3.mono R st]
   refine q _ _ _ _ _ w1 st R' (iU.mpr #[p,rfl,?_]);rw[<-R.len,ay (ax _),cq];rfl
theorem Ce:FJ X "int.bit_length" (uX c .mW):=by
 intro pZ s σ H x xs v us Q I rx r h;obtain⟨u,ux,ρ,S,QU,hu,hx,R,w,q⟩:=h
 match u,ux,w with
 |.int i,[],w=>
  obtain⟨w0,w1⟩:=w;unfold aU at hx;refine EV pZ s σ H x xs v us Q I rx r #[i.toNat,by rw[aN.mp hu];congr 1;omega,hx,q.now R w1 (aN.mpr rfl)]
theorem Lj:∀{ps:List (List Nat×U)}{vs:List (Key×V)}{k:List Nat},vs.length=(ps.map λp=>(U.str p.1,p.2)).length->aU c ρ H ((ps.map λp=>(U.str p.1,p.2)).map (·.1)) (vs.map λp=>kV p.1)->aU c ρ H ((ps.map λp=>(U.str p.1,p.2)).map (·.2)) (vs.map (·.2)) ->
  (ps.lookup k=none/\sX vs (fw (tx k))=none)\/∃u v,ps.lookup k=some u/\sX vs (fw (tx k))=some v/\Rep c ρ H u v
 := by
 intro ps;induction ps with
 |nil=>intro vs k hl _ _;cases vs with|nil=>exact .inl #[rfl,rfl]|cons _ _=>cases hl
 |cons p ps ih=>
  intro vs k hl h1 h2;obtain⟨a,u⟩:=p;cases vs with|nil=>cases hl|cons p vs=>?_
  obtain⟨b,y⟩:=p;simp only[aD] at h1 h2;unfold aU at h1 h2;obtain⟨v1,r1,e1,p1,q1⟩:=h1;obtain⟨v2,r2,e2,p2,q2⟩:=h2;cases e1;cases e2;have eb:b=fw (tx a):=by
   have:=bq.mp p1;exact N9 (b:=fw (tx a)) this
  subst eb;by_cases ek:k=a
  .subst ek
   exact .inr #[u,y,by simp,uo rfl,p2]
  .have e3:(k==a)=false:=by simp[ek]
   rw[ba,e3,ur (λz=>ek (rC (zP z)).symm)]
   exact ih (Jj hl) q1 q2
theorem join_eq(sep:List Nat):∀ts:List (List Nat),uB sep ts=PL.k9 sep ts
 |[]=>rfl
 |[x]=>rfl
 |x::y::r=>by
  unfold uB PL.k9;rw[join_eq sep (y::r)]
theorem rH:∀{ts:List (List Nat)}{vs:List V},aU c ρ H (ts.map .str) vs->vs=ts.map λt=>V.str (tx t)
 |[],_,h=>by unfold aU at h;exact h
 |t::ts,_,h=>by
  rw[aD] at h;unfold aU at h;obtain⟨v,r,e,h1,h2⟩:=h;rw[e,bq.mp h1,rH h2];rfl
theorem HN(hK:X.K=c.K):FJ X "str.join" (uX c .join):=by
 intro pZ s σ H x xs v us Q I rx r h;obtain⟨u,ux,ρ,S,QU,hu,hx,R,w,q⟩:=h
 match u,ux,w with
 |.str sep,[.loc n],w=>
  obtain⟨ts,e,w1,w2⟩:=w;obtain⟨z,e1,r1⟩:=lH hx;obtain⟨a,vs,e2,_,g1,g2⟩:=R.lst e r1;rw[rH g2] at g1;exact Dh pZ s σ H x xs v us Q I rx r #[sep,ts,a,bq.mp hu,by rw[e1,e2],gH.of g1,w1,by rw[join_eq];exact q.now R w2 (bq.mpr rfl)]
theorem Cf:FJ X "str.startswith" (uX c .startswith):=by
 intro pZ s σ H x xs v us Q I rx r h;obtain⟨u,ux,ρ,S,QU,hu,hx,R,w,q⟩:=h
 match u,ux,w with
 |.str l,[.str k],w=>
  obtain⟨z,e1,r1⟩:=lH hx;exact xn pZ s σ H x xs v us Q I rx r #[l,k,bq.mp hu,by rw[e1,bq.mp r1],q.now R w (dA.mpr rfl)]
theorem E3(hA:X.A.handled=none):FJ X "str.index" (uX c .index):=by
 intro pZ s σ H x xs v us Q I rx r h;obtain⟨u,ux,ρ,S,QU,hu,hx,R,w,q⟩:=h
 match u,ux,w with
 |.str l,[.str k],w=>
  obtain⟨d,e,w1,w2⟩:=w;subst e;obtain⟨z,e1,r1⟩:=lH hx;exact Af hA pZ s σ H x xs v us Q I rx r #[l,d,bq.mp hu,by rw[e1,bq.mp r1],w1,q.now R w2 (aN.mpr rfl)]
theorem QV.putL(q:QV c ρ H QU Q)(R:cj c ρ H S)(ha:ρ[n]?=some a)(r:aU c ρ H us vs)(h:QU .bK (S.set n (.lst us))):Q .bK (upd H a (.lst vs)):=by
 have st:=ig.put (H:=H) (aw ha) (.lst vs);exact q _ _ _ _ _ h st (R.put ha #[vs,bF,r.mono R st]) (eh.mpr rfl)
theorem Cg:FJ X "list.append" (uX c .append):=by
 intro pZ s σ H x xs v us Q I rx r h;obtain⟨u,ux,ρ,S,QU,hu,hx,R,w,q⟩:=h
 match u,ux,w with
 |.loc n,[k],w=>
  obtain⟨us',e,w1,w2⟩:=PL.cF.mp (show PL.getL _ _ from w);obtain⟨z,e1,r1⟩:=lH hx;obtain⟨a,vs,e2,ha,g1,g2⟩:=R.lst e hu;refine rq pZ s σ H x xs v us Q I rx r #[a,vs,z,e2,e1,g1,?_,q.putL R ha (g2.app (aU.cons r1 aU.nil)) w2];rw[<-g2.len];exact aM w1 ⋯
theorem Ci:FJ X "list.extend" (uX c .extend):=by
 intro pZ s σ H x xs v us Q I rx r h;obtain⟨u,ux,ρ,S,QU,hu,hx,R,w,q⟩:=h
 match u,ux,w with
 |.loc n,[.loc m],w=>
  obtain⟨us',e,w1⟩:=PL.cF.mp (show PL.getL _ _ from w);obtain⟨ws,e',w2,w3⟩:=PL.cF.mp w1;obtain⟨z,e1,r1⟩:=lH hx;obtain⟨a,vs,e2,ha,g1,g2⟩:=R.lst e hu;obtain⟨b,zs,e3,hb,g3,g4⟩:=R.lst e' r1;exact wX pZ s σ H x xs v us Q I rx r #[a,b,vs,zs,e2,by rw[e1,e3],g1,g3,pK (by rw[<-g2.len,<-g4.len];exact w2),q.putL R ha (g2.app g4) w3]
theorem Lk(hK:X.K=c.K)(R:cj c ρ H S)(r:Rep c ρ H u v)(h:PL.rE S u=some b):NS X.K v H b:=by
 cases u with
 |bK=>rw[eh.mp r];exact(aG h).symm
 |bl k=>rw[dA.mp r];exact(aG h).symm
 |int i=>rw[aN.mp r];exact(aG h).symm
 |str l=>exact nn h
 |tup us=>
  obtain⟨a,vs,e,h1,h2⟩:=dB.mp r;simp[PL.rE,PL.p9] at h;rw[e]
  refine .inr (.inl #[vs,lU.of h1,?_]);have:=h2.len;rw[<-h]
  cases us<;>cases vs<;>simp at this ⊢
 |pF ns=>
  obtain⟨a,e,h1⟩:=qE.mp r;simp[PL.rE,PL.p9] at h;rw[e]
  refine .inl #[_,hK▸h1.sq,?_];rw[<-h]
  cases ns<;>simp
 |loc m=>
  unfold PL.rE PL.p9 at h;cases q:S[m]? with
  |none=>simp only[q] at h;exact nn h
  |some o=>
   simp only[q] at h;cases o with
   |lst us=>
    obtain⟨a,vs,e,_,h1,h2⟩:=R.lst q r;simp at h;rw[e]
    refine .inl #[vs,gH.of h1,?_];have:=h2.len;rw[<-h]
    cases us<;>cases vs<;>simp at this ⊢
   |vJ kvs=>
    obtain⟨a,e,ha⟩:=iU.mp r;obtain⟨vs,h1,h2,_⟩:=R.at_ m a _ ha q;simp at h;rw[e]
    refine .inr (.inr #[vs,h1,?_]);rw[<-h]
    cases kvs<;>cases vs<;>simp at h2 ⊢
   |ins x fs=>exact nn h
 |_=>exact nn h
end
open PL (U SO bJ Xn KU KX bY)
structure wb where
 cls:String->Option Addr
 exc:String->Option Addr
noncomputable abbrev Cx.cc(X:Cx)(t:wb):Ctx:=#[X.prog,X.w,X.K,X.mg,X.base,t.cls,t.exc]
noncomputable def lift(c:Ctx)(sp:PL.Spec):Sp:=λvs H Q E=>∃us ρ S QU EU,aU c ρ H us vs/\cj c ρ H S/\sp us S QU EU/\QV c ρ H QU Q/\QX c ρ H EU E
noncomputable def FnAt(c:Ctx)(k:Nat)(f:Addr)(sp:PL.Spec):Prop:=∃fd ps,iK c.P c.w c.K c.mg c.base (pX c.P c.w) k f fd ps (lift c sp)/\Binds c.K fd ps []
structure Ay(c:Ctx)(T:Tab):Prop where
 const:∀p∈T.const,∃v u,c.mg (nm p.1)=some u/\RelV v u/\∀ρ H,Rep c ρ H p.2 v
 fu:∀x∈T.fu,c.mg (nm x)=none
 cls:∀x C,c.cls x=some C->wO c.K C/\∀f∈T.uS,fD c.K C (nm f)
 exc:∀x C,c.exc x=some C->XGet c.K C/\Oi c.K C/\(∃bm,oq c.K C bm)/\∀f∈T.uS,fD c.K C (nm f)
 QW:∀x C y D,c.exc x=some C->c.exc y=some D->rg c.K (.ref C) (.ref D)=some ((PL.mC x).contains y)
 W7:∀x C,c.exc x=some C->rg c.K (.ref C) (.type "ValueError")=some true
 Vw:∀x∈T.v5,∃C,c.exc x=some C/\c.mg (nm x)=some (.ref C)
structure fZ(c:Ctx)(T:Tab)(Γ:bY)(k:Nat):Prop where
 fns:∀x∈T.fns,∃f,c.mg (nm x)=some (.ref f)/\lT c.K (.ref f)=true/\FnAt c k f (Γ x)
 QY:∀p∈T.qc,∃C f,c.cls p.2=some C/\Meth c.K C (nm p.1) f/\FnAt c k f (Γ (p.2++"."++p.1))
 cls:∀x∈T.qb,∃C f,c.cls x=some C/\c.mg (nm x)=some (.ref C)/\Mk c.K C f/\FnAt c k f (Γ (x++".__init__"))
structure Good(t:wb)(T:Tab)(Γ:bY)(k:Nat)(I:Inf)(X:Cx):Prop where
 tab:Ay (X.cc t) T
 JA:fZ (X.cc t) T Γ k
 kind:X.env.scope.kind=.function
 names:X.env.scope.names=I.names
 slots:X.N=I.N
 nd:X.N.Nodup
 calm:I.calm=true->X.calm=true/\jz (k+1) X.A
 units:X.A.units+200<kg
theorem Good.at_{t:wb}{T:Tab}{Γ:bY}{k:Nat}{I:Inf}{X:Cx}{pZ:List (Addr×Obj)}{E:St->XK}(G:Good t T Γ k I X):Good t T Γ k I (X.at_ pZ E):=
 #[G.tab,G.JA,G.kind,G.names,G.slots,G.nd,G.calm,G.units]
noncomputable def E4(c:Ctx)(ρ:List Addr)(H:Hp)(J:It)(us:List U)(g:bJ->Prop):Prop:=
 ∀(i:Nat)(ρ2:List Addr)(H2:Hp)(S2:bJ),ig ρ H ρ2 H2->cj c ρ2 H2 S2->g S2 ->
  (∀u,us[i]?=some u->J.go i H2/\∀y H3,J.Rt i H2 y H3->ig ρ2 H2 ρ2 H3/\cj c ρ2 H3 S2/\Rep c ρ2 H3 u y)/\(us.length<=i->J.stop i H2)
noncomputable def QI(c:Ctx)(ρ:List Addr)(H:Hp)(RU:List U->(bJ->Prop)->bJ->Prop)(R:It->Hp->Prop):Prop:=
 ∀us g S' H' ρ' J,RU us g S'->ig ρ H ρ' H'->cj c ρ' H' S'->E4 c ρ' H' J us g->R J H'
noncomputable def zL(c:Ctx)(Γ:bY)(x:PL.It):XK->TI:=λE σ H R=>∃env ρ S RU EU,iL c ρ H env σ/\cj c ρ H S/\PL.WI Γ x env S RU EU/\QI c ρ H RU R/\QX c ρ H EU E
noncomputable def QO(c:Ctx)(ρ:List Addr)(H:Hp)(QU:Option Int->bJ->Prop)(Q:Option Int->Hp->Prop):Prop:=∀o S' H' ρ',QU o S'->ig ρ H ρ' H'->cj c ρ' H' S'->Q o H'
noncomputable def Vx(c:Ctx)(Γ:bY)(x:PL.Ox):XK->TO:=λE σ H Q=>∃env ρ S QU EU,iL c ρ H env σ/\cj c ρ H S/\PL.WO Γ x env S QU EU/\QO c ρ H QU Q/\QX c ρ H EU E
structure E5(t:wb)(T:Tab)(Γ:bY)(k n:Nat):Prop where
 fe:∀{I X e x},Good t T Γ k I X->cE T n I e=some x->eI X e (tE (X.cc t) Γ x)
 QZ:∀{I X es xs},Good t T Γ k I X->QS T n I es=some xs->Aw X es (EY (X.cc t) Γ xs)
 W8:∀{I X op vs x pos},Good t T Γ k I X->Vt T n I op vs=some x->eI X (.BoolOp op vs pos) (tE (X.cc t) Γ x)
 fo:∀{I X oe x},Good t T Γ k I X->cO T n I oe=some x->∀pZ E,PO (X.at_ pZ E) oe (λσ H Q=>Vx (X.cc t) Γ x (E σ) σ H Q)
 fi:∀{I X e x tg},Good t T Γ k I X->cI T n I e=some x->∀pZ E,PI (X.at_ pZ E) tg e (λσ H R=>zL (X.cc t) Γ x (E σ) σ H R)
 fn:∀{I X e x es ek tp},Good t T Γ k I X->cN T n I e=some x->∀pZ E,PI (X.at_ pZ E) (.Tuple es ek tp) e (λσ H R=>zL (X.cc t) Γ x (E σ) σ H R)
 ft:∀{I X e x},Good t T Γ k I X->cT T n I e=some x->Ca X e (tT (X.cc t) Γ x)
 W9:∀{I X op vs x pos},Good t T Γ k I X->Vu T n I op vs=some x->∀pZ E,PW (X.at_ pZ E) (.BoolOp op vs pos) (λσ H Q=>tT (X.cc t) Γ x (E σ) σ H Q)
section
variable{t:wb}{T:Tab}{Γ:bY}{k n:Nat}{I:Inf}{X:Cx}
theorem dI:∀{l:List Str}{i:Nat},dz x l=some i->l[i]?=some x
 |[],_,h=>nn h
 |y::ys,i,h=>by
  unfold dz at h;by_cases e:y=x
  .rw[if_pos e] at h;injection h with h;subst h;subst e;rfl
  .rw[if_neg e] at h
   cases q:dz x ys with
   |none=>rw[q] at h;cases h
   |some j=>rw[q] at h;simp at h;subst h;simpa using dI q
theorem O1(h:KW (names.lookup x)=true)(e:sc.names=names):Ju sc x:=by
 rw[<-e] at h;unfold Ju;cases q:sc.names.lookup x with
 |none=>rw[q] at h;cases h
 |some kd=>rw[q] at h;cases kd<;>simp[KW] at h<;>simp
theorem Ll(G:Good t T Γ k I X)(h:dz x I.N=some i)(hv:KW (I.names.lookup x)=true)(h1:(x==("__debug__":Str))=false)(h2:(x==("__classdict__":Str))=false):eI X (.Name x pos) (tE (X.cc t) Γ (.var i)):=by
 refine up λpZ E=>(pU (i:=i) (X:=X.at_ pZ E) (by show X.N[i]?=some x;rw[G.slots];exact dI h) (O1 hv G.names) h1 h2).imp ?_
 rintro σ H Q ⟨env,ρ,S,QU,EU,he,R,w,q,qx⟩;obtain⟨u,e,w⟩:=PL.Aj.mp (show PL.yO _ _ from w);obtain⟨v,e1,r⟩:=he.at_ i u e;exact#[v,e1,q.now R w r]
theorem qH{e:Expr}{u:U}{v:V}(h:∀(pZ:List (Addr×Obj)) E,PE (X.at_ pZ E) e (tC v))(r:∀ρ H,Rep (X.cc t) ρ H u v):eI X e (tE (X.cc t) Γ (.lit u)):=by
 refine up λpZ E=>(h pZ E).imp ?_
 rintro σ H Q ⟨env,ρ,S,QU,EU,he,R,w,q,qx⟩;exact q.now R w (r ρ H)
theorem ij(h:pick l x=some s):s∈l/\nm s=x:=by
 unfold pick at h;exact#[yu h,by simpa using JP h]
theorem xy{α:Type}{l:List (String×α)}{x:Str}{s:String×α}(h:Au l x=some s):s∈l/\nm s.1=x:=by
 unfold Au at h;exact#[yu h,by simpa using JP h]
theorem gD(G:Good t T Γ k I X){x:Str}(h:I.gl x=true):Gl X x:=by
 unfold Inf.gl at h;show X.env.scope.names.lookup x=_;rw[G.names]
 simpa using h
theorem HP{x:Str}{pos:Pos}{p:String×U}(G:Good t T Γ k I X)(hg:I.gl x=true)(h:Au T.const x=some p)(h1:(x==("__debug__":Str))=false):eI X (.Name x pos) (tE (X.cc t) Γ (.lit p.2)):=by
 obtain⟨hm,e⟩:=xy h;obtain⟨v,u,e1,rv,r⟩:=G.tab.const p hm;subst e;exact qH (λpZ E=>yB (X:=X.at_ pZ E) (gD G hg) e1 rv h1) r
theorem O2(G:Good t T Γ k I X)(ho:Sy op=some o)(ha:∀pZ E,eI (X.at_ pZ E) a (tE (X.cc t) Γ x))(hb:∀pZ E,eI (X.at_ pZ E) b (tE (X.cc t) Γ y)):eI X (.BinOp a op b pos) (tE (X.cc t) Γ (.bin o x y)):=by
 have e:op=K5 o:=by
  cases op<;>first|exact nn ho| (cases ho;rfl)
 rw[e]
 refine up λpZ E=>(Rv (X:=X.at_ pZ E) (Lf (X:=X.at_ pZ E) (c:=X.cc t)) (dn (ha pZ E)) (dn (hb pZ E))).imp ?_
 rintro σ H Q ⟨env,ρ,S,QU,EU,he,R,w,q,qx⟩;refine#[env,ρ,S,_,EU,he,R,w,λu S1 v H1 ρ1 w1 st1 R1 r1=>?_,qx];refine#[env,ρ1,S1,_,EU,he.later R st1,R1,w1,λu2 S2 v2 H2 ρ2 w2 st2 R2 r2=>?_,qx.later st1];exact#[u,u2,ρ2,S2,QU,r1.mono R1 st2,r2,R2,w2,q.later (st1.trans st2)]
theorem O3(G:Good t T Γ k I X)(ho:KY op=some o)(hm:behindInMarks op b=false)(ha:∀pZ E,eI (X.at_ pZ E) a (tE (X.cc t) Γ x))(hb:∀pZ E,eI (X.at_ pZ E) b (tE (X.cc t) Γ y)):eI X (.Compare a [op] [b] pos) (tE (X.cc t) Γ (.cmp o x y)):=by
 have e:op=HG o:=by cases op<;>first|exact nn ho| (cases ho;rfl)
 subst e;refine up λpZ E=>(Ka (X:=X.at_ pZ E) (Dw (X:=X.at_ pZ E) (c:=X.cc t) rfl rfl G.units o) (dn (ha pZ E)) (dn (hb pZ E)) hm).imp ?_
 rintro σ H Q ⟨env,ρ,S,QU,EU,he,R,w,q,qx⟩;refine#[env,ρ,S,_,EU,he,R,w,λu S1 v H1 ρ1 w1 st1 R1 r1=>?_,qx];refine#[env,ρ1,S1,_,EU,he.later R st1,R1,w1,λu2 S2 v2 H2 ρ2 w2 st2 R2 r2=>?_,qx.later st1];refine#[u,u2,ρ2,S2,r1.mono R1 st2,r2,R2,PL.xq (λr h=>?_) w2];exact(q.later (st1.trans st2)).now R2 h (dA.mpr rfl)
theorem Lm(G:Good t T Γ k I X)(ho:KY op=some o)(hm:behindInMarks op b=false)(ha:∀pZ E,eI (X.at_ pZ E) a (tE (X.cc t) Γ x))(hb:∀pZ E,eI (X.at_ pZ E) b (tE (X.cc t) Γ y)):Ca X (.Compare a [op] [b] pos) (tT (X.cc t) Γ (.cg (.cmp o x y))):=by
 have e:op=HG o:=by cases op<;>first|exact nn ho| (cases ho;rfl)
 subst e;refine Vv λpZ E=>(Kb (X:=X.at_ pZ E) (Dw (X:=X.at_ pZ E) (c:=X.cc t) rfl rfl G.units o) (dn (ha pZ E)) (dn (hb pZ E)) hm).imp ?_
 rintro σ H Q ⟨env,ρ,S,QU,EU,he,R,w,q,qx⟩;refine#[env,ρ,S,_,EU,he,R,w,λu S1 v H1 ρ1 w1 st1 R1 r1=>?_,qx];refine#[env,ρ1,S1,_,EU,he.later R st1,R1,w1,λu2 S2 v2 H2 ρ2 w2 st2 R2 r2=>?_,qx.later st1];refine#[u,u2,ρ2,S2,r1.mono R1 st2,r2,R2,PL.xq (λr h=>#[r,rfl,?_]) w2];exact(q.later (st1.trans st2)) _ _ _ _ h .refl R2
end
open PL (U SO bJ Xn KU KX bY)
theorem cJ(h:noStar e=true):bS (e::es) env=(false,eval e env)::bS es env:=by
 cases e<;>first|rfl|cases h
theorem u5:∀{es:List Expr},es.all noStar=true->bS es env=es.map λe=>(false,eval e env)
 |[],_=>rfl
 |e::es,h=>by
  rw[bj,af] at h;rw[cJ h.1,u5 h.2];rfl
theorem iq(h:iB o=true):i0 o m env (eval o env)=eval o env:=by
 cases o with
 |Call f args kws pos=>
  cases f with
  |Name id p=>
   cases args with
   |nil=>
    cases kws with
    |nil=>cases h
    |cons k ks=>rfl
   |cons a as=>rfl
  |_=>rfl
 |_=>rfl
theorem Az(h:yW e=true):iJ e tg l env=pure false:=by
 cases e<;>first|rfl|cases h
theorem fN(h:es.all noStar=true):(iN pos (bS es env)).any (·.1)=false:=by
 rw[u5 h]
 unfold iN;simp
theorem xA(h:es.all noStar=true)(hn:es.length<20):Bt (es.length+([]:List se).length) (iN pos (bS es env)) (backToKw pos (kO [] env))=true:=by
 rw[u5 h]
 have e:kO [] env=[]:=rfl;rw[e]
 unfold Bt iN;simp[backToKw]
 omega
theorem xB(h0:iB o=true)(hst:args.all noStar=true)(hn:args.length<20)(hl:(apos.endLine==pos.line)=true):
  eval (.Call (.Attribute o m apos) args [] pos) env=(do
   let ov <-eval o env
   standAt apos.atName
   let (f,first) <-holding [ov] (getMethod ov m (do return (<-importBound o env).getD true))
   callWith pos f first (iN pos (bS args env)) (backToKw pos (kO [] env))):=by
 change (do
  let ov <-i0 o m env (eval o env)
  standAt apos.atName
  methodCall o m apos pos env ov (args.length+[].length) (iN pos (bS args env)) (backToKw pos (kO [] env)))=_
 simp only[iq h0,methodCall,xA hst hn,calleeOf,methodCallPos,hl]
 rfl
open PL (U SO bJ Xn KU KX bY)
section
variable{X:Cx}{k:Nat}{f C:Addr}{fd:dS}{ps:List Str}{sp:Sp}{x m:Str}{p pos apos:Pos}{e o:Expr}{es:List Expr}{ta:XK->TA}{to:XK->TE}
theorem Xa(F:iK X.prog X.w X.K X.mg X.base (pX X.prog X.w) k f fd ps sp)(hr:jz k X.A)(hg:Gl X x)(hm:X.mg x=some (.ref f))(hk:lT X.K (.ref f)=true)(hb:Binds X.K fd ps [])(ha:Aw X (e::es) ta)
  (hdb:(x==("__debug__":Str))=false) (he:noStar e=true) (hes:es.all noStar=true):eI X (.Call (.Name x p) (e::es) [] pos) (λE σ H Q=>ta E σ H λvs H1=>sp vs H1 Q E):=by
 intro pZ s σ H Q E I h;refine dy (mS I hg hm ?_ hdb);refine Bu (h₀:=X.base) I.ok.mod.QN hk (fj (ha pos pZ s σ H _ E I h) λus s1 h9=>?_) (cJ he) (fN hes);obtain⟨vs,H1,I1,r,q⟩:=h9;refine#[I1.kU,?_];exact tH F hr hb .nil I1 r (by rw[bb];exact q)
theorem SM(F:iK X.prog X.w X.K X.mg X.base (pX X.prog X.w) k f fd ps sp)(hr:jz k X.A)(hg:Gl X x)(hm:X.mg x=some (.ref f))(hk:lT X.K (.ref f)=true)(hb:Binds X.K fd ps [])
  (hdb:(x==("__debug__":Str))=false):eI X (.Call (.Name x p) [] [] pos) (λE σ H Q=>sp [] H Q E):=by
 intro pZ s σ H Q E I h;refine dy (mS I hg hm ?_ hdb);exact JQ I.kU hk (tH (us:=[]) (vs:=[]) F hr hb .nil I .nil h)
theorem Xb(he:eI X o to)(c:wO X.K C)(hm:Meth X.K C m f)(F:iK X.prog X.w X.K X.mg X.base (pX X.prog X.w) k f fd ps sp)(hr:jz k X.A)(hb:Binds X.K fd ps [])(ha:Aw X (e::es) ta)
  (h0:iB o=true) (hn:(e::es).length<20) (hl:(apos.endLine==pos.line)=true) (hse:noStar e=true) (hes:es.all noStar=true):
  eI X (.Call (.Attribute o m apos) (e::es) [] pos) (λE σ H Q=>to E σ H λx H1=>∃a dx fs,x=.ref a/\H1 a=some (.ins C dx fs)/\fs.lookup m=none/\ta E σ H1 λvs H2=>sp (x::vs) H2 Q E):=by
 intro pZ s σ H Q E I h;refine methodCall_KW (fj (he pZ s σ H _ E I h) λu s1 h9=>?_) (xB h0 (by rw[bj,hse,hes];rfl) hn hl);obtain⟨x,H1,I1,rx,a,dx,fs,ex,ea,l,q⟩:=h9;subst ex;obtain rfl:u=aS a:=rx;refine uj I1 ea c hm l ?_;refine Bu (first:=[.ref a]) (h₀:=X.base) I.ok.mod.QN hm.kp (fj (ha pos pZ s1 σ H1 _ E I1 q) λus s2 h9=>?_) (cJ hse) (fN hes);obtain⟨vs,H2,I2,r,q2⟩:=h9;refine#[I2.kU,?_];exact tH (us:=.ref a::us) (vs:=.ref a::vs) F hr hb .nil I2 (.cons rfl r) (by rw[bb];exact q2)
theorem SN(he:eI X o to)(c:wO X.K C)(hm:Meth X.K C m f)(F:iK X.prog X.w X.K X.mg X.base (pX X.prog X.w) k f fd ps sp)(hr:jz k X.A)(hb:Binds X.K fd ps [])
  (h0:iB o=true) (hl:(apos.endLine==pos.line)=true):
  eI X (.Call (.Attribute o m apos) [] [] pos) (λE σ H Q=>to E σ H λx H1=>∃a dx fs,x=.ref a/\H1 a=some (.ins C dx fs)/\fs.lookup m=none/\sp [x] H1 Q E):=by
 intro pZ s σ H Q E I h;refine methodCall_KW (fj (he pZ s σ H _ E I h) λu s1 h9=>?_) (xB h0 rfl ⋯ hl);obtain⟨x,H1,I1,rx,a,dx,fs,ex,ea,l,q⟩:=h9;subst ex;obtain rfl:u=aS a:=rx;refine uj I1 ea c hm l ?_;exact JQ (first:=[.ref a]) I1.kU hm.kp (tH (us:=[.ref a]) (vs:=[.ref a]) F hr hb .nil I1 (.cons rfl .nil) q)
theorem xC(M:Mk X.K C f)(F:iK X.prog X.w X.K X.mg X.base (pX X.prog X.w) k f fd ps sp)(hr:jz (k+1) X.A)(hb:Binds X.K fd ps [])
  (I:Inv X pZ σ H s) (r:Vals vs us) (h:∀x dx,H x=none->H dx=none->dx≠x->sp (.ref x::vs) (upd (upd H dx (.own x)) x (.ins C dx [])) (λv H2=>v=.bK/\Q (.ref x) H2) E):
  wpAny (aR X.prog X.w) X.A (call (.ref C) us) (EP X pZ σ Q) (XE X pZ σ E) s:=by
 have hq:=h (s.heap.objs.size+1) s.heap.objs.size (I.dg.fresh (gV _)) (I.dg.fresh (ax _)) (b7 (t6 _));have I2:=Inv.made (C:=C) I;have r2:Vals (V.ref (s.heap.objs.size+1)::vs) (aS (s.heap.objs.size+1)::us):=.cons rfl r;have hl:(aS (s.heap.objs.size+1)::us++([]:List Value)).length=ps.length:=by
  have e:=r2.length;rw[F.len _ _ _ _ hq] at e;rw[bb]
  exact e.symm
 have hb2:=hb {s with heap:=(s.heap.push cH).push (dv C s.heap.objs.size)} (aS (s.heap.objs.size+1)::us) I2.kU hl;rw[bb] at hb2;refine pR (Gq (f:=f) I.kU M.makes M.init (beq_iff_eq.mp M.fn) (mf (F.run _ X.stack _ _ #[aS (s.heap.objs.size+1)::us,[]] (aS (s.heap.objs.size+1)::us) _ _ E (hr.make C us [])
  (I2.NX.make C us []) hb2 r2 hq) λr s' hq'=>?_))
 cases r with
 |error e=>
  obtain⟨a,T,c,dx,H',e1,I',x,fr,q⟩:=pX.inv I2 hq';exact#[a,some T,c,dx,H',e1,I',x,fr,q]
 |ok fl=>
  cases fl with
  |ret u=>
   obtain⟨v,H',I3,rv,ev,q3⟩:=I2.after hq';subst ev;exact#[rv,#[V.ref (s.heap.objs.size+1),H',I3,rfl,q3]]
  |next=>exact aJ hq'
  |brk=>exact aJ hq'
  |cont=>exact aJ hq'
theorem Xc(M:Mk X.K C f)(F:iK X.prog X.w X.K X.mg X.base (pX X.prog X.w) k f fd ps sp)(hr:jz (k+1) X.A)(hg:Gl X x)(hm:X.mg x=some (.ref C))(hb:Binds X.K fd ps [])(ha:Aw X (e::es) ta)
  (hdb:(x==("__debug__":Str))=false) (he:noStar e=true) (hes:es.all noStar=true):eI X (.Call (.Name x p) (e::es) [] pos) (λE σ H Q=>ta E σ H λvs H1=>∀x dx,H1 x=none->H1 dx=none->dx≠x ->
   sp (.ref x::vs) (upd (upd H1 dx (.own x)) x (.ins C dx [])) (λv H2=>v=.bK/\Q (.ref x) H2) E):=by
 intro pZ s σ H Q E I h;refine dy (mS I hg hm ?_ hdb);refine Bu (h₀:=X.base) I.ok.mod.QN M.kp (fj (ha pos pZ s σ H _ E I h) λus s1 h9=>?_) (cJ he) (fN hes);obtain⟨vs,H1,I1,r,q⟩:=h9;refine#[I1.kU,?_];exact xC M F hr hb I1 r q
theorem SQ(M:Mk X.K C f)(F:iK X.prog X.w X.K X.mg X.base (pX X.prog X.w) k f fd ps sp)(hr:jz (k+1) X.A)(hg:Gl X x)(hm:X.mg x=some (.ref C))(hb:Binds X.K fd ps [])
  (hdb:(x==("__debug__":Str))=false):eI X (.Call (.Name x p) [] [] pos) (λE σ H Q=>∀x dx,H x=none->H dx=none->dx≠x ->
   sp [.ref x] (upd (upd H dx (.own x)) x (.ins C dx [])) (λv H2=>v=.bK/\Q (.ref x) H2) E):=by
 intro pZ s σ H Q E I h;refine dy (mS I hg hm ?_ hdb);exact JQ I.kU M.kp (xC (us:=[]) (vs:=[]) M F hr hb I .nil h)
end
theorem eI.imp(h:eI X e t)(q:∀E σ H Q,t' E σ H Q->t E σ H Q):eI X e t':=λpZ s σ H Q E I z=>h pZ s σ H Q E I (q E σ H Q z)
section
variable{t:wb}{T:Tab}{Γ:bY}{k n:Nat}{I:Inf}{X:Cx}
theorem lI:∀{n:Nat}{I:Inf}{es:List Expr}{xs:PL.yN},QS T n I es=some xs->es.all noStar=true
 |0,_,_,_,h=>by rw[MQ] at h;cases h
 |n+1,I,[],_,_=>rfl
 |n+1,I,e::es,_,h=>by
  rw[Hu,Hr] at h;by_cases z:noStar e=true
  .simp only[z,bO,ah,if_false,aI,ao] at h
   obtain⟨x,_,xs,h2,_⟩:=h;rw[bj,z,lI h2];rfl
  .simp[z] at h
theorem O4(IH:E5 t T Γ k n)(G:Good t T Γ k I X):∀{es:List Expr}{xs:PL.yN},QS T (n+1) I es=some xs->Aw X es (EY (X.cc t) Γ xs)
 |[],xs,h=>by
  rw[Hu,Hr] at h;injection h with h;subst h
  refine YC λpZ E=>?_
  refine λpos pins' s σ H Q J z=>rk (X:=X.at_ pZ E) pos pins' s σ H Q J ?_
  obtain⟨env,ρ,S,QU,EU,he,R,w,q,qx⟩:=z;exact q [] S [] H ρ w .refl R aU.nil
 |e::es,xs,h=>by
  have st:=lI h;rw[bj,af] at st;rw[Hu,Hr] at h;simp only[st.1,bO,ah,if_false,aI,ao] at h;obtain⟨x,h1,ys,h2,h3⟩:=h;injection h3 with h3;subst h3
  refine YC λpZ E=>?_
  have P:=k6 (X:=X.at_ pZ E) (dn (IH.fe G.at_ h1)) (Cb (IH.QZ G.at_ h2)) (cJ st.1);refine λpos pins' s σ H Q J z=>P pos pins' s σ H Q J ?_
  obtain⟨env,ρ,S,QU,EU,he,R,w,q,qx⟩:=z;refine#[env,ρ,S,_,EU,he,R,w,λu S1 v H1 ρ1 w1 st1 R1 r1=>?_,qx];refine#[env,ρ1,S1,_,EU,he.later R st1,R1,w1,λus S2 vs H2 ρ2 w2 st2 R2 r2=>?_,qx.later st1];exact q _ _ _ _ _ w2 (st1.trans st2) R2 (aU.cons (r1.mono R1 st2) r2)
theorem O5(ha:∀pZ E,eI (X.at_ pZ E) a (tE (X.cc t) Γ x)):eI X (.UnaryOp .USub a pos) (tE (X.cc t) Γ (.neg x)):=by
 refine up λpZ E=>(Rw (X:=X.at_ pZ E) NP (dn (ha pZ E))).imp ?_
 rintro σ H Q ⟨env,ρ,S,QU,EU,he,R,w,q,qx⟩;refine#[env,ρ,S,_,EU,he,R,w,λu S1 v H1 ρ1 w1 st1 R1 r1=>?_,qx];obtain⟨i,e,w2⟩:=PL.eR.mp w1;subst e;exact#[i,aN.mp r1,(q.later st1).now R1 w2 (aN.mpr rfl)]
theorem O6(ha:∀pZ E,eI (X.at_ pZ E) a (tE (X.cc t) Γ x)):eI X (.UnaryOp .Not a pos) (tE (X.cc t) Γ (.not x)):=by
 refine up λpZ E=>(Nx (X:=X.at_ pZ E) (dn (ha pZ E))).imp ?_
 rintro σ H Q ⟨env,ρ,S,QU,EU,he,R,w,q,qx⟩;refine#[env,ρ,S,_,EU,he,R,w,λu S1 v H1 ρ1 w1 st1 R1 r1=>?_,qx];obtain⟨i,e,w2⟩:=PL.yP.mp w1;subst e;exact#[i,dA.mp r1,(q.later st1).now R1 w2 (dA.mpr rfl)]
theorem O7(IH:E5 t T Γ k n)(G:Good t T Γ k I X):∀{vs:List Expr}{x:PL.Ex},Vt T (n+1) I op vs=some x->eI X (.BoolOp op vs pos) (tE (X.cc t) Γ x)
 |[],x,h=>by rw[Hv,Hs] at h;cases h
 |[a],x,h=>by
  rw[Hv,Hs] at h;refine up λpZ E=>Nv (X:=X.at_ pZ E) (dn (IH.fe G.at_ h))
 |a::b::r,y,h=>by
  rw[Hv,Hs] at h;simp only[aI,ao] at h;obtain⟨x,h1,z,h2,h3⟩:=h;injection h3 with h3;subst h3
  cases op with
  |And=>
   refine up λpZ E=>(Nw (X:=X.at_ pZ E) (dn (IH.fe G.at_ h1)) (dn (IH.W8 G.at_ h2))).imp ?_
   rintro σ H Q ⟨env,ρ,S,QU,EU,he,R,w,q,qx⟩;refine#[env,ρ,S,_,EU,he,R,w,λu S1 v H1 ρ1 w1 st1 R1 r1=>?_,qx];obtain⟨i,e,w2⟩:=PL.yP.mp w1;subst e;refine#[i,dA.mp r1,?_];cases i with
   |true=>exact#[env,ρ1,S1,QU,EU,he.later R st1,R1,w2,q.later st1,qx.later st1]
   |false=>exact(q.later st1).now R1 w2 (dA.mpr rfl)
  |Or=>
   refine up λpZ E=>(Rh (X:=X.at_ pZ E) (dn (IH.fe G.at_ h1)) (dn (IH.W8 G.at_ h2))).imp ?_
   rintro σ H Q ⟨env,ρ,S,QU,EU,he,R,w,q,qx⟩;refine#[env,ρ,S,_,EU,he,R,w,λu S1 v H1 ρ1 w1 st1 R1 r1=>?_,qx];obtain⟨i,e,w2⟩:=PL.yP.mp w1;subst e;refine#[i,dA.mp r1,?_];cases i with
   |true=>exact(q.later st1).now R1 w2 (dA.mpr rfl)
   |false=>exact#[env,ρ1,S1,QU,EU,he.later R st1,R1,w2,q.later st1,qx.later st1]
theorem SR(hc:∀pZ E,Ca (X.at_ pZ E) c (tT (X.cc t) Γ x))(ha:∀pZ E,eI (X.at_ pZ E) a (tE (X.cc t) Γ y))(hb:∀pZ E,eI (X.at_ pZ E) b (tE (X.cc t) Γ z)):eI X (.IfExp c a b pos) (tE (X.cc t) Γ (.xm x y z)):=by
 refine up λpZ E=>(Gd (X:=X.at_ pZ E) (QT (hc pZ E)) (dn (ha pZ E)) (dn (hb pZ E))).imp ?_
 rintro σ H Q ⟨env,ρ,S,QU,EU,he,R,w,q,qx⟩;refine#[env,ρ,S,_,EU,he,R,w,λb S1 H1 ρ1 w1 st1 R1=>?_,qx];cases b with
 |true=>exact#[env,ρ1,S1,QU,EU,he.later R st1,R1,w1,q.later st1,qx.later st1]
 |false=>exact#[env,ρ1,S1,QU,EU,he.later R st1,R1,w1,q.later st1,qx.later st1]
theorem O8(ha:∀pZ E,Aw (X.at_ pZ E) es (EY (X.cc t) Γ xs)):eI X (.Tuple es j pos) (tE (X.cc t) Γ (.tup xs)):=by
 refine up λpZ E=>(Gu (X:=X.at_ pZ E) (Cb (ha pZ E))).imp ?_
 rintro σ H Q ⟨env,ρ,S,QU,EU,he,R,w,q,qx⟩;refine#[env,ρ,S,_,EU,he,R,w,λus S1 vs H1 ρ1 w1 st1 R1 r1=>?_,qx];exact#[by rw[<-r1.len];exact pK w1.1,λp hp=>(q.later st1).K4 R1 r1 w1.2 hp]
theorem O9(ha:∀pZ E,Aw (X.at_ pZ E) es (EY (X.cc t) Γ xs)):eI X (.List es pos) (tE (X.cc t) Γ (.lst xs)):=by
 refine up λpZ E=>(NW (X:=X.at_ pZ E) (Cb (ha pZ E))).imp ?_
 rintro σ H Q ⟨env,ρ,S,QU,EU,he,R,w,q,qx⟩;refine#[env,ρ,S,_,EU,he,R,w,λus S1 vs H1 ρ1 w1 st1 R1 r1=>?_,qx];exact#[by rw[<-r1.len];exact pK w1.1,λp hp=>(q.later st1).Hy R1 r1 w1.2 hp]
theorem nh:∀{fs:List (String×U)}{vs:List (Str×V)},vs.map (·.1)=(fs.map (·.1)).map nm->aU c ρ H (fs.map (·.2)) (vs.map (·.2))->fs.lookup f=some u->(∀a b:String,nm a=nm b->a=b)->∃v,vs.lookup (nm f)=some v/\Rep c ρ H u v
 |[],vs,_,_,h,_=>nomatch h
 | (g,w)::fs,[],e,_,_,_=>by simp at e
 | (g,w)::fs,(a,v)::vs,e,r,h,inj=>by
  simp only[aD,dX] at e;rw[aD,aD] at r;unfold aU at r;obtain⟨v',r',e',h1,h2⟩:=r;injection e' with e1 e2
  subst e1;subst e2;rw[ba] at h ⊢;by_cases z:f=g
  .subst z
   simp at h;subst h;have:(nm f==a)=true:=by rw[e.1];simp
   rw[this]
   exact#[v,rfl,h1]
  .have z1:(f==g)=false:=by simp[z]
   rw[z1] at h;have z2:(nm f==a)=false:=by
    rw[e.1]
    simp only[beq_eq_false_iff_ne,ne_eq];exact λq=>z (inj _ _ q)
   rw[z2]
   exact nh e.2 h2 h inj
theorem rJ(a b:String)(h:nm a=nm b):a=b:=by
 unfold nm at h;rw[Str.ofString_eq_byList] at h;unfold Str.ofStringByList at h;injection h with h
 have h2:=congrArg zQ h;simp only[] at h2;have h3:a.toList=b.toList:=by
  refine(List.map_inj_right (f:=Char.toNat) ?_).mp h2;intro x y e;exact Char.ext (UInt32.toNat_inj.mp e)
 exact String.toList_inj.mp h3
end
open PL (U SO bJ Xn KU KX bY)
theorem Ln(he:PE X e ta)(hb:i0 e f X.env (eval e X.env)=eval e X.env):PE X (.Attribute e f pos) (λσ H Q=>ta σ H λx H1=>
  (∃a C dx fs v,x=.ref a/\H1 a=some (.ins C dx fs)/\wO X.K C/\fD X.K C f/\fs.lookup f=some v/\Q v H1) \/
  (∃a C d fs v,x=.ref a/\H1 a=some (.xc a (.ref C) (some d))/\H1 d=some (.xf d fs)/\XGet X.K C/\fD X.K C f/\fs.lookup f=some v/\Q v H1)):=by
 intro pZ s σ H Q I h;refine Kd hb (fj (he pZ s σ H _ I h) λu s1 h9=>?_);obtain⟨x,H1,I1,rx,z⟩:=h9;rcases z with⟨a,C,dx,fs,v,ex,ea,c,n,l,q⟩|⟨a,C,d,fs,v,ex,ea,hd,G,n,l,q⟩
 .subst ex
  obtain rfl:u=aS a:=rx;exact ui I1 ea c n l λu' s2 I2 ru=>#[v,H1,I2,ru,q]
 .subst ex
  obtain rfl:u=aS a:=rx;obtain⟨⟨vs,sl,q0⟩,_⟩:=I1.dg a _ ea;obtain⟨mA,ns,r,_⟩:=De I1.dg hd;obtain⟨oD,es,ep,eo,c⟩:=id ns;obtain⟨w,hw,rw'⟩:=nN.some_of (v:=v) (o:=mA f) (by rw[<-l];exact r f);refine Kx (ox:=#[.ref C,some d,.fields vs,sl]) (od:=some oD) I1.kU #[q0,rfl,rfl,eo] G (findObj_own G.hd n rfl ?_) (wN rw') #[v,H1,I1.tok _,rw',q];obtain⟨o2,e2,hl⟩:=wM ns;rw[eo] at e2;cases e2;rw[hl f,hw]
section
variable{t:wb}{T:Tab}{Γ:bY}{k n:Nat}{I:Inf}{X:Cx}
theorem Cj{us:List U}{l:List String}(h:l.length=us.length):(l.zip us).map (·.1)=l/\(l.zip us).map (·.2)=us:=by
 constructor
 .exact Jm ∅
 .exact Jn ∅
theorem Pa{o:Expr}{f:String}{x:PL.Ex}{pos:Pos}(G:Good t T Γ k I X)(hf:f∈T.uS)(h0:iB o=true)(ho:∀pZ E,eI (X.at_ pZ E) o (tE (X.cc t) Γ x)):eI X (.Attribute o (nm f) pos) (tE (X.cc t) Γ (.fld x f)):=by
 refine up λpZ E=>(Ln (X:=X.at_ pZ E) (dn (ho pZ E)) (iq h0)).imp ?_
 rintro σ H Q ⟨env,ρ,S,QU,EU,he,R,w,q,qx⟩;refine#[env,ρ,S,_,EU,he,R,w,λu S1 v H1 ρ1 w1 st1 R1 r1=>?_,qx];cases u with
 |loc m=>
  obtain⟨c,fs,e,w2⟩:=PL.mB.mp (show PL.mz _ _ from w1);obtain⟨u,e2,w3⟩:=PL.gI.mp w2;obtain⟨a,C,dx,vs,ev,_,hc,ha,hn,hr⟩:=R1.ins e r1;obtain⟨v',l,r2⟩:=nh hn hr e2 rJ;obtain⟨cl,na⟩:=G.tab.cls c C hc;exact .inl #[a,C,dx,vs,v',ev,ha,cl,na f hf,l,(q.later st1).now R1 w3 r2]
 |exc c us=>
  obtain⟨u,e2,w3⟩:=PL.gI.mp (show PL.opt _ _ from w1);unfold Rep at r1;obtain⟨a,d,C,fs,ev,hc,ha,hd,hn,hr⟩:=r1;obtain⟨xg,_,_,na⟩:=G.tab.exc c C hc;have hl:(PL.cL c).length=us.length:=by
   have h1:=congrArg cQ hn;have h2:=hr.len;simp at h1 h2;omega
  obtain⟨z1,z2⟩:=Cj hl;obtain⟨v',l,r2⟩:=nh (fs:=(PL.cL c).zip us) (vs:=fs) (by rw[z1];exact hn) (by rw[z2];exact hr) e2 rJ;exact .inr #[a,C,d,fs,v',ev,ha,hd,xg,na f hf,l,(q.later st1).now R1 w3 r2]
 |_=>exact aJ w1
theorem HQ(h:pb b=true):C9 b:=by
 intro o i;cases b<;>first|rfl|cases h
theorem SS(hs:pb b=true)(ha:∀pZ E,eI (X.at_ pZ E) a (tE (X.cc t) Γ x))(hb:∀pZ E,eI (X.at_ pZ E) b (tE (X.cc t) Γ y)):eI X (.Subscript a b pos) (tE (X.cc t) Γ (.ix x y)):=by
 refine up λpZ E=>(RM (X:=X.at_ pZ E) (OY (X:=X.at_ pZ E) (c:=X.cc t) rfl rfl) (dn (ha pZ E)) (dn (hb pZ E)) (HQ hs)).imp ?_
 rintro σ H Q ⟨env,ρ,S,QU,EU,he,R,w,q,qx⟩;refine#[env,ρ,S,_,EU,he,R,w,λu S1 v H1 ρ1 w1 st1 R1 r1=>?_,qx];refine#[env,ρ1,S1,_,EU,he.later R st1,R1,w1,λu2 S2 v2 H2 ρ2 w2 st2 R2 r2=>?_,qx.later st1];refine#[u,u2,ρ2,S2,r1.mono R1 st2,r2,R2,PL.Hn (λr h v3 r3=>?_) w2];exact(q.later (st1.trans st2)).now R2 h r3
theorem SU(IH:E5 t T Γ k n)(G:Good t T Γ k I X):∀{oe:Option Expr}{x:PL.Ox},cO T (n+1) I oe=some x->∀pZ E,PO (X.at_ pZ E) oe (λσ H Q=>Vx (X.cc t) Γ x (E σ) σ H Q)
 |none,x,h,pZ,E=>by
  rw[SH,Vs] at h;injection h with h;subst h
  refine λpins' s σ H Q J z=>Kh (X:=X.at_ pZ E) pins' s σ H Q J ?_
  obtain⟨env,ρ,S,QU,EU,he,R,w,q,qx⟩:=z;exact q none S H ρ w .refl R
 |some e,x,h,pZ,E=>by
  rw[SH,Vs] at h;obtain⟨y,h1,h2⟩:=ag.mp h;subst h2;refine λpins' s σ H Q J z=>Ki (X:=X.at_ pZ E) (dn (IH.fe G.at_ h1)) pins' s σ H Q J ?_
  obtain⟨env,ρ,S,QU,EU,he,R,w,q,qx⟩:=z;refine#[env,ρ,S,_,EU,he,R,w,λu S1 v H1 ρ1 w1 st1 R1 r1=>?_,qx];obtain⟨i,e,w2⟩:=PL.eR.mp w1;subst e;exact#[i,aN.mp r1,q _ _ _ _ w2 st1 R1]
theorem SV{a:Expr}{lo hi:Option Expr}{x:PL.Ex}{y z:PL.Ox}{pos p2:Pos}(ha:∀pZ E,eI (X.at_ pZ E) a (tE (X.cc t) Γ x))(hl:∀pZ E,PO (X.at_ pZ E) lo (λσ H Q=>Vx (X.cc t) Γ y (E σ) σ H Q))(hh:∀pZ E,PO (X.at_ pZ E) hi (λσ H Q=>Vx (X.cc t) Γ z (E σ) σ H Q)):eI X (.Subscript a (.Slice lo hi none p2) pos) (tE (X.cc t) Γ (.sl x y z)):=by
 refine up λpZ E=>(Gy (X:=X.at_ pZ E) (O0 (X:=X.at_ pZ E) (c:=X.cc t) rfl) (dn (ha pZ E)) (hl pZ E) (hh pZ E)).imp ?_
 rintro σ H Q ⟨env,ρ,S,QU,EU,he,R,w,q,qx⟩;refine#[env,ρ,S,_,EU,he,R,w,λu S1 v H1 ρ1 w1 st1 R1 r1=>?_,qx];refine#[env,ρ1,S1,_,EU,he.later R st1,R1,w1,λl S2 H2 ρ2 w2 st2 R2=>?_,qx.later st1];have st12:=st1.trans st2;refine#[env,ρ2,S2,_,EU,he.later R st12,R2,w2,λh S3 H3 ρ3 w3 st3 R3=>?_,qx.later st12];exact#[u,ρ3,S3,QU,r1.mono R1 (st2.trans st3),R3,w3,q.later (st12.trans st3)]
end
open PL (U SO bJ Xn KU KX bY)
section
variable{t:wb}{T:Tab}{Γ:bY}{k n:Nat}{I:Inf}{X:Cx}
theorem Pb(G:Good t T Γ k I X)(hg:I.gl f=true)(hb:OL f=some b)(hp:pick T.fu f=some s)(hcalm:X.calm=true)(hA:X.A.handled=none)(h1:noStar e=true)(h2:es.all noStar=true)
  (ha:∀pZ E,Aw (X.at_ pZ E) (e::es) (EY (X.cc t) Γ xs)):eI X (.Call (.Name f p) (e::es) [] pos) (tE (X.cc t) Γ (.blt b xs)):=by
 obtain⟨hm,rfl⟩:=ij hp;have hn:=G.tab.fu s hm;have rd:∀(pZ:List (Addr×Obj))(E:St->XK)(σ:St)(H:Hp)(Q:VK),tE (X.cc t) Γ (.blt b xs) (E σ) σ H Q->V7 (sF (X.cc t) b) (λσ H Q=>EY (X.cc t) Γ xs (E σ) σ H Q) σ H Q:=by
  rintro pZ E σ H Q ⟨env,ρ,S,QU,EU,he,R,w,q,qx⟩;exact#[env,ρ,S,_,EU,he,R,w,λus S1 vs H1 ρ1 w1 st1 R1 r1=>#[us,ρ1,S1,QU,r1,R1,w1,q.later st1],qx]
 have sx:∀(pZ:List (Addr×Obj))(E:St->XK),bS (e::es) (X.at_ pZ E).env=(false,eval e (X.at_ pZ E).env)::bS es (X.at_ pZ E).env:=λ_ _=>cJ h1
 have sy:∀(pZ:List (Addr×Obj))(E:St->XK),(iN pos (bS es (X.at_ pZ E).env)).any (·.1)=false:=λ_ _=>fN h2
 unfold OL at hb;by_cases c1:(nm s==("len":Str))=true
 .rw[if_pos c1] at hb;injection hb with hb;subst hb
  have ef:nm s=("len":Str):=by simpa using c1
  rw[ef] at hg hn ⊢;exact up λpZ E=>(mq (X:=X.at_ pZ E) (Lh rfl) (gD G hg) hn JO (Cb (ha pZ E)) ⋯ ⋯ (sx pZ E) (sy pZ E)).imp (rd pZ E)
 rw[if_neg c1] at hb;by_cases c2:(nm s==("tuple":Str))=true
 .rw[if_pos c2] at hb;injection hb with hb;subst hb
  have ef:nm s=("tuple":Str):=by simpa using c2
  rw[ef] at hg hn ⊢;exact up λpZ E=>(rm (X:=X.at_ pZ E) (E2 rfl) (gD G hg) hn (by decide +kernel) (Cb (ha pZ E)) ⋯ ⋯ (sx pZ E) (sy pZ E)).imp (rd pZ E)
 rw[if_neg c2] at hb;by_cases c4:(nm s==("list":Str))=true
 .rw[if_pos c4] at hb;injection hb with hb;subst hb
  have ef:nm s=("list":Str):=by simpa using c4
  rw[ef] at hg hn ⊢;exact up λpZ E=>(rm (X:=X.at_ pZ E) (HJ rfl) (gD G hg) hn (by decide +kernel) (Cb (ha pZ E)) ⋯ ⋯ (sx pZ E) (sy pZ E)).imp (rd pZ E)
 rw[if_neg c4] at hb;by_cases c7:(nm s==("all":Str))=true
 .rw[if_pos c7] at hb;injection hb with hb;subst hb
  have ef:nm s=("all":Str):=by simpa using c7
  rw[ef] at hg hn ⊢;exact up λpZ E=>(mq (X:=X.at_ pZ E) (HK hcalm) (gD G hg) hn (by decide +kernel) (Cb (ha pZ E)) ⋯ ⋯ (sx pZ E) (sy pZ E)).imp (rd pZ E)
 rw[if_neg c7] at hb;by_cases c8:(nm s==("sum":Str))=true
 .rw[if_pos c8] at hb;injection hb with hb;subst hb
  have ef:nm s=("sum":Str):=by simpa using c8
  rw[ef] at hg hn ⊢;exact up λpZ E=>(mq (X:=X.at_ pZ E) (Li hcalm) (gD G hg) hn boot_sum (Cb (ha pZ E)) ⋯ ⋯ (sx pZ E) (sy pZ E)).imp (rd pZ E)
 rw[if_neg c8] at hb;by_cases c9:(nm s==("any":Str))=true
 .rw[if_pos c9] at hb;injection hb with hb;subst hb
  have ef:nm s=("any":Str):=by simpa using c9
  rw[ef] at hg hn ⊢;exact up λpZ E=>(mq (X:=X.at_ pZ E) (HL hcalm) (gD G hg) hn (by decide +kernel) (Cb (ha pZ E)) ⋯ ⋯ (sx pZ E) (sy pZ E)).imp (rd pZ E)
 rw[if_neg c9] at hb;by_cases c10:(nm s==("dict":Str))=true
 .rw[if_pos c10] at hb;injection hb with hb;subst hb
  have ef:nm s=("dict":Str):=by simpa using c10
  rw[ef] at hg hn ⊢;exact up λpZ E=>(rm (X:=X.at_ pZ E) (HM hA) (gD G hg) hn (by decide +kernel) (Cb (ha pZ E)) ⋯ ⋯ (sx pZ E) (sy pZ E)).imp (rd pZ E)
 rw[if_neg c10] at hb;cases hb
theorem E6(G:Good t T Γ k I X)(hg:I.gl ("min":Str)=true)(hg2:I.gl ("len":Str)=true)(hb:"min"∈T.fu)(hb2:"len"∈T.fu)(hc:X.calm=true)(h1:noStar a=true)(ha:∀pZ E,eI (X.at_ pZ E) a (tE (X.cc t) Γ x)):
  eI X (.Call (.Name ("min":Str) p) [a] [#[some "key",.Name ("len":Str) pl,kp]] pos) (tE (X.cc t) Γ (.blt .uG (.cons x .nil))):=by
 refine up λpZ E=>(EO (X:=X.at_ pZ E) hc (gD G hg) (G.tab.fu "min" hb) (gD G hg2) (G.tab.fu "len" hb2) (dn (ha pZ E)) (cJ h1)).imp ?_
 rintro σ H Q ⟨env,ρ,S,QU,EU,he,R,w,q,qx⟩;refine#[env,ρ,S,_,EU,he,R,w,λu S1 v H1 ρ1 w1 st1 R1 r1=>?_,qx];have w1:PL.tf .uG [u] S1 QU:=w1
 match u,w1 with
 |.loc n,w1=>
  obtain⟨t0,ts,e,hz,w2⟩:=w1;obtain⟨a,vs,e2,_,g1,g2⟩:=R1.lst e r1;rw[rH g2] at g1;exact#[a,t0,ts,e2,gH.of g1,hz,(q.later st1).now R1 w2 (bq.mpr rfl)]
end
open PL (U SO bJ Xn KU KX bY)
section
variable{t:wb}{T:Tab}{Γ:bY}{k n:Nat}{I:Inf}{X:Cx}
noncomputable def SW:PL.Om->String
 |.join=>"str"|.index=>"str"|.startswith=>"str"|.append=>"list"|.extend=>"list"|.mW=>"int"|_=>"dict"
theorem HR(hb:b=.join\/b=.index\/b=.append\/b=.extend\/b=.startswith)(R:cj c ρ H S)(r:Rep c ρ H u v)(w:PL.vZ b u S):Vf c.K (SW b) v H:=by
 rcases hb with rfl|rfl|rfl|rfl|rfl
 .cases u<;>first|exact aJ w| (rw[bq.mp r];rfl)
 .cases u<;>first|exact aJ w| (rw[bq.mp r];rfl)
 .cases u<;>first|exact aJ w|skip
  obtain⟨us,e,_⟩:=PL.cF.mp (show PL.getL _ _ from w);obtain⟨a,vs,ev,_,h1,_⟩:=R.lst e r;rw[ev]
  exact .inl #[rfl,vs,gH.of h1]
 .cases u<;>first|exact aJ w|skip
  obtain⟨us,e,_⟩:=PL.cF.mp (show PL.getL _ _ from w);obtain⟨a,vs,ev,_,h1,_⟩:=R.lst e r;rw[ev]
  exact .inl #[rfl,vs,gH.of h1]
 .cases u<;>first|exact aJ w| (rw[bq.mp r];rfl)
theorem rK(h:es.all noStar=true)(hn:es.length<20):((iN cpos (bS es env)).all (λx=>!x.1)&&(backToKw cpos (kO [] env)).all (λx=>x.1.isSome)
   && decide (es.length+([]:List se).length+(if ([]:List se).isEmpty then 0 else 1)<30))=true:=by
 have:=xA (pos:=cpos) (env:=env) h hn;unfold Bt at this;exact this
theorem Pc(G:Good t T Γ k I X)(hb:OM m=some b)(hA:X.A.handled=none)(h0:iB o=true)(hl:(apos.endLine==cpos.line)=true)(hn:(e::es).length<20)(h1:noStar e=true)(h2:es.all noStar=true)
  (ho:∀pZ E,eI (X.at_ pZ E) o (tE (X.cc t) Γ x)) (ha:∀pZ E,Aw (X.at_ pZ E) (e::es) (EY (X.cc t) Γ xs)):eI X (.Call (.Attribute o m apos) (e::es) [] cpos) (tE (X.cc t) Γ (.kW b x xs)):=by
 have hst:(e::es).all noStar=true:=by rw[bj,h1,h2];rfl
 have rd:∀(hb':b=.join\/b=.index\/b=.append\/b=.extend\/b=.startswith)(E:St->XK)(σ:St)(H:Hp)(Q:VK),tE (X.cc t) Γ (.kW b x xs) (E σ) σ H Q->XI X.K (SW b) (uX (X.cc t) b) (λσ H Q=>tE (X.cc t) Γ x (E σ) σ H Q) (λσ H Q=>EY (X.cc t) Γ xs (E σ) σ H Q) σ H Q:=by
  rintro hb' E σ H Q ⟨env,ρ,S,QU,EU,he,R,w,q,qx⟩;refine#[env,ρ,S,_,EU,he,R,w,λu S1 v H1 ρ1 w1 st1 R1 r1=>#[HR (c:=X.cc t) hb' R1 r1 w1.1,?_],qx];exact#[env,ρ1,S1,_,EU,he.later R st1,R1,w1.2,λus S2 vs H2 ρ2 w2 st2 R2 r2=>#[u,us,ρ2,S2,QU,r1.mono R1 st2,r2,R2,w2,q.later (st1.trans st2)],qx.later st1]
 unfold OM at hb;by_cases c1:(m==("join":Str))=true
 .rw[if_pos c1] at hb;injection hb with hb;subst hb
  have ef:m=("join":Str):=by simpa using c1
  subst ef;exact up λpZ E=>(z9 (X:=X.at_ pZ E) mQ PySem.F.slot_str_join PySem.F.type_str_join (HN rfl) (dn (ho pZ E)) (Cb (ha pZ E)) (iq h0) (rK hst hn) hl (cJ h1) (fN h2)).imp (rd (by simp) E)
 rw[if_neg c1] at hb;by_cases c2:(m==("index":Str))=true
 .rw[if_pos c2] at hb;injection hb with hb;subst hb
  have ef:m=("index":Str):=by simpa using c2
  subst ef;exact up λpZ E=>(z9 (X:=X.at_ pZ E) mQ PySem.F.slot_str_index PySem.F.type_str_index (E3 hA) (dn (ho pZ E)) (Cb (ha pZ E)) (iq h0) (rK hst hn) hl (cJ h1) (fN h2)).imp (rd (by simp) E)
 rw[if_neg c2] at hb;by_cases c3:(m==("append":Str))=true
 .rw[if_pos c3] at hb;injection hb with hb;subst hb
  have ef:m=("append":Str):=by simpa using c3
  subst ef;exact up λpZ E=>(z9 (X:=X.at_ pZ E) wF PySem.F.slot_list_append PySem.F.type_list_append Cg (dn (ho pZ E)) (Cb (ha pZ E)) (iq h0) (rK hst hn) hl (cJ h1) (fN h2)).imp (rd (by simp) E)
 rw[if_neg c3] at hb;by_cases c4:(m==("extend":Str))=true
 .rw[if_pos c4] at hb;injection hb with hb;subst hb
  have ef:m=("extend":Str):=by simpa using c4
  subst ef;exact up λpZ E=>(z9 (X:=X.at_ pZ E) wF PySem.F.slot_list_extend PySem.F.type_list_extend Ci (dn (ho pZ E)) (Cb (ha pZ E)) (iq h0) (rK hst hn) hl (cJ h1) (fN h2)).imp (rd (by simp) E)
 rw[if_neg c4] at hb;by_cases c5:(m==("startswith":Str))=true
 .rw[if_pos c5] at hb;injection hb with hb;subst hb
  have ef:m=("startswith":Str):=by simpa using c5
  subst ef;exact up λpZ E=>(z9 (X:=X.at_ pZ E) mQ PySem.F.slot_str_startswith PySem.F.type_str_startswith Cf (dn (ho pZ E)) (Cb (ha pZ E)) (iq h0) (rK hst hn) hl (cJ h1) (fN h2)).imp (rd (by simp) E)
 rw[if_neg c5] at hb;cases hb
theorem Lo(G:Good t T Γ k I X)(h0:iB o=true)(hl:(apos.endLine==cpos.line)=true)(ho:∀pZ E,eI (X.at_ pZ E) o (tE (X.cc t) Γ x)):
  eI X (.Call (.Attribute o ("bit_length":Str) apos) [] [] cpos) (tE (X.cc t) Γ (.kW .mW x .nil)):=by
 refine up λpZ E=>(N7 (X:=X.at_ pZ E) PySem.F.plainAttrs_int PySem.F.slot_int_bit_length PySem.F.type_int_bit_length (Ce (c:=X.cc t)) (dn (ho pZ E)) (iq h0) hl).imp ?_
 rintro σ H Q ⟨env,ρ,S,QU,EU,he,R,w,q,qx⟩;refine#[env,ρ,S,_,EU,he,R,w,λu S1 v H1 ρ1 w1 st1 R1 r1=>#[?_,u,[],ρ1,S1,QU,r1,aU.nil,R1,w1.2,q.later st1],qx];cases u<;>first|exact aJ w1.1| (rw[aN.mp r1];rfl)
theorem Pd(G:Good t T Γ k I X)(h0:iB o=true)(hl:(apos.endLine==cpos.line)=true)(h1:noStar a=true)(h2:noStar d=true)(ho:∀pZ E,eI (X.at_ pZ E) o (tE (X.cc t) Γ x))
  (ha:∀pZ E,eI (X.at_ pZ E) a (tE (X.cc t) Γ y)) (hd:∀pZ E,eI (X.at_ pZ E) d (tE (X.cc t) Γ z)):eI X (.Call (.Attribute o ("get":Str) apos) [a,d] [] cpos) (tE (X.cc t) Γ (.kW .get x (.cons y (.cons z .nil)))):=by
 have hst:[a,d].all noStar=true:=by rw[bj,bj,h1,h2];rfl
 refine up λpZ E=>(GL (X:=X.at_ pZ E) (by have:=G.units;show X.A.units+1<kg;omega) (dn (ho pZ E)) (dn (ha pZ E)) (dn (hd pZ E)) #[iq h0,rK hst (show 2<20 by decide),hl,by
  rw[cJ (e:=a) (es:=[d]) h1,cJ (e:=d) (es:=[]) h2];rfl]).imp ?_
 rintro σ H Q ⟨env,ρ,S,QU,EU,he,R,w,q,qx⟩;refine#[env,ρ,S,_,EU,he,R,w,λu S1 v H1 ρ1 w1 st1 R1 r1=>?_,qx];obtain⟨w1,w2⟩:=w1;cases u<;>first|exact aJ w1|skip
 rename_i n;obtain⟨kvs,e,_⟩:=PL.Ak.mp (show PL.getD _ _ from w1);obtain⟨a1,e1,ha1⟩:=iU.mp r1;obtain⟨vs,g1,g2,g3,g4⟩:=R1.at_ n a1 _ ha1 e;refine#[a1,e1,.inl #[vs,.inl g1],env,ρ1,S1,_,EU,he.later R st1,R1,w2,λu2 S2 v2 H2 ρ2 w3 st2 R2 r2=>?_,qx.later st1];refine#[env,ρ2,S2,_,EU,(he.later R st1).later R1 st2,R2,w3,λu3 S3 v3 H3 ρ3 w4 st3 R3 r3=>?_,(qx.later st1).later st2];have r2':=r2.mono R2 st3;cases u2<;>first|exact aJ w4|skip
 rename_i k;obtain⟨kvs',e',ps,ep,w5⟩:=PL.Ak.mp (show PL.getD _ _ from w4);obtain⟨vs',f1,f2,f3,f4⟩:=R3.at_ n a1 _ (st3.get (st2.get ha1)) e';subst ep;have g:=GK.k (k:=fw (tx k)) f1;rw[bq.mp r2']
 rcases Lj (k:=k) f2 f3 f4 with⟨l1,l2⟩|⟨u',v',l1,l2,l3⟩
 .rw[l2] at g
  rw[l1] at w5;exact#[none,g,(q.later ((st1.trans st2).trans st3)).now R3 w5 r3]
 .rw[l2] at g
  rw[l1] at w5;exact#[some v',g,(q.later ((st1.trans st2).trans st3)).now R3 w5 l3]
theorem Lp(G:Good t T Γ k I X)(hg:I.gl (nm q)=true)(hc:I.calm=true)(hq:q∈T.fns)(hd:(nm q==("__debug__":Str))=false)(h1:noStar e=true)(h2:es.all noStar=true)
  (ha:Aw X (e::es) (EY (X.cc t) Γ xs)):eI X (.Call (.Name (nm q) p) (e::es) [] pos) (tE (X.cc t) Γ (.call q xs)):=by
 obtain⟨f,hm,hk,fd,ps,F,B⟩:=G.JA.fns q hq;refine(Xa (k:=k) F ((G.calm hc).2.mono (gV k)) (gD G hg) hm hk B ha hd h1 h2).imp ?_;rintro E σ H Q ⟨env,ρ,S,QU,EU,he,R,w,qq,qx⟩;refine#[env,ρ,S,_,EU,he,R,w,λus S1 vs H1 ρ1 w1 st1 R1 r1=>?_,qx];exact#[us,ρ1,S1,QU,EU,r1,R1,w1,qq.later st1,qx.later st1]
theorem HS(G:Good t T Γ k I X)(hg:I.gl (nm q)=true)(hc:I.calm=true)(hq:q∈T.fns)(hd:(nm q==("__debug__":Str))=false):eI X (.Call (.Name (nm q) p) [] [] pos) (tE (X.cc t) Γ (.call q .nil)):=by
 obtain⟨f,hm,hk,fd,ps,F,B⟩:=G.JA.fns q hq;refine(SM (k:=k) F ((G.calm hc).2.mono (gV k)) (gD G hg) hm hk B hd).imp ?_;rintro E σ H Q ⟨env,ρ,S,QU,EU,he,R,w,qq,qx⟩;exact#[[],ρ,S,QU,EU,aU.nil,R,w,qq,qx]
theorem AA(R:cj c ρ H S)(hc:c.cls cn=some C)(hx:H x=none)(hd:H dx=none)(ne:dx≠x):
  ig ρ H (ρ++[x]) (upd (upd H dx (.own x)) x (.ins C dx []))/\cj c (ρ++[x]) (upd (upd H dx (.own x)) x (.ins C dx [])) (S++[.ins cn []])/\Rep c (ρ++[x]) (upd (upd H dx (.own x)) x (.ins C dx [])) (.loc S.length) (.ref x):=by
 have R1:=R.lay hd (.own x);have s1:=ig.lay R hd (.own x);have hx1:upd H dx (.own x) x=none:=by rw[bw (dM ne)];exact hx
 have s2:=ig.alloc R1 hx1 (.ins C dx []);refine#[s1.trans s2,R1.alloc hx1 #[C,dx,[],hc,bF,rfl,aU.nil],iU.mpr #[x,rfl,?_]];rw[<-R.len,ay (ax _),cq];rfl
theorem SX(G:Good t T Γ k I X)(hg:I.gl (nm q)=true)(hc:I.calm=true)(hq:q∈T.qb)(hd:(nm q==("__debug__":Str))=false)(h1:noStar e=true)(h2:es.all noStar=true)
  (ha:Aw X (e::es) (EY (X.cc t) Γ xs)):eI X (.Call (.Name (nm q) p) (e::es) [] pos) (tE (X.cc t) Γ (.mk q (q++".__init__") xs)):=by
 obtain⟨C,f,hC,hm,M,fd,ps,F,B⟩:=G.JA.cls q hq;refine(Xc (k:=k) M F (G.calm hc).2 (gD G hg) hm B ha hd h1 h2).imp ?_;rintro E σ H Q ⟨env,ρ,S,QU,EU,he,R,w,qq,qx⟩;refine#[env,ρ,S,_,EU,he,R,w,λus S1 vs H1 ρ1 w1 st1 R1 r1=>?_,qx];intro x dx hx hdx ne;obtain⟨s2,R2,r2⟩:=AA R1 hC hx hdx ne;refine#[_,ρ1++[x],_,_,EU,aU.cons r2 (r1.mono R1 s2),R2,w1,λu S3 v H3 ρ3 w3 st3 R3 r3=>?_,qx.later (st1.trans s2)];obtain⟨rfl,w4⟩:=w3;exact#[eh.mp r3,qq _ _ _ _ _ w4 ((st1.trans s2).trans st3) R3 (r2.mono R2 st3)]
theorem Pe(G:Good t T Γ k I X)(hg:I.gl (nm q)=true)(hc:I.calm=true)(hq:q∈T.qb)(hd:(nm q==("__debug__":Str))=false):eI X (.Call (.Name (nm q) p) [] [] pos) (tE (X.cc t) Γ (.mk q (q++".__init__") .nil)):=by
 obtain⟨C,f,hC,hm,M,fd,ps,F,B⟩:=G.JA.cls q hq;refine(SQ (k:=k) M F (G.calm hc).2 (gD G hg) hm B hd).imp ?_;rintro E σ H Q ⟨env,ρ,S,QU,EU,he,R,w,qq,qx⟩;intro x dx hx hdx ne;obtain⟨s2,R2,r2⟩:=AA R hC hx hdx ne;refine#[_,ρ++[x],_,_,EU,aU.cons r2 aU.nil,R2,w,λu S3 v H3 ρ3 w3 st3 R3 r3=>?_,qx.later s2];obtain⟨rfl,w4⟩:=w3;exact#[eh.mp r3,qq _ _ _ _ _ w4 (s2.trans st3) R3 (r2.mono R2 st3)]
theorem lookup_none:∀{fs:List (String×U)}{vs:List (Str×V)}{m:String},vs.map (·.1)=(fs.map (·.1)).map nm->fs.lookup m=none->vs.lookup (nm m)=none
 |[],[],_,_,_=>rfl
 |[],_::_,_,e,_=>by simp at e
 |_::_,[],_,e,_=>by simp at e
 | (g,w)::fs,(a,v)::vs,m,e,h=>by
  simp only[aD,dX] at e;rw[ba] at h ⊢;by_cases z:m=g
  .subst z;simp at h
  .have z1:(m==g)=false:=by simp[z]
   rw[z1] at h;have z2:(nm m==a)=false:=by
    rw[e.1]
    simp only[beq_eq_false_iff_ne,ne_eq];exact λq=>z (rJ _ _ q)
   rw[z2]
   exact lookup_none e.2 h
theorem Lq(G:Good t T Γ k I X)(hc:I.calm=true)(hq:(m,q)∈T.qc)(h0:iB o=true)(hl:(apos.endLine==pos.line)=true)(hn:(e::es).length<20)(h1:noStar e=true)(h2:es.all noStar=true)
  (ho:eI X o (tE (X.cc t) Γ x)) (ha:Aw X (e::es) (EY (X.cc t) Γ xs)):eI X (.Call (.Attribute o (nm m) apos) (e::es) [] pos) (tE (X.cc t) Γ (.cu q m (q++"."++m) x xs)):=by
 obtain⟨C,f,hC,M,fd,ps,F,B⟩:=G.JA.QY (m,q) hq;refine(Xb (k:=k) ho (G.tab.cls q C hC).1 M F ((G.calm hc).2.mono (gV k)) B ha h0 hn hl h1 h2).imp ?_;rintro E σ H Q ⟨env,ρ,S,QU,EU,he,R,w,qq,qx⟩;refine#[env,ρ,S,_,EU,he,R,w,λu S1 v H1 ρ1 w1 st1 R1 r1=>?_,qx];obtain⟨l,e1,w2⟩:=PL.k8.mp w1;subst e1;obtain⟨c',fs,e2,⟨rfl,e3⟩,w3⟩:=PL.mB.mp w2;obtain⟨a,C',dx,vs,ev,_,hC',ha',hnn,_⟩:=R1.ins e2 r1;rw[hC] at hC';injection hC' with hC';subst hC'
 refine#[a,dx,vs,ev,ha',lookup_none hnn e3,?_];refine#[env,ρ1,S1,_,EU,he.later R st1,R1,w3,λus S2 vs2 H2 ρ2 w4 st2 R2 r2=>?_,qx.later st1];exact#[_,ρ2,S2,QU,EU,aU.cons (r1.mono R1 st2) r2,R2,w4,qq.later (st1.trans st2),qx.later (st1.trans st2)]
theorem HU(G:Good t T Γ k I X)(hc:I.calm=true)(hq:(m,q)∈T.qc)(h0:iB o=true)(hl:(apos.endLine==pos.line)=true)
  (ho:eI X o (tE (X.cc t) Γ x)):eI X (.Call (.Attribute o (nm m) apos) [] [] pos) (tE (X.cc t) Γ (.cu q m (q++"."++m) x .nil)):=by
 obtain⟨C,f,hC,M,fd,ps,F,B⟩:=G.JA.QY (m,q) hq;refine(SN (k:=k) ho (G.tab.cls q C hC).1 M F ((G.calm hc).2.mono (gV k)) B h0 hl).imp ?_;rintro E σ H Q ⟨env,ρ,S,QU,EU,he,R,w,qq,qx⟩;refine#[env,ρ,S,_,EU,he,R,w,λu S1 v H1 ρ1 w1 st1 R1 r1=>?_,qx];obtain⟨l,e1,w2⟩:=PL.k8.mp w1;subst e1;obtain⟨c',fs,e2,⟨rfl,e3⟩,w3⟩:=PL.mB.mp w2;obtain⟨a,C',dx,vs,ev,_,hC',ha',hnn,_⟩:=R1.ins e2 r1;rw[hC] at hC';injection hC' with hC';subst hC'
 refine#[a,dx,vs,ev,ha',lookup_none hnn e3,?_];exact#[_,ρ1,S1,QU,EU,aU.cons r1 aU.nil,R1,w3,qq.later st1,qx.later st1]
end
open PL (U SO bJ Xn KU KX bY)
section
variable{t:wb}{T:Tab}{Γ:bY}{k n:Nat}{I:Inf}{X:Cx}
noncomputable def MU(c:Ctx):PL.Ty->Option (V×Value)
 |.int=>some (.ty "int",.type "int")|.bool=>some (.ty "bool",.type "bool")|.str=>some (.ty "str",.type "str")|.list=>some (.ty "list",.type "list")
 |.tuple=>some (.ty "tuple",.type "tuple")|.dict=>some (.ty "dict",.type "dict")|.KC=>some (.ty "ValueError",.type "ValueError")
 |.own x=>(c.exc x).map λC=>(.ref C,.ref C)
theorem Ck{c:Ctx}{tv:Value}{q p:V×Value}{x b:Bool}(hp:some q=some p)(h:some x=some b)(e:rg c.K tv q.2=some x):rg c.K tv p.2=some b:=by cases hp;cases h;exact e
theorem Pf(Tb:Ay c T)(R:cj c ρ H S)(r:Rep c ρ H u v)(h:PL.KJ S u ty=some b)(hp:MU c ty=some p):∃tv,Vg c.K H v tv/\rg c.K tv p.2=some b:=by
 cases u with
 |bK=>rw[eh.mp r];refine#[_,.of .bK,?_];cases ty<;>first|exact nn h|exact Ck hp h rfl
 |bl x=>rw[dA.mp r];refine#[_,.of (.bl x),?_];cases ty<;>first|exact nn h|exact Ck hp h rfl
 |int x=>rw[aN.mp r];refine#[_,.of (.int x),?_];cases ty<;>first|exact nn h|exact Ck hp h rfl
 |str x=>rw[bq.mp r];refine#[_,.of (.str _),?_];cases ty<;>first|exact nn h|exact Ck hp h rfl
 |tup us=>
  obtain⟨a,vs,e,h1,h2⟩:=dB.mp r;rw[e];refine#[_,.of (.tup h1),?_];cases ty<;>first|exact nn h|exact Ck hp h rfl
 |loc m=>
  change PL.Dl S[m]? ty=some b at h
  cases q:S[m]? with
  |none=>rw[q] at h;exact nn h
  |some o=>
   rw[q] at h;cases o with
   |lst us=>
    obtain⟨a,vs,e,_,h1,h2⟩:=R.lst q r;rw[e];refine#[_,.of (.lst h1),?_];cases ty<;>first|exact nn h|exact Ck hp h rfl
   |vJ kvs=>
    obtain⟨a,e,ha⟩:=iU.mp r;obtain⟨vs,h1,_⟩:=R.at_ m a _ ha q;rw[e];refine#[_,.of (.dK h1),?_];cases ty<;>first|exact nn h|exact Ck hp h rfl
   |ins x fs=>exact nn h
 |pF ns=>exact nn h
 |tab kvs=>exact nn h
 |exc x us=>
  unfold Rep at r;obtain⟨a,d,C,fs,e,hC,ha,hd,_,_⟩:=r;obtain⟨_,xi,_,_⟩:=Tb.exc x C hC;rw[e]
  refine#[_,.exc ha hd xi,?_];cases ty<;>first|exact nn h|skip
  .cases h;cases hp;exact Tb.W7 x C hC
  .rename_i y
   cases h;obtain⟨D,hD,e9⟩:=ag.mp hp;cases e9;have:=Tb.QW x C y D hC hD;simpa using this
theorem u6{x:Str}{n:String}{pos:Pos}(G:Good t T Γ k I X)(g:I.gl x=true)(c:(x==(n:Str)&&T.fu.contains n)=true)(hv:jG (n:Str)=some (.type n))(hn:(n:Str)≠"__name__")(hd:((n:Str)== ("__debug__":Str))=false):∀pZ E,PE (X.at_ pZ E) (.Name x pos) (tC (.ty n)):=by
 rw[af] at c;obtain rfl:x=(n:Str):=eq_of_beq c.1;exact λpZ E=>JU (X:=X.at_ pZ E) (gD G g) (G.tab.fu n (by simpa using c.2)) hv rfl hn hd
theorem Pg(G:Good t T Γ k I X)(hh:WM T I e=some ty):∃p,MU (X.cc t) ty=some p/\XQ p.1 p.2/\noStar e=true/\∀pZ E,PE (X.at_ pZ E) e (tC p.1):=by
 obtain⟨x,h0,h⟩:=ao.mp hh;obtain⟨pos,rfl⟩:=Av h0;by_cases g:(I.gl x&&x !=("__debug__":Str))=true
 case neg=>rw[if_neg g] at h;exact nn h
 rw[if_pos g] at h;rw[af] at g;by_cases c:(x==("int":Str)&&T.fu.contains "int")=true
 .rw[if_pos c] at h;obtain rfl:=aG h
  exact#[_,rfl,rfl,rfl,u6 G g.1 c (by decide +kernel) ⋯ ⋯]
 rw[if_neg c] at h;clear c;by_cases c:(x==("bool":Str)&&T.fu.contains "bool")=true
 .rw[if_pos c] at h;obtain rfl:=aG h
  exact#[_,rfl,rfl,rfl,u6 G g.1 c (by decide +kernel) ⋯ ⋯]
 rw[if_neg c] at h;clear c;by_cases c:(x==("str":Str)&&T.fu.contains "str")=true
 .rw[if_pos c] at h;obtain rfl:=aG h
  exact#[_,rfl,rfl,rfl,u6 G g.1 c (by decide +kernel) ⋯ ⋯]
 rw[if_neg c] at h;clear c;by_cases c:(x==("list":Str)&&T.fu.contains "list")=true
 .rw[if_pos c] at h;obtain rfl:=aG h
  exact#[_,rfl,rfl,rfl,u6 G g.1 c (by decide +kernel) ⋯ ⋯]
 rw[if_neg c] at h;clear c;by_cases c:(x==("tuple":Str)&&T.fu.contains "tuple")=true
 .rw[if_pos c] at h;obtain rfl:=aG h
  exact#[_,rfl,rfl,rfl,u6 G g.1 c (by decide +kernel) ⋯ ⋯]
 rw[if_neg c] at h;clear c;by_cases c:(x==("dict":Str)&&T.fu.contains "dict")=true
 .rw[if_pos c] at h;obtain rfl:=aG h
  exact#[_,rfl,rfl,rfl,u6 G g.1 c (by decide +kernel) ⋯ ⋯]
 rw[if_neg c] at h;clear c;by_cases c:(x==("ValueError":Str)&&T.fu.contains "ValueError")=true
 .rw[if_pos c] at h;obtain rfl:=aG h
  exact#[_,rfl,rfl,rfl,u6 G g.1 c (by decide +kernel) ⋯ ⋯]
 rw[if_neg c] at h;clear c;obtain⟨s,h1,h2⟩:=ag.mp h;subst h2;obtain⟨hm,rfl⟩:=ij h1;obtain⟨C,hC,hmg⟩:=G.tab.Vw s hm;exact#[(.ref C,.ref C),congrArg (Option.map λC=>(V.ref C,aS C)) hC,rfl,rfl,λpZ E=>yB (X:=X.at_ pZ E) (gD G g.1) hmg rfl (by simpa using g.2)]
theorem Ph(G:Good t T Γ k I X)(hg:I.gl ("isinstance":Str)=true)(hb:"isinstance"∈T.fu)(h1:noStar a=true)(hc:WM T I c=some ty)(ha:∀pZ E,eI (X.at_ pZ E) a (tE (X.cc t) Γ x)):
  eI X (.Call (.Name ("isinstance":Str) p) [a,c] [] pos) (tE (X.cc t) Γ (.Jw x [ty])):=by
 obtain⟨pv,e1,rv,h2,hp⟩:=Pg G hc;refine up λpZ E=>(mq (X:=X.at_ pZ E) G8 (gD G hg) (G.tab.fu "isinstance" hb) boot_isinstance (k6 (dn (ha pZ E)) (k6 (hp pZ E) rk (cJ h2)) (cJ h1)) ⋯ ⋯ (cJ h1) (fN (by simp[h2]))).imp ?_
 rintro σ H Q ⟨env,ρ,S,QU,EU,he,R,w,q,qx⟩;refine#[env,ρ,S,_,EU,he,R,w,λu S1 v H1 ρ1 w1 st1 R1 r1=>?_,qx];obtain⟨b,e2,w2⟩:=PL.gI.mp w1;simp only[PL.ou] at e2;cases e3:PL.KJ S1 u ty with
 |none=>rw[e3] at e2;exact nn e2
 |some b'=>
  rw[e3] at e2;simp at e2;subst e2;obtain⟨tv,h3,h4⟩:=Pf G.tab R1 r1 e3 e1;exact#[v,pv.1,tv,pv.2,b',rfl,h3,rv,h4,(q.later st1).now R1 w2 (dA.mpr rfl)]
theorem Lr(G:Good t T Γ k I X):∀{ts:List Expr}{l:List String},KZ T I ts=some l->∃cs:List Addr,Paired (λs C=>t.exc s=some C) l cs/\ts.all noStar=true/\∀pZ E,PA (X.at_ pZ E) ts (λ_ H Q=>Q (cs.map V.ref) H):=by
 intro ts;induction ts with
 |nil=>intro l h;obtain rfl:=aG h;exact#[[],.nil,rfl,λpZ E=>rk]
 |cons e ts ih=>
  intro l hh;obtain⟨x,h0,h⟩:=ao.mp hh;obtain⟨pos,rfl⟩:=Av h0;by_cases g:(I.gl x&&x !=("__debug__":Str))=true
  case neg=>rw[if_neg g] at h;exact nn h
  rw[if_pos g] at h;rw[af] at g;obtain⟨s,h1,hb⟩:=ao.mp h;obtain⟨r,h2,hc⟩:=ao.mp hb;obtain rfl:=aG hc;obtain⟨hm,rfl⟩:=ij h1;obtain⟨C,hC,hmg⟩:=G.tab.Vw s hm;obtain⟨cs,q1,q2,q3⟩:=ih h2;exact#[C::cs,.cons hC q1,by rw[bj,q2];rfl,λpZ E=>k6 (X:=X.at_ pZ E) (yB (x:=nm s) (v:=.ref C) (pos:=pos) (gD G g.1) hmg rfl (by simpa using g.2)) (q3 pZ E) (cJ rfl)]
theorem Dy(Tb:Ay c T)(hC:c.exc x=some C):∀{l:List String}{cs:List Addr}{b:Bool},Paired (λs C=>c.exc s=some C) l cs->PL.ou S (.exc x us) (l.map .own)=some b->kitAny c.K (.ref C) (cs.map aS)=some b
 |_,_,b,.nil,h=>by simp[PL.ou] at h;subst h;rfl
 |s::l,D::cs,b,.cons h1 r,h=>by
  rw[aD] at h ⊢
  change (match some ((PL.mC x).contains s),PL.ou S (.exc x us) (l.map .own) with|some a,some b=>some (a||b)|_,_=>none)=some b at h
  cases q:PL.ou S (.exc x us) (l.map .own) with
  |none=>rw[q] at h;exact nn h
  |some b'=>
   rw[q] at h;have ih:=Dy Tb hC r q;simp at h;subst h;have e:=Tb.QW x C s D hC h1;unfold kitAny;rw[e]
   cases z:(PL.mC x).contains s with
   |true=>simp at z;simp[z]
   |false=>simp at z;simp[z];exact ih
theorem Ls(G:Good t T Γ k I X)(hg:I.gl ("isinstance":Str)=true)(hb:"isinstance"∈T.fu)(h1:noStar a=true)(hc:KZ T I ts=some l)(hl:0<l.length)(hl2:l.length<=100)(ha:∀pZ E,eI (X.at_ pZ E) a (tE (X.cc t) Γ x)):
  eI X (.Call (.Name ("isinstance":Str) p) [a,.Tuple ts j tp] [] pos) (tE (X.cc t) Γ (.Jw x (l.map .own))):=by
 obtain⟨cs,pr,h2,hp⟩:=Lr G hc;refine up λpZ E=>(mq (X:=X.at_ pZ E) EK (gD G hg) (G.tab.fu "isinstance" hb) boot_isinstance (k6 (dn (ha pZ E)) (k6 (Gu (hp pZ E)) rk (cJ rfl)) (cJ h1)) ⋯ ⋯ (cJ h1) (fN rfl)).imp ?_
 rintro σ H Q ⟨env,ρ,S,QU,EU,he,R,w,q,qx⟩;refine#[env,ρ,S,_,EU,he,R,w,λu S1 v H1 ρ1 w1 st1 R1 r1=>?_,qx];obtain⟨b,e2,w2⟩:=PL.gI.mp w1;have hlen:cs.length=l.length:=(Paired.length pr).symm;refine#[by rw[ar,hlen];exact aT hl2 ⋯,λpt hpt=>?_];have st2:=ig.lay R1 hpt (.tup (cs.map V.ref));have R2:=R1.lay hpt (.tup (cs.map V.ref));have r2:=r1.mono R1 st2;obtain⟨s0,l',rfl⟩:∃s0 l',l=s0::l':=by cases l with|nil=>simp at hl|cons a b=>exact#[a,b,rfl]
 have QW:∃cx us,u=.exc cx us:=by
  rw[aD] at e2;cases u<;>first|exact#[_,_,rfl]|exact nn e2|skip
  rename_i m
  change (match PL.Dl S1[m]? (.own s0),PL.ou S1 (.loc m) (l'.map .own) with|some a,some b=>some (a||b)|_,_=>none)=_ at e2
  cases q:S1[m]? with
  |none=>rw[q] at e2;exact nn e2
  |some o=>rw[q] at e2;cases o<;>exact nn e2
 obtain⟨cx,us,rfl⟩:=QW;unfold Rep at r2;obtain⟨ad,d,C,fs,ev,hC,had,hd,_,_⟩:=r2;obtain⟨_,xi,_,_⟩:=G.tab.exc cx C hC;exact#[ad,C,d,fs,pt,cs,b,by rw[ev],had,hd,xi,bF,Dy G.tab hC pr e2,(q.later (st1.trans st2)).now R2 w2 (dA.mpr rfl)]
end
open PL (U SO bJ Xn KU KX bY)
theorem Pj(hl:PE X l tl):PI X tg l (λσ H R=>tl σ H λx H1=>(∃a,x=.ref a/\(∃xs,gH X.K H1 a xs)/\R (VV X.K a) H1)\/(∃a,x=.ref a/\(∃xs,lU X.K H1 a xs)/\R (VW X.K a) H1)\/∃z,x=.str z/\R (Sa z) H1):=by
 intro pZ s σ H R I h;refine fj (hl pZ s σ H _ I h) λv s1 h9=>?_
 obtain⟨x,H1,I1,r1,q1⟩:=h9;rcases q1 with⟨a,e,⟨xs,hq⟩,q⟩|⟨a,e,⟨xs,hq⟩,q⟩|⟨z,e,q⟩
 .subst e
  cases r1;obtain⟨its,rv,p,hz⟩:=I1.list hq;refine n6 p.isList ?_;refine#[s1.heap.objs.size,[s1.heap.objs.size],_,_,H1,rfl,I1.kept (t':=s1.toks) λb o e=>aA _ e,Es a _,#[_,bz _ rfl,rfl,rfl],λb hb=>?_,q];have e:b=s1.heap.objs.size:=by simpa using hb
  subst e;exact I1.Er (ax _) (I1.dg.fresh (ax _))
 .subst e
  cases r1;obtain⟨its,rv,p,hz⟩:=I1.tuple hq;refine wpAny_pyIter_tuple (show s1.heap.IsTuple a its.toArray from p) ?_;refine#[s1.heap.objs.size,[s1.heap.objs.size],_,_,H1,rfl,I1.kept (t':=s1.toks) λb o e=>aA _ e,BC a _,#[_,bz _ rfl,rfl,rfl],λb hb=>?_,q];have e:b=s1.heap.objs.size:=by simpa using hb
  subst e;exact I1.Er (ax _) (I1.dg.fresh (ax _))
 .subst e
  obtain⟨t,rfl⟩:=r1;have fin:∀(b:Bool)(o:Obj),o={cls:=.type (if b then "str_ascii_iterator" else "str_iterator"),data:=.fields (List.toArray [.str z t,.int 0 0])}->VU X pZ σ tg R (.ref s1.heap.objs.size) {s1 with heap:=s1.heap.push o}:=λb o eo=>by
   refine#[s1.heap.objs.size,[s1.heap.objs.size],_,Sa z,H1,rfl,I1.kept (t':=s1.toks) λb o e=>aA _ e,GZ _ z t b,#[_,bz _ (by rw[eo];rfl),by rw[eo],by rw[eo];rfl],λc hc=>?_,q];have e:c=s1.heap.objs.size:=by simpa using hc
   subst e;exact I1.Er (ax _) (I1.dg.fresh (ax _))
  cases ha:z.cps.all (·<128)
  .exact wpAny_pyIter_wide ha (fin false _ rfl)
  .exact wpAny_pyIter_ascii ha (fin true _ rfl)
section
variable{c:Ctx}{ρ:List Addr}{H:Hp}{S:bJ}
theorem Lu{n:Nat}{us:List U}{a:Addr}(ha:ρ[n]?=some a):E4 c ρ H (VV c.K a) us (λS'=>S'[n]?=some (.lst us)):=by
 intro i ρ2 H2 S2 st R g;obtain⟨vs,h1,h2⟩:=R.at_ n a _ (st.get ha) g;refine#[λu hu=>?_,λhl=>#[vs,gH.of h1,by rw[<-h2.len];exact hl]];obtain⟨v,e,r⟩:=h2.get hu;refine#[#[vs,v,gH.of h1,e],λy H3 h9=>?_];obtain⟨e3,hy⟩:=h9;subst e3;have:=hy vs (gH.of h1);rw[e] at this;injection this with this;subst this
 exact#[.refl,R,r]
theorem Pk(R0:cj c ρ H S)(h1:H a=some (.tup vs))(h2:aU c ρ H us vs):E4 c ρ H (VW c.K a) us (λ_=>True):=by
 intro i ρ2 H2 S2 st R g;have h1':=st.fr a _ h1 (R0.not h1 rfl);have h2':=h2.mono R0 st;refine#[λu hu=>?_,λhl=>#[vs,lU.of h1',by rw[<-h2'.len];exact hl]];obtain⟨v,e,r⟩:=h2'.get hu;refine#[#[vs,v,lU.of h1',e],λy H3 h9=>?_];obtain⟨e3,hy⟩:=h9;subst e3;have:=hy vs (lU.of h1');rw[e] at this;injection this with this;subst this
 exact#[.refl,R,r]
theorem Pl:E4 c ρ H (Sa (tx l)) (l.map λd=>.str [d]) (λ_=>True):=by
 intro i ρ2 H2 S2 st R g;refine#[λu hu=>?_,λhl=>?_]
 .rw[au] at hu
  obtain⟨d,e,e2⟩:=ag.mp hu;subst e2;refine#[?_,λy H3 #[e3,d',e4,e5]=>?_]
  .show i<(tx l).cps.size
   have:=(ae.mp e).1;simpa using this
  .subst e3
   have:l[i]?=some d':=by simpa using e4
   rw[e] at this;injection this with this;subst this
   rw[e5]
   exact#[.refl,R,bq.mpr rfl]
 .show(tx l).cps.size<=i
  simpa using hl
theorem Lv{n:Nat}{us:List U}{a:Addr}(ha:ρ[n]?=some a):E4 c ρ H (Vk c.K a) (us.mapIdx λi u=>.tup [.int (i:Nat),u]) (λS'=>S'[n]?=some (.lst us)):=by
 intro i ρ2 H2 S2 st R g;obtain⟨vs,h1,h2⟩:=R.at_ n a _ (st.get ha) g;refine#[λu hu=>?_,λhl=>#[vs,gH.of h1,by rw[<-h2.len];simpa using hl]];rw[jQ] at hu;obtain⟨u',e0,e1⟩:=ag.mp hu;subst e1;obtain⟨v,e,r⟩:=h2.get e0;refine#[#[vs,v,gH.of h1,e],λy H3 h9=>?_];obtain⟨p,x,hp,e3,e4,hy⟩:=h9;have:=hy vs (gH.of h1);rw[e] at this;injection this with this;subst this
 subst e3 e4;have st':=ig.lay R hp (.tup [.int (i:Nat),v]);exact#[st',R.lay hp _,dB.mpr #[p,_,rfl,bF,aU.cons (aN.mpr rfl) (aU.cons (r.mono R st') aU.nil)]]
theorem HV:E4 c ρ H (Vc 0 n) ((cy n).map λk=>.int (k:Nat)) (λ_=>True):=by
 intro i ρ2 H2 S2 st R g;refine#[λu hu=>?_,λhl=>?_]
 .rw[au] at hu
  obtain⟨d,e,e2⟩:=ag.mp hu;subst e2;have hi:=(ae.mp e).1;rw[sj] at hi;rw[Ej hi] at e;injection e with e;subst e
  refine#[hi,λy H3 h9=>?_];obtain⟨e3,e4⟩:=h9;subst e3;subst e4;exact#[.refl,R,aN.mpr (by simp)]
 .show n<=i
  simpa using hl
end
section
variable{t:wb}{T:Tab}{Γ:bY}{k n:Nat}{I:Inf}{X:Cx}
theorem Pm{e tg:Expr}{x:PL.Ex}(h:∀pZ E,eI (X.at_ pZ E) e (tE (X.cc t) Γ x))(pZ:List (Addr×Obj))(E:St->XK):PI (X.at_ pZ E) tg e (λσ H R=>zL (X.cc t) Γ (.val x) (E σ) σ H R):=by
 refine λpins' s σ H Q J z=>Pj (X:=X.at_ pZ E) (dn (h pZ E)) pins' s σ H Q J ?_
 obtain⟨env,ρ,S,RU,EU,he,R,w,q,qx⟩:=z;refine#[env,ρ,S,_,EU,he,R,w,λu S1 v H1 ρ1 w1 st1 R1 r1=>?_,qx];cases u with
 |str l=>rw[bq.mp r1];exact .inr (.inr #[_,rfl,q _ _ _ _ _ _ w1 st1 R1 Pl])
 |tup us=>
  obtain⟨a,vs,e1,h1,h2⟩:=dB.mp r1;exact .inr (.inl #[a,e1,#[vs,lU.of h1],q _ _ _ _ _ _ w1.2 st1 R1 (Pk R1 h1 h2)])
 |loc m=>
  obtain⟨us,e0,w2⟩:=PL.cF.mp (show PL.getL _ _ from w1);obtain⟨a,vs,e1,ha,h1,h2⟩:=R1.lst e0 r1;exact .inl #[a,e1,#[vs,gH.of h1],q _ _ _ _ _ _ w2 st1 R1 (Lu ha)]
 |_=>exact aJ w1
theorem HW(G:Good t T Γ k I X)(hg:I.gl ("range":Str)=true)(hb:"range"∈T.fu)(h1:noStar a=true)(h:∀pZ E,eI (X.at_ pZ E) a (tE (X.cc t) Γ x))(pZ:List (Addr×Obj))(E:St->XK):
  PI (X.at_ pZ E) tg (.Call (.Name ("range":Str) p) [a] [] pos) (λσ H R=>zL (X.cc t) Γ (.range x) (E σ) σ H R):=by
 refine λpins' s σ H Q J z=>Et (X:=X.at_ pZ E) (gD G hg) (G.tab.fu "range" hb) (k6 (dn (h pZ E)) rk (cJ h1)) (cJ h1) pins' s σ H Q J ?_
 obtain⟨env,ρ,S,RU,EU,he,R,w,q,qx⟩:=z;refine#[env,ρ,S,_,EU,he,R,w,λu S1 v H1 ρ1 w1 st1 R1 r1=>?_,qx];obtain⟨j,e,w2,w3,w4⟩:=PL.eR.mp w1;subst e;exact#[j,by rw[aN.mp r1],∅,∅,q _ _ _ _ _ _ w4 st1 R1 HV]
theorem Xd{n:Nat}{e:Expr}{x:PL.It}{es:List Expr}{ek:Nat}{tp:Pos}(IH:E5 t T Γ k n)(G:Good t T Γ k I X)(h:cN T (n+1) I e=some x)(pZ:List (Addr×Obj))(E:St->XK):PI (X.at_ pZ E) (.Tuple es ek tp) e (λσ H R=>zL (X.cc t) Γ x (E σ) σ H R):=by
 rw[WW] at h;delta stN at h;split at h
 .rename_i f a hr
  obtain⟨p,cp,rfl⟩:=MP hr;split at h
  .rename_i hc
   simp only[af] at hc;obtain⟨⟨⟨c1,c2⟩,c3⟩,c4⟩:=hc;have ef:f=("enumerate":Str):=by simpa using c1
   subst ef;obtain⟨y,h1,h2⟩:=ag.mp h;subst h2;refine λpins' s σ H Q J z=>KN (X:=X.at_ pZ E) (gD G c2) (G.tab.fu "enumerate" (by simpa using c3)) (k6 (dn (IH.fe G.at_ h1)) rk (cJ c4)) (cJ c4) pins' s σ H Q J ?_
   obtain⟨env,ρ,S,RU,EU,he,R,w,q,qx⟩:=z;refine#[env,ρ,S,_,EU,he,R,w,λu S1 v H1 ρ1 w1 st1 R1 r1=>?_,qx];obtain⟨m,e,w2⟩:=PL.k8.mp w1;subst e;obtain⟨us,e0,w3⟩:=PL.cF.mp w2;obtain⟨b,vs,e1,hb,g1,g2⟩:=R1.lst e0 r1;subst e1;exact#[b,rfl,#[vs,gH.of g1],q _ _ _ _ _ _ w3 st1 R1 (Lv hb)]
  .exact nn h
 .exact nn h
theorem Lw:∀{n:Nat}{I:Inf}{e:Expr}{x:PL.Ex},cE T n I e=some x->noStar e=true:=by
 intro n I e x h;cases n with
 |zero=>exact nn h
 |succ n=>
  cases e<;>first|rfl|exact nn h
theorem SY(IH:E5 t T Γ k n)(G:Good t T Γ k I X)(h:cI T (n+1) I e=some x)(pZ:List (Addr×Obj))(E:St->XK):PI (X.at_ pZ E) tg e (λσ H R=>zL (X.cc t) Γ x (E σ) σ H R):=by
 have gen:∀{x:PL.It},(cE T n I e).map PL.It.val=some x->PI (X.at_ pZ E) tg e (λσ H R=>zL (X.cc t) Γ x (E σ) σ H R):=λh=>by
  obtain⟨y,h1,h2⟩:=ag.mp h;subst h2;exact Pm (λpZ E=>IH.fe G.at_ h1) pZ E
 rw[WU] at h;delta stI at h;split at h
 .rename_i f a hr
  obtain⟨p,cp,rfl⟩:=MP hr;split at h
  .rename_i hf
   split at h
   .rename_i hc
    rw[af] at hc;obtain⟨y,h1,h2⟩:=ag.mp h;subst h2;have ef:f=("range":Str):=by simpa using hf
    subst ef;exact HW G hc.1 (by simpa using hc.2) (Lw h1) (λpZ E=>IH.fe G.at_ h1) pZ E
   .exact nn h
  .exact gen h
 .exact gen h
end
open PL (U SO bJ Xn KU KX bY)
section
variable{c:Ctx}{ρ ρ2:List Addr}{H H2:Hp}{S:bJ}
theorem ig.Xe(a:ig ρ H ρ2 H2)(h:H D=none):ig ρ H (ρ2++[D]) H2:=by
 obtain⟨m,e⟩:=a.pre;refine#[#[m++[D],by rw[e,bp]],λb hb nb=>?_,a.fr];rcases aE.mp hb with z|z
 .exact a.new b z nb
 .rw[fS.mp z];exact h
theorem ig.Hx(a:ig ρ H ρ2 H2)(h:H D=none)(o:HO):ig ρ H ρ2 (upd H2 D o):=
 #[a.pre,a.new,λb o' h1 h2=>by rw[bw (fB h1 h)];exact a.fr b o' h1 h2]
theorem ig.out(a:ig ρ H ρ2 H2)(h:H D=some o)(n:D∉ρ):D∉ρ2/\H2 D=some o:=by
 refine#[λz=>?_,a.fr D o h n];have:=a.new D z n;rw[h] at this;cases this
theorem HX(he:iL c ρ H env σ)(r:iL c ρ H us ys):iL c ρ H (us++PL.lg env ci) (ys++gC σ ci):=by
 have hl:=r.len;refine#[by simp[PL.lg,gC,hl],λi w e=>?_];by_cases lt:i<us.length
 .rw[aq lt] at e
  rw[aq ∅]
  exact r.at_ i w e
 .rw[ay ∅] at e
  rw[ay ∅,<-hl]
  generalize i-us.length=i at e ⊢;unfold PL.lg at e;unfold gC;rw[au] at e ⊢;cases q:ci[i]? with
  |none=>rw[q] at e;cases e
  |some j=>
   rw[q] at e;simp only[jO,pC] at e ⊢;cases z:env[j]? with
   |none=>rw[z] at e;cases e
   |some o=>
    rw[z] at e;cases o with
    |none=>cases e
    |some w'=>
     simp at e;subst e;obtain⟨v,e1,r1⟩:=he.at_ j w' z;exact#[v,by rw[e1];rfl,r1]
theorem Ta(r:Rep c ρ H u y):iL c ρ H [some u] [some y]:=
 #[rfl,λi w e=>by cases i<;>simp at e;subst e;exact#[y,rfl,r]]
theorem Tc(r:Rep c ρ H u y)(r':Rep c ρ H u' y'):iL c ρ H [some u,some u'] [some y,some y']:=
 #[rfl,λi w e=>by
  match i with
  |0=>simp at e;subst e;exact#[y,rfl,r]
  |1=>simp at e;subst e;exact#[y',rfl,r']
  |i+2=>simp at e]
end
section
variable{t:wb}{T:Tab}{Γ:bY}{k n:Nat}{I:Inf}{X:Cx}
theorem Ca.no(h:Ca X e tt)(hx:∀e s,X.xe e s↔False):PT X e (λσ H Q=>tt (λ_ _ _=>False) σ H Q):=by
 intro pZ s σ H Q J z;refine bL (h pZ s σ H Q _ J z) (λ_ _ q=>q) λu s' q=>?_
 obtain⟨a,tb,cl,dx,H',_,_,_,_,w⟩:=q;exact aJ w
theorem eI.no(h:eI X e tt)(hx:∀e s,X.xe e s↔False):PE X e (λσ H Q=>tt (λ_ _ _=>False) σ H Q):=by
 intro pZ s σ H Q J z;refine bL (h pZ s σ H Q _ J z) (λ_ _ q=>q) λu s' q=>?_
 obtain⟨a,tb,cl,dx,H',_,_,_,_,w⟩:=q;exact aJ w
theorem mem_lookup:∀{l:List (Str×NameKind)}{y:Str}{k:NameKind},l.lookup y=some k->(y,k)∈l
 |[],_,_,h=>nomatch h
 | (a,b)::l,y,k,h=>by
  rw[ba] at h;by_cases e:y=a
  .subst e;simp at h;subst h;exact bf
  .have e2:(y==a)=false:=by simp[e]
   rw[e2] at h;exact aV _ (mem_lookup h)
theorem u7(G:Good t T Γ k I X)(h:uT I sc x=true):EH X sc x:=by
 unfold uT at h;simp only[af,bR] at h;obtain⟨⟨⟨⟨⟨h1,h2⟩,h3⟩,h4⟩,h5⟩,h6⟩:=h;refine#[by simpa using h1,λy hy e=>?_,λy hy e=>?_,λy hy e=>?_,λy hy=>by simpa using h5 y hy,of_decide_eq_true h6,λy e=>?_]
 .have:=h2 y hy;rw[e] at this;simp at this
 .have:=h3 y hy;rw[e] at this;simpa using this
 .have:=h4 y hy;rw[e] at this;rw[G.names];simpa using this
 .exact mem_lookup e
theorem Dz(G:Good t T Γ k I X)(h:(ie I sc).mapM (λy=>dz y I.N)=some ci):yK X sc (ie I sc) ci:=by
 have key:∀(l:List Str)(ci:List Nat),l.mapM (λy=>dz y I.N)=some ci->ci.length=l.length/\∀(k:Nat)(y:Str),l[k]?=some y->∃j:Nat,ci[k]?=some j/\I.N[j]?=some y:=by
  intro l;induction l with
  |nil=>intro ci h;simp at h;subst h;exact#[rfl,λk y e=>by simp at e]
  |cons a l ih=>
   intro ci h;simp only[List.mapM_cons,aI,ao] at h;obtain⟨j,h1,r,h2,h3⟩:=h;simp at h3;subst h3;obtain⟨q1,q2⟩:=ih r h2;refine#[by simp[q1],λk y e=>?_];cases k with
   |zero=>simp at e;subst e;exact#[j,rfl,dI h1]
   |succ k=>simp at e ⊢;exact q2 k y e
 obtain⟨q1,q2⟩:=key _ _ h;refine#[q1,λk y e=>?_,λy hy=>?_]
 .rw[G.slots];exact q2 k y e
 .unfold ie at hy
  have:=(eJ.mp hy).2;simpa using this
theorem qI(G:Good t T Γ k I X)(hc:I.calm=true)(h:uT I sc x=true)(cp:yK X sc (ie I sc) ci)(hn:(ie I sc).Nodup):
  Good t T Γ k #[qC I sc.names,x++ie I sc,true] (X.vV sc C (x++ie I sc) s₀ H₀ ex):=by
 have B:=u7 G h;refine#[G.tab,G.JA,B.kind,?_,rfl,rB cp B hn,λ_=>G.calm hc,G.units];show(F5 sc X.env).names=_;unfold F5 qC;simp only
 congr 1
 funext p
 obtain⟨a,b⟩:=p;simp only[G.kind,Env.kindOf,G.names];simp
theorem xD(z:tE (X.cc t) Γ (.comp pr e it tc ci) E σ H Q):
  GV (R8 X.K pr) (λσ H R=>zL (X.cc t) Γ it E σ H R) ci (λσ H Q=>tT (X.cc t) Γ tc (λ_ _ _=>False) σ H Q) (λσ H Q=>tE (X.cc t) Γ e (λ_ _ _=>False) σ H Q) σ H Q:=by
 obtain⟨env,ρ,S,QU,EU,he0,R,w,q,qx⟩:=z;refine#[env,ρ,S,_,EU,he0,R,w,λus g S1 H1 ρ1 J w1 st1 R1 io=>?_,qx];intro D hD;have he1:=he0.later R st1;have D0:D∉ρ1:=R1.K3 hD
 let F:=PL.nG g (λu S2 k=>PL.pJ pr u (PL.lg env ci) λen=>PL.WT Γ tc en S2 k λ_ _=>False)
   (λu S2 k=>PL.pJ pr u (PL.lg env ci) λen=>PL.WE Γ e en S2 k λ_ _=>False) (λacc S3=>QU (.loc S3.length) (S3++[.lst acc]))
 refine#[λi m acc H2=>m+i=us.length/\∃ρ2 S2 accU,ig ρ1 H1 ρ2 H2/\cj (X.cc t) ρ2 H2 S2/\D∉ρ2/\H2 D=some (.lst acc)/\aU (X.cc t) ρ2 H2 accU acc/\F (us.drop i) accU S2,#[us.length,rfl,ρ1,S1,[],ig.lay R1 hD _,R1.lay hD _,D0,bF,aU.nil,w1],?_];rintro i m acc H2 ⟨hm,ρ2,S2,accU,st2,R2,D2,hD2,ra,wc⟩;have hlen:acc.length=accU.length:=ra.len.symm;cases hd:us.drop i with
 |nil=>
  rw[hd] at wc;obtain⟨g2,hl,w2⟩:g S2/\accU.length<1000000/\QU (U.loc S2.length) (S2++[SO.lst accU]):=wc;refine#[hD2,by rw[hlen];exact aM hl ⋯,.inl #[((io i ρ2 H2 S2 st2 R2 g2).2 (CZ.mp hd)),?_]];refine q _ _ _ _ _ w2 (st1.trans (st2.Xe hD)) (R2.join D2 #[acc,hD2,ra]) (iU.mpr #[D,rfl,?_]);rw[<-R2.len,ay (ax _),cq];rfl
 |cons u rest=>
  rw[hd] at wc;obtain⟨g2,hl,w0⟩:g S2/\accU.length<1000000/\PL.pJ pr u (PL.lg env ci) λen=>PL.WT Γ tc en S2 (λb S3=>if b=true then PL.pJ pr u (PL.lg env ci) (λen=>PL.WE Γ e en S3 (λv S4=>F rest (accU++[v]) S4) (λ_ _=>False)) else F rest accU S3) (λ_ _=>False):=wc
  have hu:us[i]?=some u:=by
   have:=congrArg (λl=>l[0]?) hd;simpa using this
  have hr:us.drop (i+1)=rest:=by
   have:=congrArg List.tail hd;simpa using this
  have hi:i<us.length:=(ae.mp hu).1;obtain⟨jg,jy⟩:=(io i ρ2 H2 S2 st2 R2 g2).1 u hu;refine#[hD2,by rw[hlen];exact aM hl ⋯,.inr #[jg,λy H3 hy=>?_]];obtain⟨st3,R3,ry⟩:=jy y H3 hy;obtain⟨_,hD3⟩:=st3.out hD2 D2;have ra3:=ra.mono R2 st3;obtain⟨us',τ,rτ,w2,kτ⟩:∃(us':PL.Env)(τ:St),iL (X.cc t) ρ2 H3 us' τ/\PL.WT Γ tc (us'++PL.lg env ci) S2 (λb S3=>if b=true then PL.WE Γ e (us'++PL.lg env ci) S3 (λv S4=>F rest (accU++[v]) S4) (λ_ _=>False) else F rest accU S3) (λ_ _=>False)/\∀k:St->Prop,k τ->R8 X.K pr y H3 k:=by
   cases pr with
   |false=>exact#[[some u],[some y],Ta ry,w0,λk z=>z]
   |true=>
    obtain⟨u1,u2,eu,w2⟩:=PL.Dk.mp w0;subst eu;obtain⟨a,vs,e1,ha,hr2⟩:=dB.mp ry;obtain⟨v1,v2,ev,r1,r2⟩:=MT hr2;subst ev;exact#[[some u1,some u2],[some v1,some v2],Tc r1 r2,w2,λk z=>#[a,v1,v2,e1,lU.of ha,z]]
  have he3:=HX (ci:=ci) (he1.later R1 (st2.trans st3)) rτ;refine kτ _ #[_,ρ2,S2,_,_,he3,R3,w2,λb S4 H4 ρ4 w4 st4 R4=>?_,λ_ _ _ _ _ _ z=>aJ z];obtain⟨D4,hD4⟩:=st4.out hD3 D2;have ra4:=ra3.mono R3 st4;cases b with
  |false=>exact#[m-1,∅,∅,ρ4,S4,accU,(st2.trans st3).trans st4,R4,D4,hD4,ra4,by rw[hr];exact w4]
  |true=>
   refine#[_,ρ4,S4,_,_,he3.later R3 st4,R4,w4,λv S5 z H5 ρ5 w5 st5 R5 r5=>?_,λ_ _ _ _ _ _ z=>aJ z];obtain⟨D5,hD5⟩:=st5.out hD4 D4;have ra5:=(ra4.mono R4 st5).app (aU.cons r5 aU.nil);refine#[hD5,m-1,∅,∅,ρ5,S5,accU++[v],(((st2.trans st3).trans st4).trans st5).Hx hD _,R5.Hx _ hD5 rfl D5,D5,bF,ra5.jD #[[],by simp] (Ds hD5 rfl),by rw[hr];exact w5]
theorem HY(ht:K0 tg=some x)(B:EH X sc x)(cp:yK X sc cn ci)(hn:cn.Nodup)(hc:X.calm=true):QQ X tg sc x cn (R8 X.K (x.length==2)):=by
 rcases B8 ht with⟨_,_,rfl,rfl⟩|⟨_,_,_,_,_,_,rfl,rfl⟩
 .exact GX B cp hn
 .exact GY B cp hn hc
theorem Lx(G:Good t T Γ k I X)(hc:I.calm=true)(ht:K0 tg=some x)(hb:uT I sc x=true)(hci:(ie I sc).mapM (λy=>dz y I.N)=some ci)
  (hs:∀env v,foldedSetIterable iter env v=pure v) (hi:∀pZ E,PI (X.at_ pZ E) tg iter (λσ H R=>zL (X.cc t) Γ it (E σ) σ H R))
  (hif:∀(X':Cx),Good t T Γ k #[qC I sc.names,x++ie I sc,true] X'->X'.cc t=X.cc t->(∀e s,X'.xe e s↔False)->Kr X' ifs (λσ H Q=>tT (X.cc t) Γ tc (λ_ _ _=>False) σ H Q))
  (he:∀(X':Cx),Good t T Γ k #[qC I sc.names,x++ie I sc,true] X'->X'.cc t=X.cc t->eI X' elt (tE (X.cc t) Γ e)):
  eI X (.ListComp elt [#[tg,iter,ifs,0]] sc pos) (tE (X.cc t) Γ (.comp (x.length==2) e it tc ci)):=by
 have hn:(ie I sc).Nodup:=by
  unfold ie;have:=G.nd;rw[G.slots] at this;exact this.filter _
 refine up λpZ E=>?_
 have cp:=Dz (X:=X.at_ pZ E) G.at_ hci;refine(Ku (X:=X.at_ pZ E) (wi:=λσ H R=>zL (X.cc t) Γ it (E σ) σ H R) (tc:=λσ H Q=>tT (X.cc t) Γ tc (λ_ _ _=>False) σ H Q) (te:=λσ H Q=>tE (X.cc t) Γ e (λ_ _ _=>False) σ H Q)
  (u7 G.at_ hb) cp hn (G.calm hc).1 (HY ht (u7 G.at_ hb) cp hn (G.calm hc).1) (hi pZ E) (λC s₀ H₀ ex=>hif _ (qI G.at_ hc hb cp hn) rfl λ_ _=>jP) (λC s₀ H₀ ex=>(he _ (qI G.at_ hc hb cp hn) rfl).no λ_ _=>jP) (hs _)).imp λσ H Q z=>xD z
end
open PL (U SO bJ Xn KU KX bY)
section
variable{t:wb}{T:Tab}{Γ:bY}{k n:Nat}{I:Inf}{X:Cx}
theorem Pn(h:∀pZ E,eI (X.at_ pZ E) e (tE (X.cc t) Γ x))(he:∀env whole,isTrue e env whole=(do let v <-whole;standAt e.pos;holding [v] (truthy v))):Ca X e (tT (X.cc t) Γ (.cg x)):=by
 refine Vv λpZ E=>(Gi (X:=X.at_ pZ E) (dn (h pZ E)) (he _)).imp ?_
 rintro σ H Q ⟨env,ρ,S,QU,EU,he,R,w,q,qx⟩;refine#[env,ρ,S,_,EU,he,R,w,λu S1 v H1 ρ1 w1 st1 R1 r1=>?_,qx];obtain⟨b,e1,w2⟩:=PL.gI.mp w1;exact#[b,Lk (X:=X) rfl R1 r1 e1,q _ _ _ _ w2 st1 R1]
theorem Ly(h:∀pZ E,Ca (X.at_ pZ E) e (tT (X.cc t) Γ x)):Ca X (.UnaryOp .Not e pos) (tT (X.cc t) Γ (.not x)):=by
 refine Vv λpZ E=>(Nu (X:=X.at_ pZ E) (QT (h pZ E))).imp ?_
 rintro σ H Q ⟨env,ρ,S,QU,EU,he,R,w,q,qx⟩;exact#[env,ρ,S,_,EU,he,R,w,λb S1 H1 ρ1 w1 st1 R1=>q _ _ _ _ w1 st1 R1,qx]
theorem PW.imp{e:Expr}{t t':TT}(h:PW X e t)(q:∀σ H Q,t' σ H Q->t σ H Q):PW X e t':=λwhole pZ s σ H Q I z=>h whole pZ s σ H Q I (q σ H Q z)
theorem Po(IH:E5 t T Γ k n)(G:Good t T Γ k I X):∀{vs:List Expr}{x:PL.Tx},Vu T (n+1) I op vs=some x->∀pZ E,PW (X.at_ pZ E) (.BoolOp op vs pos) (λσ H Q=>tT (X.cc t) Γ x (E σ) σ H Q)
 |[],x,h,_,_=>by rw[Hw,Ht] at h;cases h
 |[a],x,h,pZ,E=>by
  rw[Hw,Ht] at h;cases op with
  |And=>exact JV (QT (IH.ft G.at_ h))
  |Or=>exact Nr (QT (IH.ft G.at_ h))
 |a::b::r,y,h,pZ,E=>by
  rw[Hw,Ht] at h;simp only[aI,ao] at h;obtain⟨x,h1,z,h2,h3⟩:=h;injection h3 with h3;subst h3
  cases op with
  |And=>
   refine(Nt (X:=X.at_ pZ E) (QT (IH.ft G.at_ h1)) (IH.W9 G h2 pZ E)).imp ?_;rintro σ H Q ⟨env,ρ,S,QU,EU,he,R,w,q,qx⟩;refine#[env,ρ,S,_,EU,he,R,w,λb S1 H1 ρ1 w1 st1 R1=>?_,qx];cases b with
   |true=>exact#[env,ρ1,S1,QU,EU,he.later R st1,R1,w1,q.later st1,qx.later st1]
   |false=>exact q _ _ _ _ w1 st1 R1
  |Or=>
   refine(Rc (X:=X.at_ pZ E) (QT (IH.ft G.at_ h1)) (IH.W9 G h2 pZ E)).imp ?_;rintro σ H Q ⟨env,ρ,S,QU,EU,he,R,w,q,qx⟩;refine#[env,ρ,S,_,EU,he,R,w,λb S1 H1 ρ1 w1 st1 R1=>?_,qx];cases b with
   |true=>exact q _ _ _ _ w1 st1 R1
   |false=>exact#[env,ρ1,S1,QU,EU,he.later R st1,R1,w1,q.later st1,qx.later st1]
theorem AB(h:cE T n I b=some x):behindInMarks op b=false:=by
 cases b<;>first|rfl|skip
 cases n with
 |zero=>exact nn h
 |succ n=>exact nn h
theorem DA(h:cI T n I e=some x):∀env v,foldedSetIterable e env v=pure v:=by
 intro env v;cases e<;>first|rfl|skip
 cases n with
 |zero=>exact nn h
 |succ n=>
  change ((qD T n).e I _).map PL.It.val=some x at h
  obtain⟨y,h1,_⟩:=ag.mp h
  change cE T n I _=some y at h1
  cases n with
  |zero=>exact nn h1
  |succ n=>exact nn h1
theorem MV(h:cN T n I e=some x):∀env v,foldedSetIterable e env v=pure v:=by
 intro env v;cases e<;>first|rfl|skip
 cases n with
 |zero=>exact nn h
 |succ n=>exact nn h
theorem HZ(IH:E5 t T Γ k n)(G:Good t T Γ k I X)(h:((qD T n).e I e).map .cg=some x)(he:∀env whole,isTrue e env whole=(do let v <-whole;standAt e.pos;holding [v] (truthy v))):Ca X e (tT (X.cc t) Γ x):=by
 obtain⟨y,h1,h2⟩:=ag.mp h;subst h2;exact Pn (λpZ E=>IH.fe G.at_ h1) he
theorem Td(IH:E5 t T Γ k n)(G:Good t T Γ k I X)(h:cT T (n+1) I e=some x):Ca X e (tT (X.cc t) Γ x):=by
 rw[WY] at h;cases e with
 |UnaryOp op a pos=>
  cases op with
  |Not=>
   obtain⟨y,h1,h2⟩:=ag.mp h;subst h2;exact Ly λpZ E=>IH.ft G.at_ h1
  |_=>exact HZ IH G h λ_ _=>rfl
 |BoolOp op vs pos=>exact Vv λpZ E=>(IH.W9 G h pZ E).pt
 |IfExp=>exact nn h
 |Compare a ops bs pos=>
  cases ops with
  |nil=>exact nn h
  |cons op ops=>cases ops with
   |cons=>exact nn h
   |nil=>cases bs with
    |nil=>exact nn h
    |cons b bs=>cases bs with
     |cons=>exact nn h
     |nil=>
      obtain⟨o,h1,hb⟩:=ao.mp h;obtain⟨a,h2,hc⟩:=ao.mp hb;obtain⟨b,h3,h4⟩:=ao.mp hc;injection h4 with h4;subst h4
      exact Lm G h1 (AB h3) (λpZ E=>IH.fe G.at_ h2) (λpZ E=>IH.fe G.at_ h3)
 |_=>exact HZ IH G h λ_ _=>rfl
end
open PL (U SO bJ Xn KU KX bY)
section
variable{t:wb}{T:Tab}{Γ:bY}{k n:Nat}{I:Inf}{X:Cx}
theorem y0:∀{n:Nat},(qD T n).es I []=some y->y=.nil
 |0,h=>by cases h
 |_+1,h=>(aG h).symm
theorem gN{x y:Str}(h:(x !=y)=true):(x==y)=false:=by simpa using h
theorem AD(IH:E5 t T Γ k n)(G:Good t T Γ k I X)(ht:K0 tg=some xs)(h:(∃y,xs=[y])/\cI T n I iter=some it\/(¬ ∃y,xs=[y])/\cN T n I iter=some it):
  (∀env v,foldedSetIterable iter env v=pure v)/\∀pZ E,PI (X.at_ pZ E) tg iter (λσ H R=>zL (X.cc t) Γ it (E σ) σ H R):=by
 rcases B8 ht with⟨x,p,rfl,rfl⟩|⟨x,y,p,p',kd,q,rfl,rfl⟩<;>rcases h with⟨z,h1⟩|⟨z,h1⟩
 .exact#[DA h1,IH.fi G h1]
 .exact absurd #[_,rfl] z
 .obtain⟨y,e⟩:=z;simp at e
 .exact#[MV h1,IH.fn G h1]
theorem DB(IH:E5 t T Γ k n)(G':Good t T Γ k J X')(ec:X'.cc t=X.cc t)(hx:∀e s,X'.xe e s↔False)(h:WZ T n J ifs=some c):Kr X' ifs (λσ H Q=>tT (X.cc t) Γ c (λ_ _ _=>False) σ H Q):=by
 unfold WZ at h;split at h
 .injection h with h;subst h
  intro pZ s σ H Q J z;refine Ks (X:=X') pZ s σ H Q J ?_;obtain⟨env,ρ,S,QU,EU,he,R,w,q,qx⟩:=z;have w2:QU true S:=by
   have:PL.opt (PL.rE S (.bl true)) (λb=>QU b S):=w;exact this
  exact q true S H ρ w2 .refl R
 .have:=(IH.ft G' h).no hx
  rw[ec] at this;exact Kt this
 .exact nn h
theorem Te(IH:E5 t T Γ k n)(G:Good t T Γ k I X){e:Expr}{x:PL.Ex}(h:cE T (n+1) I e=some x):eI X e (tE (X.cc t) Γ x):=by
 have ge:∀{e:Expr}{y:PL.Ex},cE T n I e=some y->∀pZ E,eI (X.at_ pZ E) e (tE (X.cc t) Γ y):=λh pZ E=>IH.fe G.at_ h
 have gA:∀{es:List Expr}{y:PL.yN},QS T n I es=some y->∀pZ E,Aw (X.at_ pZ E) es (EY (X.cc t) Γ y):=λh pZ E=>IH.QZ G.at_ h
 have h0:=h;rw[K1] at h;cases e with(delta QR at h;try dsimp only at h)
 |Name x' pos=>
  split at h
  .rename_i i hi
   split at h
   .rename_i hc
    simp only[af] at hc;injection h with h;subst h
    exact Ll G hi hc.1.1 (gN hc.1.2) (gN hc.2)
   .exact nn h
  .split at h
   .rename_i hc
    rw[af] at hc;obtain⟨p,h1,h2⟩:=ag.mp h;subst h2;exact HP G hc.1 h1 (gN hc.2)
   .exact nn h
 |Constant c kd pos=>
  obtain⟨u,h1,h2⟩:=ag.mp h;subst h2;cases c with
  |none=>cases h1;exact qH (v:=.bK) (λpZ E=>Np) λ_ _=>eh.mpr rfl
  |bool b=>cases h1;exact qH (v:=.bl _) (λpZ E=>Rb) λ_ _=>dA.mpr rfl
  |int i=>cases h1;exact qH (v:=.int _) (λpZ E=>Nm) λ_ _=>aN.mpr rfl
  |str x=>cases h1;exact qH (v:=.str _) (λpZ E=>Nq) λ_ _=>bq.mpr (by rw[<-Sb])
  |_=>exact nn h1
 |BinOp a op b pos=>
  simp only[aI,ao] at h;obtain⟨o,h1,a,h2,b,h3,h4⟩:=h;injection h4 with h4;subst h4
  exact O2 G h1 (ge h2) (ge h3)
 |UnaryOp op a pos=>
  cases op with
  |Not=>obtain⟨y,h1,h2⟩:=ag.mp h;subst h2;exact O6 (ge h1)
  |USub=>obtain⟨y,h1,h2⟩:=ag.mp h;subst h2;exact O5 (ge h1)
  |_=>exact nn h
 |BoolOp op vs pos=>exact IH.W8 G h
 |Compare a ops bs pos=>
  split at h
  .split at h
   .simp only[aI,ao] at h
    obtain⟨o,h1,a,h2,b,h3,h4⟩:=h;injection h4 with h4;subst h4
    exact O3 G h1 (AB h3) (ge h2) (ge h3)
   .exact nn h
  .exact nn h
 |IfExp c a b pos=>
  simp only[aI,ao] at h;obtain⟨o,h1,a,h2,b,h3,h4⟩:=h;injection h4 with h4;subst h4
  exact SR (λpZ E=>IH.ft G.at_ h1) (ge h2) (ge h3)
 |Call fn args kws cp=>
  cases fn with
  |Name f p=>
   cases kws with
   |nil=>
    dsimp only at h;split at h
    .rename_i hc
     rw[af] at hc;obtain⟨hg,hd⟩:=hc;split at h
     .rename_i hf
      rw[af] at hf;have ef:f=("isinstance":Str):=by simpa using hf.1
      subst ef;have hb:"isinstance"∈T.fu:=by simpa using hf.2
      split at h
      .split at h
       .exact nn h
       .rename_i a tt hs
        simp only[aI,ao] at h;obtain⟨y,h1,h2⟩:=h;split at h2
        .rename_i ty ht
         injection h2 with h3;subst h3
         exact Ph G hg hb (by simpa using hs) ht (ge h1)
        .split at h2
         .simp only[aI,ao] at h2
          obtain⟨l,h2,h3⟩:=h2;split at h3
          .rename_i hl
           have hl:=of_decide_eq_true hl;injection h3 with h3;subst h3
           exact Ls G hg hb (by simpa using hs) h2 hl.1 hl.2 (ge h1)
          .exact nn h3
         .exact nn h2
      .exact nn h
     .split at h
      .rename_i b hb
       split at h
       .rename_i hs
        simp only[af,wu] at hs;obtain⟨⟨⟨s,hp⟩,hs⟩,hcm⟩:=hs;obtain⟨y,h1,h2⟩:=ag.mp h;subst h2;cases args with
        |nil=>simp at hs
        |cons a as=>
         have st:=lI h1;rw[bj,af] at st;exact Pb G hg hb hp (G.calm hcm).1 (G.calm hcm).2.hd st.1 st.2 (gA h1)
       .exact nn h
      .split at h
       .exact nn h
       .rename_i hcm
        have hcm:I.calm=true:=by simpa using hcm
        split at h
        .rename_i q hq
         obtain⟨hm,rfl⟩:=ij hq;obtain⟨y,h1,h2⟩:=ag.mp h;subst h2;cases args with
         |nil=>
          cases y0 h1;exact HS G hg hcm hm (gN hd)
         |cons a as=>
          have st:=lI h1;rw[bj,af] at st;exact Lp G hg hcm hm (gN hd) st.1 st.2 (IH.QZ G h1)
        .split at h
         .rename_i q hq
          obtain⟨hm,rfl⟩:=ij hq;obtain⟨y,h1,h2⟩:=ag.mp h;subst h2;cases args with
          |nil=>
           cases y0 h1;exact Pe G hg hcm hm (gN hd)
          |cons a as=>
           have st:=lI h1;rw[bj,af] at st;exact SX G hg hcm hm (gN hd) st.1 st.2 (IH.QZ G h1)
         .exact nn h
    .exact nn h
   |cons kw ks=>
    dsimp only at h;split at h
    .split at h
     .rename_i hc
      simp only[af] at hc;obtain⟨⟨⟨⟨⟨⟨⟨q0,q1⟩,q2⟩,q4⟩,q6⟩,q7⟩,q8⟩,q9⟩:=hc;have q1:=eq_of_beq q1;subst q1;have q0:ks=[]:=by simpa using q0
      subst q0;obtain⟨y,h1,h2⟩:=ag.mp h;subst h2;obtain⟨ka,kv,kp⟩:=kw;unfold Hq at q2;rw[af] at q2;have e1:=eq_of_beq q2.1;subst e1;have q3:=q2.2;cases kv with
      |Name l lp=>
       have q3:(l==("len":Str)&&I.gl l)=true:=q3;rw[af] at q3;have e2:=eq_of_beq q3.1;subst e2;exact E6 G q4 q3.2 (by simpa using q6) (by simpa using q7) (G.calm q8).1 q9 (ge h1)
      |_=>cases q3
     .exact nn h
    .exact nn h
  |Attribute o m ap=>
   dsimp only at h;split at h
   .exact nn h
   .rename_i hc
    simp only[gv,F6,af] at hc;obtain⟨⟨⟨⟨hk,hc0⟩,hl⟩,hn⟩,hcm⟩:=hc;have hk:kws=[]:=by simpa using hk
    subst hk;have hn:=of_decide_eq_true hn;split at h
    .rename_i q kk hq
     obtain⟨hm,hq2⟩:=xy hq;dsimp only at hq2;subst hq2;simp only[aI,ao] at h;obtain⟨y,h1,as,h2,h3⟩:=h;injection h3 with h3;subst h3
     cases args with
     |nil=>
      cases y0 h2;exact HU G hcm hm hc0 hl (IH.fe G h1)
     |cons a as'=>
      have st:=lI h2;rw[bj,af] at st;exact Lq G hcm hm hc0 hl hn st.1 st.2 (IH.fe G h1) (IH.QZ G h2)
    .split at h
     .split at h
      .rename_i em
       obtain⟨y,h1,h2⟩:=ag.mp h;subst h2;have em:=eq_of_beq em;subst em;exact Lo G hc0 hl (ge h1)
      .exact nn h
     .rename_i a as
      split at h
      .rename_i em
       have em:=eq_of_beq em;subst em;split at h
       .rename_i d
        split at h
        .rename_i st
         rw[af] at st;simp only[aI,ao] at h;obtain⟨y,h1,z,h2,w,h3,h4⟩:=h;injection h4 with h4;subst h4
         exact Pd G hc0 hl st.1 st.2 (ge h1) (ge h2) (ge h3)
        .exact nn h
       .exact nn h
      .split at h
       .rename_i b hb
        simp only[aI,ao] at h;obtain⟨y,h1,as',h2,h3⟩:=h;injection h3 with h3;subst h3
        have st:=lI h2;rw[bj,af] at st;exact Pc G hb (G.calm hcm).2.hd hc0 hl hn st.1 st.2 (ge h1) (gA h2)
       .exact nn h
  |_=>exact nn h
 |Attribute o f pos=>
  split at h
  .exact nn h
  .rename_i hc0
   simp only[aI,ao] at h;obtain⟨q,h1,y,h2,h3⟩:=h;injection h3 with h3;subst h3
   obtain⟨hm,rfl⟩:=ij h1;exact Pa G hm (by simpa using hc0) (ge h2)
 |Subscript o i pos=>
  split at h
  .rename_i hs
   simp only[aI,ao] at h;obtain⟨y,h1,a,h2,h3⟩:=h;injection h3 with h3;subst h3
   exact SS hs (ge h1) (ge h2)
  .split at h
   .split at h
    .simp only[aI,ao] at h
     obtain⟨y,h1,a,h2,b,h3,h4⟩:=h;injection h4 with h4;subst h4
     exact SV (ge h1) (IH.fo G h2) (IH.fo G h3)
    .exact nn h
   .exact nn h
 |List es pos=>
  obtain⟨y,h1,h2⟩:=ag.mp h;subst h2;exact O9 (gA h1)
 |Tuple es kd pos=>
  obtain⟨y,h1,h2⟩:=ag.mp h;subst h2;exact O8 (gA h1)
 |ListComp elt gs sc pos=>
  obtain⟨tg,iter,ifs,xs,it,c,ee,ci,rfl,ht,hc,h1,h2,h3,h4,h5⟩:=uU h0;subst h5;have hi:=AD IH G ht h1;refine Lx G hc.2 ht hc.1 h4 hi.1 hi.2 (λX' G' ec hx=>?_) (λX' G' ec=>?_)
  .exact DB IH G' ec hx h2
  .have:=IH.fe G' h3
   rw[ec] at this;exact this
 |_=>exact nn h
theorem H0:E5 t T Γ k 0:=by
 constructor
 .intro I X e x _ h;rw[SD] at h;exact nn h
 .intro I X e x _ h;rw[MQ] at h;exact nn h
 .intro I X op vs x pos _ h;rw[SE] at h;exact nn h
 .intro I X e x _ h;rw[WQ] at h;exact nn h
 .intro I X e x tg _ h;rw[WR] at h;exact nn h
 .intro I X e x es ek tp _ h;rw[WV] at h;exact nn h
 .intro I X e x _ h;rw[WX] at h;exact nn h
 .intro I X op vs x pos _ h;rw[SI] at h;exact nn h
theorem y3:∀n,E5 t T Γ k n
 |0=>H0
 |n+1=>
  have IH:=y3 n
  #[λG h=>Te IH G h,λG h=>O4 IH G h,λG h=>O7 IH G h,λG h=>SU IH G h,λG h=>SY IH G h,λG h=>Xd IH G h,λG h=>Td IH G h,λG h=>Po IH G h]
end
open PL (U SO bJ Xn KU KX bY)
structure MX(X:Cx):Prop where
 Ep:X.stack=X.env::X.outer
 Xf:X.env.frame=some X.env.locals
noncomputable def XN(X:Cx)(pZ:List (Addr×Obj))(E:St->XK)(e:Value)(s:ak):Prop:=
 ∃(σ:St)(a T:Addr)(cl:Value)(dx:Option Addr)(H:Hp),e=.ref a/\Inv X pZ σ H s/\vI s.heap a cl dx (some (T,pP X.env.locals))/\BS X pZ H a/\BS X pZ H T/\E σ cl dx H
noncomputable def XL(X:Cx)(pZ:List (Addr×Obj))(E:St->XK)(e:Value)(s:ak):Prop:=
 wpAny (aR X.prog X.w) X.A (FA e X.env) (λ_ s'=>XN X pZ E e s') (λ_ _=>False) s
noncomputable abbrev Cx.al(X:Cx)(pZ:List (Addr×Obj))(E:St->XK):Cx:={X with pn:=X.pn++pZ,xe:=XL X pZ E}
section
variable{X:Cx}{pZ pins':List (Addr×Obj)}{E:St->XK}{σ:St}{H:Hp}{s:ak}
theorem Cx.Ok.al(ok:X.Ok):(X.al pZ E).Ok:=
 #[ok.mod,ok.kind,ok.glob,ok.blt,ok.above,ok.inj,ok.has,ok.MA,ok.hd,ok.frames,ok.Ep,ok.Ra,ok.bs,ok.FI,ok.zX,ok.BA,ok.pS,ok.Jv]
theorem Cx.Ok.rL(ok:(X.al pZ E).Ok):X.Ok:=
 #[ok.mod,ok.kind,ok.glob,ok.blt,ok.above,ok.inj,ok.has,ok.MA,ok.hd,ok.frames,ok.Ep,ok.Ra,ok.bs,ok.FI,ok.zX,ok.BA,ok.pS,ok.Jv]
theorem Inv.al(I:Inv X pZ σ H s):Inv (X.al pZ E) [] σ H s:=
 #[I.ok.al,I.os,I.bare,I.base,I.loc,I.cell,I.free,I.kn,λp hp=>I.pin p (by simpa using hp),I.dg,I.len]
theorem Inv.rL(I:Inv (X.al pZ E) pins' σ H s):Inv X pZ σ H s:=
 #[I.ok.rL,I.os,I.bare,I.base,I.loc,I.cell,I.free,I.kn,λp hp=>I.pin p (aE.mpr (.inl hp)),I.dg,I.len]
theorem BS.rL(h:BS (X.al pZ E) pins' H b):BS X pZ H b:=
 #[h.1,h.2.1,h.2.2.1,h.2.2.2.1,λp hp=>h.2.2.2.2 p (aE.mpr (.inl hp))]
theorem MX.al(f:MX X):MX (X.al pZ E):=#[f.Ep,f.Xf]
theorem XE.toXL(f:MX X)(h:XE X pZ σ (E σ) e s):XL X pZ E e s:=by
 obtain⟨a,tb,cl,dx,H',rfl,I,xa,fr,q⟩:=h;have fr1:X.A.frames=some (X.env::X.outer):=by rw[I.ok.frames,f.Ep]
 have fs1:s.heap.FunFrames X.base (X.env::X.outer):=by have:=I.stack;rw[f.Ep] at this;exact this
 refine ME (base:=X.base) (outer:=X.outer) (L:=X.env.locals) fr1 fs1 f.Xf xa λh2 T2 k2 n2 x2=>?_
 exact#[σ,a,T2,cl,dx,H',rfl,I.rA (by rw[f.Ep];exact k2) fr,x2,fr a bf,I.RT n2,q]
theorem XE.rL(f:MX X)(h:XE (X.al pZ E) pins' σ (E σ) e s):XL X pZ E e s:=by
 obtain⟨a,tb,cl,dx,H',e1,I,x,fr,q⟩:=h;exact XE.toXL f #[a,tb,cl,dx,H',e1,I.rL,x,λb hb=>(fr b hb).rL,q]
theorem Lz:Fw (aR (X.al pZ E).prog (X.al pZ E).w) (X.al pZ E).A (X.al pZ E).env (X.al pZ E).xe:=PassesOwn.looking
end
theorem SP.rL(q:SP (X.al pZ E) pins' D f s):SP X pZ D f s:=by
 cases f with
 |next=>obtain⟨σ',H',I',q⟩:=q;exact#[σ',H',I'.rL,q]
 |brk=>obtain⟨σ',H',I',q⟩:=q;exact#[σ',H',I'.rL,q]
 |cont=>obtain⟨σ',H',I',q⟩:=q;exact#[σ',H',I'.rL,q]
 |ret u=>obtain⟨v,σ',H',I',r,q⟩:=q;exact#[v,σ',H',I'.rL,r,q]
structure Tk(X:Cx)(E:St->XK):Prop where
 tk:∀(pZ:List (Addr×Obj))(σ:St)(s:ak)(e:Value),XE X pZ σ (E σ) e s->X.xe e s
 ps:Fw (aR X.prog X.w) X.A X.env X.xe
theorem Tf(f:MX X):Tk (X.al pZ E) E:=#[λ_ _ _ _ h=>h.rL f,Lz]
theorem Th(h:X.xe=λ_ _=>False):Tk X (λ_ _ _ _=>False):=by
 refine#[λpZ σ s e z=>?_,?_]
 .obtain⟨a,tb,cl,dx,H',_,_,_,_,w⟩:=z
  exact aJ w
 .rw[h];exact PassesOwn.never
section
variable{X:Cx}{e:Expr}{E:St->XK}
theorem FL(k:Tk X E)(h:eI X e t):PE X e (λσ H Q=>t (E σ) σ H Q):=by
 intro pins' s σ H Q I z;exact bL (h pins' s σ H Q (E σ) I z) (λu s' q=>q) λu s' q=>k.tk _ _ _ _ q
theorem Ti(k:Tk X E)(h:Ca X e t):PT X e (λσ H Q=>t (E σ) σ H Q):=by
 intro pins' s σ H Q I z;exact bL (h pins' s σ H Q (E σ) I z) (λu s' q=>q) λu s' q=>k.tk _ _ _ _ q
theorem PS.imp{st:Stmt}{t t':TS}(h:PS X st t)(q:∀D σ H,t' D σ H->t D σ H):PS X st t':=λpZ s σ H D I z=>h pZ s σ H D I (q D σ H z)
theorem sV.imp{st:List Stmt}{t t':TS}(h:sV X st t)(q:∀D σ H,t' D σ H->t D σ H):sV X st t':=λpZ s σ H D I z=>h pZ s σ H D I (q D σ H z)
end
theorem Good.al(G:Good t T Γ k I X):Good t T Γ k I (X.al pZ E):=
 #[G.tab,G.JA,G.kind,G.names,G.slots,G.nd,G.calm,G.units]
structure DR(c:Ctx)(ρ:List Addr)(H:Hp)(DU:PL.Ends)(D:Ends)(E:St->XK):Prop where
 nx:∀env' S' σ' H' ρ',DU.nx env' S'->ig ρ H ρ' H'->cj c ρ' H' S'->iL c ρ' H' env' σ'->D.nx σ' H'
 rt:QV c ρ H DU.rt D.rt
 ex:∀env' σ' x S' H' ρ' C d,DU.ex env' x S'->ig ρ H ρ' H'->cj c ρ' H' S'->iL c ρ' H' env' σ'->ExcAt c ρ' H' x C d->E σ' (.ref C) (some d) H'
noncomputable def tS(c:Ctx)(Γ:bY)(x:PL.Sm):(St->XK)->TS:=λE D σ H=>∃env ρ S DU,iL c ρ H env σ/\cj c ρ H S/\PL.WS Γ x DU env S/\DR c ρ H DU D E
noncomputable def H8(c:Ctx)(Γ:bY)(x:PL.dj):(St->XK)->TS:=λE D σ H=>∃env ρ S DU,iL c ρ H env σ/\cj c ρ H S/\PL.rF Γ x DU env S/\DR c ρ H DU D E
section
variable{c:Ctx}{ρ ρ':List Addr}{H H':Hp}{S:bJ}{DU:PL.Ends}{D:Ends}{E:St->XK}
theorem DR.later(q:DR c ρ H DU D E)(a:ig ρ H ρ' H'):DR c ρ' H' DU D E:=
 #[λenv' S' σ' H2 ρ2 h b R e=>q.nx env' S' σ' H2 ρ2 h (a.trans b) R e,q.rt.later a,λenv' σ' x S' H2 ρ2 C d h b R e z=>q.ex env' σ' x S' H2 ρ2 C d h (a.trans b) R e z]
theorem DR.qx(q:DR c ρ H DU D E)(R:cj c ρ H S)(he:iL c ρ H env σ):QX c ρ H (DU.ex env) (E σ):=
 λx S' H2 ρ2 C d h b R2 z=>q.ex env σ x S' H2 ρ2 C d h b R2 (he.later R b) z
theorem iL.set(he:iL c ρ H env σ)(r:Rep c ρ H u v)(i:Nat):iL c ρ H (env.set i (some u)) (σ.set i (some v)):=by
 refine#[by simp[he.len],λj w e=>?_];by_cases z:j=i
 .subst z
  have hj:j<env.length:=by
   have:=(ae.mp e).1;simpa using this
  rw[bU hj] at e;injection e with e;injection e with e;subst e
  exact#[v,by rw[bU (by rw[<-he.len];exact hj)],r]
 .rw[av (dM z)] at e ⊢
  exact he.at_ j w e
theorem iL.del(he:iL c ρ H env σ)(i:Nat):iL c ρ H (env.set i none) (σ.set i none):=by
 refine#[by simp[he.len],λj w e=>?_];by_cases z:j=i
 .subst z
  have hj:j<env.length:=by
   have:=(ae.mp e).1;simpa using this
  rw[bU hj] at e;cases e
 .rw[av (dM z)] at e ⊢
  exact he.at_ j w e
end
open PL (U SO bJ Xn KU KX bY)
noncomputable def y4(C:Addr)(l:List Str):Sp:=λvs H Q _=>∃a ys,vs=.ref a::ys/\ys.length=l.length/\H a=some (.xo a C none)/\∀d,H d=none->d≠a->Q .bK (upd (upd H d (.xf d (l.zip ys))) a (.xo a C (some d)))
structure pM(c:Ctx)(k:Nat)(x:String):Prop where
 ex:∃C f fd ps,c.exc x=some C/\lT c.K (.ref C)=true/\iC c.K (.ref C) "__init__"=some (some (.ref f))/\isFn c.K (.ref f)=true/\iK c.P c.w c.K c.mg c.base (pX c.P c.w) k f fd ps (y4 C ((PL.cL x).map nm))/\Binds c.K fd ps []/\ps.length<=1000
structure fO(t:wb)(T:Tab)(Γ:bY)(k:Nat)(I:Inf)(X:Cx):Prop where
 g:Good t T Γ k I X
 fr:MX X
 st:∀x,X.fn x=true
 xi:∀x∈T.v5,PL.cL x≠[]->pM (X.cc t) k x
 up:∀x C bm y D,t.exc x=some C->t.exc y=some D->oq X.K C bm->(PL.mC x).contains y=true->(aS C::bm).contains (.ref D)=true
section
variable{t:wb}{T:Tab}{Γ:bY}{k n:Nat}{I:Inf}{X:Cx}
theorem fO.al(G:fO t T Γ k I X):fO t T Γ k I (X.al pZ E):=#[G.g.al,G.fr.al,G.st,G.xi,G.up]
variable{E:St->XK}
theorem rM(h:tj (names.lookup x)=true)(e:sc.names=names):Loc sc x:=by
 rw[<-e] at h;unfold Loc;cases q:sc.names.lookup x with
 |none=>rw[q] at h;cases h
 |some kd=>rw[q] at h;cases kd<;>simp[tj] at h<;>simp
theorem Cm(z:tS (X.cc t) Γ (.set i x) E D σ H):tE (X.cc t) Γ x (E σ) σ H λv H1=>D.nx (σ.set i (some v)) H1:=by
 obtain⟨env,ρ,S,DU,he,R,w,q⟩:=z;refine#[env,ρ,S,_,_,he,R,w,λu S1 v H1 ρ1 w1 st1 R1 r1=>?_,q.qx R he];exact q.nx _ _ _ _ _ w1 st1 R1 ((he.later R st1).set r1 i)
theorem Pp(G:fO t T Γ k I X)(K:Tk X E)(h:dz x I.N=some i)(hl:tj (I.names.lookup x)=true)(hs:∀env,iJ e (some (.Name x p)) pos.line env=pure false)
  (hy:eI X e (tE (X.cc t) Γ y)):PS X (.Assign [.Name x p] e pos) (λD σ H=>tS (X.cc t) Γ (.set i y) E D σ H):=by
 refine(Gf (X:=X) (i:=i) G.g.nd (by show X.N[i]?=some x;rw[G.g.slots];exact dI h) (rM hl G.g.names) (FL K hy) (hs _) (.inl (G.st x))).imp ?_;intro D σ H z;exact Cm z
theorem LA(G:fO t T Γ k I X)(K:Tk X E)(hf:f∈T.uS)(hx:eI X o (tE (X.cc t) Γ x))(hy:eI X e (tE (X.cc t) Γ y)):PS X (.Assign [.Attribute o (nm f) p] e pos) (λD σ H=>tS (X.cc t) Γ (.iQ x f y) E D σ H):=by
 have hs:∀env,iJ e (some (.Attribute o (nm f) p)) pos.line env=pure false:=λenv=>by cases e<;>rfl
 refine(NU (X:=X) (FL K hx) (FL K hy) (hs _)).imp ?_;rintro D σ H ⟨env,ρ,S,DU,he,R,w,q⟩;refine#[env,ρ,S,_,_,he,R,w,λu S1 v H1 ρ1 w1 st1 R1 r1=>?_,q.qx R he];refine#[env,ρ1,S1,_,_,he.later R st1,R1,w1,λu2 S2 v2 H2 ρ2 w2 st2 R2 r2=>?_,(q.qx R he).later st1];obtain⟨l,e1,w3⟩:=PL.k8.mp w2;subst e1;obtain⟨c',fs,e2,hlen,w4⟩:=PL.mB.mp w3;obtain⟨a,C,dx,vs,ev,ha,hC,hH,hn,hr⟩:=R2.ins e2 r2;obtain⟨cl,na⟩:=G.g.tab.cls c' C hC;have hlv:vs.length=fs.length:=by have:=congrArg cQ hn;simpa using this
 refine#[a,C,dx,vs,ev,hH,cl,na f hf,∅,?_];have st3:=ig.put (H:=H2) (aw ha) (.ins C dx (gx (nm f) v vs));have tN:∀{fs:List (String×U)}{vs:List (Str×V)},vs.map (·.1)=(fs.map (·.1)).map nm->aU (X.cc t) ρ2 H2 (fs.map (·.2)) (vs.map (·.2)) ->
   (gx (nm f) v vs).map (·.1)=((PL.d7 f u fs).map (·.1)).map nm/\aU (X.cc t) ρ2 H2 ((PL.d7 f u fs).map (·.2)) ((gx (nm f) v vs).map (·.2)):=by
  intro fs;induction fs with
  |nil=>
   intro vs hn hr;cases vs with
   |nil=>exact#[rfl,aU.cons (r1.mono R1 st2) aU.nil]
   |cons a b=>simp at hn
  |cons p fs ih=>
   intro vs hn hr;obtain⟨g,w'⟩:=p;cases vs with
   |nil=>simp at hn
   |cons b vs=>
    obtain⟨b1,b2⟩:=b;simp only[aD,dX] at hn;rw[aD,aD] at hr;unfold aU at hr;obtain⟨v',r',e',k1,k2⟩:=hr;injection e' with e1' e2'
    subst e1';subst e2';unfold gx PL.d7;by_cases z:g=f
    .have z2:b1=nm f:=by rw[hn.1,z]
     rw[if_pos z2,if_pos z]
     exact#[by simp[hn.1,hn.2],aU.cons (r1.mono R1 st2) k2]
    .have z2:¬b1=nm f:=λq=>z (rJ _ _ (hn.1.symm.trans q))
     rw[if_neg z2,if_neg z]
     obtain⟨m1,m2⟩:=ih hn.2 k2;exact#[by simp only[aD,dX];exact#[hn.1,m1],aU.cons k1 m2]
 obtain⟨m1,m2⟩:=tN hn hr;refine q.nx _ _ _ _ _ w4 ((st1.trans st2).trans st3) (R2.put ha #[C,dx,_,hC,bF,m1,m2.mono R2 st3]) ((he.later R (st1.trans st2)).later R2 st3)
theorem Tj(G:fO t T Γ k I X)(K:Tk X E)(hc:yW e=true)(hy:eI X e (tE (X.cc t) Γ y)):PS X (.Expr e pos) (λD σ H=>tS (X.cc t) Γ (.ex y) E D σ H):=by
 refine(JX (X:=X) (FL K hy) (Az hc)).imp ?_;rintro D σ H ⟨env,ρ,S,DU,he,R,w,q⟩;refine#[env,ρ,S,_,_,he,R,w,λu S1 v H1 ρ1 w1 st1 R1 r1=>?_,q.qx R he];exact q.nx _ _ _ _ _ w1 st1 R1 (he.later R st1)
theorem Pq(G:fO t T Γ k I X)(K:Tk X E)(hy:eI X e (tE (X.cc t) Γ y)):PS X (.Return (some e) pos) (λD σ H=>tS (X.cc t) Γ (.ret y) E D σ H):=by
 refine(Ny (X:=X) (FL K hy)).imp ?_;rintro D σ H ⟨env,ρ,S,DU,he,R,w,q⟩;exact#[env,ρ,S,_,_,he,R,w,q.rt,q.qx R he]
theorem Pr(G:fO t T Γ k I X)(K:Tk X E)(hx:Ca X c (tT (X.cc t) Γ x))(hy:sV X a (λD σ H=>H8 (X.cc t) Γ y E D σ H))(hz:sV X b (λD σ H=>H8 (X.cc t) Γ z E D σ H)):PS X (.If c a b pos) (λD σ H=>tS (X.cc t) Γ (.ifs x y z) E D σ H):=by
 refine(Rk (X:=X) (Ti K hx) (hy) (hz)).imp ?_;rintro D σ H ⟨env,ρ,S,DU,he,R,w,q⟩;refine#[env,ρ,S,_,_,he,R,w,λb S1 H1 ρ1 w1 st1 R1=>?_,q.qx R he];cases b with
 |true=>exact#[env,ρ1,S1,DU,he.later R st1,R1,w1,q.later st1]
 |false=>exact#[env,ρ1,S1,DU,he.later R st1,R1,w1,q.later st1]
theorem Cn(hp:B9 op=some p):op=K5 p/\(p=.add\/p=.sub\/p=.bor):=by cases op<;>first|exact nn hp| (cases hp;exact#[rfl,by simp])
theorem Pt(G:fO t T Γ k I X)(K:Tk X E)(h:dz x I.N=some i)(hl:tj (I.names.lookup x)=true)(hp:B9 op=some p)(hy:eI X e (tE (X.cc t) Γ y)):PS X (.AugAssign (.Name x px) op e pos) (λD σ H=>tS (X.cc t) Γ (.aug i p y) E D σ H):=by
 have eo:=Cn hp;rw[eo.1]
 refine(NB (X:=X) (i:=i) G.g.nd (by show X.N[i]?=some x;rw[G.g.slots];exact dI h) (rM hl G.g.names) (FL K hy) (yY (X:=X) (c:=X.cc t) eo.2) (.inl (G.st x))).imp ?_;rintro D σ H ⟨env,ρ,S,DU,he,R,w,q⟩;obtain⟨u0,e0,w0⟩:=PL.Aj.mp (show PL.yO _ _ from w);obtain⟨v0,e1,r0⟩:=he.at_ i u0 e0;refine#[v0,e1,env,ρ,S,_,_,he,R,w0,λu S1 v H1 ρ1 w1 st1 R1 r1=>?_,q.qx R he];refine#[u0,u,ρ1,S1,_,r0.mono R st1,r1,R1,w1,λu2 S2 v2 H2 ρ2 w2 st2 R2 r2=>?_];exact q.nx _ _ _ _ _ w2 (st1.trans st2) R2 ((he.later R (st1.trans st2)).set r2 i)
end
open PL (U SO bJ Xn KU KX bY)
section
variable{t:wb}{T:Tab}{Γ:bY}{k n:Nat}{I:Inf}{X:Cx}{E:St->XK}
theorem tN(ru:Rep c ρ H u v):∀{fs:List (String×U)}{vs:List (Str×V)},vs.map (·.1)=(fs.map (·.1)).map nm->aU c ρ H (fs.map (·.2)) (vs.map (·.2)) ->
   (gx (nm f) v vs).map (·.1)=((PL.d7 f u fs).map (·.1)).map nm/\aU c ρ H ((PL.d7 f u fs).map (·.2)) ((gx (nm f) v vs).map (·.2))
 |[],[],_,_=>#[rfl,aU.cons ru aU.nil]
 |[],_::_,hn,_=>by simp at hn
 |_::_,[],hn,_=>by simp at hn
 | (g,w')::fs,(b1,b2)::vs,hn,hr=>by
  simp only[aD,dX] at hn;rw[aD,aD] at hr;unfold aU at hr;obtain⟨v',r',e',k1,k2⟩:=hr;injection e' with e1' e2'
  subst e1';subst e2';unfold gx PL.d7;by_cases z:g=f
  .have z2:b1=nm f:=by rw[hn.1,z]
   rw[if_pos z2,if_pos z]
   exact#[by simp[hn.1,hn.2],aU.cons ru k2]
  .have z2:¬b1=nm f:=λq=>z (rJ _ _ (hn.1.symm.trans q))
   rw[if_neg z2,if_neg z]
   obtain⟨m1,m2⟩:=tN ru hn.2 k2;exact#[by simp only[aD,dX];exact#[hn.1,m1],aU.cons k1 m2]
theorem LB(G:fO t T Γ k I X)(K:Tk X E)(hf:f∈T.uS)(hp:B9 op=some p)(hx:eI X o (tE (X.cc t) Γ x))(hy:eI X e (tE (X.cc t) Γ y)):PS X (.AugAssign (.Attribute o (nm f) tp) op e pos) (λD σ H=>tS (X.cc t) Γ (.vW x f p y) E D σ H):=by
 have eo:=Cn hp;rw[eo.1]
 refine(Ez (X:=X) (FL K hx) (FL K hy) (rd:=EZ (X.cc t) p) (yY (X:=X) (c:=X.cc t) eo.2)).imp ?_;rintro D σ H ⟨env,ρ,S,DU,he,R,w,q⟩;refine#[env,ρ,S,_,_,he,R,w,λu S1 v H1 ρ1 w1 st1 R1 r1=>?_,q.qx R he];obtain⟨l,e1,w2⟩:=PL.k8.mp w1;subst e1;obtain⟨c',fs,e2,w3⟩:=PL.mB.mp w2;obtain⟨u0,e3,w4⟩:=PL.gI.mp w3;obtain⟨a,C,dx,vs,ev,ha,hC,hH,hn,hr⟩:=R1.ins e2 r1;obtain⟨cl,na⟩:=G.g.tab.cls c' C hC;obtain⟨v0,l0,r0⟩:=nh hn hr e3 rJ;refine#[a,C,dx,vs,v0,ev,hH,cl,na f hf,l0,?_];refine#[env,ρ1,S1,_,_,he.later R st1,R1,w4,λu2 S2 v2 H2 ρ2 w5 st2 R2 r2=>?_,(q.qx R he).later st1];refine#[u0,u2,ρ2,S2,_,r0.mono R1 st2,r2,R2,w5,λu3 S3 v3 H3 ρ3 w6 st3 R3 r3=>?_];obtain⟨c'',fs',e4,⟨e5,hlen,w7⟩⟩:=PL.mB.mp w6;subst e5;have ha3:=(st2.trans st3).get ha;obtain⟨C',dx',vs',hC',hH',hn',hr'⟩:=R3.at_ l a _ ha3 e4;rw[hC] at hC';injection hC' with hC';subst hC'
 have hlv:vs'.length=fs'.length:=by have:=congrArg cQ hn';simpa using this
 refine#[dx',vs',hH',∅,?_];have st4:=ig.put (H:=H3) (aw ha3) (.ins C dx' (gx (nm f) v3 vs'));obtain⟨m1,m2⟩:=tN r3 hn' hr';refine q.nx _ _ _ _ _ w7 (((st1.trans st2).trans st3).trans st4) (R3.put ha3 #[C,dx',_,hC,bF,m1,m2.mono R3 st4]) ((he.later R ((st1.trans st2).trans st3)).later R3 st4)
noncomputable def Tn(K:Frag):V->V->Hp->VK->Prop:=λo i H Q=>∃p xs k v,o=.ref p/\i=.int k/\H p=some (.lst xs)/\0<=k/\xs[k.toNat]?=some v/\Q v H
theorem E7:Rr X (Tn X.K):=by
 intro pZ s σ H o i ov iv Q I ro ri h;obtain⟨p,xs,k,v,rfl,rfl,hp,h0,hk,q⟩:=h;cases ro;obtain⟨t,rfl⟩:=ri;obtain⟨its,r,pl,hz⟩:=I.list (.inl (.inl hp));obtain⟨w,ew,rw'⟩:=r.get hk;have hn:=oh;have hl:=(ae.mp hk).1;exact getItem_listL pl.isList h0 ∅ ew #[v,H,I,rw',q]
theorem Xg(r:aU c ρ H us vs)(ru:Rep c ρ H u v):∀(j:Nat),aU c ρ H (us.set j u) (vs.set j v):=by
 intro j;induction us generalizing vs j with
 |nil=>cases vs with
  |nil=>exact r
  |cons a b=>exact absurd r.len (by simp)
 |cons x us ih=>cases vs with
  |nil=>exact absurd r.len (by simp)
  |cons a b=>
   unfold aU at r;obtain⟨v',r',e',k1,k2⟩:=r;injection e' with e1 e2
   subst e1;subst e2;cases j with
   |zero=>exact aU.cons ru k2
   |succ j=>exact aU.cons k1 (ih k2 j)
theorem LC(G:fO t T Γ k I X)(K:Tk X E)(hn:pb i=true)(hp:B9 op=some p)(hx:eI X o (tE (X.cc t) Γ x))(hi:eI X i (tE (X.cc t) Γ y))(hy:eI X e (tE (X.cc t) Γ z)):PS X (.AugAssign (.Subscript o i tp) op e pos) (λD σ H=>tS (X.cc t) Γ (.EL x y p z) E D σ H):=by
 have eo:=Cn hp;rw[eo.1]
 refine(JY (X:=X) (FL K hx) (FL K hi) E7 (FL K hy) (tip:=EZ (X.cc t) p) (yY (X:=X) (c:=X.cc t) eo.2) set_list (λov iv new=>by cases i<;>first|rfl|simp[pb] at hn)).imp ?_;rintro D σ H ⟨env,ρ,S,DU,he,R,w,q⟩;refine#[env,ρ,S,_,_,he,R,w,λu S1 v H1 ρ1 w1 st1 R1 r1=>?_,q.qx R he];refine#[env,ρ1,S1,_,_,he.later R st1,R1,w1,λu2 S2 v2 H2 ρ2 w2 st2 R2 r2=>?_,(q.qx R he).later st1];obtain⟨l,e1,w3⟩:=PL.k8.mp w2;subst e1;obtain⟨j,e2,w4⟩:=PL.eR.mp w3;subst e2;obtain⟨us,e3,h0,w5⟩:=PL.cF.mp w4;obtain⟨u0,e4,w6⟩:=PL.gI.mp w5;obtain⟨a,vs,ev,ha,hH,hr⟩:=R2.lst e3 (r1.mono R1 st2);subst ev;obtain⟨v0,l0,r0⟩:=hr.get e4;refine#[a,vs,j,v0,rfl,aN.mp r2,hH,h0,l0,?_];refine#[env,ρ2,S2,_,_,(he.later R st1).later R1 st2,R2,w6,λu3 S3 v3 H3 ρ3 w7 st3 R3 r3=>?_,(q.qx R he).later (st1.trans st2)];refine#[u0,u3,ρ3,S3,_,r0.mono R2 st3,r3,R3,w7,λu4 S4 v4 H4 ρ4 w8 st4 R4 r4=>?_];obtain⟨us',e5,hj,w9⟩:=PL.cF.mp w8;have ha4:=(st3.trans st4).get ha;obtain⟨vs',hH',hr'⟩:=R4.at_ l a _ ha4 e5;refine#[a,vs',j,j.toNat,rfl,aN.mp r2,hH',?_,?_]
 .unfold N1
  rw[if_pos h0,if_pos (by have:=hr'.len;omega)]
 have st5:=ig.put (H:=H4) (aw ha4) (.lst (vs'.set j.toNat v4));refine q.nx _ _ _ _ _ w9 ((((st1.trans st2).trans st3).trans st4).trans st5) (R4.put ha4 #[_,bF,(Xg hr' r4 j.toNat).mono R4 st5]) ((he.later R (((st1.trans st2).trans st3).trans st4)).later R4 st5)
theorem Pu(K:Tk X E)(hx:Ca X c (tT (X.cc t) Γ x))(hy:sV X b (λD σ H=>H8 (X.cc t) Γ y E D σ H)):PS X (.While c b [] pos) (λD σ H=>tS (X.cc t) Γ (.Ai x y) E D σ H):=by
 refine(Gg (X:=X) K.ps (Ti K hx) hy).imp ?_;rintro D σ H ⟨env,ρ,S,DU,he,R,w,q⟩;obtain⟨n0,w0⟩:=w
 let F:=PL.yQ (λen S1 k=>PL.WT Γ x en S1 k (DU.ex en)) (λen S1 k=>PL.rF Γ y {DU with nx:=k} en S1) DU.nx
 refine#[λm σ1 H1=>∃env1 ρ1 S1,ig ρ H ρ1 H1/\cj (X.cc t) ρ1 H1 S1/\iL (X.cc t) ρ1 H1 env1 σ1/\F m env1 S1,#[n0,env,ρ,S,.refl,R,he,w0],?_];rintro m σ1 H1 ⟨env1,ρ1,S1,st1,R1,he1,w1⟩;cases m with
 |zero=>exact aJ w1
 |succ m=>
  have w1':PL.WT Γ x env1 S1 (λt S1=>if t=true then PL.rF Γ y {DU with nx:=F m} env1 S1 else DU.nx env1 S1) (DU.ex env1):=w1;have q1:=q.later st1;refine#[env1,ρ1,S1,_,_,he1,R1,w1',λb S2 H2 ρ2 w2 st2 R2=>?_,q1.qx R1 he1];cases b with
  |false=>exact q1.nx _ _ _ _ _ w2 st2 R2 (he1.later R1 st2)
  |true=>
   refine#[λσ3 H3=>∃env3 ρ3 S3,ig ρ H ρ3 H3/\cj (X.cc t) ρ3 H3 S3/\iL (X.cc t) ρ3 H3 env3 σ3/\F m env3 S3,λσ3 H3 h3=>#[m,t6 m,h3],?_];have q2:=q1.later st2;refine#[env1,ρ2,S2,_,he1.later R1 st2,R2,w2,#[λenv' S' σ' H' ρ' h b R' e=>#[env',ρ',S',(st1.trans st2).trans b,R',e,h],q2.rt,q2.ex]]
noncomputable def Ia(Γ:bY)(tt:PL.Tg)(z:PL.dj)(DU:PL.Ends)(u:U)(en:PL.Env)(S:bJ)(k:PL.Env->bJ->Prop):Prop:=match tt with
 |.name i=>PL.rF Γ z {DU with nx:=k} (en.set i (some u)) S
 |.pair i j=>PL.MK u λx y=>PL.rF Γ z {DU with nx:=k} ((en.set i (some x)).set j (some y)) S
theorem Ib:PL.WS Γ (.i9 tt y z) DU env S=PL.WI Γ y env S (λus g S1=>PL.uI g (Ia Γ tt z DU) DU.nx us env S1) (DU.ex env):=by
 cases tt<;>rfl
theorem Ic(G:fO t T Γ k I X)(K:Tk X E)(hc:I.calm=true)(hs:∀env v,foldedSetIterable it env v=pure v)
  (hi:PI X tg it (λσ H R=>zL (X.cc t) Γ y (E σ) σ H R)) (hg:PG X tg g0) (hb:sV X b (λD σ H=>H8 (X.cc t) Γ z E D σ H))
  (hr0:∀{ρ H S env σ u v DU D Q k},iL (X.cc t) ρ H env σ->cj (X.cc t) ρ H S->Rep (X.cc t) ρ H u v->Ia Γ tt z DU u env S k->DR (X.cc t) ρ H {DU with nx:=k} D E->(∀σ' H',H8 (X.cc t) Γ z E D σ' H'->Q σ' H')->g0 v σ H Q):
  PS X (.For tg it b [] pos) (λD σ H=>tS (X.cc t) Γ (.i9 tt y z) E D σ H):=by
 refine(ND (X:=X) K.ps (G.g.calm hc).1 hi hg hb (hs _)).imp ?_;rintro D σ H ⟨env,ρ,S,DU,he,R,w,q⟩;rw[Ib] at w;refine#[env,ρ,S,_,_,he,R,w,λus g S1 H1 ρ1 J w1 st1 R1 io=>?_,q.qx R he]
 let F:=PL.uI g (Ia Γ tt z DU) DU.nx
 refine#[λj m σ2 H2=>m+j=us.length/\∃env2 ρ2 S2,ig ρ1 H1 ρ2 H2/\cj (X.cc t) ρ2 H2 S2/\iL (X.cc t) ρ2 H2 env2 σ2/\F (us.drop j) env2 S2,#[us.length,rfl,env,ρ1,S1,.refl,R1,he.later R st1,w1],?_];rintro j m σ2 H2 ⟨hm,env2,ρ2,S2,st2,R2,he2,wf⟩;have q2:=q.later (st1.trans st2);cases hd:us.drop j with
 |nil=>
  rw[hd] at wf;obtain⟨g2,w2⟩:g S2/\DU.nx env2 S2:=wf;exact .inl #[(io j ρ2 H2 S2 st2 R2 g2).2 (CZ.mp hd),q2.nx _ _ _ _ _ w2 .refl R2 he2]
 |cons u rest=>
  rw[hd] at wf;obtain⟨g2,w2⟩:=wf;have hu:us[j]?=some u:=by
   have:=congrArg (λl=>l[0]?) hd;simpa using this
  have hr:us.drop (j+1)=rest:=by
   have:=congrArg List.tail hd;simpa using this
  have hj:j<us.length:=(ae.mp hu).1;obtain⟨jg,jy⟩:=(io j ρ2 H2 S2 st2 R2 g2).1 u hu;refine .inr #[jg,λσ3 H3=>∃env3 ρ3 S3,ig ρ1 H1 ρ3 H3/\cj (X.cc t) ρ3 H3 S3/\iL (X.cc t) ρ3 H3 env3 σ3/\F rest env3 S3,λσ3 H3 h3=>#[m-1,∅,∅,by rw[hr];exact h3],λyv H3 hy=>?_];obtain⟨st3,R3,ry⟩:=jy yv H3 hy;have q3:=q2.later st3;refine hr0 (DU:=DU) (k:=F rest) (D:=#[_,_,_,_]) (he2.later R2 st3) R3 ry w2 ?_ λσ' H' h=>h
  exact#[λenv' S' σ' H' ρ' h b R' e=>#[env',ρ',S',(st2.trans st3).trans b,R',e,h],q3.rt,q3.ex]
theorem LD(G:fO t T Γ k I X)(K:Tk X E)(hc:I.calm=true)(h:dz x I.N=some i)(hl:tj (I.names.lookup x)=true)(hs:∀env v,foldedSetIterable it env v=pure v)
  (hi:PI X (.Name x px) it (λσ H R=>zL (X.cc t) Γ y (E σ) σ H R)) (hb:sV X b (λD σ H=>H8 (X.cc t) Γ z E D σ H)):PS X (.For (.Name x px) it b [] pos) (λD σ H=>tS (X.cc t) Γ (.i9 (.name i) y z) E D σ H):=
 Ic (tt:=.name i) G K hc hs hi (qm (i:=i) G.g.nd (by rw[G.g.slots];exact dI h) (rM hl G.g.names) (.inl (G.st x))) hb
  λhe R ru w q hq=>hq _ _ #[_,_,_,_,he.set ru i,R,w,q]
theorem LF(G:fO t T Γ k I X)(K:Tk X E)(hc:I.calm=true)(h:dz x I.N=some i)(hl:tj (I.names.lookup x)=true)(h2:dz x2 I.N=some j)(hl2:tj (I.names.lookup x2)=true)(hs:∀env v,foldedSetIterable it env v=pure v)
  (hi:PI X (.Tuple [.Name x px,.Name x2 px2] kk pt) it (λσ H R=>zL (X.cc t) Γ y (E σ) σ H R)) (hb:sV X b (λD σ H=>H8 (X.cc t) Γ z E D σ H)):PS X (.For (.Tuple [.Name x px,.Name x2 px2] kk pt) it b [] pos) (λD σ H=>tS (X.cc t) Γ (.i9 (.pair i j) y z) E D σ H):=by
 have p1:PG X (.Name x px) (wL i):=qm (i:=i) G.g.nd (by rw[G.g.slots];exact dI h) (rM hl G.g.names) (.inl (G.st x));have p2:PG X (.Name x2 px2) (wL j):=qm (i:=j) G.g.nd (by rw[G.g.slots];exact dI h2) (rM hl2 G.g.names) (.inl (G.st x2));refine Ic (tt:=.pair i j) G K hc hs hi (Ge (n:=2) (G.g.calm hc).1 (qo p1 (qo p2 C3 rfl) rfl) rfl rfl) hb ?_;intro ρ H S env σ u v DU D Q kk he R ru w q hq;obtain⟨a,b',e1,w⟩:=PL.Dk.mp (show PL.MK _ _ from w);subst e1;obtain⟨ad,vs,ev,hs',rs⟩:=dB.mp ru;subst ev;unfold aU at rs;obtain⟨v1,r1,rfl,k1,k2⟩:=rs;unfold aU at k2;obtain⟨v2,r2,rfl,k3,k4⟩:=k2;unfold aU at k4;subst k4;exact#[ad,[v1,v2],rfl,.inl (.inl hs'),rfl,v1,[v2],rfl,v2,[],rfl,rfl,hq _ _ #[_,_,_,_,(he.set k1 i).set k3 j,R,w,q]]
end
open PL (U SO bJ Xn KU KX bY)
section
variable{t:wb}{T:Tab}{Γ:bY}{k n:Nat}{I:Inf}{X:Cx}{E:St->XK}
theorem pW.oy(h:pW (X.at_ pZ E) [] H b):pW X pZ H b:=
 #[h.1,h.2.1,h.2.2.1,h.2.2.2.1,h.2.2.2.2.1,λp hp=>h.2.2.2.2.2 p (by simpa using hp)]
theorem Ie(K:Tk X E)(h:∀pZ E,PI (X.at_ pZ E) tg it (λσ H R=>zL (X.cc t) Γ y (E σ) σ H R)):PI X tg it (λσ H R=>zL (X.cc t) Γ y (E σ) σ H R):=by
 intro pZ s σ H R J z;have tk:∀e s,RZ X pZ E e s->X.xe e s:=λe s #[σ',h]=>K.tk _ _ _ _ h
 refine bL (h pZ E [] s σ H R J.at_ z) (λv s1 q=>bL q (λitv s2 q2=>?_) tk) tk;obtain⟨ita,fp,tn,Jt,H',e,I',tu,t0,hf,hr⟩:=q2;exact#[ita,fp,tn,Jt,H',e,I'.oy,tu,t0,λb hb=>(hf b hb).oy,hr]
theorem Co(G:fO t T Γ k I X)(K:Tk X E)(hc:I.calm=true)(ht:K0 tg=some x)(hb:uT I sc x=true)(hci:(ie I sc).mapM (λy=>dz y I.N)=some ci)
  (hs:∀env v,foldedSetIterable iter env v=pure v) (hi:∀pZ E,PI (X.at_ pZ E) tg iter (λσ H R=>zL (X.cc t) Γ it (E σ) σ H R))
  (hif:∀(X':Cx),Good t T Γ k #[qC I sc.names,x++ie I sc,true] X'->X'.cc t=X.cc t->(∀e s,X'.xe e s↔False)->Kr X' ifs (λσ H Q=>tT (X.cc t) Γ tc (λ_ _ _=>False) σ H Q))
  (he:∀(X':Cx),Good t T Γ k #[qC I sc.names,x++ie I sc,true] X'->X'.cc t=X.cc t->eI X' elt (tE (X.cc t) Γ e))
  (hy:dz y I.N=some i) (hk:I.names.lookup y=some .local) (hsw:iJ (.ListComp elt [#[tg,iter,ifs,0]] sc pos) (some (.Name y py)) spos.line X.env=pure true):
  PS X (.Assign [.Name y py] (.ListComp elt [#[tg,iter,ifs,0]] sc pos) spos) (λD σ H=>tS (X.cc t) Γ (.set i (.comp (x.length==2) e it tc ci)) E D σ H):=by
 have hn:(ie I sc).Nodup:=by
  unfold ie;have:=G.g.nd;rw[G.g.slots] at this;exact this.filter _
 have cp:=Dz G.g hci;refine(BX (X:=X) (i:=i) (wi:=λσ H R=>zL (X.cc t) Γ it (E σ) σ H R) (tc:=λσ H Q=>tT (X.cc t) Γ tc (λ_ _ _=>False) σ H Q) (te:=λσ H Q=>tE (X.cc t) Γ e (λ_ _ _=>False) σ H Q)
  (u7 G.g hb) cp hn (G.g.calm hc).1 (HY ht (u7 G.g hb) cp hn (G.g.calm hc).1) (Ie K hi) (λC s₀ H₀ ex=>hif _ (qI G.g hc hb cp hn) rfl λ_ _=>jP) (λC s₀ H₀ ex=>(he _ (qI G.g hc hb cp hn) rfl).no λ_ _=>jP) G.g.nd (by rw[G.g.slots];exact dI hy) (by rw[G.g.names];exact hk) hsw (hs _)).imp ?_
 intro D σ H z;exact xD (Cm z)
theorem Zp(K:Tk X E)(XC:oq X.K C bm)(kp:lT X.K (.ref C)=true)(hi:iC X.K (.ref C) "__init__"=some (some (.ref f)))(hf:isFn X.K (.ref f)=true)
  (F:iK X.prog X.w X.K X.mg X.base (pX X.prog X.w) k f fd ps sp) (hr:jz (k+1) X.A) (hg:Gl X x) (hm:X.mg x=some (.ref C)) (hb:Binds X.K fd ps []) (ha:Aw X (e::es) ta) (hps:ps.length<=1000)
  (hdb:(x==("__debug__":Str))=false) (he:noStar e=true) (hes:es.all noStar=true):
  PS X (.Raise (some (.Call (.Name x p) (e::es) [] cpos)) none pos) (λ_ σ H=>ta (E σ) σ H λvs H1=>∀a,H1 a=none ->
   sp (.ref a::vs) (upd H1 a (.xo a C none)) (λv H2=>v=.bK/\∃d,H2 a=some (.xo a C (some d))/\E σ (.ref C) (some d) (sC H2 a)) (E σ)):=by
 intro pZ s σ H D I h;obtain⟨nm,q,N,bs,sn,sub,ab,col,dd,k0,k1,k2,k3,k5,hC⟩:=XC.ob;rw[arm_exec_Raise]
 simp only[evalOpt,Option.map];refine aj (oa (Ac (C:=C) (nm:=nm) (q:=q) (N:=N) (bs:=bs) (bm:=bm) (sn:=sn) (sub:=sub) (ab:=ab) (col:=col) (dd:=dd) (k0:=k0) (k1:=k1) (k2:=k2) (k3:=k3) (k5:=k5) (newId:="ValueError.__new__") (XC.base I.kU) hr.hd ?_));refine aj (bL (Q:=λv s₁=>∃e dx,v=.ref e/\s₁.heap.get? C=some (kP nm q C N bs bm true sn sub ab col dd k0 k1 k2 k3 k5 "ValueError.__new__")/\vI s₁.heap e (.ref C) dx none/\X.xe (.ref e) s₁) ?_ (λv s3 h3=>aj (oa (aK h3))) λ_ _ x=>x);refine dy (mS I hg hm ?_ hdb);refine Bu (h₀:=X.base) I.ok.mod.QN kp (bL (ha cpos pZ s σ H _ (E σ) I h) (λus s1 h9=>?_) λ_ _ z=>K.tk _ _ _ _ z) (cJ he) (fN hes);obtain⟨vs,H1,I1,r,q1⟩:=h9;refine#[I1.kU,?_];obtain⟨hp,gg,d0,tk,os⟩:=s1;refine x_call (fI:=f) PySem.F.excBase_ValueError (XC.tail I1.kU) (I1.kU C _ hC) (vQ I1.kU hi) (λself=>bind_fn I1.kU self (beq_iff_eq.mp hf)) (λh' a hm' hs=>?_) ?_
 .obtain⟨t0,ta,tn,tt⟩:=hm'.there
  have xat:vI h' a (.ref C) none none:=#[_,_,ta,rfl]
  have I2:=I1.laid (a:=a) (o:=.xo a C none) (h':=h') (t':=tk) hm'.keeps hs (MF xat);have na:H1 a=none:=I1.dg.fresh hs;have hsp:=q1 a na;have hl:(aS a::us++[]).length=ps.length:=by
   have el:=F.len _ _ _ _ hsp;rw[bb,<-el,aQ,aQ,r.length]
  refine pR (mf (F.run _ X.stack _ _ #[aS a::us,[]] (aS a::us) (V.ref a::vs) _ (E σ) (hr.make C us []) (I2.NX.make C us []) (by
   have b:=hb #[h',gg,d0,tk,os] (aS a::us) I2.kU hl;rw[bb] at b;exact b) (.cons rfl r) hsp) λres s' hq=>?_)
  cases res with
  |error ex=>
   obtain⟨a',T',c',dx',H',e1,I',x',fr,q'⟩:=pX.inv I2 hq;exact K.tk pZ σ s' ex #[a',some T',c',dx',H',e1,I',x',fr,q']
  |ok fl=>
   cases fl with
   |next=>exact aJ hq
   |brk=>exact aJ hq
   |cont=>exact aJ hq
   |ret u=>
    obtain⟨v,H2,I3,rv,ev,d,hd,q2⟩:=I2.after hq;subst ev;refine#[rv,a,some d,rfl,I3.kU C _ hC,Dd I3.dg hd,?_];refine K.tk pZ σ s' _ #[a,none,.ref C,some d,sC H2 a,rfl,I3.RX hd,Dd I3.dg hd,λb m=>?_,q2];have e:b=a:=by simpa using m
    subst e;exact#[pY,(I1.RT hs).2]
 .have el:=r.length
  have hsp:=q1 hp.objs.size (I1.dg.fresh (ax _));have h2:=F.len _ _ _ _ hsp;rw[aQ,el] at h2;show([]++us).length<=sizeLine;rw[fW,jc]
  omega
theorem Ig(G:fO t T Γ k I X)(K:Tk X E)(hc:I.calm=true)(hg:I.gl (nm q)=true)(hq:q∈T.v5)(hd:(nm q==("__debug__":Str))=false)(h1:noStar e=true)(h2:es.all noStar=true)(hf:PL.cL q≠[])
  (ha:Aw X (e::es) (EY (X.cc t) Γ xs)):PS X (.Raise (some (.Call (.Name (nm q) p) (e::es) [] cpos)) none pos) (λD σ H=>tS (X.cc t) Γ (.raise q xs) E D σ H):=by
 obtain⟨C,f,fd,ps,hC,kp,hi,hfn,F,B,hps⟩:=(G.xi q hq hf).ex;obtain⟨C',hC',hmg⟩:=G.g.tab.Vw q hq;rw[hC] at hC';injection hC' with hC';subst hC'
 obtain⟨_,_,⟨bm,XC⟩,_⟩:=G.g.tab.exc q C hC;refine(Zp (k:=k) K XC kp hi hfn F (G.g.calm hc).2 (gD G.g hg) hmg B ha hps hd h1 h2).imp ?_;rintro D σ H ⟨env,ρ,S,DU,he,R,w,qq⟩;refine#[env,ρ,S,_,_,he,R,w,λus S1 vs H1 ρ1 w1 st1 R1 r1=>?_,qq.qx R he];intro a ha;obtain⟨hl,w2⟩:=w1;have hlv:vs.length=((PL.cL q).map nm).length:=by rw[ar,<-hl];exact r1.len.symm
 refine#[a,vs,rfl,hlv,bF,λd hd nd=>#[rfl,d,bF,?_]];have hd1:H1 d=none:=by rw[bw nd] at hd;exact hd
 have hH:sC (upd (upd (upd H1 a (.xo a C none)) d (.xf d (((PL.cL q).map nm).zip vs))) a (.xo a C (some d))) a=upd H1 d (.xf d (((PL.cL q).map nm).zip vs)):=by
  funext b
  unfold sC;by_cases z:b=a
  .subst z;rw[if_pos rfl,bw (dM nd),ha]
  .rw[if_neg z,bw z]
   by_cases z2:b=d
   .subst z2;rw[bF,bF]
   .rw[bw z2,bw z2,bw z]
 rw[hH]
 have st2:=ig.lay R1 hd1 (.xf d (((PL.cL q).map nm).zip vs));refine qq.ex env σ #[q,us] S1 _ ρ1 C d w2 (st1.trans st2) (R1.lay hd1 _) ((he.later R st1).later R1 st2) #[hC,_,bF,?_,?_]
 .exact Jm ∅
 .rw[Jn ∅];exact r1.mono R1 st2
theorem Zq{body suite:List Stmt}{b0:Stmt}{x n:Str}{np hpos pos:Pos}{C':Addr}{bm':List Value}{i:Nat}{tb:(St->XK)->TS}{th:TS}(fr:MX X)(hb:∀pZ E',sV (X.al pZ E') body (tb E'))(hs:∀a,sV (X.hand a) (b0::suite) th)
  (hN:X.N.Nodup) (hi:X.N[i]?=some n) (hk:X.env.scope.names.lookup n=some .local) (hg:Gl X x) (hm:X.mg x=some (.ref C')) (c':oq X.K C' bm') (hdb:(x==("__debug__":Str))=false):
  PS X (.Try body [.ExceptHandler (some (.Name x np)) (some n) (b0::suite) hpos] [] [] pos) (Wh X.K C' i tb th):=by
 intro pZ s σ H D I h;refine wpAny_Try_except (bL (hb pZ _ [] s σ H D I.al h) (λf s1 q=>?_) λex s1 q=>?_)
 .have q:=q.rL
  cases f with
  |next=>exact lR q
  |ret v=>exact q
  |brk=>exact q
  |cont=>exact q
 .refine bL q (λ_ s2 q2=>?_) λ_ _ z=>aJ z
  obtain⟨σ1,a,T2,c,dx,H1,rfl,I2,x2,fa2,fT2,C,bm,rfl,xc,has,k⟩:=q2;refine GO (s:=s2) x2 λh3 k3 x3=>?_
  have I3:Inv X pZ σ1 H1 {s2 with heap:=h3}:=I2.rA (k3.mono (λb z=>absurd z (by simp)) λ_ z=>z) (λb z=>by
   have e:b=T2:=by simpa using z
   subst e;exact fT2)
  refine wpAny_handleBy_cons (codeAny_handlers_test (mS (X:=X.hand a) (I3.hand a) hg hm ?_ hdb)) (by intro z;cases z);refine yI (s:={s2 with heap:=h3}) I3.kU xc c' x3 ?_;rw[has]
  refine codeAny_handlers_suite_as (GO (s:={s2 with heap:=h3}) x3 λh4 k4 x4=>?_);have I4:Inv X pZ σ1 H1 {s2 with heap:=h4}:=I3.rA (k4.mono (λb z=>absurd z (by simp)) λ_ z=>z) (λb z=>by
   have e:b=T2:=by simpa using z
   subst e;exact fT2)
  have I5:=I4.RY fa2 x4;refine mm (v:=.ref a) I5 hN hi (.inl hk) rfl (λs6 I6=>?_) (.inr hk);refine bL (hs a pZ s6 _ _ _ (I6.hand a) (k a fa2.1)) (λf s7 q7=>?_) λ_ _ z=>aJ z
  cases f with
  |next=>
   obtain⟨σ7,H7,I7,q7⟩:=q7;exact oO (I7.yJ I.ok) hN hi hk λs8 I8=>#[_,H7,I8,q7]
  |brk=>
   obtain⟨σ7,H7,I7,q7⟩:=q7;exact oO (I7.yJ I.ok) hN hi hk λs8 I8=>#[_,H7,I8,q7]
  |cont=>
   obtain⟨σ7,H7,I7,q7⟩:=q7;exact oO (I7.yJ I.ok) hN hi hk λs8 I8=>#[_,H7,I8,q7]
  |ret u=>
   obtain⟨v7,σ7,H7,I7,r7,q7⟩:=q7;exact oO (I7.yJ I.ok) hN hi hk λs8 I8=>#[v7,_,H7,I8,r7,q7]
theorem Pw{q:String}{y:Str}{i:Nat}{b h:List Stmt}{h0:Stmt}{np hpos pos:Pos}{xb xh:PL.dj}(G:fO t T Γ k I X)(hg:I.gl (nm q)=true)(hq:q∈T.v5)(hd:(nm q==("__debug__":Str))=false)(hy:dz y I.N=some i)(hk:I.names.lookup y=some .local)
  (hb:∀pZ E',sV (X.al pZ E') b (λD σ H=>H8 (X.cc t) Γ xb E' D σ H)) (hh:∀a,sV (X.hand a) (h0::h) (λD σ H=>H8 (X.cc t) Γ xh (λ_ _ _ _=>False) D σ H)):
  PS X (.Try b [.ExceptHandler (some (.Name (nm q) np)) (some y) (h0::h) hpos] [] [] pos) (λD σ H=>tS (X.cc t) Γ (.Oo xb q i xh) E D σ H):=by
 obtain⟨C',hC',hmg⟩:=G.g.tab.Vw q hq;obtain⟨_,_,⟨bm',XC'⟩,_⟩:=G.g.tab.exc q C' hC';refine(Zq (X:=X) (i:=i) G.fr hb hh G.g.nd (by rw[G.g.slots];exact dI hy) (by rw[G.g.names];exact hk) (gD G.g hg) hmg XC' hd).imp ?_;rintro D σ H ⟨env,ρ,S,DU,he,R,w,qq⟩;refine#[env,ρ,S,_,he,R,w,#[qq.nx,qq.rt,?_]];rintro env' σ' ⟨xc,xus⟩ S' H' ρ' C d ⟨hx,wh⟩ st R' he' ⟨hC,fs,hd',hn,hr⟩;obtain⟨_,_,⟨bm,XC⟩,_⟩:=G.g.tab.exc xc C hC;refine#[C,bm,rfl,XC,G.up xc C bm q C' hC hC' XC hx,λa ha=>?_];have st2:=ig.lay R' ha (.xc a (.ref C) (some d));have R2:=R'.lay ha (.xc a (.ref C) (some d));have hda:d≠a:=λz=>by rw[z,ha] at hd';cases hd'
 have re:Rep (X.cc t) ρ' (upd H' a (.xc a (.ref C) (some d))) (.exc xc xus) (.ref a):=by
  unfold Rep;exact#[a,d,C,fs,rfl,hC,bF,by rw[bw hda];exact hd',hn,hr.mono R' st2]
 refine#[_,ρ',S',_,(he'.later R' st2).set re i,R2,wh,#[λenv2 S2 σ2 H2 ρ2 h st3 R3 e3=>?_,?_,λ_ _ _ _ _ _ _ _ z=>aJ z]]
 .exact qq.nx _ _ _ _ _ h ((st.trans st2).trans st3) R3 (e3.del i)
 .exact qq.rt.later (st.trans st2)
end
open PL (U SO bJ Xn KU KX bY)
structure LG(t:wb)(T:Tab)(Γ:bY)(k n:Nat):Prop where
 fs:∀{I X st x E},fO t T Γ k I X->Tk X E->cS T n I st=some x->PS X st (λD σ H=>tS (X.cc t) Γ x E D σ H)
 LH:∀{I X st x E},fO t T Γ k I X->Tk X E->Jz T n I st=some x->sV X st (λD σ H=>H8 (X.cc t) Γ x E D σ H)
section
variable{t:wb}{T:Tab}{Γ:bY}{k n:Nat}{I:Inf}{X:Cx}{E:St->XK}
theorem fO.hand(G:fO t T Γ k I X)(a:Addr):fO t T Γ k {I with calm:=false} (X.hand a):=
 #[#[G.g.tab,G.g.JA,G.g.kind,G.g.names,G.g.slots,G.g.nd,λh=>by simp at h,G.g.units],#[G.fr.Ep,G.fr.Xf],G.st,G.xi,G.up]
theorem Px(IH:LG t T Γ k n)(G:fO t T Γ k I X)(K:Tk X E):∀{st:List Stmt}{x:PL.dj},Jz T (n+1) I st=some x->sV X st (λD σ H=>H8 (X.cc t) Γ x E D σ H)
 |[],x,h=>by
  rw[MR,K2] at h;injection h with h;subst h
  refine(JW (X:=X)).imp ?_;rintro D σ H ⟨env,ρ,S,DU,he,R,w,q⟩;exact q.nx _ _ _ _ _ w .refl R he
 |s::ss,x,h=>by
  rw[MR,K2] at h;simp only[aI,ao] at h;obtain⟨y,h1,ys,h2,h3⟩:=h;injection h3 with h3;subst h3
  refine(zY (X:=X) (IH.fs G K h1) (IH.LH G K h2)).imp ?_;rintro D σ H ⟨env,ρ,S,DU,he,R,w,q⟩;refine#[env,ρ,S,_,he,R,w,#[λenv' S' σ' H' ρ' h st R' e=>?_,q.rt,q.ex]];exact#[env',ρ',S',DU,e,R',h,q.later st]
theorem To(IH:LG t T Γ k n)(G:fO t T Γ k I X)(K:Tk X E){st:Stmt}{x:PL.Sm}(h:cS T (n+1) I st=some x):PS X st (λD σ H=>tS (X.cc t) Γ x E D σ H):=by
 have A:=y3 (t:=t) (T:=T) (Γ:=Γ) (k:=k) n;rw[W3] at h;cases st with(delta W0 at h;dsimp only at h)
 |Assign ts e pos=>
  split at h
  .rename_i tg
   cases tg with
   |Name x' px=>
    dsimp only at h;split at h
    .rename_i i hi
     split at h
     .rename_i hl
      obtain⟨y,h1,h2⟩:=ag.mp h;subst h2;by_cases nc:yW e=true
      .exact Pp G K hi hl (λenv=>Az nc) (A.fe G.g h1)
      .change cE T n I _=_ at h1
       cases n with
       |zero=>rw[SD] at h1;exact nn h1
       |succ n=>
        have A':=y3 (t:=t) (T:=T) (Γ:=Γ) (k:=k) n;cases e with
        |ListComp elt gs sc cpos=>
         obtain⟨tg,iter,ifs,xs,it,c,ee,ci,rfl,ht,hc,g1,g2,g3,g4,g5⟩:=uU h1;subst g5;have hi':=AD A' G.g ht g1;cases sw:(X.env.blockKind==.function&&X.env.kindOf x'==some .local&&px.line==cpos.line && !(sc.names.any λ(n,k)=>n==x'&&(k==.local||k==.cell))) with
         |true=>
          have hsw:iJ (.ListComp elt [#[tg,iter,ifs,0]] sc cpos) (some (.Name x' px)) pos.line X.env=pure true:=by
           show(pure _:Sem Bool)=pure true
           exact congrArg pure sw
          have hkl:I.names.lookup x'=some .local:=by
           simp only[af] at sw;have:=sw.1.1.2;unfold Env.kindOf at this;rw[G.g.names] at this;simpa using this
          refine Co G K hc.2 ht hc.1 g4 hi'.1 hi'.2 (λX' G' ec hx=>DB A' G' ec hx g2) (λX' G' ec=>?_) hi hkl hsw;have:=A'.fe G' g3;rw[ec] at this;exact this
         |false=>
          have hsw:iJ (.ListComp elt [#[tg,iter,ifs,0]] sc cpos) (some (.Name x' px)) pos.line X.env=pure false:=by
           show(pure _:Sem Bool)=pure false
           exact congrArg pure sw
          refine(Gf (X:=X) (i:=i) G.g.nd (by rw[G.g.slots];exact dI hi) (rM hl G.g.names) (FL K (A.fe G.g h1)) hsw (.inl (G.st x'))).imp ?_;intro D σ H z;exact Cm z
        |SetComp=>rw[K1] at h1;unfold QR at h1;exact nn h1
        |DictComp=>rw[K1] at h1;unfold QR at h1;exact nn h1
        |_=>exact absurd rfl nc
     .exact nn h
    .exact nn h
   |Attribute o f px=>
    simp only[aI,ao] at h;obtain⟨q,h1,a,h2,b,h3,h4⟩:=h;injection h4 with h4;subst h4
    obtain⟨hm,rfl⟩:=ij h1;exact LA G K hm (A.fe G.g h2) (A.fe G.g h3)
   |_=>exact nn h
  .exact nn h
 |AugAssign tg op e pos=>
  cases tg with
  |Name x' px=>
   dsimp only at h;split at h
   .rename_i i hi
    split at h
    .rename_i hl
     simp only[aI,ao] at h;obtain⟨p,h1,y,h2,h3⟩:=h;injection h3 with h3;subst h3
     exact Pt G K hi hl h1 (A.fe G.g h2)
    .exact nn h
   .exact nn h
  |Attribute o f px=>
   simp only[aI,ao] at h;obtain⟨q,h1,p,h2,a,h3,b,h4,h5⟩:=h;injection h5 with h5;subst h5
   obtain⟨hm,rfl⟩:=ij h1;exact LB G K hm h2 (A.fe G.g h3) (A.fe G.g h4)
  |Subscript o i px=>
   dsimp only at h;split at h
   .rename_i hn
    simp only[aI,ao] at h;obtain⟨p,h1,a,h2,b,h3,c,h4,h5⟩:=h;injection h5 with h5;subst h5
    exact LC G K hn h1 (A.fe G.g h2) (A.fe G.g h3) (A.fe G.g h4)
   .exact nn h
  |_=>exact nn h
 |Expr e pos=>
  split at h
  .rename_i hc
   obtain⟨y,h1,h2⟩:=ag.mp h;subst h2;exact Tj G K hc (A.fe G.g h1)
  .exact nn h
 |Return e pos=>
  cases e with
  |none=>exact nn h
  |some e=>
   obtain⟨y,h1,h2⟩:=ag.mp h;subst h2;exact Pq G K (A.fe G.g h1)
 |If c a b pos=>
  simp only[aI,ao] at h;obtain⟨c,h1,a,h2,b,h3,h4⟩:=h;injection h4 with h4;subst h4
  exact Pr G K (A.ft G.g h1) (IH.LH G K h2) (IH.LH G K h3)
 |While c b el pos=>
  split at h
  .rename_i he
   have he:el=[]:=by simpa using he
   subst he;simp only[aI,ao] at h;obtain⟨c,h1,a,h2,h3⟩:=h;injection h3 with h3;subst h3
   exact Pu K (A.ft G.g h1) (IH.LH G K h2)
  .exact nn h
 |For tg it b el pos=>
  split at h
  .exact nn h
  .rename_i hc
   simp only[gv,F6,af] at hc;have he:el=[]:=by simpa using hc.2
   subst he;split at h
   .rename_i xs ht
    rcases B8 ht with⟨x,p,rfl,rfl⟩|⟨x,y,p,p',kd,q,rfl,rfl⟩
    .dsimp only at h
     split at h
     .rename_i i hi
      split at h
      .rename_i hl
       simp only[aI,ao] at h;obtain⟨it,h1,a,h2,h3⟩:=h;injection h3 with h3;subst h3
       exact LD G K hc.1 hi hl (DA h1) (Ie K (A.fi G.g h1)) (IH.LH G K h2)
      .exact nn h
     .exact nn h
    .dsimp only at h
     split at h
     .rename_i i hi
      split at h
      .rename_i j hj
       split at h
       .rename_i hl
        rw[af] at hl;simp only[aI,ao] at h;obtain⟨it,h1,a,h2,h3⟩:=h;injection h3 with h3;subst h3
        exact LF G K hc.1 hi hl.1 hj hl.2 (MV h1) (Ie K (A.fn G.g h1)) (IH.LH G K h2)
       .exact nn h
      .exact nn h
     .exact nn h
   .exact nn h
 |Raise ex ca pos=>
  cases ca with
  |some cz=>
   injection h with h;subst h
   rintro pZ s σ H D J ⟨env,ρ,S,DU,he,R,w,q⟩;exact aJ w
  |none=>
   cases ex with
   |none=>exact nn h
   |some cc=>
    cases cc with
    |Call f args kws cp=>
     cases f with
     |Name xx p1=>
      dsimp only at h;split at h
      .rename_i hc
       simp only[af] at hc;obtain⟨⟨⟨⟨hk,hg⟩,hd⟩,hcm⟩,hne⟩:=hc;have hk:kws=[]:=by simpa using hk
       subst hk;simp only[aI,ao] at h;obtain⟨q,h1,as,h2,h3⟩:=h;split at h3
       .exact nn h3
       .rename_i hfl
        injection h3 with h3;subst h3
        obtain⟨hm,rfl⟩:=ij h1;cases args with
        |nil=>simp at hne
        |cons a as'=>
         have st:=lI h2;rw[bj,af] at st;exact Ig G K hcm hg hm (gN hd) st.1 st.2 (λz=>by rw[z] at hfl;simp at hfl) (A.QZ G.g h2)
      .exact nn h
     |_=>exact nn h
    |_=>exact nn h
 |Try b hs el fi pos=>
  split at h
  .rename_i hd
   obtain⟨ty,ny,bd,hp⟩:=hd;cases ty with
   |none=>exact nn h
   |some cc=>
    cases cc with
    |Name x p=>
     cases ny with
     |none=>exact nn h
     |some y=>
      cases bd with
      |nil=>exact nn h
      |cons h0 hh0=>
       dsimp only at h;split at h
       .rename_i hc
        simp only[af] at hc;obtain⟨⟨⟨⟨⟨he,hf⟩,hg⟩,hd⟩,hcm⟩,hk⟩:=hc;have he:el=[]:=by simpa using he
        have hf:fi=[]:=by simpa using hf
        subst he;subst hf;split at h
        .rename_i i hi
         simp only[aI,ao] at h;obtain⟨q,h1,b,h2,hh,h3,h4⟩:=h;injection h4 with h4;subst h4
         obtain⟨hm,rfl⟩:=ij h1;exact Pw G hg hm (gN hd) hi (by simpa using hk) (λpZ E'=>IH.LH G.al (Tf G.fr) h2) (λa=>IH.LH (G.hand a) (Th rfl) h3)
        .exact nn h
       .exact nn h
    |_=>exact nn h
  .exact nn h
 |_=>exact nn h
theorem E8:LG t T Γ k 0:=by
 constructor
 .intro I X st x E _ _ h;rw[W2] at h;exact nn h
 .intro I X st x E _ _ h;rw[SK] at h;exact nn h
theorem AE:∀n,LG t T Γ k n
 |0=>E8
 |n+1=>
  have IH:=AE n
  #[λG K h=>To IH G K h,λG K h=>Px IH G K h]
end
open PL (U SO bJ Xn KU KX bY)
structure Base(c:Ctx)(T:Tab)(kx:Nat):Prop where
 tab:Ay c T
 xi:∀x∈T.v5,PL.cL x≠[]->pM c kx x
 up:∀x C bm y D,c.exc x=some C->c.exc y=some D->oq c.K C bm->(PL.mC x).contains y=true->(aS C::bm).contains (.ref D)=true
theorem pM.mono(h:pM c j x)(l:j<=k):pM c k x:=by
 obtain⟨C,f,fd,ps,h1,h2,h3,h4,F,B,hp⟩:=h.ex;exact#[C,f,fd,ps,h1,h2,h3,h4,F.mono l,B,hp]
theorem MY{c:Ctx}{T:Tab}{Γ:bY}{k kx n m:Nat}{x qual:Str}{st:Stmt}{f:Addr}{fd:dS}{N ps:List Str}{sp:PL.Spec}{b:PL.dj}(F:BQ c.K x qual st f fd)(S:fX N ps (bc st))
  (B:Base c T kx) (hkx:kx<=k) (G:fZ c T Γ k) (hc:Jz T n #[(bc st).names,N,true] (dN st)=some b) (hk:PL.Keeps Γ b m sp) (hm:N.length=ps.length+m) (hl:∀us S Q E,sp us S Q E->us.length=ps.length):
  iK c.P c.w c.K c.mg c.base (pX c.P c.w) (k+2) f fd ps (lift c sp):=by
 refine BQ.Wf (k:=k+1) F S (λvs H Q E h=>?_) (λcdv A outer s H vs Q E hr h=>?_)
 .obtain⟨us,ρ,S0,QU,EU,r,R,w,q,qx⟩:=h
  rw[<-r.len];exact hl _ _ _ _ w
 obtain⟨us,ρ,S0,QU,EU,r,R,w,q,qx⟩:=h
 let t:wb:=#[c.cls,c.exc]
 let X:=z6 (pX c.P c.w) c.P c.w c.K c.mg c.base N qual (bc st) f cdv A outer s H E
 have G0:Good t T Γ k #[(bc st).names,N,true] X:=#[B.tab,G,S.kind,rfl,rfl,S.nd,λ_=>#[rfl,hr],by have:=hr.un;show(A.deeper (pQ qual (bc st) s.heap.objs.size f cdv)).units+200<kg;omega]
 have GS:fO t T Γ k #[(bc st).names,N,true] X:=#[G0,#[rfl,rfl],λ_=>rfl,λx hx hf=>(B.xi x hx hf).mono hkx,B.up]
 have K:Tk X (λ_=>E):=#[λpZ σ s' e z=>by
  obtain⟨a,tb,cl,dx,H',rfl,I,x,fr,q⟩:=z;exact GQ pZ σ H' s' a tb cl dx I x fr q,PassesOwn.leaving]
 refine#[_,(AE n).LH GS K hc,?_];have hlen:us.length=ps.length:=hl _ _ _ _ w;have hvl:vs.length=us.length:=r.len.symm;refine#[us.map some++dq m none,ρ,S0,#[λ_ S1=>QU .bK S1,QU,λ_=>EU],#[?_,λi u e=>?_],R,hk us S0 QU EU w,#[λenv' S' σ' H' ρ' h st R' e=>q _ _ _ _ _ h st R' (eh.mpr rfl),q,λenv' σ' x S' H' ρ' C d h st R' e z=>qx _ _ _ _ _ _ h st R' z]]
 .unfold start
  simp
  omega
 .unfold start
  by_cases z:i<us.length
  .rw[aq (by simpa using z),au] at e
   obtain⟨u',e1,e2⟩:=ag.mp e;injection e2 with e2;subst e2
   obtain⟨v,e3,r3⟩:=r.get e1;exact#[v,by rw[aq (by rw[ar,hvl];exact z),au,e3];rfl,r3]
  .rw[ay (by simpa using JI z),zR] at e
   split at e
   .cases e
   .cases e
section
variable{P:bC}{w:bZ}{K:Frag}{mg:Str->Option Value}{base:Heap}{qual:Str}{st:Stmt}{f C:Addr}{fd:dS}{s a1 a2 f1 f2:Str}{p1 p2 p3 p4 p5 p6 p7 p8:Pos}
theorem Ih(F:BQ K "__init__" qual st f fd)(S:fX [s,a1] [s,a1] (bc st))(hb:dN st=[.Assign [.Attribute (.Name s p1) f1 p2] (.Name a1 p3) p4])(xg:XGet K C)(n1:fD K C f1)
  (v0:Ju (bc st) s) (v1:Ju (bc st) a1) (d0:(s==("__debug__":Str))=false) (d1:(a1==("__debug__":Str))=false) (e0:(s==("__classdict__":Str))=false) (e1:(a1==("__classdict__":Str))=false):
  iK P w K mg base (pX P w) 1 f fd [s,a1] (y4 C [f1]):=by
 refine BQ.Wf (k:=0) F S (λvs H Q E h=>?_) (λcdv A outer sh H vs Q E hr h=>?_)
 .obtain⟨a,ys,rfl,hl,_⟩:=h
  simp at hl ⊢;exact hl
 obtain⟨a,ys,rfl,hl,ha,q⟩:=h;obtain⟨y1,rfl⟩:∃y1,ys=[y1]:=i5.mp (by simpa using hl);rw[hb]
 refine#[_,C2 (yH (pU (i:=0) rfl v0 d0 e0) (pU (i:=1) rfl v1 d1 e1) rfl),?_];refine#[y1,rfl,.ref a,rfl,a,C,rfl,xg,n1,.inl #[ha,λd hd nd=>?_]];exact q d hd nd
theorem Tp(F:BQ K "__init__" qual st f fd)(S:fX [s,a1,a2] [s,a1,a2] (bc st))(hb:dN st=[.Assign [.Attribute (.Name s p1) f1 p2] (.Name a1 p3) p4,.Assign [.Attribute (.Name s p5) f2 p6] (.Name a2 p7) p8])(xg:XGet K C)(n1:fD K C f1)(n2:fD K C f2)(ne:f1≠f2)
  (v0:Ju (bc st) s) (v1:Ju (bc st) a1) (v2:Ju (bc st) a2) (d0:(s==("__debug__":Str))=false) (d1:(a1==("__debug__":Str))=false) (d2:(a2==("__debug__":Str))=false) (e0:(s==("__classdict__":Str))=false) (e1:(a1==("__classdict__":Str))=false) (e2:(a2==("__classdict__":Str))=false):
  iK P w K mg base (pX P w) 1 f fd [s,a1,a2] (y4 C [f1,f2]):=by
 refine BQ.Wf (k:=0) F S (λvs H Q E h=>?_) (λcdv A outer sh H vs Q E hr h=>?_)
 .obtain⟨a,ys,rfl,hl,_⟩:=h
  simp at hl ⊢;exact hl
 obtain⟨a,ys,rfl,hl,ha,q⟩:=h;obtain⟨y1,y2,rfl⟩:∃y1 y2,ys=[y1,y2]:=R9 hl;rw[hb]
 refine#[_,zY (yH (pU (i:=0) rfl v0 d0 e0) (pU (i:=1) rfl v1 d1 e1) rfl) (C2 (yH (pU (i:=0) rfl v0 d0 e0) (pU (i:=2) rfl v2 d2 e2) rfl)),?_];refine#[y1,rfl,.ref a,rfl,a,C,rfl,xg,n1,.inl #[ha,λd hd nd=>?_]];refine#[y2,rfl,.ref a,rfl,a,C,rfl,xg,n2,.inr #[d,[(f1,y1)],bF,by rw[bw nd];exact bF,by show 1<1000;decide,?_]];have e:=q d hd nd;have hh:upd (upd (upd H d (.xf d [(f1,y1)])) a (.xo a C (some d))) d (.xf d (gx f2 y2 [(f1,y1)]))=upd (upd H d (.xf d ([f1,f2].zip [y1,y2]))) a (.xo a C (some d)):=by
  have ep:gx f2 y2 [(f1,y1)]=[f1,f2].zip [y1,y2]:=by
   unfold gx gx;rw[if_neg ne];rfl
  rw[ep]
  funext b
  by_cases z:b=d
  .subst z;rw[bF,bw nd,bF]
  .rw[bw z]
   by_cases z2:b=a
   .subst z2;rw[bF,bF]
   .rw[bw z2,bw z2,bw z,bw z]
 show Q .bK _
 rw[hh]
 exact e
end
noncomputable def Cp:PL.Spec:=λus _ Q _=>∃ns:List Int,us=[.pF ns]/\ns.length<=63/\∀S',Q (.bl true) S'
noncomputable def y6(K:Frag):Sp:=λvs H Q _=>∃(a:Addr)(ns:List Int),vs=[.ref a]/\ns.length<=63/\xr K H a (ns.map .int)/\∀H',Q (.bl true) H'
theorem LI(F:iK c.P c.w c.K c.mg c.base (pX c.P c.w) k f fd ps (lift c Cp)):iK c.P c.w c.K c.mg c.base (pX c.P c.w) k f fd ps (y6 c.K):=by
 refine F.imp λvs H Q E h=>?_
 obtain⟨a,ns,rfl,hl,hf,q⟩:=h;refine#[[.pF ns],[],[],λu _=>u=.bl true,λ_ _=>False,aU.cons (qE.mpr #[a,rfl,hf]) aU.nil,#[rfl,List.nodup_nil,λn a o h=>by simp at h],#[ns,rfl,hl,λ_=>rfl],λu S' v H' ρ' e _ _ r=>?_,λ_ _ _ _ _ _ z=>aJ z];subst e;rw[dA.mp r]
 exact q H'
theorem Ii{K:Frag}{H:Hp}{a:Addr}{xs:List V}(o:Ko H)(h:gH K H a xs):xr K H a xs:=by
 rcases h with(h|⟨ob,h⟩)|h
 .rcases o a with z|⟨ob,ys,z⟩
  .rw[h] at z;cases z
  .rw[h] at z;cases z
 .exact .inl #[ob,h]
 .exact .inr h
theorem Py(h:pX P w [] H s (λ_ _ _=>False) e s'):False:=by
 obtain⟨a,T,c,dx,H',_,_,_,_,_,_,_,_,z⟩:=h;exact z
end L2
section
namespace PL
theorem Vy:fL "text" [("text",a),("at",b),("depth",c)]=some a:=rfl
theorem YD:fL "at" [("text",a),("at",b),("depth",c)]=some b:=rfl
theorem Tq:fL "depth" [("text",a),("at",b),("depth",c)]=some c:=rfl
end PL
open PL
def wN0:="Yt Yu Zn Yv Vq WJ WK w_var w_lit Yi Yj w_not w_and w_or Yk Yl OI w_mk WB Sv Ym w_fld Zj Zk Yn Yo OJ Yp MN Ho Zl Zm Sw Yq WC Sx WD WG Yr Hj Hk Oy Wn Oz Wo Wq Vl Wr XS MM XT XU XW XX XY XZ X0 X1 Y4 Y5 Y6 Y7 KQ KR OE OF OG Ws KS Wt OH Y8 Sk Y9 Zc Zd Ze Zf Zg Si Sj Sn Dq X2 X3 yM X5 X6 X7 So X8 X9 Ya Yb Vm Wu Vn Yc Sq Dh Af xn rq wX Wy Vp Sr Ss Su ZC Zh Zi bind_f Wz Y1 Y2 Y3 true_and aP oQ aH aZ Ha KD Dj Vh List.getElem?_cons_zero List.getElem?_cons_succ List.map_cons List.map_nil List.replicate_zero List.replicate_succ List.cons_append List.nil_append List.append_nil List.set_cons_zero List.set_cons_succ lg Option.join_some"
local macro_rules | `(tactic| walk_at "pl") => do let a:=((wN0++" Ye WA Yf Yg Yh d8 X4 Vy YD Tq").splitOn " ").toArray.map fun s=>Lean.mkIdent s.toName;`(tactic| simp only [$[$a:ident],*])
namespace PL
noncomputable def lW(x rest:List Nat)(d:Nat):SO:=.ins "Reader" [("text",.str x),("at",.int (x.length-rest.length:Nat)),("depth",.int d)]
noncomputable def kr(r:Nat)(o:SO)(S S':bJ):Prop:=S.length<=S'.length/\S'[r]?=some o/\∀n,n<S.length->n≠r->S'[n]?=S[n]?
noncomputable def Old(r:Nat)(S S':bJ):Prop:=S.length<=S'.length/\∀n,n<S.length->n≠r->S'[n]?=S[n]?
noncomputable def Ext(S S':bJ):Prop:=S.length<=S'.length/\∀n,n<S.length->S'[n]?=S[n]?
noncomputable def cv(l rest:List Nat):Bool:=match rest with|[]=>false|c::_=>l.contains c
noncomputable def Cq:Spec:=λus S Q _=>∃r x rest d l,us=[.loc r,.str l]/\S[r]?=some (lW x rest d)/\rest<:+x/\x.length<=1000/\Q (.bl (cv l rest)) S
section
variable{x rest:List Nat}
theorem Ij(h:rest<:+x)(k:Nat):x[x.length-rest.length+k]?=rest[k]?:=by
 obtain⟨p,rfl⟩:=h;rw[aB,Nat.add_sub_cancel,ay ∅]
 congr 1
 omega
theorem MZ(h:rest<:+x):((x.length-rest.length:Nat):Int)<x.length↔rest≠[]:=by
 obtain⟨p,rfl⟩:=h;cases rest with
 |nil=>simp
 |cons c r=>simp;omega
end
section
variable{S:bJ}{r:Nat}{x rest:List Nat}{d:Nat}{q:U->Prop}
theorem zc(h:S[r]?=some (lW x rest d)):jB (.loc r) "text" S q=q (.str x):=by rw[d8,h];rfl
theorem xE(h:S[r]?=some (lW x rest d)):jB (.loc r) "at" S q=q (.int (x.length-rest.length:Nat)):=by rw[d8,h];rfl
theorem Ik(h:S[r]?=some (lW x rest d)):jB (.loc r) "depth" S q=q (.int d):=by rw[d8,h];rfl
theorem bX{Q:String->List (String×U)->Prop}(h:S[r]?=some (lW x rest d)):mz S[r]? Q=Q "Reader" [("text",.str x),("at",.int (x.length-rest.length:Nat)),("depth",.int d)]:=by rw[h];rfl
end
theorem LJ(Γ:bY):Keeps Γ jf 0 Cq:=by
 rintro us S Q E ⟨r,x,rest,d,l,rfl,hS,hx,hl,q⟩;unfold jf;walk_at "pl";simp only[<-d8,zc hS,xE hS];walk_at "pl";refine#[∅,?_];rw[ir]
 have h0:=Ij hx 0;rw[Bv] at h0;rw[h0]
 simp only[decide_eq_true_eq,MZ hx];cases rest with
 |nil=>simpa[cv] using q
 |cons c t=>simp[cv] at q ⊢;exact#[∅,q]
abbrev PR(α:Type):=Except (List Nat) (α×List Nat)
noncomputable def dD(l rest:List Nat):PR Nat:=match rest with|[]=>.error []|c::r=>if l.contains c then .ok (c,r) else .error (c::r)
noncomputable def mapR{α β:Type}(f:α->β):PR α->PR β|.ok (a,r)=>.ok (f a,r)|.error r=>.error r
noncomputable def bindR{α β:Type}(p:PR α)(f:α->List Nat->PR β):PR β:=match p with|.ok (a,r)=>f a r|.error r=>.error r
noncomputable def nP(c:Nat):U:=.str [c]
noncomputable def dE(r:Nat)(x:List Nat)(d:Nat)(S:bJ)(Q:KU)(E:KX):PR U->Prop
 |.ok (u,r')=>∀S',kr r (lW x r' d) S S'->Q u S'
 |.error r'=>∀S',Old r S S'->E #["BadRule",[.int 0,.int (x.length-r'.length:Nat)]] S'
noncomputable def zM(args:List U)(p:List Nat->PR U)(d:Nat):Spec:=λus S Q E=>∃r x rest,us=.loc r::args/\S[r]?=some (lW x rest d)/\rest<:+x/\x.length<=1000/\dE r x d S Q E (p rest)
noncomputable def Il:Spec:=λus S Q E=>∃l d,zM [.str l] (λrest=>mapR nP (dD l rest)) d us S Q E
section
variable{S S1 S2:bJ}{r:Nat}{o o':SO}
theorem bG{α:Type}{l:List α}{n:Nat}{a:α}(h:l[n]?=some a):n<l.length:=(ae.mp h).1
theorem kr.set(h:S[r]?=some o):kr r o' S (S.set r o'):=by
 refine#[by simp,by simp[i6,bG h],λn hn ne=>?_];rw[av (dM ne)]
theorem kr.refl(h:S[r]?=some o):kr r o S S:=#[ax _,h,λ_ _ _=>rfl]
theorem Old.refl:Old r S S:=#[ax _,λ_ _ _=>rfl]
theorem Old.trans(a:Old r S S1)(b:Old r S1 S2):Old r S S2:=#[aT a.1 b.1,λn h ne=>(b.2 n (aM h a.1) ne).trans (a.2 n h ne)]
theorem kr.old(a:kr r o S S1):Old r S S1:=#[a.1,a.2.2]
theorem kr.trans(a:kr r o S S1)(b:kr r o' S1 S2):kr r o' S S2:=#[aT a.1 b.1,b.2.1,(a.old.trans b.old).2]
theorem Ext.old(a:Ext S S1):Old r S S1:=#[a.1,λn h _=>a.2 n h]
theorem Ext.refl:Ext S S:=#[ax _,λ_ _=>rfl]
theorem Ext.trans(a:Ext S S1)(b:Ext S1 S2):Ext S S2:=#[aT a.1 b.1,λn h=>(b.2 n (aM h a.1)).trans (a.2 n h)]
theorem Ext.get(a:Ext S S1)(h:S[r]?=some o):S1[r]?=some o:=(a.2 r (bG h)).trans h
theorem Ext.chg(a:Ext S S1)(h:S[r]?=some o):kr r o S S1:=#[a.1,a.get h,λn h _=>a.2 n h]
theorem Ext.app(l:List SO):Ext S (S++l):=#[by simp,λn h=>aq h]
theorem gs(h:S[r]?=some o):(S.set r o')[r]?=some o':=(kr.set h).2.1
end
theorem sub_len(h:(c::t)<:+x):((x.length-(c::t).length:Nat):Int)+1=(x.length-t.length:Nat):=by
 obtain⟨p,rfl⟩:=h;simp
 omega
theorem Pz{x t:List Nat}{z v:U}{d:Nat}(h:z=.int (x.length-t.length:Nat)):SO.ins "Reader" (d7 "at" z [("text",.str x),("at",v),("depth",.int d)])=lW x t d:=by subst h;rfl
theorem zd{x t:List Nat}{c:Nat}(h:(c::t)<:+x):t<:+x:=mR (cR c t) h
theorem LK(Γ:bY)(h1:Γ "Reader.sees"=Cq):Keeps Γ iu 0 Il:=by
 rintro us S Q E ⟨l,d,r,x,rest,rfl,hS,hx,hl,q⟩;unfold iu;walk_at "pl";simp only[bX hS,h1];walk_at "pl";refine#[rfl,r,x,rest,d,l,rfl,hS,hx,hl,?_];walk_at "pl";simp only[bX hS];walk_at "pl";cases rest with
 |nil=>exact#[rfl,q S .refl]
 |cons c t=>
  by_cases e:l.contains c=true
  .simp only[dD,e,if_true,mapR,dE] at q
   simp only[cv,e];have p:=Pz (v:=.int ((x.length-(c::t).length:Nat):Int)) (d:=d) (congrArg U.int (sub_len hx));have g:=gs (o':=lW x t d) hS;simp only[bO,ah,if_false,Hj];simp only[bX hS,p];simp only[<-d8,zc g,xE g,Oz,Sn];refine#[trivial,by simp,∅,?_];have e2:((x.length-t.length:Nat):Int)-1=(x.length-(c::t).length:Nat):=by have:=sub_len hx;omega
   have h0:=Ij hx 0;rw[Bv] at h0;rw[e2,ir,h0]
   exact q _ (kr.set hS)
  .simp only[dD,e,mapR,dE] at q
   simp only[cv,e];exact#[rfl,q S .refl]
noncomputable def Suf{α:Type}(rest:List Nat):PR α->Prop
 |.ok (_,r)=>r<:+rest
 |.error r=>r<:+rest
noncomputable def lX{α:Type}(rest:List Nat):PR α->Prop
 |.ok (_,r)=>r<:+rest/\r.length<rest.length
 |.error r=>r<:+rest
theorem lX.PB{α:Type}{rest:List Nat}{p:PR α}(h:lX rest p):Suf rest p:=by
 cases p with
 |ok v=>exact h.1
 |error r=>exact h
theorem lX.bind{α β:Type}{rest:List Nat}{p:PR α}{f:α->List Nat->PR β}(h:lX rest p)(k:∀a r,p=.ok (a,r)->Suf r (f a r)):lX rest (bindR p f):=by
 cases p with
 |error r=>exact h
 |ok v=>
  obtain⟨a,r⟩:=v;have:=k a r rfl;unfold bindR;dsimp only;cases q:f a r with
  |error r'=>rw[q] at this;exact this.trans h.1
  |ok w=>
   obtain⟨b,r'⟩:=w;rw[q] at this;exact#[this.trans h.1,Nat.lt_of_le_of_lt this.length_le h.2]
theorem Suf.bind{α β:Type}{rest:List Nat}{p:PR α}{f:α->List Nat->PR β}(h:Suf rest p)(k:∀a r,p=.ok (a,r)->Suf r (f a r)):Suf rest (bindR p f):=by
 cases p with
 |error r=>exact h
 |ok v=>
  obtain⟨a,r⟩:=v;have:=k a r rfl;unfold bindR;dsimp only;cases q:f a r with
  |error r'=>rw[q] at this;exact this.trans h
  |ok w=>
   obtain⟨b,r'⟩:=w;rw[q] at this;exact this.trans h
theorem gE(l rest:List Nat):lX rest (dD l rest):=by
 cases rest with
 |nil=>exact bE _
 |cons c t=>
  unfold dD;dsimp only;split
  .exact#[cR c t,by simp]
  .exact bE _
theorem dE.bind{α:Type}{toU:α->U}{p:PR α}{f:α->List Nat->PR U}{r d:Nat}{x rest:List Nat}{S S1:bJ}{Q Q1:KU}{E:KX}(h:dE r x d S Q E (bindR p f))(st:kr r (lW x rest d) S S1)
  (k:∀a r1 S2,p=.ok (a,r1)->kr r (lW x r1 d) S S2->dE r x d S Q E (f a r1)->Q1 (toU a) S2):dE r x d S1 Q1 E (mapR toU p):=by
 cases p with
 |error r'=>exact λS' o=>h S' (st.old.trans o)
 |ok v=>
  obtain⟨a,r1⟩:=v;exact λS' c=>k a r1 S' rfl (st.trans c) h
theorem LL{p:PR U}:mapR id p=p:=by
 cases p with
 |ok v=>rfl
 |error r=>rfl
theorem xF{α β:Type}{f:α->β}{p:PR α}:mapR f p=bindR p (λa r=>.ok (f a,r)):=by
 cases p with
 |ok v=>rfl
 |error r=>rfl
theorem lJ(p:Nat->Bool)(hg:g S)(hc:∀n k,k (p n) S->c (.str [n]) S k)(he:∀n k,k (.str [n]) S->e (.str [n]) S k):
  ∀(l:List Nat)(acc:List U),acc.length+l.length<1000000->Q (acc++(l.filter p).map nP) S->nG g c e Q (l.map λn=>.str [n]) acc S
 |[],acc,hl,q=>#[hg,by simpa using hl,by simpa using q]
 |n::l,acc,hl,q=>by
  simp only[aQ] at hl;refine#[hg,∅,hc n _ ?_];by_cases h:p n=true
  .rw[if_pos h]
   refine he n _ (lJ p hg hc he l (acc++[.str [n]]) (by simp;omega) ?_);rw[Jo,if_pos h] at q;simpa[nP] using q
  .rw[if_neg h]
   refine lJ p hg hc he l acc ∅ ?_;rw[Jo,if_neg h] at q;exact q
theorem join_ones:∀l:List Nat,k9 [] (l.map λn=>[n])=l
 |[]=>rfl
 |[n]=>rfl
 |n::m::l=>by
  have:=join_ones (m::l);simp only[aD] at this ⊢;simp only[k9,bb];rw[this];rfl
noncomputable def dC(l:List Nat):List Nat:=SG.filter λc=>!l.contains c
noncomputable def inOrder(l:List Nat):List Nat:=SG.filter λc=>l.contains c
noncomputable def spT(f:List Nat->List Nat):Spec:=λus S Q _=>∃l,us=[.str l]/\∀S',Ext S S'->Q (.str (f l)) S'
theorem u9:∀l:List Nat,((l.map λn=>[n]).map cQ).sum=l.length
 |[]=>rfl
 |n::l=>by rw[aD,aD,mL,u9 l];simp;omega
theorem DC(l:List Nat):l.map nP=(l.map λn=>[n]).map U.str:=by
 rw[bM];rfl
theorem DD(p:Nat->Bool):(SG.filter p).length<=95:=aT (Bw _ _) ⋯
theorem AF(Γ:bY):Keeps Γ mX 0 (spT inOrder):=by
 rintro us S Q E ⟨l,rfl,q⟩;unfold mX;walk_at "pl";refine lJ (λc=>l.contains c) trivial (λn k h=>by rw[KQ];exact h) (λn k h=>h) SG [] ⋯ ?_;simp only[fW];try walk_at "pl"
 refine#[(inOrder l).map λn=>[n],?_,?_,?_]
 .rw[<-DC];simp[inOrder]
 .have:=DD λc=>l.contains c
  rw[u9];simp[inOrder] at this ⊢;omega
 .rw[join_ones];exact q _ (Ext.app _)
theorem va(Γ:bY):Keeps Γ oW 0 (spT dC):=by
 rintro us S Q E ⟨l,rfl,q⟩;unfold oW;walk_at "pl";refine lJ (λc=>!l.contains c) trivial (λn k h=>by rw[KR];exact h) (λn k h=>h) SG [] ⋯ ?_;simp only[fW];try walk_at "pl"
 refine#[(dC l).map λn=>[n],?_,?_,?_]
 .rw[<-DC];simp[dC]
 .have:=DD λc=>!l.contains c
  rw[u9];simp[dC] at this ⊢;omega
 .rw[join_ones];exact q _ (Ext.app _)
noncomputable def DE:Spec:=λus S Q _=>∃a b,us=[.str [a],.str [b]]/\a∈SG/\b∈SG/\Q (.bl (decide (SG.idxOf a<SG.idxOf b))) S
theorem AG(Γ:bY):Keeps Γ mY 0 DE:=by
 rintro us S Q E ⟨a,b,rfl,ha,hb,q⟩;unfold mY;walk_at "pl";refine#[a,rfl,ha,b,rfl,hb,?_];simpa using q
noncomputable def kz(a b:Nat):List Nat:=(SG.drop (SG.idxOf a)).take (SG.idxOf b+1-SG.idxOf a)
noncomputable def xG:Spec:=λus S Q _=>∃a b,us=[.str [a],.str [b]]/\a∈SG/\b∈SG/\Q (.str (kz a b)) S
theorem Cr(h:a∈SG):SG.idxOf a<95:=by
 have:=List.idxOf_lt_length_iff.mpr h;simpa using this
theorem Cs(Γ:bY):Keeps Γ oX 0 xG:=by
 rintro us S Q E ⟨a,b,rfl,ha,hb,q⟩;unfold oX;walk_at "pl";refine#[a,rfl,ha,?_];refine#[b,rfl,hb,?_];try walk_at "pl"
 have h1:=Cr ha;have h2:=Cr hb;refine#[#[λi e=>?_,λi e=>?_],⋯,?_]
 .injection e with e;omega
 .injection e with e;omega
 .have e:lV SG (some (SG.idxOf a:Int)) (some ((SG.idxOf b:Int)+1))=kz a b:=by
   unfold lV kz;have l:SG.length=95:=⋯
   simp only[cD,l];have e1:min (((SG.idxOf a:Nat):Int).toNat) 95=SG.idxOf a:=∅
   have e2:min ((((SG.idxOf b:Nat):Int)+1).toNat) 95=SG.idxOf b+1:=∅
   rw[e1,e2]
  show Q (.str (lV SG (some (SG.idxOf a:Int)) (some ((SG.idxOf b:Int)+1)))) S
  rw[e];exact q
noncomputable abbrev BB:List Nat:=[46,124,40,41,91,93,42,43,63,92,45,94,110]
noncomputable abbrev MO:List Nat:=[46,124,40,41,91,93,42,43,63,92]
noncomputable abbrev MW:List Nat:=[93,45,92]
noncomputable def jS(m rest:List Nat):PR Nat:=
 match rest with
 |92::r=>bindR (dD BB r) λs r'=>.ok (if s=110 then 10 else s,r')
 |_=>dD (dC m) rest
theorem Im(m r:List Nat):jS m (92::r)=bindR (dD BB r) λs r'=>.ok (if s=110 then 10 else s,r'):=rfl
theorem AH{m rest:List Nat}(h:cv [92] rest=false):jS m rest=dD (dC m) rest:=by
 unfold jS;split
 .simp[cv] at h
 .rfl
theorem Io{c:Nat}{rest:List Nat}(h:cv [c] rest=true):∃t,rest=c::t:=by
 cases rest with
 |nil=>simp[cv] at h
 |cons a t=>simp[cv] at h;subst h;exact#[t,rfl]
theorem ki(m rest:List Nat):lX rest (jS m rest):=by
 unfold jS;split
 .rename_i r
  have h:=(gE BB r).bind (f:=λs r'=>(.ok (if s=110 then 10 else s,r'):PR Nat)) λa r' _=>bE _
  cases q:bindR (dD BB r) λs r'=>(.ok (if s=110 then 10 else s,r'):PR Nat) with
  |error r'=>rw[q] at h;exact h.trans (cR _ _)
  |ok v=>rw[q] at h;exact#[h.1.trans (cR _ _),cM h.2]
 .exact gE _ _
theorem DF(h:dD l rest=.ok (c,r)):c∈l/\rest=c::r:=by
 cases rest with
 |nil=>simp[dD] at h
 |cons a t=>
  unfold dD at h;dsimp only at h;split at h
  .rename_i z
   injection h with h;injection h with h1 h2;subst h1;subst h2
   exact#[by simpa using z,rfl]
  .cases h
theorem vb{m rest:List Nat}{c:Nat}{r:List Nat}(h:jS m rest=.ok (c,r)):c∈SG:=by
 unfold jS at h;split at h
 .rename_i t
  cases q:dD BB t with
  |error r'=>rw[q] at h;cases h
  |ok v=>
   obtain⟨s,r'⟩:=v;rw[q] at h;simp only[bindR] at h;injection h with h;injection h with h1 h2
   have hs:=(DF q).1;subst h1;split
   .decide
   .have:∀s∈BB,s∈SG:=⋯
    exact this s hs
 .have:=(DF h).1
  unfold dC at this;exact(eJ.mp this).1
noncomputable def DG(d:Nat):Spec:=λus S Q E=>∃m,zM [.str m] (λrest=>mapR nP (jS m rest)) d us S Q E
structure GR(Γ:bY):Prop where
 sees:Γ "Reader.sees"=Cq
 pass:Γ "Reader.passes"=Il
 Ct:Γ "all_but"=spT dC
 PC:Γ "in_order"=spT inOrder
 ahead:Γ "is_ahead"=DE
 Ip:Γ "stretch"=xG
theorem Iq(Γ:bY)(G:GR Γ)(d:Nat):Keeps Γ dP 1 (DG d):=by
 rintro us S Q E ⟨m,r,x,rest,rfl,hS,hx,hl,q⟩;have q:dE r x d S Q E (mapR nP (jS m rest)):=q;unfold dP;walk_at "pl";simp only[bX hS,G.sees,G.pass];walk_at "pl";refine#[rfl,r,x,rest,d,_,rfl,hS,hx,hl,?_];walk_at "pl";by_cases e:cv [92] rest=true
 .obtain⟨t,rfl⟩:=Io e
  simp only[e,bO,ah,if_false];simp only[bX hS];refine#[#[by first|trivial|rfl,rfl],[92],d,r,x,_,rfl,hS,hx,hl,?_];have ht:=zd hx;show dE r x d S _ E (mapR nP (.ok (92,t)));intro S1 c1;try walk_at "pl"
  simp only[bX c1.2.1];refine#[#[by first|trivial|rfl,rfl],BB,d,r,x,t,rfl,c1.2.1,ht,hl,?_];rw[Im] at q;have q':dE r x d S Q E (bindR (dD BB t) λs r'=>.ok (nP (if s=110 then 10 else s),r')):=by
   cases z:dD BB t with
   |error r'=>rw[z] at q;exact q
   |ok v=>rw[z] at q;exact q
  refine q'.bind c1 λa r1 S2 e1 c2 q2=>?_
  unfold nP;try walk_at "pl"
  simp only[beq_iff_eq,dX,and_true];have:=q2 S2 c2;unfold nP at this;by_cases z:a=110
  .subst z;simpa using this
  .simp only[z,if_false] at this ⊢;exact this
 .have e:cv [92] rest=false:=by simpa using e
  simp only[e,bV,if_true];simp only[bX hS,G.Ct,true_and];refine#[rfl,m,rfl,λS1 x1=>?_];refine#[dC m,d,r,x,rest,rfl,x1.get hS,hx,hl,?_];show dE r x d S1 Q E (mapR nP (dD (dC m) rest));rw[AH e] at q;cases z:dD (dC m) rest with
  |error r'=>rw[z] at q;exact λS' o=>q S' (x1.old.trans o)
  |ok v=>rw[z] at q;exact λS' c=>q S' ((x1.chg hS).trans c)
end PL
local macro_rules | `(tactic| walk_at "qpf") => do let a:=((wN0++" WH Ys Yw Yx Yy Yz d8 X4 Vy YD Tq").splitOn " ").toArray.map fun s=>Lean.mkIdent s.toName;`(tactic| simp only [$[$a:ident],*])
local macro_rules | `(tactic| walk_at "pf") => `(tactic| ((try refine Rest.go ?_); walk_at "qpf"; repeat ((refine Rest.go ?_); walk_at "qpf")))
namespace PL
noncomputable def kA(first:Nat)(r:List Nat):PR (List Nat):=
 match r with
 |45::r2=>bindR (jS MW r2) λsecond r3=>if SG.idxOf second<SG.idxOf first then .error r2 else .ok (kz first second,r3)
 |_=>.ok ([first],r)
noncomputable def item(rest:List Nat):PR (List Nat):=bindR (jS MW rest) kA
theorem AI(f:Nat)(r:List Nat):kA f (45::r)=bindR (jS MW r) λsecond r3=>if SG.idxOf second<SG.idxOf f then .error r else .ok (kz f second,r3):=rfl
theorem AJ{f:Nat}{r:List Nat}(h:cv [45] r=false):kA f r=.ok ([f],r):=by
 unfold kA;split
 .simp[cv] at h
 .rfl
theorem ze(f:Nat)(r:List Nat):Suf r (kA f r):=by
 unfold kA;split
 .rename_i r2
  have h:=(ki MW r2).bind (f:=λsecond r3=>(if SG.idxOf second<SG.idxOf f then .error r2 else .ok (kz f second,r3):PR (List Nat)));cases q:jS MW r2 with
  |error r'=>have:=ki MW r2;rw[q] at this;exact this.trans (cR _ _)
  |ok v=>
   have:=ki MW r2;rw[q] at this;simp only[bindR];split
   .exact cR _ _
   .exact this.1.trans (cR _ _)
 .exact bE _
theorem qJ(rest:List Nat):lX rest (item rest):=(ki MW rest).bind λa r _=>ze a r
theorem ja{α β γ:Type}{g:β->γ}{p:PR α}{f:α->List Nat->PR β}:mapR g (bindR p f)=bindR p λa r=>mapR g (f a r):=by
 cases p with
 |ok v=>rfl
 |error r=>rfl
noncomputable def Ir(d:Nat):Spec:=zM [] (λrest=>mapR U.str (item rest)) d
structure GR2(Γ:bY)(d:Nat):Prop extends GR Γ where
 ws:Γ "Reader.written_sign"=DG d
theorem LM(Γ:bY)(d:Nat)(G:GR2 Γ d):Keeps Γ ji 3 (Ir d):=by
 rintro us S Q E ⟨r,x,rest,rfl,hS,hx,hl,q⟩;have q:dE r x d S Q E (mapR U.str (item rest)):=q;unfold item at q;rw[ja] at q;unfold ji;walk_at "pf";simp only[bX hS];refine#[#[by first|trivial|rfl,rfl],ca G.ws #[MW,r,x,rest,rfl,hS,hx,hl,?_]];refine q.bind (kr.refl hS) λa r1 S1 e1 c1 q1=>?_
 have hs:=ki MW rest;rw[e1] at hs;have hx1:=hs.1.trans hx;have g1:=c1.2.1;unfold nP;try walk_at "pf"
 simp only[bX g1,true_and];refine#[rfl,ca G.sees #[r,x,r1,d,_,rfl,g1,hx1,hl,?_]];try walk_at "pf"
 by_cases e:cv [45] r1=true
 .obtain⟨t,rfl⟩:=Io e
  simp only[e,bO,ah,if_false];walk_at "pf";simp only[bX g1,true_and];refine#[rfl,ca G.pass #[[45],d,r,x,_,rfl,g1,hx1,hl,?_]];have ht:=zd hx1;show dE r x d S1 _ E (mapR nP (.ok (45,t)));intro S2 c2;have g2:=c2.2.1;try walk_at "pf"
  simp only[<-d8,xE g2];walk_at "pf";simp only[bX g2,true_and];refine#[rfl,ca G.ws #[MW,r,x,t,rfl,g2,ht,hl,?_]];rw[AI,ja] at q1;refine q1.bind (c1.trans c2) λb r3 S3 e3 c3 q3=>?_
  unfold nP;try walk_at "pf"
  have ha:=vb e1;have hb:=vb e3;refine ca G.ahead #[b,a,rfl,hb,ha,?_];try walk_at "pf"
  by_cases z:SG.idxOf b<SG.idxOf a
  .simp only[z,decide_true,if_true]
   simp only[z,if_true] at q3;walk_at "pf";exact#[rfl,q3 S3 c3.old]
  .simp only[z,decide_false,ah,if_false]
   simp only[z,if_false] at q3;walk_at "pf";exact ca G.Ip #[a,b,rfl,ha,hb,q3 S3 c3]
 .have e:cv [45] r1=false:=by simpa using e
  simp only[e,bV,if_true];rw[AJ e] at q1;walk_at "pf";exact q1 S1 c1
noncomputable def kB:Nat->List Nat->List Nat->PR (List Nat)
 |0,_,rest=>.error rest
 |n+1,taken,rest=>if cv [93] rest then .ok (taken,rest) else bindR (item rest) λt r=>kB n (taken++t) r
noncomputable def nj(turned:Bool)(r1:List Nat):PR (List Nat):=
 bindR (item r1) λt r2=>bindR (kB (r2.length+1) t r2) λtaken r3=>bindR (dD [93] r3) λ_ r4=>.ok (if turned then dC taken else inOrder taken,r4)
noncomputable def clsIn(r0:List Nat):PR (List Nat):=
 match r0 with
 |94::r=>nj true r
 |_=>nj false r0
noncomputable def cls(rest:List Nat):PR (List Nat):=bindR (dD [91] rest) λ_ r0=>clsIn r0
theorem Iu{r:List Nat}(h:cv [94] r=false):clsIn r=nj false r:=by
 unfold clsIn;split
 .simp[cv] at h
 .rfl
theorem vc:∀(n:Nat)(taken rest:List Nat),Suf rest (kB n taken rest)
 |0,_,rest=>bE _
 |n+1,taken,rest=>by
  unfold kB;split
  .exact bE _
  .exact(qJ rest).PB.bind λa r _=>vc n _ r
theorem sG(b:Bool)(r:List Nat):Suf r (nj b r):=
 (qJ r).PB.bind λa r2 _=>(vc _ _ _).bind λt r3 _=>(gE _ _).PB.bind λ_ r4 _=>bE _
theorem LN(rest:List Nat):lX rest (cls rest):=by
 refine(gE _ _).bind λa r _=>?_
 unfold clsIn;split
 .rename_i r' hq
  have:=sG true r';cases q:nj true r' with
  |ok v=>rw[q] at this;exact mR this (cR _ _)
  |error v=>rw[q] at this;exact mR this (cR _ _)
 .exact sG false r
noncomputable def M0(d:Nat):Spec:=zM [] (λrest=>mapR U.str (cls rest)) d
structure GR3(Γ:bY)(d:Nat):Prop extends GR2 Γ d where
 it:Γ "Reader.item"=Ir d
theorem vd(h:item rest=.ok (t,r)):t.length<=95:=by
 unfold item at h;cases q:jS MW rest with
 |error r'=>rw[q] at h;cases h
 |ok v=>
  obtain⟨a,r1⟩:=v;rw[q] at h;simp only[bindR] at h;unfold kA at h;split at h
  .rename_i r2
   cases q2:jS MW r2 with
   |error r'=>rw[q2] at h;cases h
   |ok v2=>
    rw[q2] at h;simp only[bindR] at h;split at h
    .cases h
    .injection h with h;injection h with h1 h2;subst h1
     unfold kz;refine aT (List.length_take_le _ _) ?_;have:=Cr (vb q2);omega
  .injection h with h;injection h with h1 h2;subst h1;simp
theorem ve{Γ:bY}{d:Nat}(G:GR3 Γ d){r:Nat}{x:List Nat}{S:bJ}{E:KX}{fin:Env->bJ->Prop}{env:Env}(hl:x.length<=1000)(k1:env[0]?=some (some (.loc r)))
  (cW:Env->bJ->(Bool->bJ->Prop)->Prop) (bW:Env->bJ->(Env->bJ->Prop)->Prop)
  (hc:∀taken S1 rest k,S1[r]?=some (lW x rest d)->rest<:+x->k (!cv [93] rest) S1->cW (env.set 2 (some (.str taken))) S1 k)
  (hb:∀taken S1 rest k,taken.length<=900000->S1[r]?=some (lW x rest d)->rest<:+x->dE r x d S1 (λu S2=>∃t,u=.str t/\t.length<=95/\k (env.set 2 (some (.str (taken++t)))) S2) E (mapR U.str (item rest))->bW (env.set 2 (some (.str taken))) S1 k):
  ∀(n:Nat)(taken rest:List Nat)(S1:bJ)(R:List Nat->List Nat->PR U),rest.length<n->taken.length+95*rest.length<=900000->rest<:+x->kr r (lW x rest d) S S1 ->
   (∀t2 r2 S2,kr r (lW x r2 d) S S2->r2<:+x->t2.length<=900000->kB n taken rest=.ok (t2,r2)->fin (env.set 2 (some (.str t2))) S2)->(∀r',kB n taken rest=.error r'->∀S',Old r S S'->E #["BadRule",[.int 0,.int (x.length-r'.length:Nat)]] S') ->
   yQ cW bW fin n (env.set 2 (some (.str taken))) S1
 |0,_,_,_,_,h,_,_,_,_,_=>∅
 |n+1,taken,rest,S1,R,h,ht,hx,c1,hf,he=>by
  refine hc taken S1 rest _ c1.2.1 hx ?_;by_cases e:cv [93] rest=true
  .simp only[e,bO,ah,if_false]
   exact hf taken rest S1 c1 hx ∅ (by unfold kB;rw[if_pos e])
  .have e':cv [93] rest=false:=by simpa using e
   simp only[e',bV,if_true];refine hb taken S1 rest _ ∅ c1.2.1 hx ?_;have hs:=qJ rest;cases q:item rest with
   |error r'=>
    intro S' o;exact he r' (by unfold kB;rw[if_neg e,q];rfl) S' (c1.old.trans o)
   |ok v=>
    obtain⟨t,r1⟩:=v;rw[q] at hs;intro S2 c2;refine#[t,rfl,vd q,?_];have hlt:t.length<=95:=vd q;have hE:kB (n+1) taken rest=kB n (taken++t) r1:=by
     conv=>lhs;unfold kB
     rw[if_neg e,q];rfl
    refine ve G hl k1 cW bW hc hb n (taken++t) r1 S2 R (by have:=hs.2;omega) (by simp;have:=hs.2;omega) (hs.1.trans hx) (c1.trans c2) (λt2 r2 S3 c3 h3 h4 e3=>hf t2 r2 S3 c3 h3 h4 (by rw[hE];exact e3)) (λr' e3=>he r' (by rw[hE];exact e3))
theorem PD(Γ:bY)(d:Nat)(G:GR3 Γ d):Keeps Γ eS 2 (M0 d):=by
  rintro us S Q E ⟨r,x,rest,rfl,hS,hx,hl,q⟩;have q:dE r x d S Q E (mapR U.str (cls rest)):=q;unfold cls at q;rw[ja] at q;unfold eS;walk_at "pf";simp only[bX hS];refine#[#[by first|trivial|rfl,rfl],ca G.pass #[[91],d,r,x,rest,rfl,hS,hx,hl,?_]];refine q.bind (kr.refl hS) λa r0 S0 e0 c0 q0=>?_
  have hs0:=gE [91] rest;rw[e0] at hs0;have hx0:=hs0.1.trans hx;have g0:=c0.2.1;walk_at "pf";simp only[bX g0,true_and];refine#[rfl,ca G.sees #[r,x,r0,d,_,rfl,g0,hx0,hl,?_]];try walk_at "pf"
  have tail:∀(tb:Bool)(r1:List Nat)(S1:bJ),kr r (lW x r1 d) S S1->r1<:+x->dE r x d S Q E (mapR U.str (nj tb r1)) ->
      rF Γ (.cons (.set 2 (.cu "Reader" "item" "Reader.item" @0 .nil))
   (.cons (.Ai (.not (.cg (.cu "Reader" "sees" "Reader.sees" @0 (.cons ↑[93] .nil)))) (.cons (.aug 2 .add (.cu "Reader" "item" "Reader.item" @0 .nil)) .nil))
   (.cons (.ex (.cu "Reader" "passes" "Reader.passes" @0 (.cons ↑[93] .nil)))
   (.cons (.ret (.xm (.cg @1) (.call "all_but" (.cons @2 .nil)) (.call "in_order" (.cons @2 .nil)))) .nil)))) #[λ_ S1=>Q .bK S1,Q,λ_=>E] [some (.loc r),some (.bl tb),none] S1:=by
    intro tb r1 S1 c1 hx1 q1;unfold nj at q1;rw[ja] at q1;have g1:=c1.2.1;walk_at "pf";simp only[bX g1];refine#[#[by first|trivial|rfl,rfl],ca G.it #[r,x,r1,rfl,g1,hx1,hl,?_]];refine q1.bind c1 λt r2 S2 e2 c2 q2=>?_
    have hs2:=qJ r1;rw[e2] at hs2;have hx2:=hs2.1.trans hx1;have hlt:=vd e2;have hr2:r2.length<=1000:=aT hx2.length_le hl;rw[ja] at q2;walk_at "pf";refine#[r2.length+1,ve (S:=S) (E:=E) (env:=[some (.loc r),some (.bl tb),none]) G hl rfl _ _ ?_ ?_ (r2.length+1) t r2 S2 (λ_ _=>.error []) ∅ ∅ hx2 c2 ?_ ?_]
    · intro taken S3 rest3 k g3 hx3 hk
      simp only[qT,qU];try walk_at "pf"
      simp only[bX g3,true_and];refine#[rfl,ca G.sees #[r,x,rest3,d,_,rfl,g3,hx3,hl,?_]];try walk_at "pf"
      exact hk
    · intro taken S3 rest3 k NV g3 hx3 hk
      simp only[qT,qU] at hk ⊢;try walk_at "pf"
      simp only[bX g3,true_and];refine#[rfl,ca G.it #[r,x,rest3,rfl,g3,hx3,hl,?_]];show dE r x d S3 _ E (mapR U.str (item rest3));cases z:item rest3 with
      |error r'=>rw[z] at hk;exact hk
      |ok v=>
        obtain⟨t3,r3⟩:=v;rw[z] at hk;intro S4 c4;obtain⟨t',e',hl',hk'⟩:=hk S4 c4;injection e' with e';subst e'
        rw[Hk]
        exact#[∅,Rest.go hk']
    · intro t3 r3 S3 c3 hx3 hl3 e3
      rw[e3] at q2;simp only[bindR] at q2;have q2:dE r x d S Q E (mapR U.str (bindR (dD [93] r3) λ_ r4=>.ok (if tb then dC t3 else inOrder t3,r4))):=q2;rw[ja] at q2;have g3:=c3.2.1;simp only[qT,qU];try walk_at "pf"
      simp only[bX g3,true_and];refine#[rfl,ca G.pass #[[93],d,r,x,r3,rfl,g3,hx3,hl,?_]];refine q2.bind c3 λb r4 S4 e4 c4 q4=>?_
      try walk_at "pf"
      cases tb with
      |true=>exact ca G.Ct #[t3,rfl,λS5 x5=>q4 S5 (c4.trans (x5.chg c4.2.1))]
      |false=>exact ca G.PC #[t3,rfl,λS5 x5=>q4 S5 (c4.trans (x5.chg c4.2.1))]
    · intro r' e3 S' o
      rw[e3] at q2;exact q2 S' o
  by_cases e:cv [94] r0=true
  · obtain⟨t,rfl⟩:=Io e
    simp only[e,if_true];walk_at "pf";simp only[bX g0,true_and];refine#[rfl,ca G.pass #[[94],d,r,x,_,rfl,g0,hx0,hl,?_]];show dE r x d S0 _ E (mapR nP (.ok (94,t)));intro S1 c1;exact tail true t S1 (c0.trans c1) (zd hx0) q0
  · have e:cv [94] r0=false:=by simpa using e
    simp only[e,ah,if_false];rw[Iu e] at q0;exact tail false r0 S0 c0 hx0 q0
noncomputable def ph(k:List Nat)(ts:List U):U:=match ts with|[t]=>t|_=>.tup [.str k,.tup ts]
noncomputable def kC:Spec:=λus S Q _=>∃k n ts,us=[.str k,.loc n]/\S[n]?=some (.lst ts)/\ts≠[]/\ts.length<=100000/\Q (ph k ts) S
theorem E9(Γ:bY):Keeps Γ qB 0 kC:=by
 rintro us S Q E ⟨k,n,ts,rfl,hn,ne,hl,q⟩;unfold qB;walk_at "pl";simp only[uL hn,hn];walk_at "pl";refine#[∅,?_];cases ts with
 |nil=>exact absurd rfl ne
 |cons t ts=>
  cases ts with
  |nil=>
   simp only[gk];simp[jC,ph] at q ⊢;exact q
  |cons t2 ts=>
   have h1:((((t::t2::ts).length:Nat):Int)== 1)=false:=by
    simp only[aQ,beq_eq_false_iff_ne];omega
   simp only[h1,ah,if_false];refine#[by simp,?_];exact q
noncomputable abbrev LO:List Nat:=[111,110,101]
noncomputable abbrev kD:List Nat:=[115,116,97,114]
noncomputable abbrev oA:List Nat:=[112,108,117,115]
noncomputable abbrev jN:List Nat:=[109,97,121,98,101]
noncomputable abbrev wd:List Nat:=[114,111,119]
noncomputable abbrev Q0:List Nat:=[111,114]
noncomputable def LP(l:List Nat):U:=.tup [.str LO,.str l]
noncomputable def Iv(c:Nat)(t:U):U:=.tup [.str (if c=42 then kD else if c=43 then oA else jN),t]
noncomputable def lK:U->List Nat->U×List Nat
 |t,[]=>(t,[])
 |t,c::r=>if [42,43,63].contains c then lK (Iv c t) r else(t,c::r)
noncomputable def Q2(br:Option (List Nat->PR U))(rest:List Nat):PR U:=
 match br with
 |none=>.error rest
 |some p=>bindR (dD [40] rest) λ_ r=>bindR (p r) λt r2=>bindR (dD [41] r2) λ_ r3=>.ok (t,r3)
noncomputable def qK(br:Option (List Nat->PR U))(rest:List Nat):PR U:=
 if cv [40] rest then Q2 br rest else if cv [91] rest then mapR LP (cls rest) else if cv [46] rest then bindR (dD [46] rest) (λ_ r=>.ok (LP (dC [10]),r)) else mapR (λc=>LP [c]) (jS MO rest)
noncomputable def iV(br:Option (List Nat->PR U))(rest:List Nat):PR U:=bindR (qK br rest) λt r=>.ok (lK t r)
noncomputable def df(stop:List Nat->Bool)(p:List Nat->PR U):Nat->List U->List Nat->PR (List U)
 |0,_,rest=>.error rest
 |n+1,acc,rest=>if stop rest then .ok (acc,rest) else bindR (p rest) λt r=>df stop p n (acc++[t]) r
noncomputable def iW(rest:List Nat):Bool:=rest.isEmpty||cv [124,41] rest
noncomputable def stopOr(rest:List Nat):Bool:=!cv [124] rest
noncomputable def we(br:Option (List Nat->PR U))(rest:List Nat):PR U:=bindR (iV br rest) λt r=>bindR (df iW (iV br) (r.length+1) [t] r) λts r2=>.ok (ph wd ts,r2)
noncomputable def PF(br:Option (List Nat->PR U))(rest:List Nat):PR U:=bindR (dD [124] rest) λ_ r=>we br r
noncomputable def gO(br:Option (List Nat->PR U))(rest:List Nat):PR U:=bindR (we br rest) λt r=>bindR (df stopOr (PF br) (r.length+1) [t] r) λts r2=>.ok (ph Q0 ts,r2)
noncomputable def sH:Nat->Option (List Nat->PR U)
 |0=>none
 |k+1=>some (gO (sH k))
noncomputable def sI(x:List Nat):PR U:=bindR (gO (sH 6) x) λt r=>if r=[] then .ok (t,[]) else .error r
theorem AK:∀(t:U)(rest:List Nat),(lK t rest).2<:+rest
 |t,[]=>bE _
 |t,c::r=>by
  unfold lK;split
  .exact(AK _ r).trans (cR _ _)
  .exact bE _
noncomputable def nQ(br:Option (List Nat->PR U)):Prop:=∀p,br=some p->∀rest,lX rest (p rest)
theorem PH{br:Option (List Nat->PR U)}(h:nQ br)(rest:List Nat):lX rest (Q2 br rest):=by
 unfold Q2;cases br with
 |none=>exact bE _
 |some p=>exact(gE _ _).bind λa r _=>(h p rfl r).PB.bind λt r2 _=>(gE _ _).PB.bind λ_ r3 _=>bE _
theorem lX.map{α β:Type}{rest:List Nat}{p:PR α}{f:α->β}(h:lX rest p):lX rest (mapR f p):=by
 cases p with
 |ok v=>exact h
 |error r=>exact h
theorem vf{br:Option (List Nat->PR U)}(h:nQ br)(rest:List Nat):lX rest (qK br rest):=by
 unfold qK;split
 .exact PH h rest
 .split
  .exact(LN rest).map
  .split
   .exact(gE _ _).bind λ_ r _=>bE _
   .exact(ki _ _).map
theorem nk(h:nQ br)(rest:List Nat):lX rest (iV br rest):=(vf h rest).bind λt r _=>AK t r
theorem nq(h:∀rest,lX rest (p rest)):∀(n:Nat)(acc:List U)(rest:List Nat),Suf rest (df stop p n acc rest)
 |0,_,rest=>bE _
 |n+1,acc,rest=>by
  unfold df;split
  .exact bE _
  .exact(h rest).PB.bind λa r _=>nq h n _ r
theorem zf(h:nQ br)(rest:List Nat):lX rest (we br rest):=(nk h rest).bind λt r _=>(nq (nk h) _ _ _).bind λts r2 _=>bE _
theorem Iw(h:nQ br)(rest:List Nat):lX rest (PF br rest):=(gE _ _).bind λ_ r _=>(zf h r).PB
theorem vg(h:nQ br)(rest:List Nat):lX rest (gO br rest):=(zf h rest).bind λt r _=>(nq (Iw h) _ _ _).bind λts r2 _=>bE _
theorem rN:∀k,nQ (sH k)
 |0=>λp e=>nomatch e
 |k+1=>λp e rest=>by injection e with e;subst e;exact vg (rN k) rest
theorem dE.M1{α:Type}{toU:α->U}{p:PR α}{f:α->List Nat->PR U}{r d d':Nat}{x rest:List Nat}{S S1:bJ}{Q Q1:KU}{E:KX}(h:dE r x d S Q E (bindR p f))(st:kr r (lW x rest d') S S1)
  (k:∀a r1 S2,p=.ok (a,r1)->kr r (lW x r1 d') S S2->dE r x d S Q E (f a r1)->Q1 (toU a) S2):dE r x d' S1 Q1 E (mapR toU p):=by
 cases p with
 |error r'=>exact λS' o=>h S' (st.old.trans o)
 |ok v=>
  obtain⟨a,r1⟩:=v;exact λS' c=>k a r1 S' rfl (st.trans c) h
theorem dE.DH{p:PR U}{f:U->List Nat->PR U}{r d d':Nat}{x rest:List Nat}{S S1:bJ}{Q Q1:KU}{E:KX}(h:dE r x d S Q E (bindR p f))(st:kr r (lW x rest d') S S1)
  (k:∀a r1 S2,p=.ok (a,r1)->kr r (lW x r1 d') S S2->dE r x d S Q E (f a r1)->Q1 a S2):dE r x d' S1 Q1 E p:=by
 have:=dE.M1 (toU:=id) (Q1:=Q1) h st k;rw[LL] at this;exact this
theorem DI{x t:List Nat}{z:U}{v:Nat}{d':Nat}(h:z=.int (d':Nat)):SO.ins "Reader" (d7 "depth" z [("text",.str x),("at",.int (x.length-t.length:Nat)),("depth",.int v)])=lW x t d':=by subst h;rfl
noncomputable def Ts(br:Option (List Nat->PR U))(d:Nat):Spec:=λus S Q E=>∃r x rest,us=[.loc r]/\S[r]?=some (lW x rest d)/\rest<:+x/\x.length<=1000/\cv [40] rest=true/\dE r x d S Q E (Q2 br rest)
noncomputable def Tt(Γ:bY)(br:Option (List Nat->PR U))(d:Nat):Prop:=
 (br=none/\d=6)\/∃p,br=some p/\d<6/\nQ br/\Γ "Reader.choice"=zM [] p (d+1)
theorem Tv(Γ:bY)(G:GR Γ)(br:Option (List Nat->PR U))(d:Nat)(hb:Tt Γ br d):Keeps Γ gJ 1 (Ts br d):=by
 rintro us S Q E ⟨r,x,rest,rfl,hS,hx,hl,hs,q⟩;unfold gJ;walk_at "pf";simp only[<-d8,Ik hS];walk_at "pf";rcases hb with⟨rfl,rfl⟩|⟨p,rfl,hd,hbo,hch⟩
 .have e:((((6:Nat):Int))== 6)=true:=⋯
  simp only[e,if_true];walk_at "pf";simp only[<-d8,xE hS];exact#[rfl,q S .refl]
 .have e:(((d:Nat):Int)== 6)=false:=by simp only[beq_eq_false_iff_ne];omega
  simp only[e,ah,if_false];walk_at "pf";simp only[bX hS,true_and];refine#[rfl,ca G.pass #[[40],d,r,x,rest,rfl,hS,hx,hl,?_]];unfold Q2 at q;refine q.bind (kr.refl hS) λa r1 S1 e1 c1 q1=>?_
  have hs1:=gE [40] rest;rw[e1] at hs1;have hx1:=hs1.1.trans hx;have g1:=c1.2.1;walk_at "pf";simp only[bX g1];try walk_at "pf"
  simp only[bX g1,DI (v:=d) (d':=d+1) (t:=r1) (x:=x) (z:=.int ((d:Nat)+1)) rfl];refine#[by first|trivial|rfl,by simp,?_];have c2:kr r (lW x r1 (d+1)) S (S1.set r (lW x r1 (d+1))):=c1.trans (kr.set g1);have g2:=c2.2.1;generalize S1.set r (lW x r1 (d+1))=S2 at c2 g2;walk_at "pf";simp only[bX g2,true_and];refine#[rfl,ca hch #[r,x,r1,rfl,g2,hx1,hl,?_]];refine q1.DH c2 λt r2 S3 e3 c3 q3=>?_
  have hs3:=hbo p rfl r1;rw[e3] at hs3;have hx3:=hs3.1.trans hx1;have g3:=c3.2.1;try walk_at "pf"
  simp only[bX g3,true_and];refine#[rfl,ca G.pass #[[41],d+1,r,x,r2,rfl,g3,hx3,hl,?_]];refine q3.M1 c3 λa r3 S4 e4 c4 q4=>?_
  have g4:=c4.2.1;walk_at "pf";simp only[bX g4];try walk_at "pf"
  simp only[bX g4,DI (v:=d+1) (d':=d) (t:=r3) (x:=x) (z:=.int (((d+1:Nat):Int)-1)) (by congr 1;omega)];refine#[by first|trivial|rfl,by simp,?_];walk_at "pf";exact q4 _ (c4.trans (kr.set g4))
structure GA(Γ:bY)(br:Option (List Nat->PR U))(d:Nat):Prop extends GR3 Γ d where
 cl:Γ "Reader.sign_class"=M0 d
 bk:Γ "Reader.bracket"=Ts br d
theorem LQ(Γ:bY)(br:Option (List Nat->PR U))(d:Nat)(G:GA Γ br d):Keeps Γ jh 0 (zM [] (qK br) d):=by
 rintro us S Q E ⟨r,x,rest,rfl,hS,hx,hl,q⟩;unfold jh;walk_at "pf";simp only[bX hS];refine#[#[by first|trivial|rfl,rfl],ca G.sees #[r,x,rest,d,_,rfl,hS,hx,hl,?_]];try walk_at "pf"
 unfold qK at q;by_cases e1:cv [40] rest=true
 .simp only[e1,if_true] at q ⊢
  walk_at "pf";simp only[bX hS,true_and];exact#[rfl,ca G.bk #[r,x,rest,rfl,hS,hx,hl,e1,q]]
 .have e1':cv [40] rest=false:=by simpa using e1
  simp only[e1',ah,if_false] at q ⊢;walk_at "pf";simp only[bX hS,true_and];refine#[rfl,ca G.sees #[r,x,rest,d,_,rfl,hS,hx,hl,?_]];try walk_at "pf"
  by_cases e2:cv [91] rest=true
  .simp only[e2,if_true] at q ⊢
   walk_at "pf";simp only[bX hS,true_and];refine#[rfl,ca G.cl #[r,x,rest,rfl,hS,hx,hl,?_]];rw[xF] at q;refine q.bind (toU:=U.str) (kr.refl hS) λa r1 S1 _ c1 q1=>?_
   exact#[by simp,q1 S1 c1]
  .have e2':cv [91] rest=false:=by simpa using e2
   simp only[e2',ah,if_false] at q ⊢;walk_at "pf";simp only[bX hS,true_and];refine#[rfl,ca G.sees #[r,x,rest,d,_,rfl,hS,hx,hl,?_]];try walk_at "pf"
   by_cases e3:cv [46] rest=true
   .simp only[e3,if_true] at q ⊢
    walk_at "pf";simp only[bX hS,true_and];refine#[rfl,ca G.pass #[[46],d,r,x,rest,rfl,hS,hx,hl,?_]];refine q.bind (kr.refl hS) λa r1 S1 _ c1 q1=>?_
    walk_at "pf";refine ca G.Ct #[[10],rfl,λS2 x2=>?_];try walk_at "pf"
    exact#[by simp,q1 S2 (c1.trans (x2.chg c1.2.1))]
   .have e3':cv [46] rest=false:=by simpa using e3
    simp only[e3',ah,if_false] at q ⊢;walk_at "pf";simp only[bX hS,true_and];refine#[rfl,ca G.ws #[MO,r,x,rest,rfl,hS,hx,hl,?_]];rw[xF] at q;refine q.bind (kr.refl hS) λa r1 S1 _ c1 q1=>?_
    unfold nP;exact#[by simp,q1 S1 c1]
noncomputable def YE:List (List Nat×List Nat):=[([42],kD),([43],oA),([63],jN)]
theorem Iy(h:[42,43,63].contains c=true):YE.lookup [c]=some (if c=42 then kD else if c=43 then oA else jN):=by
 have:c=42\/c=43\/c=63:=by simpa using h
 rcases this with rfl|rfl|rfl<;>rfl
structure GP(Γ:bY)(br:Option (List Nat->PR U))(d:Nat):Prop extends GA Γ br d where
 at_:Γ "Reader.atom"=zM [] (qK br) d
theorem xH{Γ:bY}{r d:Nat}{x:List Nat}{S:bJ}{fin:Env->bJ->Prop}{e0:Option U}(hl:x.length<=1000)
  (cW:Env->bJ->(Bool->bJ->Prop)->Prop) (bW:Env->bJ->(Env->bJ->Prop)->Prop)
  (hc:∀t S1 rest k,S1[r]?=some (lW x rest d)->rest<:+x->k (cv [42,43,63] rest) S1->cW [e0,some t] S1 k)
  (hb:∀t S1 c rest k,S1[r]?=some (lW x (c::rest) d)->(c::rest)<:+x->[42,43,63].contains c=true->(∀S2,kr r (lW x rest d) S1 S2->k [e0,some (Iv c t)] S2)->bW [e0,some t] S1 k):
  ∀(rest:List Nat)(t:U)(S1:bJ),rest<:+x->kr r (lW x rest d) S S1->(∀S2,kr r (lW x (lK t rest).2 d) S S2->fin [e0,some (lK t rest).1] S2)->yQ cW bW fin (rest.length+1) [e0,some t] S1
 |[],t,S1,hx,c1,hf=>by
  refine hc t S1 [] _ c1.2.1 hx ?_;simp only[cv,ah,if_false];exact hf S1 c1
 |c::rest,t,S1,hx,c1,hf=>by
  refine hc t S1 _ _ c1.2.1 hx ?_;by_cases e:[42,43,63].contains c=true
  .simp only[cv,e,if_true]
   refine hb t S1 c rest _ c1.2.1 hx e λS2 c2=>?_
   refine xH (Γ:=Γ) hl cW bW hc hb rest _ S2 (zd hx) (c1.trans c2) ?_;have:lK t (c::rest)=lK (Iv c t) rest:=by
    conv=>lhs;unfold lK
    rw[if_pos e]
   rw[this] at hf;exact hf
  .have e':[42,43,63].contains c=false:=by simpa using e
   simp only[cv,e',ah,if_false];have:lK t (c::rest)=(t,c::rest):=by
    unfold lK;rw[if_neg e]
   rw[this] at hf;exact hf S1 c1
theorem Fc(Γ:bY)(br:Option (List Nat->PR U))(d:Nat)(hbo:nQ br)(G:GP Γ br d):Keeps Γ iy 1 (zM [] (iV br) d):=by
 rintro us S Q E ⟨r,x,rest,rfl,hS,hx,hl,q⟩;unfold iy;walk_at "pl";simp only[bX hS,G.at_];refine#[#[by first|trivial|rfl,rfl],r,x,rest,rfl,hS,hx,hl,?_];unfold iV at q;refine q.DH (kr.refl hS) λt r1 S1 e1 c1 q1=>?_
 have hs1:=vf hbo rest;rw[e1] at hs1;have hx1:=hs1.1.trans hx;refine#[r1.length+1,xH (Γ:=Γ) (S:=S) hl _ _ ?_ ?_ r1 t S1 hx1 c1 ?_]
 .intro t2 S2 rest2 k g2 hx2 hk
  try walk_at "pl"
  simp only[bX g2,G.sees,true_and];refine#[rfl,r,x,rest2,d,_,rfl,g2,hx2,hl,?_];try walk_at "pl"
  exact hk
 .intro t2 S2 c rest2 k g2 hx2 hc hk
  try walk_at "pl"
  simp only[bX g2,G.pass,true_and];refine#[rfl,[42,43,63],d,r,x,_,rfl,g2,hx2,hl,?_];have e2:dD [42,43,63] (c::rest2)= .ok (c,rest2):=by unfold dD;dsimp only;rw[if_pos hc]
  show dE r x d S2 _ E (mapR nP (dD [42,43,63] (c::rest2)))
  rw[e2]
  intro S3 c3;unfold nP;rw[yM]
  have:=Iy hc;unfold YE at this;rw[this,aP]
  exact#[by simp,hk S3 c3]
 .intro S2 c2
  try walk_at "pl"
  exact q1 S2 c2
theorem rO(hp:∀rest,lX rest (p rest))
  (cW:Env->bJ->(Bool->bJ->Prop)->Prop) (bW:Env->bJ->(Env->bJ->Prop)->Prop) (h0:S.length<=n0) (h1:n0≠r)
  (hc:∀S1 rest k,S1[r]?=some (lW x rest d)->rest<:+x->k (!stop rest) S1->cW env S1 k)
  (hb:∀S1 rest acc k,S1[r]?=some (lW x rest d)->S1[n0]?=some (.lst acc)->acc.length<=2000->rest<:+x->stop rest=false->dE r x d S1 (λt S2=>k env (S2.set n0 (.lst (acc++[t])))) E (p rest)->bW env S1 k):
  ∀(m:Nat)(acc:List U)(rest:List Nat)(S1:bJ),rest.length<m->acc.length+rest.length<=2000->rest<:+x->kr r (lW x rest d) S S1->S1[n0]?=some (.lst acc) ->
   (∀ts r2 S2,df stop p m acc rest=.ok (ts,r2)->kr r (lW x r2 d) S S2->r2<:+x->S2[n0]?=some (.lst ts)->ts.length<=2000->acc.length<=ts.length->fin env S2)->(∀r',df stop p m acc rest=.error r'->∀S',Old r S S'->E #["BadRule",[.int 0,.int (x.length-r'.length:Nat)]] S') ->
   yQ cW bW fin m env S1
 |0,_,_,_,h,_,_,_,_,_,_=>∅
 |m+1,acc,rest,S1,h,ht,hx,c1,hn,hf,he=>by
  refine hc S1 rest _ c1.2.1 hx ?_;by_cases e:stop rest=true
  .simp only[e,bO,ah,if_false]
   exact hf acc rest S1 (by unfold df;rw[if_pos e]) c1 hx hn ∅ (ax _)
  .have e':stop rest=false:=by simpa using e
   simp only[e',bV,if_true];refine hb S1 rest acc _ c1.2.1 hn ∅ hx e' ?_;have hs:=hp rest;cases q:p rest with
   |error r'=>
    intro S' o;exact he r' (by unfold df;rw[if_neg e,q];rfl) S' (c1.old.trans o)
   |ok v=>
    obtain⟨t,r1⟩:=v;rw[q] at hs;intro S2 c2;have hE:df stop p (m+1) acc rest=df stop p m (acc++[t]) r1:=by
     conv=>lhs;unfold df
     rw[if_neg e,q];rfl
    have hn2:S2[n0]?=some (.lst acc):=(c2.2.2 n0 (bG hn) h1).trans hn;have c3:kr r (lW x r1 d) S (S2.set n0 (.lst (acc++[t]))):=by
     have c12:=c1.trans c2;refine#[by simpa using c12.1,by rw[av h1];exact c12.2.1,λm hm ne=>?_];rw[av ∅]
     exact c12.2.2 m hm ne
    refine rO hp cW bW h0 h1 hc hb m (acc++[t]) r1 _ (by have:=hs.2;omega) (by simp;have:=hs.2;omega) (hs.1.trans hx) c3 (gs hn2) (λts r2 S3 e3 c4 h3 h4 h5 h6=>hf ts r2 S3 (by rw[hE];exact e3) c4 h3 h4 h5 (by simp at h6;omega)) (λr' e3=>he r' (by rw[hE];exact e3))
structure GW(Γ:bY)(br:Option (List Nat->PR U))(d:Nat):Prop extends GP Γ br d where
 rp:Γ "Reader.repeat"=zM [] (iV br) d
 jn:Γ "joined"=kC
theorem Iz{x rest:List Nat}(h:rest<:+x):decide (((x.length-rest.length:Nat):Int)<x.length)= !rest.isEmpty:=by
 have:=MZ h;cases rest with
 |nil=>simp at this ⊢
 |cons a b=>simp only[ne_eq,reduceCtorEq,not_false_eq_true,iff_true] at this;rw[decide_eq_true this];rfl
theorem PJ(Γ:bY)(br:Option (List Nat->PR U))(d:Nat)(hbo:nQ br)(G:GW Γ br d):Keeps Γ jW 1 (zM [] (we br) d):=by
 rintro us S Q E ⟨r,x,rest,rfl,hS,hx,hl,q⟩;unfold jW;walk_at "pl";simp only[bX hS,G.rp];refine#[#[by first|trivial|rfl,rfl],r,x,rest,rfl,hS,hx,hl,?_];unfold we at q;refine q.DH (kr.refl hS) λt r1 S1 e1 c1 q1=>?_
 have hs1:=nk hbo rest;rw[e1] at hs1;have hx1:=hs1.1.trans hx;have hr1:r1.length<=1000:=aT hx1.length_le hl;refine#[by simp,?_];have hrl:=bG hS;have c2:kr r (lW x r1 d) S (S1++[.lst [t]]):=c1.trans ((Ext.app _).chg c1.2.1);have hn:(S1++[SO.lst [t]])[S1.length]?=some (.lst [t]):=by simp
 have hne:S1.length≠r:=by have:=c1.1;omega
 refine#[r1.length+1,rO (S:=S) (E:=E) (n0:=S1.length) (stop:=iW) (p:=iV br) (nk hbo) _ _ c1.1 hne ?_ ?_ (r1.length+1) [t] r1 _ ∅ (by simp;omega) hx1 c2 hn ?_ ?_]
 .intro S2 rest2 k g2 hx2 hk
  try walk_at "pl"
  simp only[<-d8,zc g2,xE g2];try walk_at "pl"
  refine#[∅,?_];simp only[Iz hx2];unfold iW at hk;cases rest2 with
  |nil=>simpa using hk
  |cons c t2=>
   simp only[F7,bV,if_true];simp only[bX g2,G.sees,true_and];refine#[rfl,r,x,_,d,_,rfl,g2,hx2,hl,?_];try walk_at "pl"
   simpa using hk
 .intro S2 rest2 acc k g2 hn2 ha hx2 hst hk
  try walk_at "pl"
  simp only[hn2,bX g2,G.rp,true_and];try walk_at "pl"
  refine#[rfl,r,x,rest2,rfl,g2,hx2,hl,?_];cases z:iV br rest2 with
  |error r'=>rw[z] at hk;exact hk
  |ok v=>
   rw[z] at hk;intro S3 c3;have hn3:S3[S1.length]?=some (.lst acc):=(c3.2.2 _ (bG hn2) hne).trans hn2;simp only[hn3];try walk_at "pl"
   exact#[∅,hk S3 c3]
 .intro ts r2 S2 e2 c3 hx2 hn2 hts ht1
  rw[e2] at q1;try walk_at "pl"
  simp only[G.jn];refine#[wd,S1.length,ts,rfl,hn2,?_,∅,q1 S2 c3];intro z;rw[z] at ht1;simp at ht1
 .intro r' e2 S' o
  rw[e2] at q1;exact q1 S' o
structure GC(Γ:bY)(br:Option (List Nat->PR U))(d:Nat):Prop extends GW Γ br d where
 Vz:Γ "Reader.row"=zM [] (we br) d
theorem Fd(Γ:bY)(br:Option (List Nat->PR U))(d:Nat)(hbo:nQ br)(G:GC Γ br d):Keeps Γ iw 1 (zM [] (gO br) d):=by
 rintro us S Q E ⟨r,x,rest,rfl,hS,hx,hl,q⟩;unfold iw;walk_at "pl";simp only[bX hS,G.Vz];refine#[#[by first|trivial|rfl,rfl],r,x,rest,rfl,hS,hx,hl,?_];unfold gO at q;refine q.DH (kr.refl hS) λt r1 S1 e1 c1 q1=>?_
 have hs1:=zf hbo rest;rw[e1] at hs1;have hx1:=hs1.1.trans hx;have hr1:r1.length<=1000:=aT hx1.length_le hl;refine#[by simp,?_];have hrl:=bG hS;have c2:kr r (lW x r1 d) S (S1++[.lst [t]]):=c1.trans ((Ext.app _).chg c1.2.1);have hn:(S1++[SO.lst [t]])[S1.length]?=some (.lst [t]):=by simp
 have hne:S1.length≠r:=by have:=c1.1;omega
 refine#[r1.length+1,rO (S:=S) (E:=E) (n0:=S1.length) (stop:=stopOr) (p:=PF br) (Iw hbo) _ _ c1.1 hne ?_ ?_ (r1.length+1) [t] r1 _ ∅ (by simp;omega) hx1 c2 hn ?_ ?_]
 .intro S2 rest2 k g2 hx2 hk
  try walk_at "pl"
  simp only[bX g2,G.sees,true_and];refine#[rfl,r,x,_,d,_,rfl,g2,hx2,hl,?_];try walk_at "pl"
  simpa[stopOr] using hk
 .intro S2 rest2 acc k g2 hn2 ha hx2 hst hk
  try walk_at "pl"
  simp only[bX g2,G.pass,true_and];refine#[rfl,[124],d,r,x,rest2,rfl,g2,hx2,hl,?_];unfold PF at hk;refine dE.bind (f:=λ_ r=>we br r) hk (kr.refl g2) λa r3 S3 e3 c3 q3=>?_
  have hs3:=gE [124] rest2;rw[e3] at hs3;have hx3:=hs3.1.trans hx2;have g3:=c3.2.1;have hn3:S3[S1.length]?=some (.lst acc):=(c3.2.2 _ (bG hn2) hne).trans hn2;simp only[hn3,bX g3,G.Vz,true_and];try walk_at "pl"
  refine#[rfl,r,x,r3,rfl,g3,hx3,hl,?_];cases z:we br r3 with
  |error r'=>rw[z] at q3;exact λS' o=>q3 S' (c3.old.trans o)
  |ok v=>
   rw[z] at q3;intro S4 c4;have hn4:S4[S1.length]?=some (.lst acc):=(c4.2.2 _ (bG hn3) hne).trans hn3;simp only[hn4];try walk_at "pl"
   exact#[∅,q3 S4 (c3.trans c4)]
 .intro ts r2 S2 e2 c3 hx2 hn2 hts ht1
  rw[e2] at q1;try walk_at "pl"
  simp only[G.jn];refine#[Q0,S1.length,ts,rfl,hn2,?_,∅,q1 S2 c3];intro z;rw[z] at ht1;simp at ht1
 .intro r' e2 S' o
  rw[e2] at q1;exact q1 S' o
noncomputable def nu:Spec:=λus S Q _=>∃r x,us=[.loc r,.str x]/\S[r]?=some (.ins "Reader" [])/\Q .bK (S.set r (lW x x 0))
theorem IA(Γ:bY):Keeps Γ je 0 nu:=by
 rintro us S Q E ⟨r,x,rfl,hS,q⟩;unfold je;walk_at "pl";have hr:=bG hS;simp only[hS,aZ,d7];refine#[by simp,?_];have g1:=gs (o':=SO.ins "Reader" [("text",U.str x)]) hS;generalize hS1:S.set r (SO.ins "Reader" [("text",U.str x)])=S1 at g1;simp only[g1,aZ];refine#[by simp,?_];have g2:=gs (o':=SO.ins "Reader" (d7 "at" (U.int 0) [("text",U.str x)])) g1;generalize hS2:S1.set r (SO.ins "Reader" (d7 "at" (U.int 0) [("text",U.str x)]))=S2 at g2;simp only[g2,aZ];refine#[by simp[d7],?_];subst hS2;subst hS1;rw[sk,sk]
 have e:SO.ins "Reader" (d7 "depth" (.int 0) (d7 "at" (.int 0) [("text",.str x)]))=lW x x 0:=by
  unfold lW;rw[cq]
  rfl
 simpa[<-e] using q
noncomputable def Cu:Spec:=λus S Q E=>∃x,us=[.str x]/\x.length<=1000/\match sI x with
 |.ok (t,_)=>∀S',Ext S S'->Q t S'
 |.error r=>∀S',Ext S S'->E #["BadRule",[.int 0,.int (x.length-r.length:Nat)]] S'
theorem LR(Γ:bY)(h1:Γ "Reader.__init__"=nu)(h2:Γ "Reader.choice"=zM [] (gO (sH 6)) 0):Keeps Γ yU 2 Cu:=by
 rintro us S Q E ⟨x,rfl,hl,q⟩;unfold yU;walk_at "pl";simp only[h1,h2];have hn:(S++[SO.ins "Reader" []])[S.length]?=some (.ins "Reader" []):=by simp
 refine#[S.length,x,rfl,hn,rfl,?_];try walk_at "pl"
 have g1:=gs (o':=lW x x 0) hn;have x1:Old S.length S ((S++[SO.ins "Reader" []]).set S.length (lW x x 0)):=by
  refine#[by simp,λn h ne=>?_];rw[av (dM ne),aq h]
 generalize (S++[SO.ins "Reader" []]).set S.length (lW x x 0)=S1 at g1 x1;simp only[bX g1,true_and];have toE:∀{S'},Old S.length S S'->Ext S S':=λo=>#[o.1,λn h=>o.2 n h ∅]
 refine#[rfl,S.length,x,x,rfl,g1,bE _,hl,?_];unfold sI at q;cases z:gO (sH 6) x with
 |error r'=>
  rw[z] at q;exact λS' o=>q S' (toE (x1.trans o))
 |ok v=>
  obtain⟨t,r1⟩:=v;have hs:=vg (rN 6) x;rw[z] at q hs;intro S2 c2;have g2:=c2.2.1;simp only[<-d8,xE g2];try walk_at "pl"
  refine#[∅,?_];simp only[Iz hs.1];simp only[bindR] at q;cases r1 with
  |nil=>
   simp only[Jp,bO,ah,if_false];try walk_at "pl"
   simp at q;exact q S2 (toE (x1.trans c2.old))
  |cons c t2=>
   simp only[F7,bV,if_true];simp only[reduceCtorEq,if_false] at q;exact#[rfl,q S2 (toE (x1.trans c2.old))]
section
variable{d f c:Nat}{r rest:List Nat}
noncomputable def hd(rest:List Nat)(l:List Nat):Prop:=cv l rest=true
end
section
variable{α:Type}
theorem LS(h0:0<=i)(h1:i<l.length):∃a,tJ l i=some a/\a∈l:=by
 obtain⟨n,rfl⟩:∃n:Nat,i=n:=#[i.toNat,∅]
 have h2:n<l.length:=∅
 exact#[l[n],by rw[ir,aa h2],bI h2]
theorem rP(h0:0<=i)(h1:i<l.length)(h:∀a∈l,r a):opt (tJ l i) r:=by
 obtain⟨a,e,m⟩:=LS h0 h1;rw[e];exact h a m
end
namespace tL
noncomputable def Cv:Spec:=λus S Q _=>∃ns k,us=[.pF ns,.int k]/\ns.length<=1000/\∀m,Q (.int m) S
theorem LU(Γ:bY):Keeps Γ ly 0 Cv:=by
 rintro us S Q E ⟨ns,k,rfl,hl,q⟩;unfold ly;walk_at "pl";by_cases h:ns.length=0
 .simp only[h,bne_self_eq_false,ah,if_false]
  try walk_at "pl"
  exact q 0
 .have h':(ns.length !=0)=true:=by simpa using h
  simp only[h',if_true];try walk_at "pl"
  refine#[∅,∅,∅,?_];exact rP (km _ ∅) (iO _ ∅) (λa _=>q a)
noncomputable def xI:Spec:=λus S Q _=>∃ns k,us=[.pF ns,.int k]/\ns.length<=1000/\∀m:Int,0<=m->m<4294967231->Q (.int m) S
theorem PK(Γ:bY)(h1:Γ "_law_cell"=Cv):Keeps Γ m9 1 xI:=by
 rintro us S Q E ⟨ns,k,rfl,hl,q⟩;unfold m9;walk_at "pl";simp only[h1];refine#[ns,k,rfl,hl,λc=>?_];walk_at "pl";refine#[∅,∅,∅,∅,∅,∅,∅,?_];exact q _ ∅ ∅
noncomputable def IB:Spec:=λus S Q _=>us=[]/\∀G,G=SG->Q (.str G) S
theorem PM(Γ:bY):Keeps Γ ng 1 IB:=by
 rintro us S Q E ⟨rfl,q⟩;unfold ng;walk_at "pl";exact#[⋯,q _ rfl]
end tL
namespace tL
end tL
theorem lL(I:Nat->Env->bJ->Prop)
  (h:∀n env S k,I n env S->(∀m env' S',m<n->I m env' S'->k env' S')->cW env S (λt S1=>if t=true then bW env S1 k else fin env S1)):
  ∀N n env S,n<N->I n env S->yQ cW bW fin N env S
 |0,_,_,_,hn,_=>∅
 |N+1,n,env,S,hn,hi=>h n env S _ hi λm env' S' hm hi'=>lL I h N m env' S' ∅ hi'
theorem DJ(I:Nat->Env->bJ->Prop)(hg:∀i env S,I i env S->g S)(l:List U)
  (h:∀i u env S k,l[i]?=some u->I i env S->(∀env' S',I (i+1) env' S'->k env' S')->turn u env S k) (hf:∀env S,I l.length env S->fin env S):
  ∀n i env S,i+n=l.length->I i env S->uI g turn fin (l.drop i) env S
 |0,i,env,S,e,hi=>by
  rw[dG ∅]
  have:i=l.length:=∅
  subst this;exact#[hg _ _ _ hi,hf _ _ hi]
 |n+1,i,env,S,e,hi=>by
  have hlt:i<l.length:=∅
  rw[eH hlt]
  exact#[hg _ _ _ hi,h i _ env S _ (aa hlt) hi λenv' S' hi'=>DJ I hg l h hf n (i+1) env' S' ∅ hi']
theorem eF{g:bJ->Prop}{turn:U->Env->bJ->(Env->bJ->Prop)->Prop}{fin:Env->bJ->Prop}(I:Nat->Env->bJ->Prop)(hg:∀i env S,I i env S->g S)(l:List U)
  (h:∀i u env S k,l[i]?=some u->I i env S->(∀env' S',I (i+1) env' S'->k env' S')->turn u env S k) (hf:∀env S,I l.length env S->fin env S)
  {env:Env}{S:bJ} (hi:I 0 env S):uI g turn fin l env S:=DJ I hg l h hf l.length 0 env S ∅ hi
theorem mE{n i:Nat}{u:U}(h:((cy n).map λk=>U.int (k:Nat))[i]?=some u):u=.int i/\i<n:=by
 rw[au] at h;have hl:i<n:=by
  rcases Nat.lt_or_ge i n with z|z
  .exact z
  .rw[oM (by simpa using z)] at h;simp at h
 rw[Ej hl] at h;simp at h;exact#[h.symm,hl]
namespace tL
end tL
noncomputable def vh(br:Option (List Nat->PR U))(x:List Nat)(t:U):Prop:=∀rest,qK br (x++rest)= .ok (t,rest)
noncomputable def LV(t:U)(ms:List Nat):U:=ms.foldl (λt c=>Iv c t) t
noncomputable def vi(br:Option (List Nat->PR U))(x:List Nat)(t:U):Prop:=∃a ta ms,x=a++ms/\vh br a ta/\(∀c∈ms,c∈[42,43,63])/\t=LV ta ms
theorem DK:∀(ms:List Nat)(t:U)(rest:List Nat),(∀c∈ms,c∈[42,43,63])->cv [42,43,63] rest=false->lK t (ms++rest)=(LV t ms,rest)
 |[],t,rest,_,h=>by
  cases rest with
  |nil=>rfl
  |cons c r=>
   have h:[42,43,63].contains c=false:=h;rw[fW,lK,h]
   rfl
 |m::ms,t,rest,hm,h=>by
  have e:[42,43,63].contains m=true:=gq.mpr (hm m (bf ..));rw[tD,lK,if_pos e,DK ms _ rest (λc hc=>hm c (aV _ hc)) h]
  rfl
theorem IC(h:vi br x t)(hr:cv [42,43,63] rest=false):iV br (x++rest)= .ok (t,rest):=by
 obtain⟨a,ta,ms,rfl,ha,hm,rfl⟩:=h;unfold iV;rw[bp,ha (ms++rest)]
 simp only[bindR];rw[DK ms ta rest hm hr]
theorem Fe(hb:nQ br)(h:vh br x t):∃c r,x=c::r/\c∉[42,43,63,124,41]:=by
 have h0:=h [];have hs:=vf hb (x++[]);rw[h0] at hs;cases x with
 |nil=>have:=hs.2;simp at this
 |cons c r=>
  refine#[c,r,rfl,λhc=>?_];have e1:cv [40] (c::r++[])=false:=(by decide:∀c∈[42,43,63,124,41],[40].contains c=false) c hc;have e2:cv [91] (c::r++[])=false:=(by decide:∀c∈[42,43,63,124,41],[91].contains c=false) c hc;have e3:cv [46] (c::r++[])=false:=(by decide:∀c∈[42,43,63,124,41],[46].contains c=false) c hc;have e4:cv [92] (c::r++[])=false:=(by decide:∀c∈[42,43,63,124,41],[92].contains c=false) c hc;unfold qK at h0;rw[e1,e2,e3] at h0;simp only[ah,if_false] at h0;rw[AH e4] at h0;have e5:dD (dC MO) (c::r++[])= .error (c::r++[]):=by
   have hn:(dC MO).contains c=false:=by
    have:c∈MO:=(by decide:∀c∈[42,43,63,124,41],c∈MO) c hc;unfold dC;simp only[List.contains_eq_mem,decide_eq_false_iff_not];intro q;have:=(eJ.mp q).2
    simp_all
   show(if (dC MO).contains c=true then _ else _)=_
   rw[if_neg (by rw[hn];simp)]
   rfl
  rw[e5] at h0;cases h0
theorem AL(hb:nQ br)(h:vi br x t):∃c r,x=c::r/\c∉[42,43,63,124,41]:=by
 obtain⟨a,ta,ms,rfl,ha,hm,rfl⟩:=h;obtain⟨c,r,rfl,hc⟩:=Fe hb ha;exact#[c,r++ms,rfl,hc]
inductive qL(br:Option (List Nat->PR U)):List Nat->List U->Prop
 |nil:qL br [] []
 |cons{x y:List Nat}{t:U}{ts:List U}:vi br x t->qL br y ts->qL br (x++y) (t::ts)
theorem sJ(hb:nQ br)(h:qL br y ts)(hr:iW rest=true):cv [42,43,63] (y++rest)=false:=by
 cases h with
 |nil=>
  cases rest with
  |nil=>rfl
  |cons c r=>
   have:[124,41].contains c=true:=by simpa[iW,cv] using hr
   show [42,43,63].contains c=false
   simp at this ⊢;omega
 |cons a b=>
  obtain⟨c,r,rfl,hc⟩:=AL hb a;show [42,43,63].contains c=false;simp at hc ⊢;omega
theorem xJ(hb:nQ br)(hr:iW rest=true):∀{y:List Nat}{ts:List U},qL br y ts->∀(n:Nat)(acc:List U),y.length<n->df iW (iV br) n acc (y++rest)= .ok (acc++ts,rest)
 |_,_,.nil,n,acc,hn=>by
  cases n with
  |zero=>omega
  |succ n=>rw[df,fW,if_pos hr,bb]
 |_,_,.cons (x:=x) (y:=y) (t:=t) (ts:=ts) a b,n,acc,hn=>by
  obtain⟨c,r,rfl,hc⟩:=AL hb a;cases n with
  |zero=>omega
  |succ n=>
   have hs:iW (c::r++y++rest)=false:=by
    unfold iW;have:[124,41].contains c=false:=by simp at hc ⊢;omega
    show(false||[124,41].contains c)=false
    rw[this];rfl
   rw[df,if_neg (by rw[hs];simp),bp,IC a (sJ hb b hr)]
   simp only[bindR];rw[xJ hb hr b n (acc++[t]) (by simp at hn;omega),bp]
   rfl
noncomputable def vj(br:Option (List Nat->PR U))(x:List Nat)(t:U):Prop:=∃ts,ts≠[]/\qL br x ts/\t=ph wd ts
theorem ID(hb:nQ br)(h:vj br x t)(hr:iW rest=true):we br (x++rest)= .ok (t,rest):=by
 obtain⟨ts,hn,h,rfl⟩:=h;cases h with
 |nil=>exact absurd rfl hn
 |@cons x y t ts a b=>
  unfold we;rw[bp,IC a (sJ hb b hr)]
  simp only[bindR];rw[xJ hb hr b _ [t] (by simp;omega)]
  rfl
inductive vk(br:Option (List Nat->PR U)):List Nat->List U->Prop
 |nil:vk br [] []
 |cons{x y:List Nat}{t:U}{ts:List U}:vj br x t->vk br y ts->vk br (124::x++y) (t::ts)
noncomputable def Ff(br:Option (List Nat->PR U))(x:List Nat)(t:U):Prop:=∃a b t0 ts,x=a++b/\vj br a t0/\vk br b ts/\t=ph Q0 (t0::ts)
noncomputable def IE(rest:List Nat):Prop:=rest=[]\/∃r,rest=41::r
theorem xK(h:vk br y ts)(hr:IE rest):iW (y++rest)=true:=by
 cases h with
 |nil=>rcases hr with rfl|⟨r,rfl⟩<;>rfl
 |cons a b=>rfl
theorem xM(hb:nQ br)(hr:IE rest):∀{y:List Nat}{ts:List U},vk br y ts->∀(n:Nat)(acc:List U),y.length<n->df stopOr (PF br) n acc (y++rest)= .ok (acc++ts,rest)
 |_,_,.nil,n,acc,hn=>by
  have e:stopOr rest=true:=by rcases hr with rfl|⟨r,rfl⟩<;>rfl
  cases n with
  |zero=>omega
  |succ n=>rw[df,fW,if_pos e,bb]
 |_,_,.cons (x:=x) (y:=y) (t:=t) (ts:=ts) a b,n,acc,hn=>by
  cases n with
  |zero=>omega
  |succ n=>
   have e:PF br (124::x++y++rest)= .ok (t,y++rest):=by
    unfold PF;have:dD [124] (124::x++y++rest)= .ok (124,x++(y++rest)):=by
     rw[bp];rfl
    rw[this]
    simp only[bindR];exact ID hb a (xK b hr)
   rw[df,if_neg (by simp[stopOr,cv]),e]
   simp only[bindR];rw[xM hb hr b n (acc++[t]) (by simp at hn;omega),bp]
   rfl
theorem xN(hb:nQ br)(h:Ff br x t)(hr:IE rest):gO br (x++rest)= .ok (t,rest):=by
 obtain⟨a,b,t0,ts,rfl,ha,hb',rfl⟩:=h;unfold gO;rw[bp,ID hb ha (xK hb' hr)]
 simp only[bindR];rw[xM hb hr hb' _ [t0] (by simp;omega)]
 rfl
theorem DL(h:Ff (sH k) x t):vh (sH (k+1)) (40::(x++[41])) t:=by
 intro rest;unfold qK;rw[if_pos (by rfl)]
 unfold Q2 sH;show bindR (dD [40] (40::(x++[41]++rest))) _=_;have e1:dD [40] (40::(x++[41]++rest))= .ok (40,x++(41::rest)):=by
  rw[bp];rfl
 rw[e1]
 simp only[bindR];rw[xN (rN k) h (.inr #[rest,rfl])]
 rfl
theorem LW(h:Ff (sH 6) x t):sI x=.ok (t,[]):=by
 unfold sI;have:=xN (rN 6) h (rest:=[]) (.inl rfl);rw[bb] at this;rw[this]
 rfl
end PL
namespace PL.jM
inductive Mk where|star|plus|may
inductive Tr where|one (n:Nat) (l:List Nat)|row (a b:Tr)|or (a b:Tr)|rep (m:Mk) (a:Tr)
noncomputable section
noncomputable def null:Tr->Bool
 |.one _ _=>false
 |.row a b=>null a&&null b
 |.or a b=>null a||null b
 |.rep .plus a=>null a
 |.rep _ _=>true
noncomputable def du(K:List Tr):Bool:=K.all null
noncomputable def FS:Tr->Nat->Bool
 |.one n _,p=>p==n
 |.row a b,p=>FS a p||(null a&&FS b p)
 |.or a b,p=>FS a p||FS b p
 |.rep _ a,p=>FS a p
noncomputable def nH:List Tr->Nat->Bool
 |[],_=>false
 |t::K,p=>FS t p||(null t&&nH K p)
noncomputable def IN:Tr->Nat->Bool
 |.one n _,p=>p==n
 |.row a b,p=>IN a p||IN b p
 |.or a b,p=>IN a p||IN b p
 |.rep _ a,p=>IN a p
noncomputable def sgn:Tr->Nat->List Nat
 |.one _ l,_=>l
 |.row a b,p=>if IN a p then sgn a p else sgn b p
 |.or a b,p=>if IN a p then sgn a p else sgn b p
 |.rep _ a,p=>sgn a p
noncomputable def more:Mk->Tr->List Tr
 |.may,_=>[]
 |_,a=>[.rep .star a]
noncomputable def cont:Tr->Nat->List Tr
 |.one _ _,_=>[]
 |.row a b,p=>if IN a p then cont a p++[b] else cont b p
 |.or a b,p=>if IN a p then cont a p else cont b p
 |.rep m a,p=>cont a p++more m a
noncomputable def ct(t:Tr)(p:Nat):List Tr:=if p=0 then [t] else cont t p
noncomputable def dF:Tr->Nat->List (List Tr)
 |.one _ l,c=>if l.contains c then [[]] else []
 |.or a b,c=>dF a c++dF b c
 |.row a b,c=>(dF a c).map (·++[b])++if null a then dF b c else []
 |.rep m a,c=>(dF a c).map (·++more m a)
noncomputable def dR:List Tr->Nat->List (List Tr)
 |[],_=>[]
 |t::K,c=>(dF t c).map (·++K)++if null t then dR K c else []
noncomputable def size:Tr->Nat
 |.one _ _=>1
 |.row a b=>size a+size b
 |.or a b=>size a+size b
 |.rep _ a=>size a
noncomputable def bH:Tr->Nat
 |.one _ _=>0
 |.row a b=>max (bH a) (bH b)+1
 |.or a b=>max (bH a) (bH b)+1
 |.rep _ a=>bH a+1
noncomputable def nR:Nat->Tr->Prop
 |n,.one k _=>k=n
 |n,.row a b=>nR n a/\nR (n+size a) b
 |n,.or a b=>nR n a/\nR (n+size a) b
 |n,.rep _ a=>nR n a
noncomputable def oB:Tr->List (List Nat)
 |.one _ l=>[l]
 |.row a b=>oB a++oB b
 |.or a b=>oB a++oB b
 |.rep _ a=>oB a
end
theorem gQ:∀t,(oB t).length=size t
 |.one _ _=>rfl
 |.row a b=>by simp[oB,size,gQ a,gQ b]
 |.or a b=>by simp[oB,size,gQ a,gQ b]
 |.rep _ a=>by simp[oB,size,gQ a]
theorem eM:∀{t n p},nR n t->(IN t p=true↔n<=p/\p<n+size t)
 |.one k l,n,p,h=>by
  have h:k=n:=h;subst h;simp only[IN,size,beq_iff_eq];omega
 |.row a b,n,p,h=>by
  simp only[IN,size,aO,eM h.1,eM h.2];omega
 |.or a b,n,p,h=>by
  simp only[IN,size,aO,eM h.1,eM h.2];omega
 |.rep m a,n,p,h=>eM (t:=a) h
theorem rQ:∀{t n p},nR n t->IN t p=true->(oB t)[p-n]?=some (sgn t p)
 |.one k l,n,p,h,i=>by
  have h:k=n:=h;subst h;have:p=k:=by simpa[IN] using i
  simp[this,oB,sgn]
 |.row a b,n,p,h,i=>by
  have e1:=eM (p:=p) h.1;have e2:=eM (p:=p) h.2;have l1:=gQ a;simp only[oB,sgn];by_cases z:IN a p=true
  .rw[if_pos z,aq (by have:=e1.mp z;omega)];exact rQ h.1 z
  .have z2:IN b p=true:=by simpa[IN,z] using i
   have:=e2.mp z2;rw[if_neg z,ay ∅,<-rQ h.2 z2]
   congr 1;omega
 |.or a b,n,p,h,i=>by
  have e1:=eM (p:=p) h.1;have e2:=eM (p:=p) h.2;have l1:=gQ a;simp only[oB,sgn];by_cases z:IN a p=true
  .rw[if_pos z,aq (by have:=e1.mp z;omega)];exact rQ h.1 z
  .have z2:IN b p=true:=by simpa[IN,z] using i
   have:=e2.mp z2;rw[if_neg z,ay ∅,<-rQ h.2 z2]
   congr 1;omega
 |.rep m a,n,p,h,i=>rQ (t:=a) h i
theorem fP(h:nR n a/\nR (n+size a) b)(i:IN b p=true):¬IN a p=true:=λz=>by
 have:=(eM h.1).mp z;have:=(eM h.2).mp i;omega
theorem i7:∀{t p},FS t p=true->IN t p=true
 |.one k l,p,h=>h
 |.row a b,p,h=>by
  simp only[FS,aO,af] at h;simp only[IN,aO];exact h.imp i7 λz=>i7 z.2
 |.or a b,p,h=>by
  simp only[FS,aO] at h;simp only[IN,aO];exact h.imp i7 i7
 |.rep m a,p,h=>i7 (t:=a) h
theorem lM:∀{K L:List Tr}{p:Nat},nH (K++L) p=(nH K p||(du K&&nH L p))
 |[],L,p=>by simp[nH,du]
 |t::K,L,p=>by
  simp only[tD,nH,lM,du,bj];cases null t<;>cases FS t p<;>simp
theorem Cw:∀{K L:List Tr}{c:Nat},dR (K++L) c=(dR K c).map (·++L)++if du K then dR L c else []
 |[],L,c=>by simp[dR,du]
 |t::K,L,c=>by
  simp only[tD,dR,Cw,du,bj];by_cases z:null t=true<;>simp[z,du,eL,kR]
theorem vm:du (K++L)=(du K&&du L):=by simp[du]
theorem IF:nH (more m a) p=true->FS a p=true:=by
 cases m<;>simp[more,nH,FS]
theorem fc:∀{t q p},nH (cont t q) p=true->IN t p=true
 |.one k l,q,p,h=>by simp[cont,nH] at h
 |.row a b,q,p,h=>by
  simp only[cont] at h;simp only[IN,aO];split at h
  .rw[lM] at h
   simp only[aO,af] at h;rcases h with h|⟨_,h⟩
   .exact .inl (fc h)
   .exact .inr (i7 (by simpa[nH] using h))
  .exact .inr (fc h)
 |.or a b,q,p,h=>by
  simp only[cont] at h;simp only[IN,aO];split at h
  .exact .inl (fc h)
  .exact .inr (fc h)
 |.rep m a,q,p,h=>by
  simp only[cont] at h;rw[lM] at h;simp only[aO,af] at h;rcases h with h|⟨_,h⟩
  .exact fc (t:=a) h
  .exact i7 (t:=a) (IF h)
theorem iG:∀{t n c x},nR n t->(x∈dF t c↔∃p,FS t p=true/\c∈sgn t p/\x=cont t p)
 |.one k l,n,c,x,h=>by
  simp only[dF,FS,sgn,cont,beq_iff_eq];by_cases z:c∈l
  .simp[z]
  .simp[z]
 |.row a b,n,c,x,h=>by
  simp only[dF,aE,bx,FS,aO,af];constructor
  .rintro(⟨y,hy,rfl⟩|hy)
   .obtain⟨p,h1,h2,rfl⟩:=(iG h.1).mp hy
    have i:=i7 h1;exact#[p,.inl h1,by simp only[sgn,if_pos i];exact h2,by simp only[cont,if_pos i]]
   .split at hy
    .rename_i z
     obtain⟨p,h1,h2,rfl⟩:=(iG h.2).mp hy;have i:=fP h (i7 h1);exact#[p,.inr #[z,h1],by simp only[sgn,if_neg i];exact h2,by simp only[cont,if_neg i]]
    .simp at hy
  .rintro⟨p,h1|⟨z,h1⟩,h2,rfl⟩
   .have i:=i7 h1
    simp only[sgn,if_pos i] at h2;exact .inl #[_,(iG h.1).mpr #[p,h1,h2,rfl],by simp only[cont,if_pos i]]
   .have i:=fP h (i7 h1)
    simp only[sgn,if_neg i] at h2;rw[if_pos z]
    exact .inr ((iG h.2).mpr #[p,h1,h2,by simp only[cont,if_neg i]])
 |.or a b,n,c,x,h=>by
  simp only[dF,aE,FS,aO];constructor
  .rintro(hy|hy)
   .obtain⟨p,h1,h2,rfl⟩:=(iG h.1).mp hy
    have i:=i7 h1;exact#[p,.inl h1,by simp only[sgn,if_pos i];exact h2,by simp only[cont,if_pos i]]
   .obtain⟨p,h1,h2,rfl⟩:=(iG h.2).mp hy
    have i:=fP h (i7 h1);exact#[p,.inr h1,by simp only[sgn,if_neg i];exact h2,by simp only[cont,if_neg i]]
  .rintro⟨p,h1|h1,h2,rfl⟩
   .have i:=i7 h1
    simp only[sgn,if_pos i] at h2;exact .inl ((iG h.1).mpr #[p,h1,h2,by simp only[cont,if_pos i]])
   .have i:=fP h (i7 h1)
    simp only[sgn,if_neg i] at h2;exact .inr ((iG h.2).mpr #[p,h1,h2,by simp only[cont,if_neg i]])
 |.rep m a,n,c,x,h=>by
  simp only[dF,bx,FS,sgn,cont];constructor
  .rintro⟨y,hy,rfl⟩
   obtain⟨p,h1,h2,rfl⟩:=(iG (t:=a) h).mp hy;exact#[p,h1,h2,rfl]
  .rintro⟨p,h1,h2,rfl⟩
   exact#[_,(iG (t:=a) h).mpr #[p,h1,h2,rfl],rfl]
theorem zg:dR [t] c=dF t c:=by simp[dR]
theorem lY:∀{t n c x q},nR n t->(x∈dR (cont t q) c↔∃p,nH (cont t q) p=true/\c∈sgn t p/\x=cont t p)
 |.one k l,n,c,x,q,h=>by simp[cont,dR,nH]
 |.row a b,n,c,x,q,h=>by
  by_cases z:IN a q=true
  .have e:cont (.row a b) q=cont a q++[b]:=by simp only[cont,if_pos z]
   rw[e,Cw,zg]
   simp only[lM,aE,bx,aO,af];constructor
   .rintro(⟨y,hy,rfl⟩|hy)
    .obtain⟨p,h1,h2,rfl⟩:=(lY h.1).mp hy
     have i:=fc h1;exact#[p,.inl h1,by simp only[sgn,if_pos i];exact h2,by simp only[cont,if_pos i]]
    .split at hy
     .rename_i z
      obtain⟨p,h1,h2,rfl⟩:=(iG h.2).mp hy;have i:=fP h (i7 h1);exact#[p,.inr #[z,by simp[nH,h1]],by simp only[sgn,if_neg i];exact h2,by simp only[cont,if_neg i]]
     .simp at hy
   .rintro⟨p,h1|⟨z,h1⟩,h2,rfl⟩
    .have i:=fc h1
     simp only[sgn,if_pos i] at h2;exact .inl #[_,(lY h.1).mpr #[p,h1,h2,rfl],by simp only[cont,if_pos i]]
    .have h1:FS b p=true:=by simpa[nH] using h1
     have i:=fP h (i7 h1);simp only[sgn,if_neg i] at h2;rw[if_pos z]
     exact .inr ((iG h.2).mpr #[p,h1,h2,by simp only[cont,if_neg i]])
  .have e:cont (.row a b) q=cont b q:=by simp only[cont,if_neg z]
   rw[e,lY h.2]
   constructor
   .rintro⟨p,h1,h2,rfl⟩
    have i:=fP h (fc h1);exact#[p,h1,by simp only[sgn,if_neg i];exact h2,by simp only[cont,if_neg i]]
   .rintro⟨p,h1,h2,rfl⟩
    have i:=fP h (fc h1);simp only[sgn,if_neg i] at h2;exact#[p,h1,h2,by simp only[cont,if_neg i]]
 |.or a b,n,c,x,q,h=>by
  by_cases z:IN a q=true
  .have e:cont (.or a b) q=cont a q:=by simp only[cont,if_pos z]
   rw[e,lY h.1]
   constructor
   .rintro⟨p,h1,h2,rfl⟩
    have i:=fc h1;exact#[p,h1,by simp only[sgn,if_pos i];exact h2,by simp only[cont,if_pos i]]
   .rintro⟨p,h1,h2,rfl⟩
    have i:=fc h1;simp only[sgn,if_pos i] at h2;exact#[p,h1,h2,by simp only[cont,if_pos i]]
  .have e:cont (.or a b) q=cont b q:=by simp only[cont,if_neg z]
   rw[e,lY h.2]
   constructor
   .rintro⟨p,h1,h2,rfl⟩
    have i:=fP h (fc h1);exact#[p,h1,by simp only[sgn,if_neg i];exact h2,by simp only[cont,if_neg i]]
   .rintro⟨p,h1,h2,rfl⟩
    have i:=fP h (fc h1);simp only[sgn,if_neg i] at h2;exact#[p,h1,h2,by simp only[cont,if_neg i]]
 |.rep m a,n,c,x,q,h=>by
  have hm:x∈dR (more m a) c↔∃p,nH (more m a) p=true/\c∈sgn a p/\x=cont (.rep m a) p:=by
   cases m with
   |may=>simp[more,dR,nH]
   |star=>
    show x∈dR [.rep .star a] c↔_
    rw[zg,iG (t:=.rep .star a) h]
    simp[more,nH,FS,sgn]
   |plus=>
    show x∈dR [.rep .star a] c↔_
    rw[zg,iG (t:=.rep .star a) h]
    simp[more,nH,FS,sgn,cont]
  simp only[cont,Cw,lM,aE,bx,aO,af,sgn];constructor
  .rintro(⟨y,hy,rfl⟩|hy)
   .obtain⟨p,h1,h2,rfl⟩:=(lY (t:=a) h).mp hy
    exact#[p,.inl h1,h2,rfl]
   .split at hy
    .rename_i z
     obtain⟨p,h1,h2,rfl⟩:=hm.mp hy;exact#[p,.inr #[z,h1],h2,rfl]
    .simp at hy
  .rintro⟨p,h1|⟨z,h1⟩,h2,rfl⟩
   .exact .inl #[_,(lY (t:=a) h).mpr #[p,h1,h2,rfl],rfl]
   .rw[if_pos z]
    exact .inr (hm.mpr #[p,h1,h2,rfl])
noncomputable def nv:Mk->List Nat
 |.star=>kD
 |.plus=>oA
 |.may=>jN
noncomputable def enc:Tr->U
 |.one _ l=>.tup [.str LO,.str l]
 |.row a b=>.tup [.str wd,.tup [enc a,enc b]]
 |.or a b=>.tup [.str Q0,.tup [enc a,enc b]]
 |.rep m a=>.tup [.str (nv m),enc a]
noncomputable def cK(K:List Tr):U:=.tup (K.map enc)
noncomputable def LX(K:List Tr):U:=.tup [.str wd,cK K]
theorem oC(h:nH (ct t q) p=true):IN t p=true:=by
 unfold ct at h;split at h
 .simp only[nH,aO,af,ah,and_false,or_false] at h
  exact i7 h
 .exact fc h
theorem vn(h:nR n t)(n0:0<n)(i:IN t p=true):p≠0:=by
 have:=(eM h).mp i;omega
theorem vo(h:nR n t)(n0:0<n):x∈dR (ct t q) c↔∃p,nH (ct t q) p=true/\c∈sgn t p/\x=ct t p:=by
 have key:∀p,nH (ct t q) p=true->ct t p=cont t p:=λp hp=>by
  unfold ct;rw[if_neg (vn h n0 (oC hp))]
 have e:x∈dR (ct t q) c↔∃p,nH (ct t q) p=true/\c∈sgn t p/\x=cont t p:=by
  unfold ct;split
  .rw[zg,iG h]
   simp[nH]
  .exact lY h
 rw[e]
 constructor
 .rintro⟨p,h1,h2,h3⟩;exact#[p,h1,h2,h3.trans (key p h1).symm]
 .rintro⟨p,h1,h2,h3⟩;exact#[p,h1,h2,h3.trans (key p h1)]
noncomputable def Tw(t:Tr)(c:Nat)(H:Nat->Prop):Nat->Prop:=λp=>∃q,H q/\nH (ct t q) p=true/\c∈sgn t p
noncomputable def hs(t:Tr)(w:List Nat):Nat->Prop:=w.foldl (λH c=>Tw t c H) (λp=>p=0)
noncomputable def En(t:Tr)(H:Nat->Prop):Prop:=∃p,H p/\du (ct t p)=true
theorem jv:hs t (w++[c])=Tw t c (hs t w):=by unfold hs;rw[mi];rfl
theorem Tz(h:hs t w p):p=0\/IN t p=true:=by
 by_cases z:w=[]
 .subst z;exact .inl h
 .rw[<-vF z,jv] at h
  obtain⟨q,_,h,_⟩:=h;exact .inr (oC h)
theorem take_snoc{w:List Nat}{k c:Nat}(h:w[k]?=some c):w.take (k+1)=w.take k++[c]:=by
 rw[cf,h];rfl
theorem LY{t:Tr}{w:List Nat}{k:Nat}(h:∀p,¬hs t (w.take k) p):∀j,k<=j->∀p,¬hs t (w.take j) p:=by
 intro j hj;obtain⟨i,rfl⟩:∃i,j=k+i:=#[j-k,∅]
 induction i with
 |zero=>exact h
 |succ i ih=>
  intro p hp;cases e:w[k+i]? with
  |none=>
   have:=List.getElem?_eq_none_iff.mp e;rw[bN ∅] at hp;refine ih ∅ p ?_;rw[bN ∅];exact hp
  |some c=>
   rw[<-Nat.add_assoc,take_snoc e,jv] at hp;obtain⟨q,hq,_⟩:=hp;exact ih ∅ q hq
noncomputable def JB(t:Tr)(H:Nat->Prop)(X:List U):Prop:=(∀x,x∈X↔∃p,H p/\x=cK (ct t p))/\X.Nodup
theorem xO(t:Tr):JB t (hs t []) [cK [t]]:=by
 refine#[λx=>?_,by simp];simp only[hs,wG,fS,exists_eq_left]
 rfl
noncomputable def Nn(ts:List Tr)(w:List Nat)(j i:Nat):Prop:=∀t,ts[i]?=some t->¬En t (hs t (w.take j))
noncomputable def sM(ts:List Tr)(w:List Nat)(k:Nat):Option (Nat×Nat)->Prop
 |none=>∀j i,1<=j->j<=k->Nn ts w j i
 |some (i,j)=>(1<=j/\j<=k)/\¬Nn ts w j i/\(∀i',i'<i->Nn ts w j i')/\∀j' i',j<j'->j'<=k->Nn ts w j' i'
theorem zh(h:sM ts w k r)(h':sM ts w k r'):r=r':=by
 have half:∀{i j i' j'},sM ts w k (some (i,j))->sM ts w k (some (i',j'))->¬j<j':=λh h' l=>h'.2.1 (h.2.2.2 _ _ l h'.1.2)
 have no:∀{i j},sM ts w k (some (i,j))->¬sM ts w k none:=λh h'=>h.2.1 (h' _ _ h.1.1 h.1.2)
 have small:∀{i i' j},sM ts w k (some (i,j))->sM ts w k (some (i',j))->¬i<i':=λh h' l=>h.2.1 (h'.2.2.1 _ l)
 rcases r with _|⟨i,j⟩<;>rcases r' with _|⟨i',j'⟩
 .rfl
 .exact absurd h (no h')
 .exact absurd h' (no h)
 .have a1:=half h h'
  have a2:=half h' h;have ej:j=j':=∅
  subst ej;have b1:=small h h';have b2:=small h' h;have ei:i=i':=∅
  subst ei;rfl
theorem oE(h:sM ts w k r)(hl:k<=l)(hn:∀j i,k<j->j<=l->Nn ts w j i):sM ts w l r:=by
 have go:∀{j i},(j<=k->Nn ts w j i)->j<=l->Nn ts w j i:=λ{j i}a b=>by
  by_cases z:j<=k
  .exact a z
  .exact hn j i ∅ b
 rcases r with _|⟨i,j⟩
 .exact λj i h1 h2=>go (λz=>h j i h1 z) h2
 .exact#[#[h.1.1,by have:=h.1.2;omega],h.2.1,h.2.2.1,λj' i' h1 h2=>go (λz=>h.2.2.2 j' i' h1 z) h2]
theorem DM(h:¬Nn ts w (k+1) i)(hn:∀i',i'<i->Nn ts w (k+1) i'):sM ts w (k+1) (some (i,k+1)):=
 #[#[∅,∅],h,hn,λj' i' h1 h2=>absurd h1 ∅]
noncomputable def uR:Option (Nat×Nat)->U
 |none=>.bK
 |some (i,j)=>.tup [.int (i:Nat),.int (j:Nat)]
section
variable{S:bJ}{Q:KU}{a b p:Nat}
theorem B6:jL .bor (.int (a:Nat)) (.int (b:Nat)) S Q=Q (.int ((a|||b:Nat):Int)) S:=by
 rw[OA,eq_true (show(0:Int)<=a/\(0:Int)<=b from #[∅,∅]),true_and];rfl
theorem yT:jL .band (.int (a:Nat)) (.int (b:Nat)) S Q=Q (.int ((a&&&b:Nat):Int)) S:=by
 rw[KP,eq_true (show(0:Int)<=a/\(0:Int)<=b from #[∅,∅]),true_and];rfl
theorem VA:jL .band (.int (a:Nat)) (.int 1) S Q=Q (.int ((a&&&1:Nat):Int)) S:=yT (b:=1)
theorem PN:jL .shl (.int 1) (.int (p:Nat)) S Q=(p<=1000/\Q (.int ((1<<<p:Nat):Int)) S):=by
 rw[OB]
 have e:(1:Int)*(2:Int)^((p:Int).toNat)=((1<<<p:Nat):Int):=by
  rw[sU];simp
 rw[e]
 exact propext #[λh=>#[∅,h.2],λh=>#[∅,h.2]]
theorem Xh:jL .shr (.int (a:Nat)) (.int (p:Nat)) S Q=Q (.int ((a>>>p:Nat):Int)) S:=by
 rw[OC,eq_true (show(0:Int)<=a/\(0:Int)<=p from #[∅,∅]),true_and]
 have e:(a:Int)/(2:Int)^((p:Int).toNat)=((a>>>p:Nat):Int):=by
  rw[Nat.shiftRight_eq_div_pow];simp
 rw[e]
theorem YF:tf .sum [.loc n] S Q=(∃is:List Int,S[n]?=some (.lst (is.map .int))/\Q (.int is.sum) S):=rfl
end
theorem TB:(((a>>>p&&&1:Nat):Int) !=0)=a.testBit p:=by
 unfold Nat.testBit;rw[Nat.and_comm]
 by_cases h:1&&&a>>>p=0
 .simp[h]
 .have:¬(((1&&&a>>>p:Nat):Int)=0):=∅
  rw[bne_iff_ne.mpr this,bne_iff_ne.mpr h]
theorem zi{a:Nat}:((a:Int) !=0)=true↔∃p,a.testBit p=true:=by
 constructor
 .intro h
  have:a≠0:=by
   have:=bne_iff_ne.mp h;omega
  exact vG this
 .rintro⟨p,h⟩
  refine bne_iff_ne.mpr λz=>?_
  have:a=0:=∅
  subst this;simp at h
theorem PQ(h:b.testBit p=true):p<sE b:=by
 have g:=Nat.ge_two_pow_of_testBit h;have b0:b≠0:=by
  have:0<2^p:=Nat.two_pow_pos p;omega
 unfold sE;rw[if_neg b0]
 have:=(Nat.le_log2 b0).mpr g;omega
theorem bits_le(h:b<2^n):sE b<=n:=by
 unfold sE;split
 .omega
 .rename_i z
  have:=(Nat.log2_lt z).mpr h;omega
theorem kE(h:∀p,b.testBit p=true->p<n):b<2^n:=Nat.lt_of_not_le λz=>by
 obtain⟨i,hi,ti⟩:=Nat.exists_ge_and_testBit_of_ge_two_pow z;have:=h i ti;omega
noncomputable def rR(b:Nat):List Nat:=(cy (sE b)).filter b.testBit
theorem kF:p∈rR b↔b.testBit p=true:=by
 unfold rR;rw[eJ,wo]
 exact#[λh=>h.2,λh=>#[PQ h,h]]
noncomputable abbrev a9(n:Nat):U:=.int (n:Nat)
theorem fQ{g:bJ->Prop}{c:U->bJ->(Bool->bJ->Prop)->Prop}{e:U->bJ->KU->Prop}{Q:List U->bJ->Prop}(l:List U)(I:Nat->List U->bJ->Prop)(hg:∀i acc S,i<=l.length->I i acc S->g S/\acc.length<1000000)
  (h:∀i u acc S(k:List U->bJ->Prop),l[i]?=some u->I i acc S->(∀acc' S',I (i+1) acc' S'->k acc' S')->c u S λb S1=>if b=true then e u S1 λv S2=>k (acc++[v]) S2 else k acc S1) (hf:∀acc S,I l.length acc S->Q acc S){S:bJ} (h0:I 0 [] S):nG g c e Q l [] S:=by
 have key:∀n i acc S,i+n=l.length->I i acc S->nG g c e Q (l.drop i) acc S:=by
  intro n;induction n with
  |zero=>
   intro i acc S e hi;rw[dG ∅]
   have ei:i=l.length:=∅
   subst ei;exact#[(hg _ _ _ (ax _) hi).1,(hg _ _ _ (ax _) hi).2,hf _ _ hi]
  |succ n ih=>
   intro i acc S e hi;have hl:i<l.length:=∅
   rw[eH hl]
   exact#[(hg _ _ _ ∅ hi).1,(hg _ _ _ ∅ hi).2,h i _ acc S _ (aa hl) hi λacc' S' h'=>ih (i+1) acc' S' ∅ h']
 exact key l.length 0 [] S ∅ h0
theorem xP(l:List U)(p:U->Bool)(f:U->U)(hg:g S)(hl:l.length<1000000)
  (h:∀u k,u∈l->((p u=true->k true S)/\(p u=false->k false S)->c u S k)) (he:∀u k,u∈l->p u=true->k (f u) S->e u S k) (q:Q ((l.filter p).map f) S):nG g c e Q l [] S:=by
 refine fQ l (λi acc S'=>S'=S/\acc=((l.take i).filter p).map f) (λi acc S' hi h=>#[h.1▸hg,?_]) (λi u acc S' k hu hi hk=>?_) (λacc S' h=>?_) #[rfl,rfl]
 .rw[h.2,ar]
  have:=Bw p (l.take i);rw[gW] at this;omega
 .obtain⟨rfl,rfl⟩:=hi
  have hm:=aw hu;have et:l.take (i+1)=l.take i++[u]:=by rw[cf,hu];rfl
  refine h u _ hm #[λz=>?_,λz=>?_]
  .rw[if_pos rfl]
   exact he u _ hm z (hk _ _ #[rfl,by rw[et,FF,eL,List.filter_cons_of_pos z];rfl])
  .rw[if_neg (by simp)]
   exact hk _ _ #[rfl,by rw[et,FF,List.filter_cons_of_neg (by simp[z])];simp]
 .obtain⟨rfl,rfl⟩:=h
  rw[b9];exact q
noncomputable section
noncomputable def live:Tr->Bool
 |.one _ l=>!l.isEmpty
 |.row a b=>live a&&live b
 |.or a b=>live a||live b
 |.rep .plus a=>live a
 |.rep _ _=>true
noncomputable def dm(K:List Tr):Bool:=K.all live
noncomputable def sN:Tr->Bool
 |.one _ l=>!l.isEmpty
 |.row a b=>(live a&&live b)&&(sN a||sN b)
 |.or a b=>sN a||sN b
 |.rep _ a=>sN a
noncomputable def mF(K:List Tr):Bool:=dm K&&K.any sN
noncomputable def ml:Tr->Nat
 |.one _ _=>1
 |.row a b=>ml a+ml b
 |.or a b=>if live a then if live b then min (ml a) (ml b) else ml a else ml b
 |.rep .plus a=>ml a
 |.rep _ _=>0
noncomputable def Bj(K:List Tr):Nat:=(K.map ml).sum
end
theorem iX:dm (K++L)=(dm K&&dm L):=by simp[dm]
theorem Cy:Bj (K++L)=Bj K+Bj L:=by simp[Bj]
theorem vp:dm [t]=live t:=by simp[dm]
theorem PU:Bj [t]=ml t:=by simp[Bj]
theorem rS:dm (more m a)=true/\Bj (more m a)=0:=by cases m<;>exact#[rfl,rfl]
theorem gR:∀{t},null t=true->live t=true
 |.row a b,h=>by
  simp only[null,af] at h;simp only[live,gR h.1,gR h.2,Bool.and_self]
 |.or a b,h=>by
  simp only[null,aO] at h;simp only[live,aO];exact h.imp gR gR
 |.rep .plus a,h=>gR (t:=a) h
 |.rep .star _,_=>rfl
 |.rep .may _,_=>rfl
theorem vq(h:du K=true):dm K=true:=by
 rw[du,bR] at h;rw[dm,bR]
 exact λt m=>gR (h t m)
theorem lN:∀{t c x},x∈dF t c->dm x=true->live t=true/\sN t=true
 |.one k l,c,x,h,_=>by
  have:l≠[]:=λe=>by subst e;simp[dF] at h
  cases l with
  |nil=>exact absurd rfl this
  |cons=>exact#[rfl,rfl]
 |.or a b,c,x,h,z=>by
  simp only[dF,aE] at h;simp only[live,sN,aO];rcases h with h|h
  .exact#[.inl (lN h z).1,.inl (lN h z).2]
  .exact#[.inr (lN h z).1,.inr (lN h z).2]
 |.row a b,c,x,h,z=>by
  simp only[dF,aE,bx] at h;simp only[live,sN,af,aO];rcases h with⟨y,h,rfl⟩|h
  .rw[iX,vp,af] at z
   obtain⟨z1,z2⟩:=lN h z.1;exact#[#[z1,z.2],#[z1,z.2],.inl z2]
  .split at h
   .rename_i n
    obtain⟨z1,z2⟩:=lN h z;exact#[#[gR n,z1],#[gR n,z1],.inr z2]
   .simp at h
 |.rep m a,c,x,h,z=>by
  simp only[dF,bx] at h;obtain⟨y,h,rfl⟩:=h;rw[iX,af] at z;obtain⟨z1,z2⟩:=lN (t:=a) h z.1;exact#[by cases m<;>first|rfl|exact z1,z2]
theorem zj:∀{K c x},x∈dR K c->dm x=true->mF K=true
 |[],c,x,h,_=>by simp[dR] at h
 |t::K,c,x,h,z=>by
  simp only[dR,aE,bx] at h;simp only[mF,dm,bj,cV,af,aO];rcases h with⟨y,h,rfl⟩|h
  .rw[iX,af] at z
   obtain⟨z1,z2⟩:=lN h z.1;exact#[#[z1,z.2],.inl z2]
  .split at h
   .rename_i n
    have:=zj h z;simp only[mF,dm,af] at this;exact#[#[gR n,this.1],.inr this.2]
   .simp at h
noncomputable def Gn(t:Tr):Prop:=∃c x,x∈dF t c/\dm x=true
noncomputable def Gm(t:Tr):Prop:=∃c x,x∈dF t c/\dm x=true/\Bj x<ml t
theorem oF:∀t,(live t=true->null t=false->Gm t)/\(sN t=true->Gn t)
 |.one k l=>by
  have:(!l.isEmpty)=true->Gm (.one k l):=λh=>by
   cases l with
   |nil=>simp at h
   |cons c l=>exact#[c,[],by simp[dF],rfl,by simp[Bj,ml]]
  exact#[λh _=>this h,λh=>by obtain⟨c,x,h1,h2,_⟩:=this h;exact#[c,x,h1,h2]]
 |.or a b=>by
  obtain⟨a1,a2⟩:=oF a;obtain⟨b1,b2⟩:=oF b;refine#[λh n=>?_,λh=>?_]
  .simp only[live,aO] at h
   simp only[null,Bool.or_eq_false_iff] at n;have La:live a=true->∃c x,x∈dF (.or a b) c/\dm x=true/\Bj x<ml a:=λz=>by
    obtain⟨c,x,h1,h2,h3⟩:=a1 z n.1;exact#[c,x,by simp only[dF,aE];exact .inl h1,h2,h3]
   have Lb:live b=true->∃c x,x∈dF (.or a b) c/\dm x=true/\Bj x<ml b:=λz=>by
    obtain⟨c,x,h1,h2,h3⟩:=b1 z n.2;exact#[c,x,by simp only[dF,aE];exact .inr h1,h2,h3]
   by_cases za:live a=true
   .by_cases zb:live b=true
    .by_cases q:ml a<=ml b
     .obtain⟨c,x,h1,h2,h3⟩:=La za
      exact#[c,x,h1,h2,by simp only[ml,if_pos za,if_pos zb];omega]
     .obtain⟨c,x,h1,h2,h3⟩:=Lb zb
      exact#[c,x,h1,h2,by simp only[ml,if_pos za,if_pos zb];omega]
    .obtain⟨c,x,h1,h2,h3⟩:=La za
     exact#[c,x,h1,h2,by simp only[ml,if_pos za,if_neg zb];exact h3]
   .obtain⟨c,x,h1,h2,h3⟩:=Lb (h.resolve_left za)
    exact#[c,x,h1,h2,by simp only[ml,if_neg za];exact h3]
  .simp only[sN,aO] at h
   rcases h with h|h
   .obtain⟨c,x,h1,h2⟩:=a2 h
    exact#[c,x,by simp only[dF,aE];exact .inl h1,h2]
   .obtain⟨c,x,h1,h2⟩:=b2 h
    exact#[c,x,by simp only[dF,aE];exact .inr h1,h2]
 |.row a b=>by
  obtain⟨a1,a2⟩:=oF a;obtain⟨b1,b2⟩:=oF b;have up:∀{c x},x∈dF a c->x++[b]∈dF (.row a b) c:=λ{c x}h=>by
   simp only[dF,aE,bx];exact .inl #[x,h,rfl]
  have ub:∀{c x},null a=true->x∈dF b c->x∈dF (.row a b) c:=λ{c x}n h=>by
   simp only[dF,aE,if_pos n];exact .inr h
  refine#[λh n=>?_,λh=>?_]
  .simp only[live,af] at h
   simp only[null] at n;by_cases na:null a=true
   .obtain⟨c,x,h1,h2,h3⟩:=b1 h.2 (by simpa[na] using n)
    exact#[c,x,ub na h1,h2,by simp only[ml];omega]
   .obtain⟨c,x,h1,h2,h3⟩:=a1 h.1 (by simpa using na)
    exact#[c,_,up h1,by rw[iX,vp,h2,h.2];rfl,by rw[Cy,PU];simp only[ml];omega]
  .simp only[sN,af,aO] at h
   obtain⟨⟨za,zb⟩,h⟩:=h;have one:Gn a->Gn (.row a b):=λ⟨c,x,h1,h2⟩=>#[c,_,up h1,by rw[iX,vp,h2,zb];rfl]
   rcases h with h|h
   .exact one (a2 h)
   .by_cases na:null a=true
    .obtain⟨c,x,h1,h2⟩:=b2 h
     exact#[c,x,ub na h1,h2]
    .obtain⟨c,x,h1,h2,_⟩:=a1 za (by simpa using na)
     exact one #[c,x,h1,h2]
 |.rep m a=>by
  obtain⟨a1,a2⟩:=oF a;have up:∀{c x},x∈dF a c->x++more m a∈dF (.rep m a) c:=λ{c x}h=>by
   simp only[dF,bx];exact#[x,h,rfl]
  refine#[λh n=>?_,λh=>?_]
  .cases m with
   |star=>simp[null] at n
   |may=>simp[null] at n
   |plus=>
    obtain⟨c,x,h1,h2,h3⟩:=a1 h n;exact#[c,_,up h1,by rw[iX,h2,rS.1];rfl,by rw[Cy,rS.2];exact h3]
  .obtain⟨c,x,h1,h2⟩:=a2 h
   exact#[c,_,up h1,by rw[iX,h2,rS.1];rfl]
theorem DN:∀{K},dm K=true->du K=false->∃c x,x∈dR K c/\dm x=true/\Bj x<Bj K
 |[],_,n=>by simp[du] at n
 |t::K,h,n=>by
  simp only[dm,bj,af] at h;simp only[du,bj] at n;by_cases z:null t=true
  .obtain⟨c,x,h1,h2,h3⟩:=DN (K:=K) h.2 (by rw[z,qk] at n;exact n)
   refine#[c,x,by simp only[dR,aE,if_pos z];exact .inr h1,h2,?_];simp only[Bj,aD,mL] at h3 ⊢;omega
  .obtain⟨c,x,h1,h2,h3⟩:=(oF t).1 h.1 (by simpa using z)
   refine#[c,x++K,by simp only[dR,aE,bx];exact .inl #[x,h1,rfl],by rw[iX,h2];exact h.2,?_];rw[Cy]
   simp only[Bj,aD,mL] at h3 ⊢;omega
theorem DO:∀{K},mF K=true->∃c x,x∈dR K c/\dm x=true
 |[],h=>by simp[mF] at h
 |t::K,h=>by
  simp only[mF,dm,bj,cV,af,aO] at h;obtain⟨⟨h1,h2⟩,h⟩:=h;have one:Gn t->∃c x,x∈dR (t::K) c/\dm x=true:=λ⟨c,x,z1,z2⟩=>#[c,x++K,by simp only[dR,aE,bx];exact .inl #[x,z1,rfl],by rw[iX,z2];exact h2]
  rcases h with h|h
  .exact one ((oF t).2 h)
  .by_cases z:null t=true
   .obtain⟨c,x,z1,z2⟩:=DO (K:=K) (by rw[mF,dm,h2,h];rfl)
    exact#[c,x,by simp only[dR,aE,if_pos z];exact .inr z1,z2]
   .obtain⟨c,x,z1,z2,_⟩:=(oF t).1 h1 (by simpa using z)
    exact one #[c,x,z1,z2]
theorem vt:mF K=true↔∃c x,x∈dR K c/\dm x=true:=#[DO,λ⟨_,_,h1,h2⟩=>zj h1 h2]
end PL.jM
open PL.jM
local macro_rules | `(tactic| walk_at "qpk") => do let a:=((wN0++" WH Ys Yw Yx Yy Yz WL YA Wv YF B6 yT VA PN Xh Ww Yd Vo Wx getD_some Int.toNat_natCast Bool.false_eq_true if_false if_true Bool.not_true Bool.not_false").splitOn " ").toArray.map fun s=>Lean.mkIdent s.toName;`(tactic| simp only [$[$a:ident],*])
local macro_rules | `(tactic| walk_at "pk") => `(tactic| ((try refine Rest.go ?_); walk_at "qpk"; repeat ((refine Rest.go ?_); walk_at "qpk")))
namespace PL.jM
noncomputable def AM:Spec:=λus S Q _=>∃b:Nat,us=[a9 b]/\b<2^100/\∀n S',Ext S S'->S.length<=n->S'[n]?=some (.lst ((rR b).map a9))->Q (.loc n) S'
theorem PV(Γ:bY):Keeps Γ o9 0 AM:=by
 rintro us S Q E ⟨b,rfl,hb,q⟩;unfold o9;room;have hl:=bits_le hb;refine#[∅,∅,∅,?_];refine xP (S:=S) _ (λu=>match u with|.int i=>b.testBit i.toNat|_=>false) id trivial (by simp;omega) (λu k hu h=>?_) (λu k _ _ h=>h) ?_
 .obtain⟨p,_,rfl⟩:=bx.mp hu
  room;rw[TB]
  cases z:b.testBit p with
  |true=>exact h.1 z
  |false=>exact h.2 z
 .refine q _ _ (Ext.app _) (ax _) ?_
  have:((cy (sE b)).map λk=>U.int (k:Nat)).filter (λu=>match u with|.int i=>b.testBit i.toNat|_=>false)=(rR b).map a9:=by
   rw[List.filter_map];rfl
  rw[List.map_id,this];simp
noncomputable def JC(e:Bool)(F Z:Nat):SO:=.ins "Part" [("empty",.bl e),("firsts",a9 F),("lasts",a9 Z)]
section
variable{S:bJ}{p F Z:Nat}{e:Bool}{r:U->Prop}(h:S[p]?=some (JC e F Z))
include h
theorem Fg:jB (.loc p) "empty" S r=r (.bl e):=by rw[d8,h];rfl
theorem AN:jB (.loc p) "firsts" S r=r (a9 F):=by rw[d8,h];rfl
theorem AO:jB (.loc p) "lasts" S r=r (a9 Z):=by rw[d8,h];rfl
end
noncomputable def zk:Spec:=λus S Q _=>∃p e F Z,us=[.loc p,.bl e,a9 F,a9 Z]/\S[p]?=some (.ins "Part" [])/\Q .bK (S.set p (JC e F Z))
theorem TC(Γ:bY):Keeps Γ lA 0 zk:=by
 rintro us S Q E ⟨p,e,F,Z,rfl,h,q⟩;unfold lA;room;rw[h]
 simp only[aZ];refine#[by simp,?_];have g1:=gs (o':=SO.ins "Part" (d7 "empty" (U.bl e) [])) h;room;rw[g1]
 simp only[aZ];refine#[by simp[d7],?_];have g2:=gs (o':=SO.ins "Part" (d7 "firsts" (a9 F) (d7 "empty" (U.bl e) []))) g1;room;rw[g2]
 simp only[aZ];refine#[by simp[d7],?_];room;rw[sk,sk]
 exact q
theorem pN{Γ:bY}(h1:Γ "Part.__init__"=zk){e:Bool}{F Z:Nat}{S:bJ}{R:KU}{E:KX}(q:∀S',Ext S S'->S'[S.length]?=some (JC e F Z)->R .bK S'):
  Γ "Part.__init__" [.loc S.length,.bl e,a9 F,a9 Z] (S++[.ins "Part" []]) R E:=by
 have g:(S++[SO.ins "Part" []])[S.length]?=some (.ins "Part" []):=by simp
 refine ca h1 #[S.length,e,F,Z,rfl,g,q _ #[by simp,λn hn=>?_] (gs g)];rw[av ∅,aq hn]
noncomputable def qf(f:Bool->Nat->Nat->Bool->Nat->Nat->Bool×Nat×Nat):Spec:=λus S Q _=>∃p1 e1 F1 Z1 p2 e2 F2 Z2,us=[.loc p1,.loc p2]/\S[p1]?=some (JC e1 F1 Z1)/\S[p2]?=some (JC e2 F2 Z2) /\
 ∀S',Ext S S'->S'[S.length]?=some (JC (f e1 F1 Z1 e2 F2 Z2).1 (f e1 F1 Z1 e2 F2 Z2).2.1 (f e1 F1 Z1 e2 F2 Z2).2.2)->Q (.loc S.length) S'
noncomputable def rT(e1:Bool)(F1 Z1:Nat)(e2:Bool)(F2 Z2:Nat):Bool×Nat×Nat:=(e1&&e2,if e1 then F1|||F2 else F1,if e2 then Z1|||Z2 else Z2)
noncomputable def TF(e1:Bool)(F1 Z1:Nat)(e2:Bool)(F2 Z2:Nat):Bool×Nat×Nat:=(e1||e2,F1|||F2,Z1|||Z2)
theorem PX(Γ:bY)(h1:Γ "Part.__init__"=zk):Keeps Γ fE 2 (qf rT):=by
 rintro us S Q E ⟨p1,e1,F1,Z1,p2,e2,F2,Z2,rfl,g1,g2,q⟩;unfold fE;room;cases e1<;>cases e2<;>(repeat first|room|simp only[Fg g1,Fg g2,AN g1,AN g2,AO g1,AO g2])
 .exact pN h1 λS' x g=>#[rfl,q S' x g]
 .exact pN h1 λS' x g=>#[rfl,q S' x g]
 .exact pN h1 λS' x g=>#[rfl,q S' x g]
 .exact pN h1 λS' x g=>#[rfl,q S' x g]
theorem TH(Γ:bY)(h1:Γ "Part.__init__"=zk):Keeps Γ iS 0 (qf TF):=by
 rintro us S Q E ⟨p1,e1,F1,Z1,p2,e2,F2,Z2,rfl,g1,g2,q⟩;unfold iS;cases e1<;>(repeat first|room|simp only[Fg g1,Fg g2,AN g1,AN g2,AO g1,AO g2])
 .exact pN h1 λS' x g=>#[rfl,q S' x g]
 .exact pN h1 λS' x g=>#[rfl,q S' x g]
structure qM(S:bJ)(L:Nat)(sg:List (List Nat))(bh en:List Nat):Prop where
 o:S[L]?=some (.ins "Layout" [("signs",.loc (L+1)),("behind",.loc (L+2)),("ends",.loc (L+3))])
 s:S[L+1]?=some (.lst (sg.map .str))
 b:S[L+2]?=some (.lst (bh.map a9))
 e:S[L+3]?=some (.lst (en.map a9))
noncomputable def Fr(L:Nat)(S S':bJ):Prop:=S.length<=S'.length/\∀n,n<S.length->n<=L\/L+4<=n->S'[n]?=S[n]?
section
variable{S S1 S2:bJ}{L:Nat}{sg:List (List Nat)}{bh en:List Nat}{r:U->Prop}{q:KU}
theorem Fr.refl:Fr L S S:=#[ax _,λ_ _ _=>rfl]
theorem Fr.trans(a:Fr L S S1)(b:Fr L S1 S2):Fr L S S2:=#[aT a.1 b.1,λn h z=>(b.2 n (aM h a.1) z).trans (a.2 n h z)]
theorem Ext.fr(a:Ext S S1):Fr L S S1:=#[a.1,λn h _=>a.2 n h]
theorem Fr.get(a:Fr L S S1){n:Nat}{o:SO}(h:S[n]?=some o)(z:L+4<=n):S1[n]?=some o:=(a.2 n (bG h) (.inr z)).trans h
theorem Fr.set(a:Fr L S S1){n:Nat}{o:SO}(h1:L<n)(h2:n<L+4):Fr L S (S1.set n o):=#[by rw[cZ];exact a.1,λm h z=>by rw[av ∅];exact a.2 m h z]
variable(h:qM S L sg bh en)
include h
theorem qM.ext(x:Ext S S1):qM S1 L sg bh en:=#[x.get h.o,x.get h.s,x.get h.b,x.get h.e]
theorem qM.len:L+4<=S.length:=bG h.e
theorem IG:jB (.loc L) "signs" S r=r (.loc (L+1)):=by rw[d8,h.o];rfl
theorem II:jB (.loc L) "behind" S r=r (.loc (L+2)):=by rw[d8,h.o];rfl
theorem PY:jB (.loc L) "ends" S r=r (.loc (L+3)):=by rw[d8,h.o];rfl
theorem qM.Xi:qM (S.set (L+1) (.lst (sg'.map .str))) L sg' bh en:=
 #[by rw[av ∅];exact h.o,gs h.s,by rw[av ∅];exact h.b,by rw[av ∅];exact h.e]
theorem qM.setB:qM (S.set (L+2) (.lst (bh'.map a9))) L sg bh' en:=
 #[by rw[av ∅];exact h.o,by rw[av ∅];exact h.s,gs h.b,by rw[av ∅];exact h.e]
theorem qM.Xj:qM (S.set (L+3) (.lst (en'.map a9))) L sg bh en':=
 #[by rw[av ∅];exact h.o,by rw[av ∅];exact h.s,by rw[av ∅];exact h.b,gs h.e]
end
noncomputable def PZ:Spec:=λus S Q _=>∃L,us=[.loc L]/\S[L]?=some (.ins "Layout" [])/\S.length=L+1/\∀S',(∀n,n<L->S'[n]?=S[n]?)->qM S' L [[]] [0] []->Q .bK S'
theorem TJ(Γ:bY):Keeps Γ jo 0 PZ:=by
 rintro us S Q E ⟨L,rfl,h,hl,q⟩;unfold jo;room;refine#[by simp,?_];have g0:(S++[SO.lst [U.str []]])[L]?=some (.ins "Layout" []):=by rw[aq ∅];exact h
 rw[g0]
 simp only[aZ];refine#[by simp,?_];have g1:=gs (o':=SO.ins "Layout" (d7 "signs" (U.loc S.length) [])) g0;room;refine#[by simp,?_];rw[aq (by simp;omega),g1]
 simp only[aZ];refine#[by simp[d7],?_];room;refine#[by simp,?_];rw[aq (by simp;omega),gs (by rw[aq (by simp;omega)];exact g1)]
 simp only[aZ];refine#[by simp[d7],?_];room;refine q _ (λn hn=>?_) #[?_,?_,?_,?_]
 .simp[gU,i6,hl,kK hn,cM hn,cM (cM hn),cM (cM (cM hn))]
 .rw[bU (by simp;omega)]
  simp[d7,hl]
 .rw[av ∅]
  simp[gU,i6,hl]
 .rw[av ∅]
  simp[gU,i6,hl]
 .rw[av ∅]
  simp[gU,i6,hl]
noncomputable def P0:Spec:=λus S Q _=>∃L sg bh en,us=[.loc L]/\qM S L sg bh en/\sg.length<=1000/\Q (.int (sg.length-1:Int)) S
theorem TK(Γ:bY):Keeps Γ fY 0 P0:=by
 rintro us S Q E ⟨L,sg,bh,en,rfl,h,hl,q⟩;unfold fY;room;rw[IG h,uL h.s]
 simp only[aP,ar];exact#[∅,q]
theorem tO{l:List Nat}{k B:Nat}{r:U->Prop}(h:l[k]?=some B)(z:r (a9 B)):opt ((l.map a9)[k]?) r:=by
 rw[au,h];exact z
noncomputable def P1:Spec:=λus S Q _=>∃L sg bh en p e F Z B bt,us=[.loc L,.loc p]/\qM S L sg bh en/\bh=B::bt/\S[p]?=some (JC e F Z)/\L+4<=p/\en.length<=1000/\∀S',Fr L S S'->qM S' L sg ((B|||F)::bt) (en++[Z])->Q .bK S'
theorem TL(Γ:bY):Keeps Γ eT 0 P1:=by
 rintro us S Q E ⟨L,sg,bh,en,p,e,F,Z,B,bt,rfl,h,rfl,hp,pl,hn,q⟩;unfold eT;room;rw[II h]
 room;rw[h.b]
 simp only[aH];refine#[Int.le_refl _,?_];simp only[Int.toNat_zero];refine tO (B:=B) rfl ?_;rw[AN hp]
 room;rw[h.b]
 simp only[aH];refine#[by simp,?_];have h1:=h.setB (bh':=(B|||F)::bt);have e1:(cU a9 (B::bt)).set 0 (U.int ((B|||F:Nat):Int))=cU a9 ((B|||F)::bt):=by simp
 rw[e1]
 have f1:=(Fr.refl (L:=L) (S:=S)).set (n:=L+2) (o:=.lst (cU a9 ((B|||F)::bt))) ∅ ∅;have hp1:=f1.get hp pl;generalize S.set (L+2) (.lst (cU a9 ((B|||F)::bt)))=S1 at h1 f1 hp1;room;rw[PY h1]
 room;rw[h1.e]
 simp only[aH];room;rw[AO hp1]
 refine#[by simp;omega,?_];room;have e2:cU a9 en++[a9 Z]=cU a9 (en++[Z]):=by simp
 rw[e2]
 exact q _ (f1.set ∅ ∅) h1.Xj
noncomputable def TM(Z F:Nat)(bh bh':List Nat):Prop:=bh'.length=bh.length/\∀(q B:Nat),bh[q]?=some B->∃B',bh'[q]?=some B'/\∀r,B'.testBit r=(B.testBit r||(Z.testBit q&&F.testBit r))
noncomputable def IJ:Spec:=λus S Q _=>∃L sg bh en Z F,us=[.loc L,a9 Z,a9 F]/\qM S L sg bh en/\bh.length<=100/\(∀p,Z.testBit p=true->p<bh.length)/\∀S' bh',Fr L S S'->qM S' L sg bh' en->TM Z F bh bh'->Q .bK S'
theorem TN(Γ:bY)(h1:Γ "members"=AM):Keeps Γ jq 1 IJ:=by
 rintro us S Q E ⟨L,sg,bh,en,Z,F,rfl,h,hl,hz,q⟩;unfold jq;room;refine ca h1 #[Z,rfl,aM (kE hz) (bB ∅ hl),λn S1 x1 hn g1=>?_];room;rw[g1]
 simp only[aH];have hln:=h.len;refine eF (λi env S2=>∃bh2 x3,env=[some (.loc L),some (a9 Z),some (a9 F),x3]/\Fr L S1 S2/\qM S2 L sg bh2 en/\bh2.length=bh.length/\∀(q B:Nat),bh[q]?=some B->∃B',bh2[q]?=some B'/\∀r,B'.testBit r=(B.testBit r||(decide (q∈(rR Z).take i)&&F.testBit r)))
  (λi env S2 #[_,_,_,f,_]=>f.get g1 ∅) _ ?_ ?_ #[bh,none,rfl,.refl,h.ext x1,rfl,λq B e=>#[B,e,λr=>by simp]]
 .rintro i u env S2 K hu ⟨bh2,x3,rfl,f2,h2,l2,inv⟩ hK
  rw[au] at hu;obtain⟨p,hp,rfl⟩:=ag.mp hu;have pz:=kF.mp (aw hp);have pl:=hz p pz;obtain⟨B',e',b'⟩:=inv p _ (aa pl);room;rw[II h2]
  room;rw[h2.b]
  simp only[aH];refine#[∅,tO e' ?_];room;rw[h2.b]
  simp only[aH];refine#[by simp;omega,?_];have ee:(cU a9 bh2).set p (U.int ((B'|||F:Nat):Int))=cU a9 (bh2.set p (B'|||F)):=by rw[List.map_set]
  rw[ee]
  room;refine hK _ _ #[_,_,rfl,f2.set ∅ ∅,h2.setB,by simp[l2],λq B e=>?_];have et:(rR Z).take (i+1)=(rR Z).take i++[p]:=by rw[cf,hp];rfl
  rw[et]
  by_cases z:q=p
  .subst z
   rw[aa pl] at e;injection e with e;subst e
   refine#[B'|||F,by rw[bU ∅],λr=>?_];rw[cC,b']
   simp only[aE,fS,or_true,decide_true,qk];cases bh[q].testBit r<;>cases F.testBit r<;>simp
  .obtain⟨B2,e2,b2⟩:=inv q B e
   refine#[B2,by rw[av (dM z)];exact e2,λr=>?_];rw[b2]
   simp[z]
 .rintro env S2 ⟨bh2,x3,rfl,f2,h2,l2,inv⟩
  room;refine q _ _ (Ext.fr x1 |>.trans f2) h2 #[l2,λq B e=>?_];obtain⟨B',e',b'⟩:=inv q B e;refine#[B',e',λr=>?_];rw[b',ar,b9]
  congr 2
  by_cases z:Z.testBit q=true
  .rw[z];exact decide_eq_true (kF.mpr z)
  .rw[fA _ |>.mp z];exact decide_eq_false λm=>z (kF.mp m)
structure tm(t:Tr)(bh:List Nat)(F Z:Nat)(bh':List Nat):Prop where
 f:∀p,F.testBit p=FS t p
 z:∀p,Z.testBit p=(IN t p&&du (cont t p))
 len:bh'.length=bh.length+size t
 old:∀q,q<bh.length->bh'[q]?=bh[q]?
 new:∀q,IN t q=true->∃B:Nat,bh'[q]?=some B/\∀p,B.testBit p=nH (cont t q) p
noncomputable def ik(D:Tr->U->Prop):Spec:=λus S Q _=>∃L sg bh en t u,us=[.loc L,u]/\D t u/\qM S L sg bh en/\nR sg.length t/\bh.length=sg.length/\sg.length+size t<=100 /\
 ∀S' p F Z bh',Fr L S S'->L+4<=p->S'[p]?=some (JC (null t) F Z)->qM S' L (sg++oB t) bh' en->tm t bh F Z bh'->Q (.loc p) S'
theorem qN:(1<<<n).testBit p=(p==n):=by
 rw[sU,Nat.testBit_two_pow]
 by_cases z:n=p
 .subst z;simp
 .rw[decide_eq_false z]
  have:¬p=n:=λe=>z e.symm
  simp[this]
theorem TQ(Γ:bY)(h1:Γ "Part.__init__"=zk):Keeps Γ fF 1 (ik λt u=>∃n l,t=.one n l/\u=.str l):=by
 rintro us S Q E ⟨L,sg,bh,en,t,u,rfl,⟨n,l,rfl,rfl⟩,h,hp,hb,hl,q⟩;have hp:n=sg.length:=hp;subst hp;have hl:sg.length+1<=100:=hl;unfold fF;room;rw[IG h,uL h.s]
 simp only[aP,ar,PN];refine#[∅,∅,?_];room;rw[IG h]
 room;rw[h.s]
 simp only[aH,true_and];refine#[by simp;omega,?_];have e1:cU U.str sg++[U.str l]=cU U.str (sg++[l]):=by simp
 rw[e1]
 have h2:=h.Xi (sg':=sg++[l]);have f2:=(Fr.refl (L:=L) (S:=S)).set (n:=L+1) (o:=.lst (cU U.str (sg++[l]))) ∅ ∅;generalize S.set (L+1) (.lst (cU U.str (sg++[l])))=S2 at h2 f2;room;rw[II h2]
 room;rw[h2.b]
 simp only[aH,true_and];refine#[by simp;omega,?_];have e2:cU a9 bh++[U.int 0]=cU a9 (bh++[0]):=by simp
 rw[e2]
 have h3:=h2.setB (bh':=bh++[0]);have f3:=f2.set (n:=L+2) (o:=.lst (cU a9 (bh++[0]))) ∅ ∅;generalize S2.set (L+2) (.lst (cU a9 (bh++[0])))=S3 at h3 f3;room;refine pN h1 λS4 x4 g4=>#[rfl,?_]
 have:=h3.len;refine q S4 _ _ _ _ (f3.trans (Ext.fr x4)) ∅ g4 (h3.ext x4) #[λp=>qN,λp=>?_,by simp[size],λq hq=>aq hq,λq hq=>?_]
 .rw[qN];simp[IN,cont,du]
 .have:q=sg.length:=by simpa[IN] using hq
  subst this;refine#[0,by rw[ay ∅,hb];simp,λp=>by simp[cont,nH]]
noncomputable def Tu(d:Nat)(t:Tr)(u:U):Prop:=bH t<d/\u=enc t
noncomputable def TR:dj:=#v[.set 4 (.cu "Layout" "lay" "Layout.lay" @0 #v[@3]),.ex (.cu "Layout" "link" "Layout.link" @0 #v[.fld @2 "lasts",.fld @4 "firsts"]),.set 2 (.call "one_behind_other" #v[@2,@4])]
theorem AQ(Γ:bY)(h2:Γ "Layout.lay"=ik (Tu d))(h3:Γ "Layout.link"=IJ)(h4:Γ "one_behind_other"=qf rT)
  (da:bH a<d) (h:qM S L sg bh en) (hp:nR sg.length a) (hb:bh.length=sg.length) (hl:sg.length+size a<=100) (g:S[pw]?=some (JC e0 F0 Z0)) (pl:L+4<=pw) (hz:∀p,Z0.testBit p=true->p<bh.length)
  (q:∀S' p F Z bh1 bh2 x,Fr L S S'->L+4<=p->S'[p]?=some (JC (rT e0 F0 Z0 (null a) F Z).1 (rT e0 F0 Z0 (null a) F Z).2.1 (rT e0 F0 Z0 (null a) F Z).2.2)->qM S' L (sg++oB a) bh2 en->tm a bh F Z bh1->TM Z0 F bh1 bh2 ->
   D.nx [some (.loc L),some v1,some (.loc p),some (enc a),x] S'):Rest Γ TR D [some (.loc L),some v1,some (.loc pw),some (enc a),x4] S:=by
 unfold TR;room;rw[h.o,aZ]
 refine#[#[rfl,rfl],?_];refine ca h2 #[L,sg,bh,en,a,_,rfl,#[da,rfl],h,hp,hb,hl,λS1 p F Z bh1 f1 pl1 g1 la1 r1=>?_];have g0:=f1.get g pl;room;rw[la1.o,aZ]
 refine#[#[rfl,rfl],?_];rw[AO g0,AN g1]
 refine ca h3 #[L,_,bh1,en,Z0,F,rfl,la1,by rw[r1.len];omega,λp hp=>by rw[r1.len];have:=hz p hp;omega,λS2 bh2 f2 la2 lk=>?_];room;refine ca h4 #[pw,e0,F0,Z0,p,null a,F,Z,rfl,f2.get g0 pl,f2.get g1 pl1,λS3 x3 g3=>?_];room;have:=la2.len;exact q _ _ F Z bh1 bh2 _ ((f1.trans f2).trans (Ext.fr x3)) ∅ g3 (la2.ext x3) r1 lk
theorem TU:rT true 0 0 e F Z=(e,F,Z):=by
 unfold rT;rw[vH,vH]
 cases e<;>rfl
theorem Xk:TF false 0 0 e F Z=(e,F,Z):=by
 unfold TF;rw[vH,vH];rfl
theorem LZ(hp:nR n a/\nR (n+size a) b)(hb:bh.length=n)(ra:tm a bh Fa Za bh1)(lk2:TM 0 Fa bh1 bh2)(rb:tm b bh2 Fb Zb bh3)(lk4:TM Za Fb bh3 bh4):
  tm (.row a b) bh (rT (null a) Fa Za (null b) Fb Zb).2.1 (rT (null a) Fa Za (null b) Fb Zb).2.2 bh4:=by
 have l1:=ra.len;have l2:=rb.len;have l3:=lk2.1;have l4:=lk4.1;have e12:∀q,q<bh1.length->bh2[q]?=bh1[q]?:=λq hq=>by
  obtain⟨B',e1,e2⟩:=lk2.2 q _ (aa hq);rw[e1,aa hq]
  congr 1
  exact jU λr=>by simp[e2]
 have e14:∀q B,q<bh1.length->bh1[q]?=some B->∃B',bh4[q]?=some B'/\∀r,B'.testBit r=(B.testBit r||(Za.testBit q&&Fb.testBit r)):=λq B hq e=>lk4.2 q B (by rw[rb.old q ∅,e12 q hq];exact e)
 refine#[λp=>?_,λp=>?_,by simp only[size];omega,λq hq=>?_,λq hq=>?_]
 .simp only[rT,FS]
  cases null a<;>simp[cC,ra.f,rb.f]
 .simp only[rT,IN,cont]
  by_cases z:IN a p=true
  .have z2:IN b p=false:=by
    cases e:IN b p with
    |false=>rfl
    |true=>exact absurd z (fP hp e)
   have nb:du [b]=null b:=by simp[du]
   simp only[vm,nb,if_pos z];cases null b<;>simp[cC,ra.z,rb.z,z,z2]
  .have z:IN a p=false:=by simpa using z
   cases null b<;>simp[cC,ra.z,rb.z,z]
 .obtain⟨B',h1,h2⟩:=e14 q _ ∅ ((ra.old q hq).trans (aa hq))
  rw[h1,aa hq]
  congr 1
  refine jU λr=>?_
  have:IN a q=false:=by
   cases e:IN a q with
   |false=>rfl
   |true=>have:=(eM hp.1).mp e;omega
  rw[h2,ra.z,this];simp
 .by_cases z:IN a q=true
  .obtain⟨B,h1,h2⟩:=ra.new q z
   have:=(eM hp.1).mp z;obtain⟨B',h3,h4⟩:=e14 q B ∅ h1;refine#[B',h3,λp=>?_];have ec:cont (.row a b) q=cont a q++[b]:=by simp only[cont,if_pos z]
   rw[ec,lM,h4,h2,ra.z,rb.f,z]
   simp[nH]
  .have z2:IN b q=true:=by simpa[IN,z] using hq
   obtain⟨B,h1,h2⟩:=rb.new q z2;obtain⟨B',h3,h4⟩:=lk4.2 q B h1;refine#[B',h3,λp=>?_];have z:IN a q=false:=by simpa using z
   rw[h4,ra.z,z,h2]
   simp[cont,z]
theorem TV(Γ:bY)(d:Nat)(h1:Γ "Part.__init__"=zk)(h2:Γ "Layout.lay"=ik (Tu d))(h3:Γ "Layout.link"=IJ)(h4:Γ "one_behind_other"=qf rT):
  Keeps Γ gK 3 (ik λt u=>∃a b,t=.row a b/\bH a<d/\bH b<d/\u=.tup [enc a,enc b]):=by
 rintro us S Q E ⟨L,sg,bh,en,t,u,rfl,⟨a,b,rfl,da,db,rfl⟩,h,hp,hb,hl,q⟩;have hl:sg.length+(size a+size b)<=100:=hl;have hp:nR sg.length a/\nR (sg.length+size a) b:=hp;have ll:=gQ a;unfold gK;room;refine pN h1 (F:=0) (Z:=0) λS1 x1 g1=>#[rfl,?_]
 have p1:L+4<=S.length:=h.len;have h':=h.ext x1;generalize S.length=pw at g1 p1;room;refine#[by simp,?_];simp only[uI];refine#[trivial,AQ Γ h2 h3 h4 da h' hp.1 hb ∅ g1 p1 (by simp) λS2 p2 Fa Za bh1 bh2 x f2 pl2 g2 la2 ra lk2=>?_];rw[TU] at g2;refine#[trivial,AQ Γ h2 h3 h4 db la2 (by rw[aB,ll];exact hp.2) (by rw[lk2.1,ra.len,hb];simp[ll]) (by simp;omega) g2 pl2 (λp hp'=>?_) λS3 p3 Fb Zb bh3 bh4 x' f3 pl3 g3 la3 rb lk4=>#[trivial,?_]]
 .rw[ra.z,af] at hp'
  have:=(eM hp.1).mp hp'.1;rw[lk2.1,ra.len];omega
 .room
  exact q _ _ _ _ _ ((Ext.fr x1 |>.trans f2).trans f3) pl3 g3 (by rw[bp] at la3;exact la3) (LZ hp hb ra lk2 rb lk4)
theorem P2(hp:nR n a/\nR (n+size a) b)(hb:bh.length=n)(ra:tm a bh Fa Za bh1)(rb:tm b bh1 Fb Zb bh2):tm (.or a b) bh (Fa|||Fb) (Za|||Zb) bh2:=by
 have l1:=ra.len;have l2:=rb.len;refine#[λp=>by rw[cC,ra.f,rb.f];rfl,λp=>?_,by simp only[size];omega,λq hq=>(rb.old q ∅).trans (ra.old q hq),λq hq=>?_]
 .rw[cC,ra.z,rb.z]
  simp only[IN,cont];by_cases z:IN a p=true
  .have z2:IN b p=false:=by
    cases e:IN b p with
    |false=>rfl
    |true=>exact absurd z (fP hp e)
   simp[z,z2]
  .have z:IN a p=false:=by simpa using z
   simp[z]
 .by_cases z:IN a q=true
  .obtain⟨B,h1,h2⟩:=ra.new q z
   have:=(eM hp.1).mp z;exact#[B,(rb.old q ∅).trans h1,λp=>by rw[h2];simp[cont,z]]
  .have z2:IN b q=true:=by simpa[IN,z] using hq
   obtain⟨B,h1,h2⟩:=rb.new q z2;exact#[B,h1,λp=>by rw[h2];simp[cont,z]]
theorem TX(Γ:bY)(d:Nat)(h1:Γ "Part.__init__"=zk)(h2:Γ "Layout.lay"=ik (Tu d))(h4:Γ "one_or_other"=qf TF):
  Keeps Γ eU 2 (ik λt u=>∃a b,t=.or a b/\bH a<d/\bH b<d/\u=.tup [enc a,enc b]):=by
 rintro us S Q E ⟨L,sg,bh,en,t,u,rfl,⟨a,b,rfl,da,db,rfl⟩,h,hp,hb,hl,q⟩;have hl:sg.length+(size a+size b)<=100:=hl;have hp:nR sg.length a/\nR (sg.length+size a) b:=hp;have ll:=gQ a;unfold eU;room;refine pN h1 (F:=0) (Z:=0) λS1 x1 g1=>#[rfl,?_]
 have p1:L+4<=S.length:=h.len;have h':=h.ext x1;generalize S.length=pw at g1 p1;room;refine#[by simp,?_];simp only[uI];refine#[trivial,?_];room;rw[h'.o,aZ]
 refine#[#[rfl,rfl],?_];refine ca h2 #[L,sg,bh,en,a,_,rfl,#[da,rfl],h',hp.1,hb,∅,λS2 p2 Fa Za bh1 f2 pl2 g2 la2 ra=>?_];refine ca h4 #[pw,_,_,_,p2,_,_,_,rfl,f2.get g1 p1,g2,λS3 x3 g3=>?_];rw[Xk] at g3;have la3:=la2.ext x3;have p3:=la2.len;generalize S2.length=p3' at g3 p3;room;rw[la3.o,aZ]
 refine#[#[rfl,rfl],?_];refine ca h2 #[L,_,bh1,en,b,_,rfl,#[db,rfl],la3,by rw[aB,ll];exact hp.2,by rw[ra.len,hb];simp[ll],by simp;omega,λS4 p4 Fb Zb bh2 f4 pl4 g4 la4 rb=>?_];refine ca h4 #[p3',_,_,_,p4,_,_,_,rfl,f4.get g3 p3,g4,λS5 x5 g5=>?_];have p5:=la4.len;room;exact q _ _ _ _ _ (((((Ext.fr x1).trans f2).trans (Ext.fr x3)).trans f4).trans (Ext.fr x5)) p5 g5 (by have:=la4.ext x5;rw[bp] at this;exact this) (P2 hp hb ra rb)
noncomputable def Fh:Mk->Bool
 |.may=>false
 |_=>true
noncomputable def Fi:Mk->Bool
 |.plus=>false
 |_=>true
structure M3(t:Tr)(ms:List Mk)(a:Tr):Prop where
 fs:∀p,FS t p=FS a p
 nl:null t=(null a||ms.any Fi)
 Xm:∀p,IN t p=IN a p
 ct:∀p,∃R,cont t p=cont a p++R/\du R=true/\∀r,nH R r=(ms.any Fh&&FS a r)
 sz:size t=size a
 lv:oB t=oB a
 pl:∀n,nR n t->nR n a
theorem M3.zero(t:Tr):M3 t [] t:=#[λ_=>rfl,by simp,λ_=>rfl,λp=>#[[],by simp,rfl,λr=>by simp[nH]],rfl,rfl,λ_ h=>h]
theorem M3.next(h:M3 t ms (.rep m a)):M3 t (ms++[m]) a:=by
 refine#[h.fs,?_,h.Xm,λp=>?_,h.sz,h.lv,h.pl]
 .rw[h.nl]
  cases m<;>simp[null,Fi]
 .obtain⟨R,h1,h2,h3⟩:=h.ct p
  refine#[more m a++R,by rw[h1];simp[cont],?_,λr=>?_]
  .rw[vm,h2];cases m<;>simp[more,du,null]
  .rw[lM,h3]
   cases m<;>simp[more,nH,FS,du,null,Fh]
theorem DP(k:M3 t ms a)(hp:nR n a)(hb:bh.length=n)(ra:tm a bh F Z bh1)
  (lk:if ms.any Fh=true then TM Z F bh1 bh2 else bh2=bh1):tm t bh F Z bh2:=by
 have eZ:∀p,du (cont t p)=du (cont a p):=λp=>by
  obtain⟨R,h1,h2,_⟩:=k.ct p;rw[h1,vm,h2,mK]
 have l1:=ra.len;have key:∀(q B:Nat),bh1[q]?=some B->∃B',bh2[q]?=some B'/\∀r,B'.testBit r=(B.testBit r||(ms.any Fh&&(Z.testBit q&&F.testBit r))):=λq B e=>by
  split at lk
  .rename_i z
   obtain⟨B',e1,e2⟩:=lk.2 q B e;exact#[B',e1,λr=>by rw[e2,z,qk]]
  .rename_i z
   subst lk;exact#[B,e,λr=>by simp[fA _ |>.mp z]]
 have l2:bh2.length=bh1.length:=by
  split at lk
  .exact lk.1
  .rw[lk]
 refine#[λp=>by rw[ra.f,k.fs],λp=>by rw[ra.z,k.Xm,eZ],by rw[l2,l1,k.sz],λq hq=>?_,λq hq=>?_]
 .obtain⟨B',h1,h2⟩:=key q _ ((ra.old q hq).trans (aa hq))
  rw[h1,aa hq]
  congr 1
  refine jU λr=>?_
  have:IN a q=false:=by
   cases e:IN a q with
   |false=>rfl
   |true=>have:=(eM hp).mp e;omega
  rw[h2,ra.z,this];simp
 .rw[k.Xm] at hq
  obtain⟨B,h1,h2⟩:=ra.new q hq;obtain⟨B',h3,h4⟩:=key q B h1;refine#[B',h3,λp=>?_];obtain⟨R,e1,e2,e3⟩:=k.ct q;rw[h4,h2,e1,lM,e3,ra.z,ra.f,hq,qk]
  cases nH (cont a q) p<;>cases du (cont a q)<;>cases FS a p<;>simp
theorem YG:qz (.str k) [.str kD,.str oA,.str jN] q=q (kD==k||(oA==k||jN==k)):=by
 have:=anyS (a:=k) (l:=[kD,oA,jN]) (q:=q);simpa using this
theorem IK(ms:List Mk)(a b:List Nat):(ms.any λm=>nv m==a||nv m==b)=(((ms.map nv).any (·==a))||((ms.map nv).any (·==b))):=by
 induction ms with
 |nil=>rfl
 |cons m ms ih=>
  rw[cV,aD,cV,cV,ih]
  cases (nv m==a)<;>cases (nv m==b)<;>simp
theorem P4(ms:List Mk):ms.any Fh=(((ms.map nv).any (·==kD))||((ms.map nv).any (·==oA))):=by
 rw[<-IK]
 congr 1;funext m
 cases m<;>rfl
theorem P5(ms:List Mk):ms.any Fi=(((ms.map nv).any (·==kD))||((ms.map nv).any (·==jN))):=by
 rw[<-IK]
 congr 1;funext m
 cases m<;>rfl
theorem Ma(m:Mk):(kD==nv m||(oA==nv m||jN==nv m))=true:=by cases m<;>rfl
noncomputable def VB:dj:=#v[.set 5 (.or (.fld @4 "empty") (.or (.cmp .isin ↑[115,116,97,114] @2) (.cmp .isin ↑[109,97,121,98,101] @2))),.ret (.mk "Part" "Part.__init__" #v[@5,.fld @4 "firsts",.fld @4 "lasts"])]
noncomputable def Xo:dj:=#v[.ex (.cu "Layout" "link" "Layout.link" @0 #v[.fld @4 "lasts",.fld @4 "firsts"])]
noncomputable def Xp:dj:=(.cons (.set 4 (.cu "Layout" "lay" "Layout.lay" @0 #v[@3])) (.cons (.ifs (.or (.cg (.cmp .isin ↑[115,116,97,114] @2)) (.cg (.cmp .isin ↑[112,108,117,115] @2))) Xo .nil) VB))
theorem TZ(Γ:bY)(d:Nat)(hd:d<=100)(h1:Γ "Part.__init__"=zk)(h2:Γ "Layout.lay"=ik (Tu d))(h3:Γ "Layout.link"=IJ):
  Keeps Γ eV 4 (ik λt u=>∃m a,t=.rep m a/\bH a<d/\u=enc t):=by
 rintro us S Q E ⟨L,sg,bh,en,t,u,rfl,⟨m0,a0,et,da,rfl⟩,h,hp,hb,hl,q⟩;have sl:=h.len;have fin:∀(ms:List Mk)(a:Tr)(S2:bJ),M3 t ms a->bH a<d->(∀n,n<S.length->S2[n]?=S[n]?)->S2[S.length]?=some (.lst (ms.map λm=>U.str (nv m)))->Rest Γ Xp #[λ_ S1=>Q .bK S1,Q,λ_=>E] [some (.loc L),some (enc t),some (.loc S.length),some (enc a),none,none] S2:=by
  intro ms a S2 mk da e2 g2;have x2:Ext S S2:=#[sS (bG g2),e2]
  have la:=h.ext x2;have sz:=mk.sz;have hpa:=mk.pl _ hp;unfold Xp;room;rw[la.o,aZ]
  refine#[#[rfl,rfl],?_];refine ca h2 #[L,sg,bh,en,a,_,rfl,#[da,rfl],la,hpa,hb,∅,λS3 p F Z bh1 f3 pl3 g3 la3 ra=>?_];have gm:∀S4,Fr L S3 S4->S4[S.length]?=some (.lst ((ms.map nv).map .str)):=λS4 f4=>by rw[bM];exact f4.get (f3.get g2 sl) sl
  have fin2:∀S4 bh2,Fr L S3 S4->qM S4 L (sg++oB a) bh2 en->tm t bh F Z bh2->Rest Γ VB #[λ_ S1=>Q .bK S1,Q,λ_=>E] [some (.loc L),some (enc t),some (.loc S.length),some (enc a),some (.loc p),none] S4:=by
   intro S4 bh2 f4 la4 r4;have g4:=f4.get g3 pl3;have en4:∀e,e=null t->Rest Γ (.cons (.ret (.mk "Part" "Part.__init__" (.cons @5 (.cons (.fld @4 "firsts") (.cons (.fld @4 "lasts") .nil))))) .nil) #[λ_ S1=>Q .bK S1,Q,λ_=>E] [some (.loc L),some (enc t),some (.loc S.length),some (enc a),some (.loc p),some (.bl e)] S4:=by
    rintro e rfl;room;rw[AN g4,AO g4]
    refine pN h1 λS5 x5 g5=>#[rfl,?_]
    exact q _ _ _ _ _ (((Ext.fr x2).trans f3).trans (f4.trans (Ext.fr x5))) la4.len g5 (by rw[mk.lv];exact la4.ext x5) r4
   have nl:=mk.nl;rw[P5] at nl;unfold VB;room;rw[Fg g4]
   room;rw[gm S4 f4]
   simp only[aH,anyS,Ha];cases e1:null a<;>cases e2:(ms.map nv).any (·==kD)<;>simp only[e1,e2,ah,if_false,if_true,aH,anyS]<;>refine en4 _ ?_<;>rw[nl,e1,e2]<;>simp
  have hs:=P4 ms;have lnk:ms.any Fh=true->Rest Γ Xo #[λen S4=>Rest Γ VB #[λ_ S1=>Q .bK S1,Q,λ_=>E] en S4,Q,λ_=>E] [some (.loc L),some (enc t),some (.loc S.length),some (enc a),some (.loc p),none] S3:=by
   intro z;unfold Xo;room;rw[la3.o,aZ]
   refine#[#[rfl,rfl],?_];rw[AO g3,AN g3]
   refine ca h3 #[L,_,bh1,en,Z,F,rfl,la3,by rw[ra.len];omega,λp hp'=>?_,λS4 bh2 f4 la4 lk=>?_]
   .rw[ra.z,af] at hp'
    have:=(eM hpa).mp hp'.1;rw[ra.len];omega
   .exact Rest.go (fin2 S4 bh2 f4 la4 (DP mk hpa hb ra (by rw[if_pos z];exact lk)))
  room;rw[gm S3 .refl]
  simp only[aH,anyS];cases e1:(ms.map nv).any (·==kD)<;>cases e2:(ms.map nv).any (·==oA)<;>rw[e1,e2] at hs<;>simp only[e1,e2,ah,if_false,if_true,aH,anyS]
  .exact Rest.go (fin2 S3 bh1 .refl la3 (DP mk hpa hb ra (by rw[if_neg (by simp[hs])])))
  .exact lnk hs
  .exact lnk hs
  .exact lnk hs
 unfold eV;room;refine#[by simp,?_];room;have x0:Ext S (S++[SO.lst []]):=Ext.app _;have g0:(S++[SO.lst []])[S.length]?=some (.lst (([]:List Mk).map λm=>U.str (nv m))):=by simp
 have dt:bH t<=d:=by rw[et];exact da
 refine#[bH t+1,lL (λn env S2=>∃ms a,n=bH a/\M3 t ms a/\(a=t\/bH a<d)/\ms.length+bH a<=200/\env=[some (.loc L),some (enc t),some (.loc S.length),some (enc a),none,none]/\(∀n,n<S.length->S2[n]?=S[n]?)/\S2[S.length]?=some (.lst (ms.map λm=>U.str (nv m)))) ?_ _ (bH t) _ _ ∅ #[[],t,rfl,.zero t,.inl rfl,by simp;omega,rfl,x0.2,g0]];rintro n env S2 K ⟨ms,a,rfl,mk,hda,hms,rfl,e2,g2⟩ hK;have out:(∀m a',a≠.rep m a')->bH a<d:=λz=>by
  rcases hda with rfl|z2
  .exact absurd et (z m0 a0)
  .exact z2
 have stop:∀k x,enc a=.tup [.str k,x]->(kD==k||(oA==k||jN==k))=false->bH a<d->WT Γ (.cg (.cmp .isin (.ix @3 ↑0) (.tup (.cons ↑[115,116,97,114] (.cons ↑[112,108,117,115] (.cons ↑[109,97,121,98,101] .nil)))))) [some (.loc L),some (enc t),some (.loc S.length),some (enc a),none,none] S2
   (λt1 S1=>if t1=true then Rest Γ (.cons (.ex (.kW .append @2 (.cons (.ix @3 ↑0) .nil))) (.cons (.set 3 (.ix @3 ↑1)) .nil)) #[K,Q,λ_=>E] [some (.loc L),some (enc t),some (.loc S.length),some (enc a),none,none] S1 else Rest Γ Xp #[λ_ S1=>Q .bK S1,Q,λ_=>E] [some (.loc L),some (enc t),some (.loc S.length),some (enc a),none,none] S1) E:=by
  intro k x ek ek2 da;have:=fin ms a S2 mk da e2 g2;rw[ek] at this ⊢;room;rw[jC,aP]
  refine#[by simp,by simp,?_];rw[YG,ek2]
  exact this
 cases a with
 |one k l=>exact stop _ _ rfl rfl (out λ_ _ z=>nomatch z)
 |row a b=>exact stop _ _ rfl rfl (out λ_ _ z=>nomatch z)
 |or a b=>exact stop _ _ rfl rfl (out λ_ _ z=>nomatch z)
 |rep m a=>
  have ek:enc (.rep m a)= .tup [.str (nv m),enc a]:=rfl;have dr:bH (.rep m a)=bH a+1:=rfl;rw[ek]
  room;rw[jC,aP]
  refine#[by simp,by simp,?_];rw[YG,Ma]
  room;rw[g2]
  simp only[aH,jC,iF,aP];refine#[trivial,by simp,by simp;omega,?_];room;simp only[iF,aP];refine#[by simp,?_];try room
  refine hK (bH a) _ _ ∅ #[ms++[m],a,rfl,mk.next,.inr (by rcases hda with rfl|z<;>omega),by simp;omega,rfl,λn hn=>?_,by rw[gs g2];simp];rw[av ∅];exact e2 n hn
section
variable{Γ:bY}{D:Ends}{env:Env}{S:bJ}{i:Nat}{k k':List Nat}{x:U}{a b ss:dj}
theorem lZ(h:env[i]?=some (some (.tup [.str k,x])))(e:(k==k')=true)(q:Rest Γ a #[λen S1=>Rest Γ ss D en S1,D.rt,D.ex] env S):Rest Γ (.cons (.ifs (.cg (.cmp .eq (.ix (.var i) ↑0) (.lit (.str k')))) a b) ss) D env S:=by
 room;rw[h]
 simp only[oQ,Dq,jC,aP,MM,Sk,e,if_true];exact#[by simp,q]
theorem fg(h:env[i]?=some (some (.tup [.str k,x])))(e:(k==k')=false)(q:Rest Γ ss D env S):Rest Γ (.cons (.ifs (.cg (.cmp .eq (.ix (.var i) ↑0) (.lit (.str k')))) a .nil) ss) D env S:=by
 room;rw[h]
 simp only[oQ,Dq,jC,aP,MM,Sk,e,ah,if_false];exact#[by simp,q]
end
theorem P6(Γ:bY)(d:Nat)(h1:Γ "Layout.lay_place"=ik λt u=>∃n l,t=.one n l/\u=.str l)(h2:Γ "Layout.lay_row"=ik λt u=>∃a b,t=.row a b/\bH a<d/\bH b<d/\u=.tup [enc a,enc b])
  (h3:Γ "Layout.lay_choice"=ik λt u=>∃a b,t=.or a b/\bH a<d/\bH b<d/\u=.tup [enc a,enc b]) (h4:Γ "Layout.lay_repeat"=ik λt u=>∃m a,t=.rep m a/\bH a<d/\u=enc t):Keeps Γ jY 0 (ik (Tu (d+1))):=by
 rintro us S Q E ⟨L,sg,bh,en,t,u,rfl,⟨dt,rfl⟩,h,hp,hb,hl,q⟩;unfold jY;cases t with
 |one n l=>
  refine lZ rfl rfl ?_;simp only[enc];room;rw[h.o,aZ,iF]
  exact#[#[rfl,rfl],by simp,ca h1 #[L,sg,bh,en,_,_,rfl,#[n,l,rfl,rfl],h,hp,hb,hl,q]]
 |row a b=>
  have dt:max (bH a) (bH b)+1<d+1:=dt;refine fg rfl rfl (lZ rfl rfl ?_);simp only[enc];room;rw[h.o,aZ,iF]
  exact#[#[rfl,rfl],by simp,ca h2 #[L,sg,bh,en,_,_,rfl,#[a,b,rfl,∅,∅,rfl],h,hp,hb,hl,q]]
 |or a b=>
  have dt:max (bH a) (bH b)+1<d+1:=dt;refine fg rfl rfl (fg rfl rfl (lZ rfl rfl ?_));simp only[enc];room;rw[h.o,aZ,iF]
  exact#[#[rfl,rfl],by simp,ca h3 #[L,sg,bh,en,_,_,rfl,#[a,b,rfl,∅,∅,rfl],h,hp,hb,hl,q]]
 |rep m a=>
  have dt:bH a+1<d+1:=dt;have k1:(nv m==LO)=false/\(nv m==wd)=false/\(nv m==Q0)=false:=by cases m<;>exact#[rfl,rfl,rfl]
  refine fg rfl k1.1 (fg rfl k1.2.1 (fg rfl k1.2.2 ?_));room;rw[h.o,aZ]
  exact#[#[rfl,rfl],ca h4 #[L,sg,bh,en,_,_,rfl,#[m,a,rfl,∅,rfl],h,hp,hb,hl,q]]
noncomputable def mG(f:List Nat->Bool)(sg:List (List Nat))(p:Nat):Bool:=((sg[p]?).map f).getD false
theorem xQ(f:List Nat->Bool)(sg:List (List Nat))(hg:g S)(hl:sg.length<=100)
  (hc:∀(i:Nat)l k,k (f l) S->c (.tup [a9 i,.str l]) S k) (he:∀(i:Nat)l k,i<=100->k (a9 (1<<<i)) S->e (.tup [a9 i,.str l]) S k)
  (q:∀(is:List Int)(b:Nat),is.sum=b->(∀p,b.testBit p=mG f sg p)->Q (is.map .int) S):nG g c e Q ((sg.map U.str).mapIdx λi u=>.tup [.int (i:Nat),u]) [] S:=by
 refine fQ _ (λi acc S'=>S'=S/\∃(is:List Int)(b:Nat),acc=is.map .int/\is.sum=b/\b<2^i/\is.length<=i/\∀p,b.testBit p=(decide (p<i)&&mG f sg p)) (λi acc S' hi h=>?_) (λi u acc S' k hu hi hk=>?_) (λacc S' h=>?_) #[rfl,[],0,rfl,rfl,by simp,by simp,by simp]
 .obtain⟨rfl,is,b,rfl,_,_,hl',_⟩:=h
  simp at hi;exact#[hg,by simp;omega]
 .obtain⟨rfl,is,b,rfl,h1,h2,h3,h4⟩:=hi
  simp only[jQ,au] at hu;cases es:sg[i]? with
  |none=>rw[es] at hu;simp at hu
  |some l=>
   rw[es] at hu;simp only[jO,pC] at hu;subst hu;have il:=(ae.mp es).1;have hi:mG f sg i=f l:=by unfold mG;rw[es];rfl
   refine hc i l _ ?_;cases z:f l with
   |false=>
    rw[if_neg (by simp)]
    refine hk _ _ #[rfl,is,b,rfl,h1,by rw[fU];omega,∅,λp=>?_];rw[h4]
    by_cases zp:p=i
    .subst zp;simp[hi,z]
    .have:(p<i)↔(p<i+1):=∅
     simp only[this]
   |true=>
    rw[if_pos rfl]
    refine he i l _ ∅ (hk _ _ #[rfl,is++[((1<<<i:Nat):Int)],2^i+b,by simp,?_,by rw[fU];omega,by simp;omega,λp=>?_])
    .rw[JR,h1,sU];simp;omega
    .by_cases zp:p=i
     .subst zp
      rw[Nat.testBit_two_pow_add_eq,Bx h2];simp[hi,z]
     .by_cases zl:p<i
      .rw[Nat.testBit_two_pow_add_gt zl,h4]
       simp[zl,cM zl]
      .rw[Bx (aM (show 2^i+b<2^(i+1) by rw[fU];omega) (bB ∅ ∅))]
       have:¬p<i+1:=∅
       simp[this]
 .obtain⟨rfl,is,b,rfl,h1,_,_,h4⟩:=h
  refine q is b h1 λp=>?_
  rw[h4]
  simp only[FG,ar];by_cases z:p<sg.length
  .simp[z]
  .unfold mG
   rw[oM ∅];simp
theorem AR(h:mG f sg p=true):∃l,sg[p]?=some l/\f l=true:=by
 unfold mG at h;cases e:sg[p]? with
 |none=>rw[e] at h;simp at h
 |some l=>rw[e] at h;exact#[l,rfl,h]
noncomputable def M4:Spec:=λus S Q _=>∃L sg bh en c,us=[.loc L,.str [c]]/\qM S L sg bh en/\sg.length<=100/\∀(b:Nat)S',Ext S S'->(∀p,b.testBit p=mG (·.contains c) sg p)->Q (a9 b) S'
theorem P7(Γ:bY):Keeps Γ fG 0 M4:=by
 rintro us S Q E ⟨L,sg,bh,en,c,rfl,h,hl,q⟩;unfold fG;room;rw[IG h]
 room;rw[h.s,aH]
 refine xQ (·.contains c) sg h.s hl (λi l k z=>?_) (λi l k hi z=>?_) λis b e hb=>?_
 .room
  exact z
 .room
  exact#[∅,z]
 .exact#[is,by simp,by rw[e];exact q b _ (Ext.app _) hb]
noncomputable def vv(l:List Nat):Bool:=!(l==[])
noncomputable def wO(sg:List (List Nat))(bh en:List Nat)(P:Nat->Prop):Prop:=(∀(Z p:Nat),Z∈en->Z.testBit p=true->mG vv sg p=true->P p)/\∀(q B p:Nat),mG vv sg q=true->bh[q]?=some B->B.testBit p=true->P p->P q
structure Fj(sg:List (List Nat))(bh en:List Nat)(u:Nat):Prop where
 e:∀(Z p:Nat),Z∈en->Z.testBit p=true->mG vv sg p=true->u.testBit p=true
 b:∀(q B p:Nat),mG vv sg q=true->bh[q]?=some B->B.testBit p=true->u.testBit p=true->u.testBit q=true
 m:∀P,wO sg bh en P->∀p,u.testBit p=true->P p
noncomputable def T1:Spec:=λus S Q _=>∃L sg bh en,us=[.loc L]/\qM S L sg bh en/\sg.length<=100/\bh.length=sg.length/\∀(u:Nat)S',Ext S S'->Fj sg bh en u->Q (a9 u) S'
theorem T3(Γ:bY)(h1:Γ "members"=AM):Keeps Γ iz 5 T1:=by
 rintro us S Q E ⟨L,sg,bh,en,rfl,h,hl,hb,q⟩;unfold iz;room;rw[IG h]
 room;rw[h.s,aH]
 refine xQ vv sg h.s hl (λi l k z=>?_) (λi l k hi z=>?_) λis T e hT=>#[is,by simp,?_]
 .room
  exact z
 .room
  exact#[∅,z]
 rw[e]
 have x0:Ext S (S++[SO.lst (is.map U.int)]):=Ext.app _;have h':=h.ext x0;generalize S++[SO.lst (is.map U.int)]=S0 at x0 h';have Tlt:∀p,T.testBit p=true->p<sg.length:=λp hp=>by
  rw[hT] at hp;obtain⟨l,e,_⟩:=AR hp;exact(ae.mp e).1
 have Tl:T<2^sg.length:=kE Tlt;room;rw[PY h']
 room;rw[h'.e,aH]
 refine eF (λi env S2=>S2=S0/\∃(gr:Nat)(x3:Option U),env=[some (.loc L),some (a9 T),some (a9 gr),x3,none,none]/\gr<2^sg.length/\(∀(Z p:Nat),Z∈en.take i->Z.testBit p=true->T.testBit p=true->gr.testBit p=true)/\∀P,wO sg bh en P->∀p,gr.testBit p=true->P p) (λi env S2 z=>z.1▸h'.e) _ ?_ ?_ #[rfl,0,none,rfl,Nat.two_pow_pos _,by simp,λP _ p z=>by simp at z]
 .rintro i u env S2 K hu ⟨rfl,gr,x3,rfl,hgr,inv,only⟩ hK
  rw[au] at hu;obtain⟨Z,hZ,rfl⟩:=ag.mp hu;room;have et:en.take (i+1)=en.take i++[Z]:=by rw[cf,hZ];rfl
  refine hK _ _ #[rfl,gr|||(Z&&&T),_,rfl,Jq hgr (kE λp hp=>?_),λZ' p m h1 h2=>?_,λP cl p hp=>?_]
  .rw[cw,af] at hp;exact Tlt p hp.2
  .rw[et] at m
   rw[cC,cw]
   rcases aE.mp m with m|m
   .rw[inv Z' p m h1 h2];rfl
   .simp at m;subst m;rw[h1,h2];simp
  .rw[cC,cw,aO,af] at hp
   rcases hp with hp|⟨z1,z2⟩
   .exact only P cl p hp
   .exact cl.1 Z p (aw hZ) z1 (by rw[<-hT];exact z2)
 .rintro env S2 ⟨rfl,gr,x3,rfl,hgr,inv,only⟩
  room;rw[ar,b9] at inv;have out:∀{S3:bJ}{u:Nat},Ext S S3->(∀p,gr.testBit p=true->u.testBit p=true)->(∀(q B p:Nat),T.testBit q=true->bh[q]?=some B->B.testBit p=true->u.testBit p=true->u.testBit q=true)->(∀P,wO sg bh en P->∀p,u.testBit p=true->P p)->Q (a9 u) S3:=λx3 a b c=>
   q _ _ x3 #[λZ p m z1 z2=>a p (inv Z p m z1 (by rw[hT];exact z2)),λq B p z1=>b q B p (by rw[hT];exact z1),c]
  refine#[2^sg.length+1,lL (λn env S3=>∃(g2 u:Nat)(x3 x5:Option U),n=2^sg.length-u/\env=[some (.loc L),some (a9 T),some (a9 g2),x3,some (a9 u),x5]/\Ext S S3/\qM S3 L sg bh en/\u<=g2/\g2<2^sg.length/\(∀p,gr.testBit p=true->g2.testBit p=true) /\
   (∀(q B p:Nat),T.testBit q=true->bh[q]?=some B->B.testBit p=true->u.testBit p=true->g2.testBit q=true)/\∀P,wO sg bh en P->∀p,g2.testBit p=true->P p) ?_ _ (2^sg.length) _ _ ∅ #[gr,0,x3,none,∅,rfl,x0,h',∅,hgr,λ_ z=>z,λq B p _ _ _ z=>by simp at z,only]]
  rintro n env S3 K ⟨g2,u,x3,x5,rfl,rfl,x3',h3,hu,hg,ia,ib,ic⟩ hK;room;by_cases z:g2=u
  .subst z
   simp only[beq_self_eq_true,bO,ah,if_false];room;exact out x3' ia ib ic
  .have:((g2:Int)== (u:Int))=false:=by
    rw[beq_eq_false_iff_ne];omega
   simp only[this,bV,if_true];room;refine ca h1 #[T,rfl,aM Tl (bB ∅ hl),λm S4 x4 hm g4=>?_];room;rw[g4,aH]
   have h4:=h3.ext x4;refine eF (λi env S5=>S5=S4/\∃(g3:Nat)(x5:Option U),env=[some (.loc L),some (a9 T),some (a9 g3),x3,some (a9 g2),x5]/\g2<=g3/\g3<2^sg.length/\(∀p,g2.testBit p=true->g3.testBit p=true) /\
    (∀(q B p:Nat),q∈(rR T).take i->bh[q]?=some B->B.testBit p=true->g2.testBit p=true->g3.testBit q=true)/\∀P,wO sg bh en P->∀p,g3.testBit p=true->P p) (λi env S5 z=>z.1▸g4) _ ?_ ?_ #[rfl,g2,x5,rfl,ax _,hg,λ_ z=>z,by simp,ic]
   .rintro i v env S5 K' hv ⟨rfl,g3,x5,rfl,j1,j2,j3,j4,j5⟩ hK'
    rw[au] at hv;obtain⟨p,hp,rfl⟩:=ag.mp hv;have pT:=kF.mp (aw hp);have pl:=Tlt p pT;have et:(rR T).take (i+1)=(rR T).take i++[p]:=by rw[cf,hp];rfl
    room;rw[II h4]
    room;rw[h4.b,aH,ir]
    refine tO (aa ∅) ?_;room;by_cases w:(((bh[p]'∅&&&g2:Nat):Int) !=0)=true
    .rw[if_pos w]
     room;refine#[∅,?_];try room
     refine hK' _ _ #[rfl,g3|||1<<<p,_,rfl,aT j1 Nat.left_le_or,Jq j2 (kE λr hr=>?_),λr hr=>by rw[cC,j3 r hr];rfl,λq B r m e1 e2 e3=>?_,λP cl r hr=>?_]
     .rw[qN] at hr;have:=eq_of_beq hr;omega
     .rw[et] at m
      rw[cC,qN]
      rcases aE.mp m with m|m
      .rw[j4 q B r m e1 e2 e3];rfl
      .simp at m;subst m;simp
     .rw[cC,qN,aO] at hr
      rcases hr with hr|hr
      .exact j5 P cl r hr
      .have:=eq_of_beq hr
       subst this;obtain⟨s,hs⟩:=zi.mp w;rw[cw,af] at hs;exact cl.2 _ _ s (by rw[<-hT];exact pT) (aa ∅) hs.1 (ic P cl s hs.2)
    .rw[if_neg w]
     room;refine hK' _ _ #[rfl,g3,_,rfl,j1,j2,j3,λq B r m e1 e2 e3=>?_,j5];rw[et] at m;rcases aE.mp m with m|m
     .exact j4 q B r m e1 e2 e3
     .simp at m;subst m
      refine absurd (zi.mpr #[r,?_]) w;rw[aa ∅] at e1;injection e1 with e1
      rw[e1,cw,e2,e3];rfl
   .rintro env S5 ⟨rfl,g3,x5,rfl,j1,j2,j3,j4,j5⟩
    rw[ar,b9] at j4;room;exact hK (2^sg.length-g2) _ _ ∅ #[g3,g2,_,_,rfl,rfl,x3'.trans x4,h4,j1,j2,λp hp=>j3 p (ia p hp),λq B p z1=>j4 q B p (kF.mpr z1),j5]
noncomputable def jE(f:List Nat->Bool):List (List Nat)->Nat
 |[]=>0
 |l::r=>(if f l=true then 1 else 0)+2*jE f r
theorem vw:∀{sg:List (List Nat)}{p:Nat},(jE f sg).testBit p=mG f sg p
 |[],p=>by simp[jE,mG]
 |l::r,0=>by
  unfold jE mG;rw[Nat.testBit_zero]
  cases z:f l<;>simp[z]<;>omega
 |l::r,p+1=>by
  unfold jE;have e:((if f l=true then 1 else 0)+2*jE f r)/2=jE f r:=by split<;>omega
  rw[Nat.testBit_succ,e,vw]
  rfl
section
variable{S S1 S2:bJ}{r n:Nat}{o:SO}
theorem nU(a:Old r S S1)(h:S[n]?=some o)(ne:n≠r):S1[n]?=some o:=(a.2 n (bG h) ne).trans h
theorem P8(a:Old r S S1)(b:Ext S1 S2):Old r S S2:=a.trans (Ext.old b)
theorem pG{c f:String}{fs:List (String×U)}{v:U}{K:bJ->Prop}(h:S[r]?=some (.ins c fs))(hl:fs.length<100)(q:∀S',Old r S S'->S'.length=S.length->S'[r]?=some (.ins c (d7 f v fs))->K S'):
  mz S[r]? λc fs=>fs.length<100/\K (S.set r (.ins c (d7 f v fs))):=by
 rw[h,aZ]
 exact#[hl,q _ (kr.set h).old (by simp) (gs h)]
end
structure FN(S:bJ)(P:Nat)(bh en:List Nat)(tk:Nat->Nat):Prop where
 o:∃b e k,S[P]?=some (.ins "Places" [("behind",.loc b),("ends",.loc e),("takers",.loc k)])/\S[b]?=some (.lst (bh.map a9))/\S[e]?=some (.lst (en.map a9))/\S[k]?=some (.vJ (SG.map λc=>(.str [c],a9 (tk c))))
theorem FN.ext{S S':bJ}{P:Nat}{bh en:List Nat}{tk:Nat->Nat}(h:FN S P bh en tk)(x:Ext S S'):FN S' P bh en tk:=by
 obtain⟨b,e,k,h1,h2,h3,h4⟩:=h.o;exact#[b,e,k,x.get h1,x.get h2,x.get h3,x.get h4]
noncomputable def P9:Spec:=λus S Q _=>∃P L sg bh en,us=[.loc P,.loc L]/\S[P]?=some (.ins "Places" [])/\S.length=P+1/\qM S L sg bh en/\sg.length<=100/\bh.length=sg.length/\en.length<=100 /\
 ∀u S',Fj sg bh en u->(∀n,n<P->S'[n]?=S[n]?)->FN S' P (bh.map (·&&&u)) en (λc=>jE (·.contains c) sg)->Q .bK S'
theorem T4:(SG.map λc=>[c]).Nodup:=⋯
theorem T5(Γ:bY)(h1:Γ "useful_places"=T1)(h2:Γ "places_that_take"=M4):Keeps Γ jr 1 P9:=by
 rintro us S Q E ⟨P,L,sg,bh,en,rfl,hP,hs,h,hl,hb,he,q⟩;unfold jr;have nd:=T4;generalize hG:SG=G at nd;have gl:G.length=95:=by rw[<-hG];rfl
 room;refine ca h1 #[L,sg,bh,en,rfl,h,hl,hb,λu S1 x1 hu=>?_];have la:=h.ext x1;have hP1:=x1.get hP;have ne:L+4<=P:=by
  have:=h.len;have n0:¬L=P:=λz=>by rw[z] at h;rw[h.o] at hP;simp at hP
  have n1:¬L+1=P:=λz=>by rw[<-z,h.s] at hP;simp at hP
  have n2:¬L+2=P:=λz=>by rw[<-z,h.b] at hP;simp at hP
  have n3:¬L+3=P:=λz=>by rw[<-z,h.e] at hP;simp at hP
  omega
 room;rw[II la]
 room;rw[la.b,aH]
 refine xP (S:=S1) _ (λ_=>true) (λv=>match v with|.int i=>a9 (i.toNat&&&u)|v=>v) la.b (by simp;omega) (λv k _ z=>z.1 rfl) (λv k hv _ z=>?_) ?_
 .obtain⟨B,_,rfl⟩:=bx.mp hv
  room;exact z
 have e1:(List.filter (λ_=>true) (bh.map a9)).map (λv=>match v with|.int i=>a9 (i.toNat&&&u)|v=>v)=(bh.map (·&&&u)).map a9:=by
  rw[List.filter_eq_self.mpr (λ_ _=>rfl),bM,bM];rfl
 rw[e1]
 have x2:Ext S1 (S1++[SO.lst ((bh.map (·&&&u)).map a9)]):=Ext.app _;have g2:(S1++[SO.lst ((bh.map (·&&&u)).map a9)])[S1.length]?=some (.lst ((bh.map (·&&&u)).map a9)):=by simp
 have n2:S1.length≠P:=by have:=x1.1;omega
 generalize S1.length=b at g2 n2;generalize S1++[SO.lst ((bh.map (·&&&u)).map a9)]=S2 at g2 x2;refine pG (x2.get hP1) (by simp) λS3 o3 l3 hP3=>?_
 have la3:qM S3 L sg bh en:=by
  have:=la.ext x2;exact#[nU o3 this.o ∅,nU o3 this.s ∅,nU o3 this.b ∅,nU o3 this.e ∅]
 have g3:=nU o3 g2 n2;have o13:=(Ext.old (r:=P) (x1.trans x2)).trans o3;room;rw[PY la3]
 room;rw[la3.e,aH]
 have x4:Ext S3 (S3++[SO.lst (en.map a9)]):=Ext.app _;have g4:(S3++[SO.lst (en.map a9)])[S3.length]?=some (.lst (en.map a9)):=by simp
 have n4:S3.length≠P:=by have:=o13.1;omega
 generalize S3.length=e at g4 n4;generalize S3++[SO.lst (en.map a9)]=S4 at g4 x4;refine pG (x4.get hP3) (by simp[d7]) λS5 o5 l5 hP5=>?_
 have la5:qM S5 L sg bh en:=by
  have:=la3.ext x4;exact#[nU o5 this.o ∅,nU o5 this.s ∅,nU o5 this.b ∅,nU o5 this.e ∅]
 have o15:=(P8 o13 x4).trans o5;have g35:=nU o5 (x4.get g3) n2;have g45:=nU o5 g4 n4;room;refine fQ _ (λi acc S6=>i<=G.length/\Ext S5 S6/\acc=(G.take i).map λc=>.tup [.str [c],a9 (jE (·.contains c) sg)]) (λi acc S6 hi z=>#[trivial,?_]) (λi v acc S6 k hv hi hk=>?_) (λacc S6 z=>?_) #[∅,.refl,rfl]
 .rw[z.2.2];simp;omega
 .obtain⟨_,x6,rfl⟩:=hi
  rw[au] at hv;obtain⟨c,hc,rfl⟩:=ag.mp hv;have et:G.take (i+1)=G.take i++[c]:=by rw[cf,hc];rfl
  room;refine ca h2 #[L,sg,bh,en,c,rfl,la5.ext x6,hl,λb S7 x7 hb=>#[by simp,?_]];have eb:b=jE (·.contains c) sg:=jU λp=>by rw[hb,vw]
  subst eb;exact hk _ _ #[(ae.mp hc).1,x6.trans x7,by rw[et,eL];rfl]
 obtain⟨_,x6,rfl⟩:=z;rw[ar,b9]
 refine#[G.map λc=>([c],a9 (jE (·.contains c) sg)),by simp[kR],by rw[bM];exact nd,?_];rw[bM]
 have x7:Ext S6 (S6++[SO.lst (G.map λc=>.tup [.str [c],a9 (jE (·.contains c) sg)])]++[SO.vJ (G.map ((λp=>(U.str p.1,p.2))∘λc=>([c],a9 (jE (·.contains c) sg))))]):=(Ext.app _).trans (Ext.app _);have g7:(S6++[SO.lst (G.map λc=>.tup [.str [c],a9 (jE (·.contains c) sg)])]++[SO.vJ (G.map ((λp=>(U.str p.1,p.2))∘λc=>([c],a9 (jE (·.contains c) sg))))])[(S6++[SO.lst (G.map λc=>.tup [.str [c],a9 (jE (·.contains c) sg)])]).length]?=some (.vJ (G.map λc=>(.str [c],a9 (jE (·.contains c) sg)))):=by
  rw[ay (ax _),cq];rfl
 have n7:(S6++[SO.lst (G.map λc=>.tup [.str [c],a9 (jE (·.contains c) sg)])]).length≠P:=by
  have:=o15.1;have:=x6.1;rw[aB];omega
 generalize (S6++[SO.lst (G.map λc=>.tup [.str [c],a9 (jE (·.contains c) sg)])]).length=k at g7 n7;generalize S6++[SO.lst (G.map λc=>.tup [.str [c],a9 (jE (·.contains c) sg)])]++[SO.vJ (G.map ((λp=>(U.str p.1,p.2))∘λc=>([c],a9 (jE (·.contains c) sg))))]=S7 at g7 x7;refine pG ((x6.trans x7).get hP5) (by simp[d7]) λS8 o8 l8 hP8=>?_
 room;subst hG;exact q u S8 hu (λn hn=>((P8 o15 (x6.trans x7)).trans o8).2 n ∅ ∅) #[b,e,k,hP8,nU o8 ((x6.trans x7).get g35) n2,nU o8 ((x6.trans x7).get g45) n4,nU o8 g7 n7]
noncomputable def T6(bh:List Nat)(h r:Nat):Prop:=∀p,r.testBit p=true↔∃q B,h.testBit q=true/\bh[q]?=some B/\B.testBit p=true
noncomputable def Qa:Spec:=λus S Q _=>∃P bh en tk h,us=[.loc P,a9 h]/\FN S P bh en tk/\bh.length<=100/\(∀p,h.testBit p=true->p<bh.length)/\∀r S',T6 bh h r->Ext S S'->Q (a9 r) S'
theorem T7(Γ:bY)(h1:Γ "members"=AM):Keeps Γ iA 2 Qa:=by
 rintro us S Q E ⟨P,bh,en,tk,h,rfl,pa,hl,hh,q⟩;unfold iA;room;refine ca h1 #[h,rfl,aM (kE hh) (bB ∅ hl),λn S1 x1 hn g1=>?_];obtain⟨b,e,k,o,gb,_,_⟩:=(pa.ext x1).o;have fb:∀{r},jB (.loc P) "behind" S1 r=r (.loc b):=by intro r;rw[d8,o];rfl
 room;rw[g1,aH]
 refine eF (λi env S2=>S2=S1/\∃(r:Nat)(x3:Option U),env=[some (.loc P),some (a9 h),some (a9 r),x3]/\∀p,r.testBit p=true↔∃q B,q∈(rR h).take i/\bh[q]?=some B/\B.testBit p=true) (λi env S2 z=>z.1▸g1) _ ?_ ?_ #[rfl,0,none,rfl,by simp]
 .rintro i u env S2 K hu ⟨rfl,r,x3,rfl,inv⟩ hK
  rw[au] at hu;obtain⟨p,hp,rfl⟩:=ag.mp hu;have pl:=hh p (kF.mp (aw hp));have et:(rR h).take (i+1)=(rR h).take i++[p]:=by rw[cf,hp];rfl
  room;rw[fb]
  room;rw[gb,aH,ir]
  refine tO (aa pl) ?_;room;refine hK _ _ #[rfl,_,_,rfl,λp'=>?_];rw[cC,aO,inv,et]
  constructor
  .rintro(⟨q,B,m,e1,e2⟩|e2)
   .exact#[q,B,bT _ m,e1,e2]
   .exact#[p,_,aW _ (by simp),aa pl,e2]
  .rintro⟨q,B,m,e1,e2⟩
   rcases aE.mp m with m|m
   .exact .inl #[q,B,m,e1,e2]
   .simp at m;subst m
    rw[aa pl] at e1;injection e1 with e1
    exact .inr (by rw[e1];exact e2)
 .rintro env S2 ⟨rfl,r,x3,rfl,inv⟩
  room;refine q r _ (λp=>?_) x1;rw[inv,ar,b9]
  simp only[kF]
noncomputable def Ov(h:Nat)(en:List Nat)(i:Nat):Prop:=∃Z,en[i]?=some Z/\∃p,h.testBit p=true/\Nat.testBit Z p=true
noncomputable def uN:Option Nat->U
 |none=>.bK
 |some i=>a9 i
noncomputable def YH(h:Nat)(en:List Nat):Option Nat->Prop
 |none=>∀i,¬Ov h en i
 |some i=>Ov h en i/\∀i',i'<i->¬Ov h en i'
noncomputable def T8:Spec:=λus S Q _=>∃P bh en tk h,us=[.loc P,a9 h]/\FN S P bh en tk/\∀r,YH h en r->Q (uN r) S
theorem T9(Γ:bY):Keeps Γ eY 2 T8:=by
 rintro us S Q E ⟨P,bh,en,tk,h,rfl,pa,q⟩;unfold eY;obtain⟨b,e,k,o,_,ge,_⟩:=pa.o;have fe:∀{r},jB (.loc P) "ends" S r=r (.loc e):=by intro r;rw[d8,o];rfl
 room;rw[fe]
 room;rw[ge,aH]
 refine eF (λi env S2=>S2=S/\∃(x2 x3:Option U),env=[some (.loc P),some (a9 h),x2,x3]/\∀i',i'<i->¬Ov h en i') (λi env S2 z=>z.1▸ge) _ ?_ ?_ #[rfl,none,none,rfl,by simp]
 .rintro i u env S2 K hu ⟨rfl,x2,x3,rfl,inv⟩ hK
  simp only[jQ,au,Jr] at hu;obtain⟨Z,hZ,rfl⟩:=ag.mp hu;simp only[kR];room;by_cases w:(((h&&&Z:Nat):Int) !=0)=true
  .rw[if_pos w]
   room;obtain⟨p,hp⟩:=zi.mp w;rw[cw,af] at hp;exact q (some i) #[#[Z,hZ,p,hp.1,hp.2],inv]
  .rw[if_neg w]
   room;refine hK _ _ #[rfl,_,_,rfl,λi' hi=>?_];by_cases z:i'=i
   .subst z
    rintro⟨Z',e1,p,e2,e3⟩;rw[hZ] at e1;injection e1 with e1;subst e1
    exact w (zi.mpr #[p,by rw[cw,e2,e3];rfl])
   .exact inv i' ∅
 .rintro env S2 ⟨rfl,x2,x3,rfl,inv⟩
  room;refine q none λi ov=>?_
  obtain⟨Z,e1,_⟩:=ov;exact inv i (by have:=(ae.mp e1).1;simpa using this) #[Z,e1,‹_›]
theorem Xq{S:bJ}{r k:Nat}{c f:String}{fs:List (String×U)}{K:bJ->Prop}(h:S[r]?=some (.ins c fs))(hv:fs.lookup f=some (a9 k))(hl:fs.length<100)(q:∀S',Old r S S'->S'.length=S.length->S'[r]?=some (.ins c (d7 f (a9 (k+1)) fs))->K S'):
  mz S[r]? λc fs=>opt (fs.lookup f) λv=>sZ .add v (.int 1) S λz S3=>mz S3[r]? λc' fs'=>c'=c/\fs'.length<100/\K (S3.set r (.ins c (d7 f z fs'))):=by
 rw[h,aZ,hv]
 show mz S[r]? _
 rw[h,aZ]
 exact#[rfl,hl,q _ (kr.set h).old (by simp) (gs h)]
noncomputable def zN(P:Nat)(r k:Nat)(f:U):SO:=.ins "Walk" [("places",.loc P),("reach",a9 r),("passed",a9 k),("found",f)]
section
variable{S:bJ}{w P r k:Nat}{f:U}{R:U->Prop}(h:S[w]?=some (zN P r k f))
include h
theorem Qb:jB (.loc w) "places" S R=R (.loc P):=by rw[d8,h];rfl
theorem Ua:jB (.loc w) "reach" S R=R (a9 r):=by rw[d8,h];rfl
theorem Qc:jB (.loc w) "passed" S R=R (a9 k):=by rw[d8,h];rfl
theorem Qd:jB (.loc w) "found" S R=R f:=by rw[d8,h];rfl
end
theorem FN.old{S S':bJ}{P r:Nat}{bh en:List Nat}{tk:Nat->Nat}{c:String}{fs:List (String×U)}(h:FN S P bh en tk)(x:Old r S S')(hr:S[r]?=some (.ins c fs))(ne:P≠r):FN S' P bh en tk:=by
 obtain⟨b,e,k,h1,h2,h3,h4⟩:=h.o;exact#[b,e,k,nU x h1 ne,nU x h2 (λz=>by rw[z,hr] at h2;simp at h2),nU x h3 (λz=>by rw[z,hr] at h3;simp at h3),nU x h4 (λz=>by rw[z,hr] at h4;simp at h4)]
noncomputable def Mb:Spec:=λus S Q _=>∃w P bh en tk,us=[.loc w,.loc P]/\S[w]?=some (.ins "Walk" [])/\FN S P bh en tk/\P≠w/\bh.length<=100/\1<=bh.length/\∀r S',T6 bh 1 r->Old w S S'->S'[w]?=some (zN P r 0 .bK)->Q .bK S'
theorem Ub(Γ:bY)(h1:Γ "Places.beyond"=Qa):Keeps Γ lB 0 Mb:=by
 rintro us S Q E ⟨w,P,bh,en,tk,rfl,hw,pa,ne,hl,h0,q⟩;unfold lB;room;refine pG hw (by simp) λS1 o1 l1 g1=>?_
 have pa1:=pa.old o1 hw ne;obtain⟨b,e,k,oP,_⟩:=pa1.o;room;rw[oP,aZ]
 refine#[#[rfl,rfl],ca h1 #[P,bh,en,tk,1,rfl,pa1,hl,λp hp=>?_,λr S2 hr x2=>?_]]
 .have:=pE.mp hp;omega
 refine pG (x2.get g1) (by simp[d7]) λS3 o3 l3 g3=>?_
 room;refine pG g3 (by simp[d7]) λS4 o4 l4 g4=>?_
 room;refine pG g4 (by simp[d7]) λS5 o5 l5 g5=>?_
 room;exact q r S5 hr ((((P8 o1 x2).trans o3).trans o4).trans o5) g5
noncomputable def Qe:Spec:=λus S Q _=>∃w P r k f,us=[.loc w]/\S[w]?=some (zN P r k f)/\Q (.bl (!((r:Int)== 0))) S
theorem Uc(Γ:bY):Keeps Γ gM 0 Qe:=by
 rintro us S Q E ⟨w,P,r,k,f,rfl,hw,q⟩;unfold gM;room;rw[Ua hw]
 room;exact q
theorem AS{α:Type}{f:Nat->α}:∀{l:List Nat}{c:Nat},c∈l->(l.map λc=>([c],f c)).lookup [c]=some (f c)
 |x::l,c,h=>by
  rw[aD,ba]
  by_cases z:c=x
  .subst z;simp
  .have:(([c]:List Nat)== [x])=false:=by simp[z]
   rw[this]
   exact AS (by rcases bg.mp h with h|h;exact absurd h z;exact h)
noncomputable def uF(r:Option Nat)(k:Nat)(f:U):U:=match r with|none=>f|some i=>.tup [a9 i,a9 k]
noncomputable def Ud:Spec:=λus S Q _=>∃w P r k f c bh en tk,us=[.loc w,.str [c]]/\S[w]?=some (zN P r k f)/\FN S P bh en tk/\P≠w/\bh.length<=100/\c∈SG/\(∀p,r.testBit p=true->p<bh.length) /\
 ∀r' i S',T6 bh (r&&&tk c) r'->YH (r&&&tk c) en i->Old w S S'->S'[w]?=some (zN P r' (k+1) (uF i (k+1) f))->Q .bK S'
theorem Ue(Γ:bY)(h1:Γ "Places.beyond"=Qa)(h2:Γ "Places.first_rule"=T8):Keeps Γ lC 2 Ud:=by
 rintro us S Q E ⟨w,P,r,k,f,c,bh,en,tk,rfl,hw,pa,ne,hl,hc,hr,q⟩;unfold lC;obtain⟨b,e,t,oP,_,_,gt⟩:=pa.o;have ft:∀{R},jB (.loc P) "takers" S R=R (.loc t):=by intro R;rw[d8,oP];rfl
 room;rw[Ua hw,Qb hw,ft]
 room;rw[gt]
 simp only[getD_some,true_and];refine#[SG.map λc=>([c],a9 (tk c)),by rw[bM];rfl,?_];rw[AS hc]
 simp only[cD];room;rw[Qb hw]
 room;rw[oP,aZ]
 refine#[#[rfl,rfl],ca h1 #[P,bh,en,tk,r&&&tk c,rfl,pa,hl,λp hp=>hr p ?_,λr' S1 hr' x1=>?_]]
 .rw[cw,af] at hp;exact hp.1
 refine pG (x1.get hw) (by simp) λS2 o2 l2 g2=>?_
 have g2:S2[w]?=some (zN P r' k f):=g2;have pa2:=(pa.ext x1).old o2 (x1.get hw) ne;room;refine Xq (k:=k) g2 rfl (by simp) λS3 o3 l3 g3=>?_
 have pa3:=pa2.old o3 g2 ne;have g3:S3[w]?=some (zN P r' (k+1) f):=g3;obtain⟨_,_,_,oP3,_⟩:=pa3.o;room;rw[Qb g3]
 room;rw[oP3,aZ]
 refine#[#[rfl,rfl],ca h2 #[P,bh,en,tk,r&&&tk c,rfl,pa3,λi hi=>?_]];have oo:=((Ext.old (r:=w) x1).trans o2).trans o3;cases i with
 |none=>
  unfold uN;room;exact q r' none S3 hr' hi oo g3
 |some i=>
  unfold uN;room;rw[Qc g3]
  refine#[by simp,pG g3 (by simp) λS4 o4 l4 g4=>?_];room;exact q r' (some i) S4 hr' hi (oo.trans o4) g4
structure xR(ts:List Tr)(sg:List (List Nat))(bh en:List Nat):Prop where
 len:bh.length=sg.length
 Fl:en.length=ts.length
 Xr:∀(i j:Nat)t t' p,ts[i]?=some t->ts[j]?=some t'->IN t p=true->IN t' p=true->i=j
 pos:∀t∈ts,∃n,0<n/\nR n t
 sgn:∀t∈ts,∀p,IN t p=true->sg[p]?=some (sgn t p)
 b0:∃B,bh[0]?=some B/\∀p,B.testBit p=true↔∃t∈ts,FS t p=true
 b:∀t∈ts,∀q,IN t q=true->∃B,bh[q]?=some B/\∀p,B.testBit p=nH (cont t q) p
 e:∀(i:Nat)t,ts[i]?=some t->∃Z,en[i]?=some Z/\∀p,Z.testBit p=(IN t p&&du (cont t p))
 nl:∀t∈ts,null t=false
section
variable{ts:List Tr}{sg:List (List Nat)}{bh en:List Nat}{u r r' c:Nat}{w:List Nat}
noncomputable def JD(ts:List Tr)(u:Nat)(w:List Nat)(r:Nat):Prop:=∀p,r.testBit p=true↔(∃t∈ts,∃q,hs t w q/\nH (ct t q) p=true)/\u.testBit p=true
theorem DQ{q B:Nat}(h:(bh.map (·&&&u))[q]?=some B):∃B',bh[q]?=some B'/\B=B'&&&u:=by
 rw[au] at h;obtain⟨B',h1,h2⟩:=ag.mp h;exact#[B',h1,h2.symm]
theorem YI:ct t 0=[t]:=rfl
theorem M5(h:p≠0):ct t p=cont t p:=by unfold ct;rw[if_neg h]
theorem Ug:nH [t] p=FS t p:=by simp[nH]
theorem Fm(A:xR ts sg bh en)(h:T6 (bh.map (·&&&u)) 1 r):JD ts u [] r:=by
 intro p;obtain⟨B,e0,b0⟩:=A.b0;rw[h p]
 constructor
 .rintro⟨q,B',h1,h2,h3⟩
  have q0:=pE.mp h1;subst q0;obtain⟨B2,e2,rfl⟩:=DQ h2;rw[e0] at e2;injection e2 with e2;subst e2
  rw[cw,af,b0] at h3;obtain⟨⟨t,m,f⟩,z⟩:=h3;exact#[#[t,m,0,rfl,by rw[YI,Ug];exact f],z]
 .rintro⟨⟨t,m,q,hq,f⟩,z⟩
  have hq:q=0:=hq;subst hq;rw[YI,Ug] at f;exact#[0,B&&&u,rfl,by rw[au,e0];rfl,by rw[cw,(b0 p).mpr #[t,m,f],z];rfl]
theorem qO(A:xR ts sg bh en)(h:JD ts u w r)(p:Nat):(r&&&jE (·.contains c) sg).testBit p=true↔(∃t∈ts,hs t (w++[c]) p)/\u.testBit p=true:=by
 rw[cw,af,h p,vw]
 constructor
 .rintro⟨⟨⟨t,m,q,hq,f⟩,z⟩,k⟩
  obtain⟨l,e1,e2⟩:=AR k;rw[A.sgn t m p (oC f)] at e1;injection e1 with e1;subst e1
  exact#[#[t,m,by rw[jv];exact#[q,hq,f,gq.mp e2]],z]
 .rintro⟨⟨t,m,hq⟩,z⟩
  rw[jv] at hq;obtain⟨q,hq,f,k⟩:=hq;refine#[#[#[t,m,q,hq,f],z],?_];unfold mG;rw[A.sgn t m p (oC f)]
  exact gq.mpr k
theorem pj(A:xR ts sg bh en)(m:t∈ts)(h:hs t (w++[c]) p):IN t p=true/\p≠0/\mG vv sg p=true:=by
 rw[jv] at h;obtain⟨q,_,f,k⟩:=h;have i:=oC f;obtain⟨n,n0,pl⟩:=A.pos t m;refine#[i,vn pl n0 i,?_];unfold mG;rw[A.sgn t m p i]
 show vv (sgn t p)=true
 unfold vv;cases e:jM.sgn t p with
 |nil=>rw[e] at k;simp at k
 |cons a l=>rfl
theorem AU(A:xR ts sg bh en)(U:Fj sg bh en u)(m:t∈ts)(h:hs t (w++[c]) q)(f:nH (ct t q) p=true)(z:u.testBit p=true):u.testBit q=true:=by
 obtain⟨i,q0,k⟩:=pj A m h;obtain⟨B,e1,e2⟩:=A.b t m q i;rw[M5 q0] at f;exact U.b q B p k e1 (by rw[e2];exact f) z
theorem IL(A:xR ts sg bh en)(U:Fj sg bh en u)(h:JD ts u w r)(hr:T6 (bh.map (·&&&u)) (r&&&jE (·.contains c) sg) r'):JD ts u (w++[c]) r':=by
 intro p;rw[hr p]
 constructor
 .rintro⟨q,B',h1,h2,h3⟩
  obtain⟨⟨t,m,hq⟩,_⟩:=(qO A h q).mp h1;obtain⟨i,q0,_⟩:=pj A m hq;obtain⟨B2,e2,rfl⟩:=DQ h2;obtain⟨B,e1,b1⟩:=A.b t m q i;rw[e1] at e2;injection e2 with e2;subst e2
  rw[cw,af,b1] at h3;exact#[#[t,m,q,hq,by rw[M5 q0];exact h3.1],h3.2]
 .rintro⟨⟨t,m,q,hq,f⟩,z⟩
  have uq:=AU A U m hq f z;obtain⟨i,q0,_⟩:=pj A m hq;obtain⟨B,e1,b1⟩:=A.b t m q i;rw[M5 q0] at f;exact#[q,B&&&u,(qO A h q).mpr #[#[t,m,hq],uq],by rw[au,e1];rfl,by rw[cw,b1,f,z];rfl]
theorem DS(A:xR ts sg bh en)(U:Fj sg bh en u)(m:t∈ts)(h:hs t (w++[c]) p)(n:du (ct t p)=true):u.testBit p=true:=by
 obtain⟨i,p0,k⟩:=pj A m h;rw[M5 p0] at n;obtain⟨j,ej⟩:=bA m;obtain⟨Z,e1,e2⟩:=A.e j t ej;exact U.e Z p (aw e1) (by rw[e2,i,n];rfl) k
theorem IM(A:xR ts sg bh en)(U:Fj sg bh en u)(h:JD ts u w r)(i:Nat):Ov (r&&&jE (·.contains c) sg) en i↔∃t,ts[i]?=some t/\En t (hs t (w++[c])):=by
 constructor
 .rintro⟨Z,e1,p,h1,h2⟩
  have hi:i<ts.length:=by rw[<-A.Fl];exact(ae.mp e1).1
  obtain⟨Z',e2,b2⟩:=A.e i _ (aa hi);rw[e1] at e2;injection e2 with e2;subst e2
  rw[b2,af] at h2;obtain⟨⟨t,m,hq⟩,_⟩:=(qO A h p).mp h1;obtain⟨ip,p0,_⟩:=pj A m hq;obtain⟨j,ej⟩:=bA m;have:=A.Xr i j _ t p (aa hi) ej h2.1 ip;subst this;rw[aa hi] at ej;injection ej with ej;subst ej
  exact#[_,aa hi,p,hq,by rw[M5 p0];exact h2.2]
 .rintro⟨t,ei,p,hq,n⟩
  have m:=aw ei;obtain⟨Z,e1,e2⟩:=A.e i t ei;obtain⟨ip,p0,_⟩:=pj A m hq;have up:=DS A U m hq n;rw[M5 p0] at n;exact#[Z,e1,p,(qO A h p).mpr #[#[t,m,hq],up],by rw[e2,ip,n];rfl]
theorem IP(A:xR ts sg bh en)(U:Fj sg bh en u)(h:JD ts u w 0)(m:t∈ts):∀(v:List Nat)(c p:Nat),hs t (w++v++[c]) p->¬u.testBit p=true:=by
 intro v;generalize hn:v.length=n;induction n generalizing v with
 |zero=>
  intro c p hp z;rw[zT.mp hn,bb,jv] at hp;obtain⟨q,hq,f,_⟩:=hp;have:=(h p).mpr #[#[t,m,q,hq,f],z];simp at this
 |succ n ih=>
  intro c p hp z;rw[jv] at hp;obtain⟨q,hq,f,_⟩:=hp;have nn:v≠[]:=λe=>by rw[e] at hn;simp at hn
  rw[<-vF nn,<-bp] at hq;exact ih v.dropLast (by simp[hn]) _ q hq (AU A U m hq f z)
theorem IQ(A:xR ts sg bh en)(U:Fj sg bh en u)(h:JD ts u (x.take k) 0)(hj:k<j)(hx:j<=x.length):Nn ts x j i:=by
 rintro t e ⟨p,hp,n⟩;have m:=aw e;obtain⟨j',rfl⟩:∃j',j=j'+1:=#[j-1,∅]
 have e1:x.take (j'+1)=x.take k++(x.drop k).take (j'-k)++[x[j']'∅]:=by
  rw[take_snoc (aa ∅)]
  congr 1
  obtain⟨d,rfl⟩:∃d,j'=k+d:=#[j'-k,∅]
  rw[List.take_add];simp
 rw[e1] at hp;exact IP A U h m _ _ p hp (DS A U m hp n)
end
section
variable{ts:List Tr}{sg:List (List Nat)}{bh en:List Nat}{u r:Nat}{w:List Nat}
theorem zm{A:xR ts sg bh en}{t:Tr}(m:t∈ts){p:Nat}(i:IN t p=true):mG vv sg p=true↔jM.sgn t p≠[]:=by
 unfold mG;rw[A.sgn t m p i]
 show vv (jM.sgn t p)=true↔_
 unfold vv;simp
theorem DT(A:xR ts sg bh en)(U:Fj sg bh en u){t:Tr}(m:t∈ts){p:Nat}(i:IN t p=true):u.testBit p=true↔jM.sgn t p≠[]/\dm (cont t p)=true:=by
 constructor
 .intro h
  refine U.m (λp=>∀t∈ts,IN t p=true->jM.sgn t p≠[]/\dm (cont t p)=true) #[λZ p hZ hz hp t m i=>?_,λq B p hq hB hp ih t m i=>?_] p h t m i
  .obtain⟨j,ej⟩:=bA hZ
   have hj:j<ts.length:=by rw[<-A.Fl];exact(ae.mp ej).1
   obtain⟨Z',e2,b2⟩:=A.e j _ (aa hj);rw[ej] at e2;injection e2 with e2;subst e2
   rw[b2,af] at hz;obtain⟨k,ek⟩:=bA m;have:=A.Xr j k _ t p (aa hj) ek hz.1 i;subst this;rw[aa hj] at ek;injection ek with ek;subst ek
   exact#[(zm (A:=A) m i).mp hp,vq hz.2]
  .obtain⟨B',e1,b1⟩:=A.b t m q i
   rw[hB] at e1;injection e1 with e1;subst e1
   rw[b1] at hp;obtain⟨h1,h2⟩:=ih t m (fc hp);obtain⟨n,n0,pl⟩:=A.pos t m;obtain⟨c,hc⟩:=yw _ h1;have:=zj ((lY pl).mpr #[p,hp,hc,rfl]) h2;rw[mF,af] at this;exact#[(zm (A:=A) m i).mp hq,this.1]
 .rintro⟨h1,h2⟩
  obtain⟨n,n0,pl⟩:=A.pos t m;generalize hk:Bj (cont t p)=k;induction k using Nat.strongRecOn generalizing p with
  |ind k ih=>
   have hp:=(zm (A:=A) m i).mpr h1;cases z:du (cont t p) with
   |true=>
    obtain⟨j,ej⟩:=bA m;obtain⟨Z,e1,e2⟩:=A.e j t ej;exact U.e Z p (aw e1) (by rw[e2,i,z];rfl) hp
   |false=>
    obtain⟨c,x,d1,d2,d3⟩:=DN h2 z;obtain⟨p',f,hc,rfl⟩:=(lY pl).mp d1;obtain⟨B,e1,b1⟩:=A.b t m p i;exact U.b p B p' hp e1 (by rw[b1];exact f) (ih _ ∅ (fc f) (λe=>by rw[e] at hc;simp at hc) d2 rfl)
theorem IS(A:xR ts sg bh en)(U:Fj sg bh en u)(h:JD ts u w r):r≠0↔∃t∈ts,∃q,hs t w q/\mF (ct t q)=true:=by
 constructor
 .intro z
  obtain⟨p,hp⟩:=vG z;obtain⟨⟨t,m,q,hq,f⟩,uz⟩:=(h p).mp hp;obtain⟨n,n0,pl⟩:=A.pos t m;obtain⟨h1,h2⟩:=(DT A U m (oC f)).mp uz;obtain⟨c,hc⟩:=yw _ h1;exact#[t,m,q,hq,vt.mpr #[c,_,(vo pl n0).mpr #[p,f,hc,rfl],by rw[M5 (vn pl n0 (oC f))];exact h2]]
 .rintro⟨t,m,q,hq,z⟩
  obtain⟨n,n0,pl⟩:=A.pos t m;obtain⟨c,x,d1,d2⟩:=vt.mp z;obtain⟨p,f,hc,rfl⟩:=(vo pl n0).mp d1;rw[M5 (vn pl n0 (oC f))] at d2;have:=(h p).mpr #[#[t,m,q,hq,f],(DT A U m (oC f)).mpr #[λe=>by rw[e] at hc;simp at hc,d2]];intro e;rw[e] at this;simp at this
end
structure tP(S:bJ)(P:Nat)(ts:List Tr)(u:Nat):Prop where
 o:∃sg bh en,FN S P (bh.map (·&&&u)) en (λc=>jE (·.contains c) sg)/\xR ts sg bh en/\Fj sg bh en u/\sg.length<=100
theorem tP.ext{S S':bJ}{P:Nat}{ts:List Tr}{u:Nat}(h:tP S P ts u)(x:Ext S S'):tP S' P ts u:=by
 obtain⟨sg,bh,en,pa,A,U,l⟩:=h.o;exact#[sg,bh,en,pa.ext x,A,U,l]
theorem tP.old{S S':bJ}{P:Nat}{ts:List Tr}{u r:Nat}{c:String}{fs:List (String×U)}(h:tP S P ts u)(x:Old r S S')(hr:S[r]?=some (.ins c fs))(ne:P≠r):tP S' P ts u:=by
 obtain⟨sg,bh,en,pa,A,U,l⟩:=h.o;exact#[sg,bh,en,pa.old x hr ne,A,U,l]
theorem Qf(A:xR ts sg bh en)(h:JD ts u w r)(p:Nat)(hp:r.testBit p=true):p<(bh.map (·&&&u)).length:=by
 obtain⟨⟨t,m,q,_,f⟩,_⟩:=(h p).mp hp;have:=(ae.mp (A.sgn t m p (oC f))).1;rw[ar,A.len];exact this
structure Fn(ts:List Tr)(u:Nat)(x:List Nat)(r k:Nat)(f:Option (Nat×Nat)):Prop where
 le:k<=x.length
 wr:JD ts u (x.take k) r
 bs:sM ts x k f
noncomputable def Uh:Spec:=λus S Q _=>∃w P r k f x ts u,us=[.loc w,.str x]/\S[w]?=some (zN P r k (uR f))/\tP S P ts u/\P≠w/\Fn ts u x r k f/\(∀c∈x,c∈SG)/\x.length<=1000 /\
 ∀f r k S',Fn ts u x r k f->(r=0\/k=x.length)->Old w S S'->S'[w]?=some (zN P r k (uR f))->Q .bK S'
theorem Ui(Γ:bY)(h1:Γ "Walk.may_go_on"=Qe)(h2:Γ "Walk.step"=Ud):Keeps Γ jZ 0 Uh:=by
 rintro us S Q E ⟨w,P,r,k,f,x,ts,u,rfl,hw,pa,ne,wa,hx,hl,q⟩;unfold jZ;room;refine#[x.length+1,lL (λn env S1=>∃k r f,n=x.length-k/\env=[some (.loc w),some (.str x)]/\Old w S S1/\S1[w]?=some (zN P r k (uR f))/\tP S1 P ts u/\Fn ts u x r k f) ?_ _ (x.length-k) _ _ ∅ #[k,r,f,rfl,rfl,.refl,hw,pa,wa]];rintro n env S1 K ⟨k,r,f,rfl,rfl,o1,g1,pa1,wa⟩ hK;obtain⟨hk,wr,bs⟩:=id wa;room;have g1':=g1;unfold zN at g1';rw[g1',aZ]
 refine#[#[rfl,rfl],ca h1 #[w,P,r,k,_,rfl,g1,?_]];obtain⟨sg,bh,en,pp,A,U,l⟩:=pa1.o;room;by_cases z:r=0
 .subst z
  have:((((0:Nat):Int))== 0)=true:=rfl;simp only[this,bO,ah,if_false];room;exact q f _ k S1 wa (.inl rfl) o1 g1
 .have:((r:Int)== 0)=false:=by rw[beq_eq_false_iff_ne];omega
  simp only[this,bV,if_true];rw[Qc g1]
  room;refine#[∅,?_];by_cases y:k<x.length
  .have:((k:Int)<(x.length:Int)):=∅
   simp only[this,decide_true,if_true];room;rw[g1',aZ]
   refine#[#[rfl,rfl],?_];rw[Qc g1]
   room;rw[ir,aa y,aP]
   have hc:x[k]?=some x[k]:=aa y;refine#[∅,ca h2 #[w,P,r,k,_,x[k],_,en,_,rfl,g1,pp,ne,by rw[ar,A.len];exact l,hx _ (bI y),Qf A wr,λr' i S2 hb hf o2 g2=>?_]];room;have wr':=IL A U wr hb;rw[<-take_snoc hc] at wr';have nn:∀i,Nn ts x (k+1) i↔¬Ov (r&&&jE (·.contains x[k]) sg) en i:=λi=>by
    rw[IM A U wr i,<-take_snoc hc]
    exact#[λh #[t,e,z]=>h t e z,λh t e z=>h #[t,e,z]]
   cases i with
   |none=>exact hK (x.length-(k+1)) _ _ ∅ #[k+1,r',f,rfl,rfl,o1.trans o2,g2,pa1.old o2 g1' ne,∅,wr',oE bs ∅ λj i h1 h2=>by
     have:j=k+1:=∅
     subst this;exact(nn i).mpr (hf i)]
   |some i=>exact hK (x.length-(k+1)) _ _ ∅ #[k+1,r',some (i,k+1),rfl,rfl,o1.trans o2,g2,pa1.old o2 g1' ne,∅,wr',DM (λh=>(nn i).mp h hf.1) λi' hi=>(nn i').mpr (hf.2 i' hi)]
  .have:¬((k:Int)<(x.length:Int)):=∅
   simp only[this,decide_false,ah,if_false];room;have ek:k=x.length:=∅
   subst ek;exact q f _ _ S1 wa (.inr rfl) o1 g1
theorem Fn.full(A:xR ts sg bh en)(U:Fj sg bh en u)(h:Fn ts u x r k f)(e:r=0\/k=x.length):sM ts x x.length f:=by
 rcases e with rfl|rfl
 .exact oE h.bs h.le λj i h1 h2=>IQ A U h.wr h1 h2
 .exact h.bs
noncomputable def Zr(P:Nat):SO:=.ins "Lexer" [("places",.loc P)]
structure Uj(S:bJ)(X:Nat)(ts:List Tr):Prop where
 o:∃P u,S[X]?=some (Zr P)/\tP S P ts u
theorem Uj.ext{S S':bJ}{X:Nat}{ts:List Tr}(h:Uj S X ts)(x:Ext S S'):Uj S' X ts:=by
 obtain⟨P,u,g,pa⟩:=h.o;exact#[P,u,x.get g,pa.ext x]
theorem AV:lV x (some (a:Nat)) none=x.drop a:=by
 unfold lV;simp only[cD,jd,i8,Bs];by_cases h:a<=x.length
 .rw[f9 h,bN (by simp)]
 .rw[jH ∅,tB,dG ∅];simp
noncomputable def iY(ts:List Tr):Nat:=(ts.map size).sum
noncomputable def Mc:Nat->List Tr->Prop
 |_,[]=>True
 |n,t::ts=>nR n t/\Mc (n+size t) ts
theorem zo:∀{ts:List Tr}{n i:Nat}{t:Tr},Mc n ts->ts[i]?=some t->nR (n+iY (ts.take i)) t
 |[],n,i,t,h,e=>by simp at e
 |a::ts,n,0,t,h,e=>by
  have:a=t:=by simpa using e
  subst this;exact h.1
 |a::ts,n,i+1,t,h,e=>by
  have:=zo (i:=i) h.2 (by simpa using e);simpa[iY,Nat.add_assoc] using this
theorem Md:xR [] [[]] [0] []:=
 #[rfl,rfl,λi j t t' p h=>by simp at h,λt h=>by simp at h,λt h=>by simp at h,#[0,rfl,λp=>by simp],λt h=>by simp at h,λi t h=>by simp at h,λt h=>by simp at h]
theorem IT(A:xR ts sg bh en)(s0:0<sg.length)(hp:nR sg.length t)(nt:null t=false)(l:tm t bh F Z (B::bt)):xR (ts++[t]) (sg++oB t) ((B|||F)::bt) (en++[Z]):=by
 have lt:∀t'∈ts,∀p,IN t' p=true->p<sg.length:=λt' m p i=>(ae.mp (A.sgn t' m p i)).1
 have ge:∀p,IN t p=true->sg.length<=p/\p<sg.length+size t:=λp i=>(eM hp).mp i
 have ll:=gQ t;have l1:=l.len;have l2:=A.len;have bs:∀(q C:Nat),0<q->(B::bt)[q]?=some C->((B|||F)::bt)[q]?=some C:=λq C h e=>by
  cases q with
  |zero=>omega
  |succ q=>exact e
 have mem:∀{t'},t'∈ts++[t]->t'∈ts\/t'=t:=λh=>by simpa using h
 have at_:∀{i:Nat}{t'},(ts++[t])[i]?=some t'->ts[i]?=some t'\/(i=ts.length/\t'=t):=λ{i t'}h=>by
  rw[gU] at h;split at h
  .exact .inl h
  .rename_i z
   have il:i=ts.length:=by
    have:=(ae.mp h).1;simp at this;omega
   subst il;simp at h;exact .inr #[rfl,h.symm]
 refine#[?_,?_,?_,?_,?_,?_,?_,?_,?_]
 .rw[aB,ll]
  simp only[aQ] at l1 ⊢;omega
 .simp[A.Fl]
 .intro i j t1 t2 p e1 e2 i1 i2
  rcases at_ e1 with f1|⟨f1,g1⟩<;>rcases at_ e2 with f2|⟨f2,g2⟩
  .exact A.Xr i j _ _ p f1 f2 i1 i2
  .have:=lt _ (aw f1) p i1;rw[g2] at i2;have:=ge p i2;omega
  .have:=lt _ (aw f2) p i2;rw[g1] at i1;have:=ge p i1;omega
  .omega
 .intro t' m
  rcases mem m with m|rfl
  .exact A.pos t' m
  .exact#[_,s0,hp]
 .intro t' m p i
  rcases mem m with m|rfl
  .rw[aq (lt t' m p i)];exact A.sgn t' m p i
  .rw[ay (ge p i).1];exact rQ hp i
 .obtain⟨B',e,b⟩:=A.b0
  have:=l.old 0 ∅;rw[e] at this;have eB:B=B':=by simpa using this
  subst eB;refine#[B|||F,rfl,λp=>?_];rw[cC,aO,b,l.f]
  constructor
  .rintro(⟨t',m,f⟩|f)
   .exact#[t',by simp[m],f]
   .exact#[t,by simp,f]
  .rintro⟨t',m,f⟩
   rcases mem m with m|rfl
   .exact .inl #[t',m,f]
   .exact .inr f
 .intro t' m q i
  rcases mem m with m|rfl
  .obtain⟨C,e,b⟩:=A.b t' m q i
   have ql:=lt t' m q i;obtain⟨n,n0,pl⟩:=A.pos t' m;have q0:=vn pl n0 i;exact#[C,bs q C ∅ ((l.old q ∅).trans e),b]
  .obtain⟨C,e,b⟩:=l.new q i
   have:=ge q i;exact#[C,bs q C ∅ e,b]
 .intro i t' e
  rcases at_ e with e|⟨rfl,rfl⟩
  .obtain⟨Z',e1,b⟩:=A.e i t' e
   exact#[Z',by rw[aq (ae.mp e1).1];exact e1,b]
  .exact#[Z,by rw[<-A.Fl];simp,l.z]
 .intro t' m
  rcases mem m with m|rfl
  .exact A.nl t' m
  .exact nt
noncomputable def Uk:Spec:=λus S Q _=>∃x v t r,us=[.str x,v]/\x.length<=1000/\sI x=.ok (t,r)/\∀S',Ext S S'->Q t S'
theorem Ul(Γ:bY)(h1:Γ "read"=Cu):Keeps Γ o7 1 Uk:=by
 rintro us S Q E ⟨x,v,t,r,rfl,hl,hr,q⟩;unfold o7;room;refine ca h1 #[x,rfl,hl,?_];rw[hr]
 exact q
noncomputable def YJ(ts:List Tr)(xs:List (List Nat)):Prop:=xs.length=ts.length/\∀(i:Nat)t x,ts[i]?=some t->xs[i]?=some x->x.length<=1000/\∃r,sI x=.ok (enc t,r)
structure nV(ts:List Tr):Prop where
 len:ts.length<=4
 pl:Mc 1 ts
 nl:∀t∈ts,null t=false
 dp:∀t∈ts,bH t<4
 sz:iY ts<=24
theorem size_take(e:ts[i]?=some t):iY (ts.take (i+1))=iY (ts.take i)+size t/\iY (ts.take (i+1))<=iY ts:=by
 have h1:ts.take (i+1)=ts.take i++[t]:=by rw[cf,e];rfl
 refine#[by rw[h1];simp[iY],?_];have:iY ts=iY (ts.take (i+1))+iY (ts.drop (i+1)):=by
  unfold iY;rw[<-JR,<-eL,By]
 omega
noncomputable def Um:Spec:=λus S Q _=>∃n xs ts,us=[.loc n,.int 24]/\S[n]?=some (.lst (xs.map .str))/\YJ ts xs/\nV ts/\∀P u S',tP S' P ts u->Ext S S'->Q (.loc P) S'
theorem Uo(Γ:bY)(h1:Γ "Layout.__init__"=PZ)(h2:Γ "Layout.lay"=ik (Tu 4))(h3:Γ "tree_of"=Uk)(h4:Γ "Layout.how_many"=P0)(h5:Γ "Layout.close_rule"=P1)(h6:Γ "Places.__init__"=P9):Keeps Γ lz 4 Um:=by
 rintro us S Q E ⟨n,xs,ts,rfl,gn,hR,hT,q⟩;unfold lz;have gL:(S++[SO.ins "Layout" []])[S.length]?=some (.ins "Layout" []):=by simp
 have nS:=bG gn;room;refine ca h1 #[S.length,rfl,gL,by simp,λS1 e1 la1=>#[rfl,?_]];have x1:∀n,n<S.length->S1[n]?=S[n]?:=λn hn=>by rw[e1 n hn,aq hn]
 have gn1:S1[n]?=some (.lst (xs.map .str)):=by rw[x1 n nS];exact gn
 have xl:xs.length<=4:=by rw[hR.1];exact hT.len
 room;simp only[EM];rw[gn1,aH]
 have ec:lV (xs.map U.str) none (some 6)=xs.map U.str:=by
  unfold lV;simp only[jd,cD,Int.toNat_zero,Nat.zero_min,kZ,Nat.sub_zero,ar];rw[jH (by show xs.length<=6;omega)]
  exact bN (by simp)
 rw[ec]
 refine#[#[λi e=>(by cases e),λi e=>(by injection e with e;omega)],?_];have x2:Ext S1 (S1++[SO.lst (xs.map U.str)]):=Ext.app _;have g2:(S1++[SO.lst (xs.map U.str)])[S1.length]?=some (.lst (xs.map .str)):=by simp
 have l1:=la1.len;generalize S1.length=m at g2 l1;generalize S1++[SO.lst (xs.map U.str)]=S2 at g2 x2;room;rw[g2,aH]
 refine eF (λi env S3=>∃(sg:List (List Nat))(bh en:List Nat)(x3 x4 x5:Option U),env=[some (.loc n),some (.int 24),some (.loc S.length),x3,x4,x5]/\Fr S.length S2 S3/\qM S3 S.length sg bh en/\xR (ts.take i) sg bh en/\sg.length=1+iY (ts.take i)/\i<=ts.length) (λi env S3 #[_,_,_,_,_,_,_,f,_]=>f.get g2 l1) _ ?_ ?_
  #[[[]],[0],[],none,none,none,rfl,.refl,la1.ext x2,Md,rfl,∅]
 .rintro i u env S3 K hu ⟨sg,bh,en,x3,x4,x5,rfl,f3,la3,A,hsg,hi⟩ hK
  simp only[jQ,au,Jr] at hu;obtain⟨x,hx,rfl⟩:=ag.mp hu;have il:i<ts.length:=by rw[<-hR.1];exact(ae.mp hx).1
  have ht:ts[i]?=some ts[i]:=aa il;have hm:ts[i]∈ts:=bI il;generalize ts[i]=t at ht hm;obtain⟨xle,r,hr⟩:=hR.2 i t x ht hx;have pt:=zo hT.pl ht;rw[<-hsg] at pt;obtain⟨s1,s2⟩:=size_take ht;have sz:=hT.sz;have nt:=hT.nl t hm;simp only[kR];room;rw[la3.o,aZ]
  refine#[#[rfl,rfl],ca h3 #[x,_,enc t,r,rfl,xle,hr,λS4 x4=>?_]];have la4:=la3.ext x4;refine ca h2 #[S.length,sg,bh,en,t,_,rfl,#[hT.dp t hm,rfl],la4,pt,A.len,∅,λS5 p F Z bh' f5 pl5 g5 la5 lr=>?_];rw[nt] at g5;room;rw[Fg g5]
  room;rw[la5.o,aZ]
  refine#[#[rfl,rfl],ca h4 #[S.length,_,bh',en,rfl,la5,by rw[aB,gQ];omega,?_]];have:¬(24<(((sg++oB t).length:Nat):Int)-1):=by rw[aB,gQ];omega
  room;simp only[this,decide_false,ah,if_false];room;rw[la5.o,aZ]
  have bl:=lr.len;cases bh' with
  |nil=>have:=A.len;simp at bl;omega
  |cons B bt=>
   refine#[#[rfl,rfl],ca h5 #[S.length,_,_,en,p,false,F,Z,B,bt,rfl,la5,rfl,g5,pl5,by rw[A.Fl];simp;have:=hT.len;omega,λS6 f6 la6=>?_]];room;have et:ts.take (i+1)=ts.take i++[t]:=by rw[cf,ht];rfl
   refine hK _ _ #[_,_,_,_,_,_,rfl,((f3.trans (Ext.fr x4)).trans f5).trans f6,la6,by rw[et];exact IT A ∅ pt nt lr,by rw[aB,gQ,s1];omega,il]
 .rintro env S3 ⟨sg,bh,en,x3,x4,x5,rfl,f3,la3,A,hsg,hi⟩
  rw[FG,ar,hR.1,b9] at A hsg;have gn3:S3[n]?=some (.lst (xs.map .str)):=by
   rw[f3.2 n (by have:=x2.1;have:=bG gn1;omega) (.inl ∅),x2.2 n (bG gn1)];exact gn1
  room;rw[uL gn3]
  simp only[aP,ar];have:¬((6:Int)<(xs.length:Int)):=∅
  refine#[∅,?_];simp only[this,decide_false,ah,if_false];room;have gP:(S3++[SO.ins "Places" []])[S3.length]?=some (.ins "Places" []):=by simp
  have sz:=hT.sz;have sl3:=la3.len;refine ca h6 #[S3.length,S.length,sg,bh,en,rfl,gP,by simp,la3.ext (Ext.app _),∅,A.len,by rw[A.Fl];have:=hT.len;omega,λu S4 hu e4 pa=>#[rfl,?_]];obtain⟨_,_,_,oP,_⟩:=pa.o;refine q _ u S4 #[sg,bh,en,pa,A,hu,∅] #[?_,λn hn=>?_]
  .have:=bG oP;omega
  .have:=x2.1
   have:=la1.len;rw[e4 n ∅,aq ∅,f3.2 n ∅ (.inl ∅),x2.2 n ∅];exact x1 n hn
noncomputable def Up:Spec:=λus S Q _=>∃X n xs ts,us=[.loc X,.loc n]/\S[X]?=some (.ins "Lexer" [])/\S[n]?=some (.lst (xs.map .str))/\YJ ts xs/\nV ts/\∀S',Uj S' X ts->Old X S S'->Q .bK S'
theorem Uq(Γ:bY)(h1:Γ "places_of"=Um):Keeps Γ j0 0 Up:=by
 rintro us S Q E ⟨X,n,xs,ts,rfl,gX,gn,hR,hT,q⟩;unfold j0;room;refine ca h1 #[n,xs,ts,rfl,gn,hR,hT,λP u S1 pa x1=>?_];have gX1:=x1.get gX;have ne:P≠X:=λz=>by
  obtain⟨_,_,_,pp,_⟩:=pa.o;obtain⟨_,_,_,h,_⟩:=pp.o;rw[z,gX1] at h;simp at h
 refine pG gX1 (by simp) λS2 o2 l2 g2=>?_
 room;exact q S2 #[P,u,g2,pa.old o2 gX1 ne] ((Ext.old x1).trans o2)
noncomputable def er:Tr->Tr
 |.one _ l=>.one 0 l
 |.row a b=>.row (er a) (er b)
 |.or a b=>.or (er a) (er b)
 |.rep m a=>.rep m (er a)
theorem rV:∀t,enc (er t)=enc t
 |.one _ l=>rfl
 |.row a b=>by simp only[er,enc,rV a,rV b]
 |.or a b=>by simp only[er,enc,rV a,rV b]
 |.rep m a=>by simp only[er,enc,rV a]
theorem lO:∀t,null (er t)=null t
 |.one _ l=>rfl
 |.row a b=>by simp only[er,null,lO a,lO b]
 |.or a b=>by simp only[er,null,lO a,lO b]
 |.rep m a=>by cases m<;>simp only[er,null,lO a]
theorem Me:more m (er a)=(more m a).map er:=by cases m<;>rfl
theorem xS:∀t c,dF (er t) c=(dF t c).map (cU er)
 |.one _ l,c=>by simp only[er,dF];split<;>rfl
 |.row a b,c=>by
  simp only[er,dF,xS a,xS b,lO,eL,bM]
  congr 1
  .congr 1;funext x;simp
  .split<;>rfl
 |.or a b,c=>by simp only[er,dF,xS a,xS b,eL]
 |.rep m a,c=>by
  simp only[er,dF,xS a,Me,bM]
  congr 1;funext x;simp
theorem M6:∀(K:List Tr)c,dR (K.map er) c=(dR K c).map (cU er)
 |[],c=>rfl
 |t::K,c=>by
  simp only[aD,dR,xS,M6 K,lO,eL,bM]
  congr 1
  .congr 1;funext x;simp
  .split<;>rfl
theorem zq(K:List Tr):cK (K.map er)=cK K:=by
 unfold cK;rw[bM]
 congr 2;funext t
 exact rV t
theorem eqT(h:oR (.tup [.str k,x]) (.tup [.str k',y])=true):k=k'/\oR x y=true:=by
 have h:((k==k')&&(oR x y&&true))=true:=h;rw[mK,af] at h;exact#[eq_of_beq h.1,h.2]
theorem eqQ(h:oR (.tup [x,x']) (.tup [y,y'])=true):oR x y=true/\oR x' y'=true:=by
 have h:(oR x y&&(oR x' y'&&true))=true:=h;rw[mK,af] at h;exact h
theorem Mf(h:oR x y=true):oR (.tup [.str k,x]) (.tup [.str k,y])=true:=by
 show((k==k)&&(oR x y&&true))=true
 rw[h];simp
theorem Ur(h:oR x y=true)(h':oR x' y'=true):oR (.tup [x,x']) (.tup [y,y'])=true:=by
 show(oR x y&&(oR x' y'&&true))=true
 rw[h,h'];rfl
theorem nI(m:Mk):nv m≠LO/\nv m≠wd/\nv m≠Q0:=by cases m<;>decide
theorem mk_inj(h:nv m=nv m'):m=m':=by
 revert h
 cases m<;>cases m'<;>first|exact λ_=>rfl|exact λh=>absurd h ⋯
theorem rW:∀a b,oR (enc a) (enc b)=true->er a=er b
 |.one _ l,.one _ l',h=>by
  have:l=l':=eq_of_beq (show(l==l')=true from (eqT h).2);rw[this];rfl
 |.one _ _,.row _ _,h=>absurd (eqT h).1 ⋯
 |.one _ _,.or _ _,h=>absurd (eqT h).1 ⋯
 |.one _ _,.rep m _,h=>absurd (eqT h).1.symm (nI m).1
 |.row _ _,.one _ _,h=>absurd (eqT h).1 ⋯
 |.row a1 a2,.row b1 b2,h=>by
  have h:=eqQ (eqT h).2;simp only[er,rW a1 b1 h.1,rW a2 b2 h.2]
 |.row _ _,.or _ _,h=>absurd (eqT h).1 ⋯
 |.row _ _,.rep m _,h=>absurd (eqT h).1.symm (nI m).2.1
 |.or _ _,.one _ _,h=>absurd (eqT h).1 ⋯
 |.or _ _,.row _ _,h=>absurd (eqT h).1 ⋯
 |.or a1 a2,.or b1 b2,h=>by
  have h:=eqQ (eqT h).2;simp only[er,rW a1 b1 h.1,rW a2 b2 h.2]
 |.or _ _,.rep m _,h=>absurd (eqT h).1.symm (nI m).2.2
 |.rep m _,.one _ _,h=>absurd (eqT h).1 (nI m).1
 |.rep m _,.row _ _,h=>absurd (eqT h).1 (nI m).2.1
 |.rep m _,.or _ _,h=>absurd (eqT h).1 (nI m).2.2
 |.rep m a,.rep m' b,h=>by
  have e:=mk_inj (eqT h).1;subst e;simp only[er,rW a b (eqT h).2]
theorem mH:∀a,oR (enc a) (enc a)=true
 |.one _ l=>Mf (show(l==l)=true by simp)
 |.row a b=>Mf (Ur (mH a) (mH b))
 |.or a b=>Mf (Ur (mH a) (mH b))
 |.rep m a=>Mf (mH a)
theorem zr:∀K L:List Tr,qy (K.map enc) (L.map enc)=true->K.map er=L.map er
 |[],[],_=>rfl
 |[],_::_,h=>by simp[qy] at h
 |_::_,[],h=>by simp[qy] at h
 |a::K,b::L,h=>by
  simp only[aD,qy,af] at h ⊢;rw[rW a b h.1,zr K L h.2]
theorem xT:∀K:List Tr,qy (K.map enc) (K.map enc)=true
 |[]=>rfl
 |a::K=>by simp[qy,mH a,xT K]
theorem zu:oR (cK K) (cK L)=true↔cK K=cK L:=by
 constructor
 .intro h
  rw[<-zq K,<-zq L,zr K L h]
 .intro h
  rw[<-h];exact xT K
theorem M7(h:cK K=cK L):K.map er=L.map er:=zr K L (zu.mpr h)
theorem IU(M:List Tr):du (M.map er)=du M:=by unfold du;rw[sf];congr 1;funext t;exact lO t
theorem Qg(h:cK K=cK L):(dR K c).map cK=(dR L c).map cK:=by
 have key:∀M:List Tr,(dR (M.map er) c).map cK=(dR M c).map cK:=λM=>by
  rw[M6,bM];congr 1;funext x;exact zq x
 rw[<-key K,<-key L,M7 h]
theorem xU:∀t,vX (enc t)=true
 |.one _ l=>rfl
 |.row a b=>by simp[enc,vX,jJ,xU a,xU b]
 |.or a b=>by simp[enc,vX,jJ,xU a,xU b]
 |.rep m a=>by simp[enc,vX,jJ,xU a]
theorem pq:∀t,dep (enc t)<=2*bH t+1
 |.one _ l=>by simp[enc,dep,jK]
 |.row a b=>by
  have:=pq a;have:=pq b;simp only[enc,dep,jK,bH];omega
 |.or a b=>by
  have:=pq a;have:=pq b;simp only[enc,dep,jK,bH];omega
 |.rep m a=>by
  have:=pq a;simp only[enc,dep,jK,bH];omega
theorem Cz:∀K:List Tr,jJ (K.map enc)=true
 |[]=>rfl
 |t::K=>by simp[jJ,xU t,Cz K]
theorem AW:∀K:List Tr,(∀t∈K,bH t<=d)->jK (K.map enc)<=2*d+1
 |[],_=>by simp[jK]
 |t::K,h=>by
  have h1:=pq t;have h2:=h t (bf ..);have h3:=AW K λt m=>h t (aV _ m)
  simp only[aD,jK];omega
noncomputable def iZ(K:List Tr):Nat:=(K.map size).sum
theorem vx:iZ (K++L)=iZ K+iZ L:=by simp[iZ]
theorem mI:∀t p,(cont t p).length<=bH t/\(∀x∈cont t p,bH x<=bH t)/\iZ (cont t p)<=size t*bH t
 |.one _ _,p=>by simp[cont,bH,iZ]
 |.row a b,p=>by
  have ha:=mI a p;have hb:=mI b p;have m1:size a*bH a<=size a*max (bH a) (bH b):=kI _ ∅;have m2:size b*bH b<=size b*max (bH a) (bH b):=kI _ ∅;have m3:(size a+size b)*(max (bH a) (bH b)+1)=size a*max (bH a) (bH b)+size b*max (bH a) (bH b)+size a+size b:=by
   rw[Ek,Nat.add_mul];omega
  simp only[cont,bH,size];split
  .refine#[by simp;omega,λx hx=>?_,?_]
   .rcases aE.mp hx with h|h
    .have:=ha.2.1 x h;omega
    .simp at h;subst h;omega
   .rw[vx,m3]
    have:iZ [b]=size b:=by simp[iZ]
    omega
  .exact#[∅,λx hx=>by have:=hb.2.1 x hx;omega,by rw[m3];omega]
 |.or a b,p=>by
  have ha:=mI a p;have hb:=mI b p;have m1:size a*bH a<=size a*max (bH a) (bH b):=kI _ ∅;have m2:size b*bH b<=size b*max (bH a) (bH b):=kI _ ∅;have m3:(size a+size b)*(max (bH a) (bH b)+1)=size a*max (bH a) (bH b)+size b*max (bH a) (bH b)+size a+size b:=by
   rw[Ek,Nat.add_mul];omega
  simp only[cont,bH,size];split
  .exact#[∅,λx hx=>by have:=ha.2.1 x hx;omega,by rw[m3];omega]
  .exact#[∅,λx hx=>by have:=hb.2.1 x hx;omega,by rw[m3];omega]
 |.rep m a,p=>by
  have ha:=mI a p;have m3:size a*(bH a+1)=size a*bH a+size a:=by rw[Ek];omega
  simp only[cont,bH,size];refine#[?_,λx hx=>?_,?_]
  .cases m<;>simp[more]<;>omega
  .rcases aE.mp hx with h|h
   .have:=ha.2.1 x h;omega
   .cases m<;>simp[more] at h<;>subst h<;>simp[bH]
  .rw[vx,m3]
   have:iZ (more m a)<=size a:=by cases m<;>simp[more,iZ,size]
   omega
theorem CB(h:bH t<4)(hs:size t<=100):(ct t p).length<=4/\(∀x∈ct t p,bH x<4)/\iZ (ct t p)<=400:=by
 unfold ct;split
 .exact#[by simp,by simpa using h,by simp[iZ];omega]
 .have:=mI t p
  have m:size t*bH t<=100*4:=Nat.mul_le_mul hs ∅;exact#[∅,λx hx=>by have:=this.2.1 x hx;omega,∅]
theorem l6:∀t c,(dF t c).length<=size t/\∀x∈dF t c,x.length<=bH t
 |.one _ l,c=>by simp only[dF];split<;>simp[size]
 |.row a b,c=>by
  have ha:=l6 a c;have hb:=l6 b c;simp only[dF,size,bH];refine#[by rw[aB,ar];split<;>(try simp)<;>omega,λx hx=>?_];rcases aE.mp hx with h|h
  .obtain⟨y,hy,rfl⟩:=bx.mp h
   have:=ha.2 y hy;simp;omega
  .split at h
   .have:=hb.2 x h;omega
   .simp at h
 |.or a b,c=>by
  have ha:=l6 a c;have hb:=l6 b c;simp only[dF,size,bH];refine#[by simp;omega,λx hx=>?_];rcases aE.mp hx with h|h
  .have:=ha.2 x h;omega
  .have:=hb.2 x h;omega
 |.rep m a,c=>by
  have ha:=l6 a c;simp only[dF,size,bH];refine#[by simp;omega,λx hx=>?_];obtain⟨y,hy,rfl⟩:=bx.mp hx;have:=ha.2 y hy;cases m<;>simp[more]<;>omega
theorem IV:∀(K:List Tr)c,(dR K c).length<=iZ K
 |[],c=>by simp[dR]
 |t::K,c=>by
  have h1:=(l6 t c).1;have h2:=IV K c;simp only[dR,iZ,aD,mL,aB,ar] at h2 ⊢;split<;>(try simp)<;>omega
theorem nA{g:bJ->Prop}{c:U->bJ->(Bool->bJ->Prop)->Prop}{e:U->bJ->KU->Prop}{Q:List U->bJ->Prop}{S:bJ}(l vs:List U)(hv:vs.length=l.length)(hl:l.length<1000000)(hg:∀S',Ext S S'->g S')(hc:∀u S' k,k true S'->c u S' k)
  (he:∀(i:Nat)u v,l[i]?=some u->vs[i]?=some v->∀S' k,Ext S S'->(∀S2,Ext S' S2->k v S2)->e u S' k) (q:∀S',Ext S S'->Q vs S'):nG g c e Q l [] S:=by
 refine fQ l (λi acc S'=>Ext S S'/\acc=vs.take i) (λi acc S' hi h=>#[hg _ h.1,?_]) (λi u acc S' k hu hi hk=>?_) (λacc S' h=>?_) #[.refl,rfl]
 .rw[h.2,gW];omega
 .obtain⟨x,rfl⟩:=hi
  have il:i<vs.length:=by rw[hv];exact(ae.mp hu).1
  refine hc _ _ _ ?_;rw[if_pos rfl]
  refine he i u _ hu (aa il) S' _ x λS2 x2=>hk _ _ #[x.trans x2,?_]
  rw[cf,aa il];rfl
 .obtain⟨x,rfl⟩:=h
  rw[<-hv,b9];exact q S' x
noncomputable def DV(f:Tr->Bool)(fR:List Tr->Bool)(d:Nat):Spec:=λus S Q _=>∃u,us=[u]/\((∃t,u=enc t/\bH t<d/\∀S',Ext S S'->Q (.bl (f t)) S')\/∃K,u=LX K/\0<d/\(∀t∈K,bH t+1<d)/\K.length<=1000/\∀S',Ext S S'->Q (.bl (fR K)) S')
noncomputable def zw:Nat->Spec:=DV null du
theorem zx{K:List Tr}{f:Tr->U}{i:Nat}{u v:U}(hu:(K.map enc)[i]?=some u)(hv:(K.map f)[i]?=some v):∃t,t∈K/\u=enc t/\v=f t:=by
 rw[au] at hu hv;obtain⟨t,e,rfl⟩:=ag.mp hu;rw[e] at hv;exact#[t,aw e,rfl,(aG hv).symm]
section
variable{Γ:bY}{N:String}{d:Nat}{f:Tr->Bool}{fR:List Tr->Bool}{S:bJ}{Q:KU}{E:KX}{k:U}{K:List Tr}
theorem tQ(h1:Γ N=DV f fR d)(hK:∀t∈K,bH t<d)(hl:K.length<=1000)(q:∀S',Ext S S'->Q (.bl (K.all f)) S'):
  WE Γ (.blt .all (.cons (.comp false (.call N (.cons @0 .nil)) (.val (.ix @0 ↑1)) (.cg (.lit (.bl true))) []) .nil)) [some (.tup [k,.tup (K.map enc)])] S Q E:=by
 room;simp only[iF,aP];refine#[by simp,by simp;omega,?_];refine nA _ (K.map λt=>.bl (f t)) (by simp) (by simp;omega) (λ_ _=>trivial) (λu S' k h=>h) (λi u v hu hv S' k x hk=>?_) λS' x=>?_
 .obtain⟨t,m,rfl,rfl⟩:=zx hu hv
  exact ca h1 #[_,rfl,.inl #[t,rfl,hK t m,hk]]
 .exact#[K.map f,by simp,by rw[show(K.map f).all id=K.all f by rw[sf];rfl];exact q _ (x.trans (Ext.app _))]
theorem tR(h1:Γ N=DV f fR d)(hK:∀t∈K,bH t<d)(hl:K.length<=1000)(q:∀S',Ext S S'->Q (.bl (K.any f)) S'):
  WE Γ (.blt .any (.cons (.comp false (.call N (.cons @0 .nil)) (.val (.ix @0 ↑1)) (.cg (.lit (.bl true))) []) .nil)) [some (.tup [k,.tup (K.map enc)])] S Q E:=by
 room;simp only[iF,aP];refine#[by simp,by simp;omega,?_];refine nA _ (K.map λt=>.bl (f t)) (by simp) (by simp;omega) (λ_ _=>trivial) (λu S' k h=>h) (λi u v hu hv S' k x hk=>?_) λS' x=>?_
 .obtain⟨t,m,rfl,rfl⟩:=zx hu hv
  exact ca h1 #[_,rfl,.inl #[t,rfl,hK t m,hk]]
 .exact#[K.map f,by simp,by rw[show(K.map f).any id=K.any f by rw[si];rfl];exact q _ (x.trans (Ext.app _))]
end
theorem Q3(h:max (bH a) (bH b)+1<d+1)(m:t∈[a,b]):bH t<d:=by
 rcases bg.mp m with rfl|m
 .omega
 .simp at m;subst m;omega
theorem rr(h:WE Γ e env S (λv S1=>D.rt v S1) (D.ex env)):Rest Γ #v[.ret e] D env S:=h
theorem Us(Γ:bY)(d:Nat)(h1:Γ "_law_nothing"=zw d):Keeps Γ iT 0 (zw (d+1)):=by
 rintro us S Q E ⟨u,rfl,h⟩;unfold iT;rcases h with⟨t,rfl,dt,q⟩|⟨K,rfl,-,dK,hl,q⟩
 .cases t with
  |one n l=>exact lZ rfl rfl (q S .refl)
  |row a b=>exact fg rfl rfl (lZ rfl rfl (rr (tQ (K:=[a,b]) h1 (λt m=>Q3 dt m) (by simp) λS' x=>by have:=q S' x;simpa[null] using this)))
  |or a b=>exact fg rfl rfl (fg rfl rfl (lZ rfl rfl (rr (tR (K:=[a,b]) h1 (λt m=>Q3 dt m) (by simp) λS' x=>by have:=q S' x;simpa[null] using this))))
  |rep m a=>
   have dt:bH a+1<d+1:=dt;have k1:=nI m;refine fg rfl (beq_eq_false_iff_ne.mpr k1.1) (fg rfl (beq_eq_false_iff_ne.mpr k1.2.1) (fg rfl (beq_eq_false_iff_ne.mpr k1.2.2) ?_));unfold enc;room;simp only[jC,iF,aP];refine#[by simp,by simp,?_];have e2:∀q:Bool->Prop,qz (.str (nv m)) [.str kD,.str jN] q=q (Fi m):=λq=>by
    have:=anyS (a:=nv m) (l:=[kD,jN]) (q:=q);cases m<;>simpa[Fi,nv] using this
   rw[e2]
   cases m<;>simp only[Fi,Ha,ah,if_false,if_true]
   .exact q S .refl
   .exact#[by simp,ca h1 #[_,rfl,.inl #[a,rfl,∅,q]]]
   .exact q S .refl
 .exact fg rfl rfl (lZ rfl rfl (rr (tQ h1 (λt m=>by have:=dK t m;omega) hl q)))
theorem xV{α:Type}{x:List α}{a:Nat}:lV x (some (a:Nat)) none=x.drop a:=by
 unfold lV;simp only[cD,jd,i8,Bs];by_cases h:a<=x.length
 .rw[f9 h,bN (by simp)]
 .rw[jH ∅,tB,dG ∅];simp
noncomputable def CC(d:Nat):Spec:=λus S Q _=>∃u c,us=[u,.str [c]]/\((∃t,u=enc t/\bH t<d/\size t<=1000/\∀n S',Ext S S'->S.length<=n->S'[n]?=some (.lst ((dF t c).map cK))->Q (.loc n) S') \/
 ∃K,u=LX K/\0<d/\(∀t∈K,bH t+1<d)/\K.length<=1000/\iZ K<=1000/\∀n S',Ext S S'->S.length<=n->S'[n]?=some (.lst ((dR K c).map cK))->Q (.loc n) S')
noncomputable def YK:dj:=#v[.set 2 (.lst .nil),.i9 (.name 4) (.range (.blt .len #v[.ix @0 ↑1])) #v[.set 2 (.bin .add @2 (.comp false (.bin .add @0 (.sl (.ix @1 ↑1) (.e (.bin .add @2 ↑1)) .no)) (.val (.call "_law_behind" #v[.ix (.ix @0 ↑1) @4,@1])) (.cg (.lit (.bl true))) [0,4])),.ifs (.not (.cg (.call "_law_nothing" #v[.ix (.ix @0 ↑1) @4]))) #v[.ret @2] .nil],.ret @2]
theorem IW{K:List Tr}{t:Tr}(m:t∈K):size t<=iZ K:=by
 obtain⟨a,b,rfl⟩:=FH m;rw[vx]
 simp[iZ];omega
theorem IX{Γ:bY}{d:Nat}(hd:d<=100)(h1:Γ "_law_behind"=CC d)(h2:Γ "_law_nothing"=zw d){S:bJ}{Q:KU}{D:Ends}(hD:D.rt=Q){K:List Tr}{c:Nat}(hK:∀t∈K,bH t<d)(hl:K.length<=1000)(hs:iZ K<=1000)
  (q:∀n S',Ext S S'->S.length<=n->S'[n]?=some (.lst ((dR K c).map cK))->Q (.loc n) S'):Rest Γ YK D [some (LX K),some (.str [c]),none,none,none,none] S:=by
 subst hD;unfold YK LX;room;refine#[by simp,?_];have x0:Ext S (S++[SO.lst []]):=Ext.app _;have g0:(S++[SO.lst []])[S.length]?=some (.lst ((([]:List (List Tr))).map cK)):=by simp
 generalize S++[SO.lst []]=S0 at x0 g0;room;simp only[iF,aP];have el:∀S,p9 S (cK K)=some K.length:=λS=>by simp[cK,p9]
 rw[el,aP]
 refine#[by simp,∅,∅,∅,?_];refine eF (λi env S1=>∃(acc:List (List Tr))(m:Nat)(x4:Option U),env=[some (.tup [.str [114,111,119],cK K]),some (.str [c]),some (.loc m),none,x4,none]/\Ext S S1/\S.length<=m/\S1[m]?=some (.lst (acc.map cK))/\acc++dR (K.drop i) c=dR K c) (λ_ _ _ _=>trivial) _ ?_ ?_ #[[],S.length,none,rfl,x0,ax _,g0,rfl]
 .rintro i u env S1 K' hu ⟨acc,m,x4,rfl,x1,ml,g1,inv⟩ hK'
  obtain⟨rfl,hi⟩:=mE hu;have hi:i<K.length:=by simpa using hi
  have ht:K[i]?=some K[i]:=aa hi;have hd':K.drop i=K[i]::K.drop (i+1):=eH hi;have hm:K[i]∈K:=bI hi;generalize K[i]=t at ht hd' hm;have tl:=hK t hm;have ts:=IW hm;have ai:∀{r:U->Prop},opt (tJ (K.map enc) ((i:Nat):Int)) r=r (enc t):=λ{r}=>by rw[ir,au,ht];rfl
  have bl:=IV K c;rw[<-inv,aB] at bl;rw[hd',dR] at inv;have fl:=l6 t c;room;simp only[iF,aP];unfold cK;simp only[Dq,ai,ar];refine#[by simp,∅,ca h1 #[_,c,rfl,.inl #[t,rfl,tl,∅,λn S2 x2 nl g2=>?_]]];room;rw[g2,aH]
  refine nA (S:=S2) _ (((dF t c).map (·++K.drop (i+1))).map cK) (by simp) (by simp;omega) (λS' x=>x.get g2) (λu S' k h=>h) (λj u v hu hv S' k x hk=>?_) λS3 x3=>?_
  .rw[au] at hu
   obtain⟨y,e,rfl⟩:=ag.mp hu;rw[au,au,e] at hv;have hv:=aG hv;subst hv;have yl:=fl.2 y (aw e);refine#[by simp,?_];have e1:((i:Int)+1)=((i+1:Nat):Int):=∅
   simp only[EM,e1,xV];refine#[#[λi e=>(by injection e with e;omega),λi e=>(by cases e)],#[by simp;omega,?_,by simp],?_]
   .intro z
    have:=congrArg cQ z;simp at this;rw[this] at hi;simp at hi
   .unfold cK
    rw[Oy]
    refine#[by simp;omega,?_];have:cU enc y++List.drop (i+1) (cU enc K)=cU enc (y++List.drop (i+1) K):=by simp[List.map_drop]
    rw[this]
    exact hk S' .refl
  .have x13:Ext S1 S3:=x2.trans x3
   generalize hW:((dF t c).map (·++K.drop (i+1)))=W at inv;have wl:W.length<=1000:=by rw[<-hW];simp;omega
   rw[aq (bG (x13.get g1)),x13.get g1,aH]
   rw[ay (ax _),cq]
   simp only[nE,aH];refine#[by simp;omega,?_];have x4:Ext S3 (S3++[SO.lst (W.map cK)]++[SO.lst (acc.map cK++W.map cK)]):=(Ext.app _).trans (Ext.app _);have g4:(S3++[SO.lst (W.map cK)]++[SO.lst (acc.map cK++W.map cK)])[(S3++[SO.lst (W.map cK)]).length]?=some (.lst ((acc++W).map cK)):=by
    rw[ay (ax _),cq,eL];rfl
   have l4:S.length<=(S3++[SO.lst (W.map cK)]).length:=by have:=(x1.trans x13).1;rw[aB];omega
   generalize (S3++[SO.lst (W.map cK)]).length=m4 at g4 l4;generalize S3++[SO.lst (W.map cK)]++[SO.lst (acc.map cK++W.map cK)]=S4 at x4 g4;room;simp only[iF,aP,Dq,ai,ar];refine#[by simp,∅,ca h2 #[_,rfl,.inl #[t,rfl,tl,λS5 x5=>?_]]];room;have xx:Ext S S5:=(x1.trans x13).trans (x4.trans x5);cases nt:null t with
   |false=>
    rw[nt] at inv;simp only[bV,if_true];room;refine q m4 S5 xx l4 (by rw[<-inv];simp;have:=x5.get g4;simpa using this)
   |true=>
    rw[nt] at inv;simp only[bO,ah,if_false];room;exact hK' _ _ #[acc++W,m4,_,rfl,xx,l4,x5.get g4,by rw[<-inv];simp]
 .rintro env S1 ⟨acc,m,x4,rfl,x1,ml,g1,inv⟩
  room;have:K.drop (cU (λk=>U.int ((k:Nat):Int)) (cy K.length)).length=[]:=dG (by simp);rw[this,dR,bb] at inv;exact q m S1 x1 ml (by rw[<-inv];exact g1)
open qV
theorem AX(Γ:bY)(d:Nat)(h1:Γ "_law_lives"=DV live dm d):Keeps Γ ke 0 (DV live dm (d+1)):=by
 rintro us S Q E ⟨u,rfl,h⟩;unfold ke;rcases h with⟨t,rfl,dt,q⟩|⟨K,rfl,-,dK,hl,q⟩
 .cases t with
  |one n l=>
   refine lZ rfl rfl ?_;unfold enc;room;simp only[iF,aP];refine#[by simp,?_];room;have:=q S .refl;cases l<;>exact this
  |row a b=>exact fg rfl rfl (lZ rfl rfl (rr (tQ (K:=[a,b]) h1 (λt m=>Q3 dt m) (by simp) λS' x=>by have:=q S' x;simpa[live] using this)))
  |or a b=>exact fg rfl rfl (fg rfl rfl (lZ rfl rfl (rr (tR (K:=[a,b]) h1 (λt m=>Q3 dt m) (by simp) λS' x=>by have:=q S' x;simpa[live] using this))))
  |rep m a=>
   have dt:bH a+1<d+1:=dt;have k1:=nI m;refine fg rfl (beq_eq_false_iff_ne.mpr k1.1) (fg rfl (beq_eq_false_iff_ne.mpr k1.2.1) (fg rfl (beq_eq_false_iff_ne.mpr k1.2.2) ?_));unfold enc;room;simp only[jC,iF,aP];refine#[by simp,?_];room;cases m with
   |star=>exact q S .refl
   |may=>exact q S .refl
   |plus=>exact#[by simp,ca h1 #[_,rfl,.inl #[a,rfl,∅,q]]]
 .exact fg rfl rfl (lZ rfl rfl (rr (tQ h1 (λt m=>by have:=dK t m;omega) hl q)))
theorem AY(Γ:bY)(d:Nat)(hd:d<5)(h1:Γ "_law_more"=DV sN mF d)(h2:Γ "_law_lives"=DV live dm 5):Keeps Γ lE 0 (DV sN mF (d+1)):=by
 rintro us S Q E ⟨u,rfl,h⟩;unfold lE;have row:∀{D:Ends}{K:List Tr}{b:Bool},D.rt=Q->(∀(P:KU)S',(∀S2,Ext S' S2->P (.bl b) S2)->Γ "_law_lives" [.tup [.str wd,.tup (K.map enc)]] S' P (D.ex [some (.tup [.str wd,.tup (K.map enc)])]))->(∀t∈K,bH t<d)->K.length<=1000->(∀S',Ext S S'->Q (.bl (b&&K.any sN)) S') ->
   Rest Γ (.cons (.ret (.and (.call "_law_lives" (.cons @0 .nil)) (.blt .any (.cons (.comp false (.call "_law_more" (.cons @0 .nil)) (.val (.ix @0 ↑1)) (.cg (.lit (.bl true))) []) .nil)))) .nil) D [some (.tup [.str wd,.tup (K.map enc)])] S:=by
  intro D K b e hl hK hn q;subst e;refine rr ?_;rw[w_and,OI]
  simp only[Ho,MN,w_var,nE,oQ];refine hl _ _ λS2 x2=>?_
  cases b with
  |false=>exact q S2 x2
  |true=>exact tR h1 hK hn λS' x=>q S' (x2.trans x)
 rcases h with⟨t,rfl,dt,q⟩|⟨K,rfl,-,dK,hl,q⟩
 .cases t with
  |one n l=>
   refine fg rfl rfl (fg rfl rfl ?_);unfold enc;room;simp only[jC,iF,aP];refine#[by simp,?_];room;refine#[by simp,?_];have:=q S .refl;cases l<;>exact this
  |row a b=>exact lZ rfl rfl (row (K:=[a,b]) (b:=live (.row a b)) rfl (λP S' k=>ca h2 #[_,rfl,.inl #[.row a b,rfl,∅,k]]) (λt m=>Q3 dt m) (by simp) λS' x=>by have:=q S' x;simpa[sN,live] using this)
  |or a b=>exact fg rfl rfl (lZ rfl rfl (rr (tR (K:=[a,b]) h1 (λt m=>Q3 dt m) (by simp) λS' x=>by have:=q S' x;simpa[sN] using this)))
  |rep m a=>
   have dt:bH a+1<d+1:=dt;have k1:=nI m;refine fg rfl (beq_eq_false_iff_ne.mpr k1.2.1) (fg rfl (beq_eq_false_iff_ne.mpr k1.2.2) ?_);unfold enc;room;simp only[jC,iF,aP];refine#[by simp,?_];room;rw[beq_eq_false_iff_ne.mpr k1.1]
   exact#[by simp,ca h1 #[_,rfl,.inl #[a,rfl,∅,q]]]
 .exact lZ rfl rfl (row (b:=dm K) rfl (λP S' k=>ca h2 #[_,rfl,.inr #[K,rfl,∅,λt m=>by have:=dK t m;omega,hl,k]]) (λt m=>by have:=dK t m;omega) hl q)
theorem Ut(Γ:bY)(d:Nat)(hd:d<=100)(h1:Γ "_law_behind"=CC d)(h2:Γ "_law_nothing"=zw d):Keeps Γ js 4 (CC (d+1)):=by
 rintro us S Q E ⟨u,c,rfl,h⟩;unfold js;rcases h with⟨t,rfl,dt,sz,q⟩|⟨K,rfl,-,dK,hl,hs,q⟩
 .cases t with
  |one n l=>
   refine lZ rfl rfl ?_;unfold enc;room;simp only[iF,aP];refine#[by simp,?_];room;by_cases z:l.contains c=true
   .rw[if_pos z]
    refine#[by simp,by simp,q _ _ (Ext.app _) (ax _) ?_];have e:dF (.one n l) c=[[]]:=by simp only[dF,if_pos z]
    rw[e];simp[cK]
   .rw[if_neg z]
    refine#[by simp,q _ _ (Ext.app _) (ax _) ?_];have e:dF (.one n l) c=[]:=by simp only[dF,if_neg z]
    rw[e];simp
  |row a b=>
   have dt:max (bH a) (bH b)+1<d+1:=dt;have sz:size a+size b<=1000:=sz;refine fg rfl rfl (fg rfl rfl (lZ rfl rfl ?_));refine IX (K:=[a,b]) hd h1 h2 rfl (λt m=>?_) (by simp) (by simp[iZ];omega) λn S' x nl g=>q n S' x nl ?_
   .rcases bg.mp m with rfl|m
    .omega
    .simp at m;subst m;omega
   .rw[g];simp[dR,dF]
  |or a b=>
   have dt:max (bH a) (bH b)+1<d+1:=dt;have sz:size a+size b<=1000:=sz;have la:=l6 a c;have lb:=l6 b c;refine fg rfl rfl (lZ rfl rfl ?_);unfold enc;room;refine#[by simp,?_];have g0:(S++[SO.lst []])[S.length]?=some (.lst []):=by simp
   have x0:Ext S (S++[SO.lst []]):=Ext.app _;generalize S.length=m0 at g0;generalize S++[SO.lst []]=S0 at g0 x0;room;simp only[iF,aP,Zh,uI];refine#[by simp,by simp,trivial,?_];room;refine ca h1 #[_,c,rfl,.inl #[a,rfl,∅,∅,λn S1 x1 nl g1=>?_]];room;rw[x1.get g0,g1]
   simp only[aH,fW];refine#[by simp;omega,?_];have g2:(S1++[SO.lst ((dF a c).map cK)])[S1.length]?=some (.lst ((dF a c).map cK)):=by simp
   have x2:Ext S1 (S1++[SO.lst ((dF a c).map cK)]):=Ext.app _;generalize S1.length=m2 at g2;generalize S1++[SO.lst ((dF a c).map cK)]=S2 at g2 x2;room;refine ca h1 #[_,c,rfl,.inl #[b,rfl,∅,∅,λn3 S3 x3 nl3 g3=>?_]];room;rw[x3.get g2,g3]
   simp only[aH];refine#[by simp;omega,?_];room;have xx:=((x0.trans x1).trans x2).trans x3;exact q _ _ (xx.trans (Ext.app _)) xx.1 (by simp[dF])
  |rep m a=>
   have dt:bH a+1<d+1:=dt;have sz:size a<=1000:=sz;have k1:=nI m;have la:=l6 a c;refine fg rfl (beq_eq_false_iff_ne.mpr k1.1) (fg rfl (beq_eq_false_iff_ne.mpr k1.2.2) (fg rfl (beq_eq_false_iff_ne.mpr k1.2.1) ?_));have go:Rest Γ (.cons (.ret (.comp false (.bin .add @0 @1) (.val (.call "_law_behind" (.cons (.ix @0 ↑1) (.cons @1 .nil)))) (.cg (.lit (.bl true))) [5])) .nil) #[λ_ S1=>Q .bK S1,Q,λ_=>E] [some (enc (.rep m a)),some (.str [c]),none,none,none,some (cK (more m a))] S:=by
    unfold enc;room;simp only[iF,aP];refine#[by simp,ca h1 #[_,c,rfl,.inl #[a,rfl,∅,∅,λn S1 x1 nl g1=>?_]]];room;rw[g1,aH]
    refine nA (S:=S1) _ (((dF a c).map (·++more m a)).map cK) (by simp) (by simp;omega) (λS' x=>x.get g1) (λu S' k h=>h) (λj u v hu hv S' k x hk=>?_) λS3 x3=>?_
    .rw[au] at hu
     obtain⟨y,e,rfl⟩:=ag.mp hu;rw[au,au,e] at hv;have hv:=aG hv;subst hv;have yl:=la.2 y (aw e);unfold cK;room;have ml:(more m a).length<=1:=by cases m<;>simp[more]
     refine#[by simp;omega,?_];have:=hk S' .refl;unfold cK at this;simpa using this
    .have x13:=x1.trans x3
     exact q _ _ (x13.trans (Ext.app _)) x13.1 (by simp[dF])
   have ek:enc (.rep m a)= .tup [.str (nv m),enc a]:=rfl;rw[ek] at go ⊢;room;simp only[jC,iF,aP];refine#[by simp,?_];room;cases m with
   |may=>
    rw[if_pos (by simp[nv])]
    exact#[by simp,go]
   |star=>
    rw[if_neg (by simp[nv])]
    exact#[by simp,by simp,by simp,go]
   |plus=>
    rw[if_neg (by simp[nv])]
    exact#[by simp,by simp,by simp,go]
 .exact fg rfl rfl (fg rfl rfl (lZ rfl rfl (IX hd h1 h2 rfl (λt m=>by have:=dK t m;omega) hl hs q)))
noncomputable def Mg:Spec:=λus S Q _=>∃n c X t H n0,us=[.loc n,.str [c]]/\S[n]?=some (.lst X)/\JB t H X/\nR n0 t/\0<n0/\bH t<4/\size t<=100/\X.length<=1000/\∀m Y S',Ext S S'->S'[m]?=some (.lst Y)->JB t (Tw t c H) Y->Q (.loc m) S'
theorem CD{α:Type}:∀{l l':List α},l.Nodup->(∀x∈l,x∈l')->l.length<=l'.length
 |[],_,_,_=>by simp
 |a::l,l',nd,h=>by
  obtain⟨s,t,rfl⟩:=FH (h a (bf ..));rw[kh] at nd;have:=CD (l':=s++t) nd.2 λx m=>by
   have hx:=h x (aV _ m);simp only[aE,bg] at hx ⊢;rcases hx with z|z|z
   .exact .inl z
   .subst z;exact absurd m nd.1
   .exact .inr z
  simp only[aB,aQ] at this ⊢;omega
theorem Uu(Γ:bY)(h1:Γ "_law_behind"=CC 5):Keeps Γ j6 3 Mg:=by
 rintro us S Q E ⟨n,c,X,t,H,n0,rfl,g,rp,pl,n1,dt,sz,hX,q⟩;unfold j6;room;refine#[by simp,?_];have x0:Ext S (S++[SO.lst []]):=Ext.app _;have g0:(S++[SO.lst []])[S.length]?=some (.lst []):=by simp
 room;rw[x0.get g,aH]
 have nS:=bG g
 let P:U->Prop:=λy=>∃p,Tw t c H p/\y=cK (ct t p)
 have fd:∀{Y:List U},(∀y∈Y,P y)->jJ Y=true/\jK Y<=100:=by
  intro Y;induction Y with
  |nil=>intro _;exact#[rfl,by simp[jK]]
  |cons y Y ih=>
   intro h;obtain⟨p,_,rfl⟩:=h y (bf ..);obtain⟨i1,i2⟩:=ih λz m=>h z (aV _ m)
   have e1:=Cz (ct t p);have e2:=AW (d:=3) (ct t p) λx m=>by have:=(CB (p:=p) dt sz).2.1 x m;omega
   constructor
   .show(jJ _&&jJ Y)=true
    rw[e1,i1];rfl
   .show max (jK _+1) (jK Y)<=100
    omega
 have fl:∀{Y:List U},Y.Nodup->(∀y∈Y,P y)->Y.length<=100:=λ{Y}nd h=>by
  have:=CD (l':=(List.range' n0 (size t)).map λp=>cK (ct t p)) nd λy m=>by
   obtain⟨p,⟨q,_,f,_⟩,rfl⟩:=h y m;exact bx.mpr #[p,F8.mpr ((eM pl).mp (oC f)),rfl]
  simp at this;omega
 refine eF (λi env S1=>∃(Y:List U)(x3 x4:Option U),env=[some (.loc n),some (.str [c]),some (.loc S.length),x3,x4]/\Ext S S1/\S1[S.length]?=some (.lst Y)/\Y.Nodup/\(∀y∈Y,P y)/\∀(j:Nat)p,j<i->X[j]?=some (cK (ct t p))->∀y∈dR (ct t p) c,cK y∈Y) (λi env S1 #[_,_,_,_,x,_]=>x.get g) _ ?_ ?_ #[[],none,none,rfl,x0,g0,by simp,by simp,∅]
 .rintro i u env S1 K hu ⟨Y,x3,x4,rfl,x1,g1,nd,hP,inv⟩ hK
  obtain⟨p,hp,rfl⟩:=(rp.1 u).mp (aw hu);obtain⟨l1,l2,l3⟩:=CB (p:=p) dt sz;room;refine#[by simp,ca h1 #[_,c,rfl,.inr #[ct t p,rfl,∅,λx m=>by have:=l2 x m;omega,∅,∅,λm S2 x2 ml g2=>?_]]];have ml:S.length<m:=by have:=bG g1;omega
  room;rw[g2,aH]
  refine eF (λj env S3=>∃(Z:List U)(x4:Option U),env=[some (.loc n),some (.str [c]),some (.loc S.length),some (cK (ct t p)),x4]/\Ext S S3/\S3[m]?=some (.lst ((dR (ct t p) c).map cK))/\S3[S.length]?=some (.lst Z)/\Z.Nodup/\(∀y∈Z,P y)/\(∀y∈Y,y∈Z)/\∀k y,k<j->(dR (ct t p) c)[k]?=some y->cK y∈Z) (λj env S3 #[_,_,_,_,g,_]=>g) _ ?_ ?_ #[Y,x4,rfl,x1.trans x2,g2,x2.get g1,nd,hP,λ_ h=>h,∅]
  .rintro j u env S3 K' hu ⟨Z,x4,rfl,x3,g3,gz,nd,hP,hY,inv'⟩ hK'
   rw[au] at hu;obtain⟨y,hy,rfl⟩:=ag.mp hu;obtain⟨p',f1,f2,rfl⟩:=(vo pl n1).mp (aw hy);have st:Tw t c H p':=#[p,hp,f1,f2]
   have zl:=fl nd hP;have fz:=fd hP;have eb:(Z.any λw=>oR w (cK (ct t p')))=true↔cK (ct t p')∈Z:=by
    rw[hJ]
    constructor
    .rintro⟨w,m,e⟩
     obtain⟨p2,_,rfl⟩:=hP w m;rw[zu.mp e] at m;exact m
    .intro m;exact#[_,m,zu.mpr rfl]
   have ev:cK (ct t p')= .tup ((ct t p').map enc):=rfl;rw[ev] at eb ⊢;room;rw[gz,aH]
   refine#[#[Cz _,fz.1,fz.2],?_];by_cases z:(Z.any λw=>oR w (.tup ((ct t p').map enc)))=true
   .rw[z]
    simp only[bO,ah,if_false];room;refine hK' _ _ #[Z,_,rfl,x3,g3,gz,nd,hP,hY,λk y hk ey=>?_];by_cases e:k=j
    .subst e;rw[hy] at ey;cases ey;exact eb.mp z
    .exact inv' k y ∅ ey
   .rw[fA _ |>.mp z]
    simp only[bV,if_true];room;rw[gz,aH]
    refine#[trivial,∅,?_];room;have nz:¬U.tup ((ct t p').map enc)∈Z:=λm=>z (eb.mpr m)
    refine hK' _ _ #[Z++[.tup ((ct t p').map enc)],_,rfl,#[by rw[cZ];exact x3.1,λk hk=>?_],by rw[av ∅];exact g3,gs gz,?_,λy m=>?_,λy m=>bT _ (hY y m),λk y hk ey=>?_]
    .rw[av ∅];exact x3.2 k hk
    .rw[mh]
     exact#[nd,by simp,λa ma b mb e=>by simp at mb;subst mb;subst e;exact nz ma]
    .rcases aE.mp m with m|m
     .exact hP y m
     .simp at m;exact#[p',st,m]
    .by_cases e:k=j
     .subst e;rw[hy] at ey;cases ey;exact aW _ (by simp[cK])
     .exact bT _ (inv' k y ∅ ey)
  .rintro env S3 ⟨Z,x4,rfl,x3,g3,gz,nd,hP,hY,inv'⟩
   room;refine hK _ _ #[Z,_,_,rfl,x3,gz,nd,hP,λj p2 hj ej y my=>?_];by_cases e:j=i
   .subst e
    rw[hu] at ej;have e2:=Qg (c:=c) (aG ej);have:cK y∈(dR (ct t p2) c).map cK:=bx.mpr #[y,my,rfl];rw[<-e2] at this;obtain⟨y2,m2,e3⟩:=bx.mp this;obtain⟨k,hk⟩:=bA m2;rw[<-e3]
    exact inv' k y2 (by have:=(ae.mp hk).1;simpa using this) hk
   .exact hY _ (inv j p2 ∅ ej y my)
 .rintro env S1 ⟨Y,x3,x4,rfl,x1,g1,nd,hP,inv⟩
  room;refine q _ Y S1 x1 g1 #[λy=>#[λm=>hP y m,?_],nd];rintro⟨p,⟨q',hq,f1,f2⟩,rfl⟩;obtain⟨j,hj⟩:=bA ((rp.1 _).mpr #[q',hq,rfl]);exact inv j q' (ae.mp hj).1 hj _ ((vo pl n1).mpr #[p,f1,f2,rfl])
noncomputable def Qh:Spec:=λus S Q _=>∃n X t H,us=[.loc n]/\S[n]?=some (.lst X)/\JB t H X/\bH t<4/\size t<=100/\X.length<=1000/\∀b S',(b=true↔En t H)->Ext S S'->Q (.bl b) S'
theorem any_rows(h1:Γ N=DV f fR 5)(key:∀M:List Tr,fR (M.map er)=fR M)(g:S[n]?=some (.lst X))(rp:JB t H X)(dt:bH t<4)(sz:size t<=100)(hl:X.length<=1000)(q:∀b S',(b=true↔∃p,H p/\fR (ct t p)=true)->Ext S S'->Q (.bl b) S'):
  WE Γ (.blt .any (.cons (.comp false (.call N (.cons (.tup (.cons ↑[114,111,119] (.cons @0 .nil))) .nil)) (.val @0) (.cg (.lit (.bl true))) []) .nil)) [some (.loc n)] S Q E:=by
 room;rw[g,aH]
 refine fQ X (λi acc S1=>Ext S S1/\∃bs:List Bool,acc=bs.map .bl/\bs.length=i/\∀(j:Nat)p,j<i->X[j]?=some (cK (ct t p))->bs[j]?=some (fR (ct t p))) (λi acc S1 hi #[x,bs,e1,e2,_]=>#[x.get g,by rw[e1,ar];omega]) (λi u acc S1 k hu hi hk=>?_) (λacc S1 h=>?_) #[.refl,[],rfl,rfl,∅]
 .obtain⟨x,bs,rfl,e2,inv⟩:=hi
  obtain⟨p,hp,rfl⟩:=(rp.1 u).mp (aw hu);obtain⟨l1,l2,l3⟩:=CB (p:=p) dt sz;room;refine#[by simp,ca h1 #[_,rfl,.inr #[ct t p,rfl,∅,λy m=>by have:=l2 y m;omega,∅,λS2 x2=>?_]]];refine hk _ _ #[x.trans x2,bs++[fR (ct t p)],by simp,by simp[e2],λj p2 hj ej=>?_];by_cases z:j=i
  .subst z
   rw[hu] at ej;rw[ay ∅,e2,cq,<-key,M7 (aG ej),key];rfl
  .rw[aq ∅];exact inv j p2 ∅ ej
 .obtain⟨x,bs,rfl,e2,inv⟩:=h
  refine#[bs,by simp,q _ _ ?_ (x.trans (Ext.app _))];rw[hJ]
  constructor
  .rintro⟨b,m,hb⟩
   obtain⟨j,hj⟩:=bA m;have jl:j<X.length:=by rw[<-e2];exact(ae.mp hj).1
   obtain⟨p,hp,e⟩:=(rp.1 _).mp (bI jl);have:=inv j p jl (by rw[aa jl,e]);rw[hj] at this;have:=aG this;exact#[p,hp,by rw[<-this];exact hb]
  .rintro⟨p,hp,hn⟩
   obtain⟨j,hj⟩:=bA ((rp.1 _).mpr #[p,hp,rfl]);have:=inv j p (ae.mp hj).1 hj;exact#[_,aw this,by rw[hn];rfl]
theorem Uv(Γ:bY)(h1:Γ "_law_nothing"=zw 5):Keeps Γ ow 0 Qh:=by
 rintro us S Q E ⟨n,X,t,H,rfl,g,rp,dt,sz,hl,q⟩;exact rr (any_rows h1 IU g rp dt sz hl q)
theorem tU(pl:nR n0 t)(h:JB t (hs t w) X):X.length<=size t+1:=by
 have:=CD (l':=(0::List.range' n0 (size t)).map λp=>cK (ct t p)) h.2 λy m=>by
  obtain⟨p,hp,rfl⟩:=(h.1 y).mp m;refine bx.mpr #[p,?_,rfl];rcases Tz hp with z|z
  .subst z;simp
  .exact aV _ (F8.mpr ((eM pl).mp z))
 simpa using this
noncomputable def Qi(ts:List Tr)(w:List Nat)(S:bJ)(m:Nat):Prop:=∃rs:List Nat,S[m]?=some (.lst (rs.map .loc))/\rs.length=ts.length/\∀(i:Nat)t r,ts[i]?=some t->rs[i]?=some r->∃X,S[r]?=some (.lst X)/\JB t (hs t w) X
theorem vy(h:nV ts)(m:t∈ts):∃n,nR n t/\0<n/\size t<=100/\bH t<4:=by
 obtain⟨i,e⟩:=bA m;have:=size_take e;have:=h.sz;exact#[_,zo h.pl e,∅,∅,h.dp t m]
noncomputable def YL(ts:List Tr)(w:List Nat)(S:bJ)(rs:List Nat):Prop:=rs.length=ts.length/\∀(i:Nat)t r,ts[i]?=some t->rs[i]?=some r->∃X,S[r]?=some (.lst X)/\JB t (hs t w) X
theorem zy(h:YL ts w S rs):Qi ts w (S++[SO.lst (rs.map .loc)]) S.length:=#[rs,by simp,h.1,λj t r e3 e4=>by
 obtain⟨X,h1,h2⟩:=h.2 j t r e3 e4;exact#[X,(Ext.app _).get h1,h2]]
theorem pA(hu:us.length=ts.length)(ul:ts.length<=1000)(hg:∀S',Ext S S'->g S')(hc:∀u S' k,k true S'->c u S' k)
  (he:∀(i:Nat)t u S' k,ts[i]?=some t->us[i]?=some u->Ext S S'->(∀r X S2,Ext S' S2->S2[r]?=some (.lst X)->JB t (hs t w) X->k (.loc r) S2)->e u S' k) (q:∀rs S',Ext S S'->YL ts w S' rs->Q (rs.map .loc) S'):nG g c e Q us [] S:=by
 refine fQ us (λi acc S1=>Ext S S1/\∃rs':List Nat,acc=rs'.map .loc/\rs'.length=i/\∀(j:Nat)t r,ts[j]?=some t->rs'[j]?=some r->∃X,S1[r]?=some (.lst X)/\JB t (hs t w) X) (λi acc S1 hi #[x,rs',e1,e2,_]=>#[hg _ x,by rw[e1,ar];omega]) (λi u acc S1 k' hu' hi hk'=>?_) (λacc S1 h=>?_) #[.refl,[],rfl,rfl,λj t r _ e=>by simp at e]
 .obtain⟨x1,rs',rfl,e2,inv⟩:=hi
  have it:i<ts.length:=by rw[<-hu];exact(ae.mp hu').1
  have et:ts[i]?=some ts[i]:=aa it;refine hc _ _ _ ?_;rw[if_pos rfl]
  refine he i _ u S1 _ et hu' x1 λm2 Y S2 x2 gY rY=>hk' _ _ #[x1.trans x2,rs'++[m2],by simp,by simp[e2],λj t r' e3 e4=>?_]
  by_cases z:j=i
  .subst z
   rw[ay ∅,e2,cq] at e4;cases e4;rw[et] at e3;cases e3;exact#[Y,gY,rY]
  .have jl:j<i:=by
    have:=(ae.mp e4).1;simp at this;omega
   rw[aq ∅] at e4;obtain⟨X',h1,h2⟩:=inv j t r' e3 e4;exact#[X',x2.get h1,h2]
 .obtain⟨x1,rs',rfl,e2,inv⟩:=h
  exact q rs' S1 x1 #[∅,inv]
theorem zz(h:Qi ts w S m)(x:Ext S S'):Qi ts w S' m:=by
 obtain⟨rs,g,l,h⟩:=h;refine#[rs,x.get g,l,λi t r e1 e2=>?_];obtain⟨X,h1,h2⟩:=h i t r e1 e2;exact#[X,x.get h1,h2]
noncomputable def M8:Spec:=λus S Q _=>∃n x a ts,us=[.loc n,.str x,a9 a]/\S[n]?=some (.lst (ts.map enc))/\nV ts/\x.length<=1000/\a<=x.length/\∀f S',sM ts (x.drop a) (x.drop a).length f->Ext S S'->Q (uR f) S'
noncomputable def YM:dj:=#v[.set 4 (.comp false (.call "_law_rests" #v[@0,.ix @1 (.bin .add @2 @3)]) (.val @4) (.cg (.lit (.bl true))) [1,2,5]),.set 5 (.bin .add @5 ↑1),.set 6 (.comp false @0 (.range (.blt .len #v[@4])) (.cg (.call "_law_ends" #v[.ix @1 @0])) [4]),.ifs (.cg @6) #v[.set 3 (.tup #v[.ix @6 ↑0,@5])] .nil]
theorem Mh(Γ:bY)(h1:Γ "_law_rests"=Mg)(h2:Γ "_law_ends"=Qh)(hT:nV ts)(hx:x.length<=1000)(hk:a+k<x.length)
  (Vz:Qi ts ((x.drop a).take k) S m) (bs:sM ts (x.drop a) k f) (q:∀f' m' x6' S',Ext S S'->Qi ts ((x.drop a).take (k+1)) S' m'->sM ts (x.drop a) (k+1) f'->D.nx [some (.loc n),some (.str x),some (a9 a),some (uR f'),some (.loc m'),some (a9 (k+1)),x6'] S'):
  Rest Γ YM D [some (.loc n),some (.str x),some (a9 a),some (uR f),some (.loc m),some (a9 k),x6] S:=by
 unfold YM;obtain⟨rs,g,rl,hr⟩:=Vz;have tl:=hT.len;have hc:(x.drop a)[k]?=some (x[a+k]'hk):=by rw[List.getElem?_drop,aa hk]
 room;rw[g,aH]
 refine pA (ts:=ts) (w:=(x.drop a).take (k+1)) (by simpa using rl) ∅ (λS' x=>x.get g) (λu S' k h=>h) (λi t u S1 k' et hu x1 hk'=>?_) λrs' S1 x1 R1=>?_
 .rw[au] at hu
  obtain⟨r,er,rfl⟩:=ag.mp hu;obtain⟨X,gX,rX⟩:=hr i _ r et er;obtain⟨n0,pl,n1,sz,dt⟩:=vy hT (aw et);have Xl:=tU pl rX;have ea:((a:Int)+(k:Int))=((a+k:Nat):Int):=∅
  rw[ea,ir,aa hk,aP]
  refine#[∅,ca h1 #[r,_,X,t,_,n0,rfl,x1.get gX,rX,pl,n1,dt,sz,∅,λm2 Y S2 x2 gY rY=>hk' _ _ _ x2 gY ?_]];rw[<-jv,<-take_snoc hc] at rY;exact rY
 .have R1:=zy R1
  have x2:Ext S (S1++[SO.lst (rs'.map .loc)]):=x1.trans (Ext.app _);generalize S1.length=m1 at R1;generalize S1++[SO.lst (rs'.map .loc)]=S2 at R1 x2;have R1':=R1;obtain⟨rs2,g2,rl2,hr2⟩:=R1';room;rw[uL g2]
  simp only[aP,ar,KD,i8];refine#[∅,∅,∅,?_];refine fQ _ (λi acc S3=>Ext S2 S3/\acc.length<=i/\((acc=[]/\∀j,j<i->Nn ts (x.drop a) (k+1) j)\/∃g r,acc=a9 g::r/\¬Nn ts (x.drop a) (k+1) g/\∀j,j<g->Nn ts (x.drop a) (k+1) j)) (λi acc S3 hi #[x,e1,_]=>#[trivial,by simp at hi;omega]) (λi u acc S3 k' hu hi hk'=>?_) (λacc S3 h=>?_) #[.refl,by simp,.inl #[rfl,∅]]
  .obtain⟨x3,al,inv⟩:=hi
   obtain⟨rfl,it⟩:=mE hu;have it:i<ts.length:=∅
   have et:ts[i]?=some ts[i]:=aa it;have er:rs2[i]?=some (rs2[i]'∅):=aa ∅;obtain⟨X,gX,rX⟩:=hr2 i _ _ et er;obtain⟨n0,pl,n1,sz,dt⟩:=vy hT (bI it);have Xl:=tU pl rX;room;rw[x3.get g2,aH,ir,au,er]
   simp only[jO,aP];refine ca h2 #[_,X,ts[i],_,rfl,x3.get gX,rX,dt,sz,∅,λb S4 hb x4=>?_];have nn:b=true↔¬Nn ts (x.drop a) (k+1) i:=by
    rw[hb]
    constructor
    .intro e z;exact z _ et e
    .intro z
     exact tF λe=>z λt e1 e2=>by rw[et] at e1;cases e1;exact e e2
   room;cases b with
   |true=>
    rw[if_pos rfl]
    refine hk' _ _ #[x3.trans x4,by simp;omega,.inr ?_];rcases inv with⟨rfl,h⟩|⟨g,r,rfl,h3,h4⟩
    .exact#[i,[],rfl,nn.mp rfl,h]
    .exact#[g,r++[a9 i],rfl,h3,h4]
   |false=>
    rw[if_neg (by simp)]
    have ni:Nn ts (x.drop a) (k+1) i:=tF λz=>by have:=nn.mpr z;simp at this
    refine hk' _ _ #[x3.trans x4,∅,?_];rcases inv with⟨rfl,h⟩|h
    .refine .inl #[rfl,λj hj=>?_]
     by_cases z:j=i
     .subst z;exact ni
     .exact h j ∅
    .exact .inr h
  .obtain⟨x3,al,inv⟩:=h
   simp only[ar,sj] at al inv;have g5:(S3++[SO.lst acc])[S3.length]?=some (.lst acc):=by simp
   have x5:Ext S2 (S3++[SO.lst acc]):=x3.trans (Ext.app _);generalize S3.length=m5 at g5;generalize S3++[SO.lst acc]=S5 at g5 x5;room;rw[Aq g5,aP]
   rcases inv with⟨rfl,h⟩|⟨g,r,rfl,h3,h4⟩
   .simp only[de,bne_self_eq_false,ah,if_false]
    room;refine q f _ _ S5 (x2.trans x5) (zz R1 x5) (oE bs ∅ λj i h1 h2=>?_);have:j=k+1:=∅
    subst this;by_cases z:i<ts.length
    .exact h i ∅
    .intro t e;have:=(ae.mp e).1;omega
   .have:((a9 g::r).length !=0)=true:=rfl
    rw[this,if_pos rfl]
    room;rw[g5,aH,jC,aP]
    refine#[by simp,?_];room;exact q (some (g,k+1)) _ _ S5 (x2.trans x5) (zz R1 x5) (DM h3 h4)
theorem Qj(Γ:bY)(h1:Γ "_law_rests"=Mg)(h2:Γ "_law_ends"=Qh):Keeps Γ j7 4 M8:=by
 rintro us S Q E ⟨n,x,a,ts,rfl,gn,hT,hx,ha,q⟩;unfold j7;have tl:=hT.len;room;rw[gn,aH]
 refine pA (ts:=ts) (w:=[]) (by simp) ∅ (λS' x=>x.get gn) (λu S' k h=>h) (λi t u S1 k' et hu x1 hk'=>?_) λrs' S1 x1 R1=>?_
 .rw[au,et] at hu
  cases hu;exact#[by simp,by simp,hk' _ _ _ (Ext.app _) (by simp;rfl) (xO t)]
 have R1:=zy R1;have x2:Ext S (S1++[SO.lst (rs'.map .loc)]):=x1.trans (Ext.app _);generalize S1.length=m1 at R1;generalize S1++[SO.lst (rs'.map .loc)]=S2 at R1 x2;room;have dl:(x.drop a).length=x.length-a:=by simp
 refine#[x.length+1,lL (λN env S3=>∃(k m:Nat)(f:Option (Nat×Nat))(x6:Option U),N=x.length-(a+k)/\a+k<=x.length/\env=[some (.loc n),some (.str x),some (a9 a),some (uR f),some (.loc m),some (a9 k),x6]/\Ext S S3/\Qi ts ((x.drop a).take k) S3 m/\sM ts (x.drop a) k f) ?_ _ (x.length-a) _ _ ∅ #[0,m1,none,none,∅,∅,rfl,x2,R1,λj i h1 h2=>∅]];rintro N env S3 K ⟨k,m,f,x6,rfl,hk,rfl,x3,R3,bs⟩ hK;have ea:((a:Int)+(k:Int))=((a+k:Nat):Int):=∅
 room;rw[ea]
 refine#[∅,?_];by_cases y:a+k<x.length
 .have:(((a+k:Nat):Int)<(x.length:Int)):=∅
  simp only[this,decide_true,if_true];have R3':=R3;obtain⟨rs,g,rl,hr⟩:=R3';rw[g,aH]
  refine fQ (rs.map .loc) (λi acc S4=>Ext S3 S4/\∃bs:List Bool,acc=bs.map .bl/\bs.length=i/\∀(j:Nat)t,j<i->ts[j]?=some t->bs[j]?=some false->∀p,¬hs t ((x.drop a).take k) p) (λi acc S4 hi #[x,bs,e1,e2,_]=>#[x.get g,by rw[e1,ar];simp at hi;omega]) (λi u acc S4 k' hu hi hk'=>?_) (λacc S4 h=>?_) #[.refl,[],rfl,rfl,∅]
  .obtain⟨x4,bs,rfl,e2,inv⟩:=hi
   rw[au] at hu;obtain⟨r,er,rfl⟩:=ag.mp hu;have it:i<ts.length:=by rw[<-rl];exact(ae.mp er).1
   obtain⟨X,gX,rX⟩:=hr i _ r (aa it) er;room;rw[(x4.trans (Ext.app _)).get gX,aH]
   refine#[by simp,by simp,hk' _ _ #[x4.trans (Ext.app _),bs++[!X.isEmpty],by simp,by simp[e2],λj t hj et ej p hp=>?_]];by_cases z:j=i
   .subst z
    rw[ay ∅,e2,cq] at ej;have ej:(!X.isEmpty)=false:=by simpa using ej
    rw[aa it] at et;cases et;have:=(rX.1 _).mpr #[p,hp,rfl];cases X with
    |nil=>simp at this
    |cons a b=>simp at ej
   .rw[aq ∅] at ej
    exact inv j t ∅ et ej p hp
  .obtain⟨x4,bs',rfl,e2,inv⟩:=h
   rw[ar] at e2 inv;refine#[bs',by simp,?_];have x5:Ext S3 (S4++[SO.lst (bs'.map U.bl)]):=x4.trans (Ext.app _);generalize S4++[SO.lst (bs'.map U.bl)]=S5 at x5;by_cases z:bs'.any id=true
   .rw[if_pos z]
    exact Mh Γ h1 h2 hT hx y (zz R3 x5) bs λf' m' x6' S6 x6 R6 b6=>hK (x.length-(a+(k+1))) _ _ ∅ #[k+1,m',f',x6',rfl,∅,rfl,x3.trans (x5.trans x6),R6,b6]
   .rw[if_neg z]
    room;refine q f _ (oE bs ∅ λj i h1 h2 t et #[p,hp,_]=>?_) (x3.trans x5);have il:i<bs'.length:=by rw[e2,rl];exact(ae.mp et).1
    have eb:bs'[i]?=some false:=by
     rw[aa il]
     cases e:bs'[i] with
     |false=>rfl
     |true=>exact absurd (hJ.mpr #[true,by rw[<-e];exact bI il,rfl]) z
    exact LY (inv i t ∅ et eb) j ∅ p hp
 .have:¬(((a+k:Nat):Int)<(x.length:Int)):=∅
  simp only[this,decide_false,ah,if_false];room;have ek:(x.drop a).length=k:=∅
  rw[ek] at q;exact q f _ bs x3
theorem lP:∀t,live (er t)=live t
 |.one _ l=>rfl
 |.row a b=>by simp only[er,live,lP a,lP b]
 |.or a b=>by simp only[er,live,lP a,lP b]
 |.rep m a=>by cases m<;>simp only[er,live,lP a]
theorem rZ:∀t,sN (er t)=sN t
 |.one _ l=>rfl
 |.row a b=>by simp only[er,sN,lP a,lP b,rZ a,rZ b]
 |.or a b=>by simp only[er,sN,rZ a,rZ b]
 |.rep m a=>by simp only[er,sN,rZ a]
theorem Mi(M:List Tr):mF (M.map er)=mF M:=by
 unfold mF dm;rw[sf,si,show live∘er=live from funext lP,show sN∘er=sN from funext rZ]
noncomputable def M9(ts:List Tr)(y:List Nat):Prop:=∃t∈ts,∃q,hs t y q/\mF (ct t q)=true
noncomputable def Uw:Spec:=λus S Q _=>∃n x ts,us=[.loc n,.str x]/\S[n]?=some (.lst (ts.map enc))/\nV ts/\x.length<=1000/\∀b S',(b=true↔M9 ts x)->Ext S S'->Q (.bl b) S'
theorem Ux(Γ:bY)(h1:Γ "_law_rests"=Mg)(h2:Γ "_law_more"=DV sN mF 5):Keeps Γ lF 2 Uw:=by
 rintro us S Q E ⟨n,x,ts,rfl,gn,hT,hx,q⟩;unfold lF;have tl:=hT.len;room;rw[gn,aH]
 refine pA (ts:=ts) (w:=[]) (by simp) ∅ (λS' x=>x.get gn) (λu S' k h=>h) (λi t u S1 k' et hu x1 hk'=>?_) λrs' S1 x1 R1=>?_
 .rw[au,et] at hu
  cases hu;exact#[by simp,by simp,hk' _ _ _ (Ext.app _) (by simp;rfl) (xO t)]
 have R1:=zy R1;have x2:Ext S (S1++[SO.lst (rs'.map .loc)]):=x1.trans (Ext.app _);generalize S1.length=m1 at R1;generalize S1++[SO.lst (rs'.map .loc)]=S2 at R1 x2;room;refine eF (λi env S3=>∃(m:Nat)(x3:Option U),env=[some (.loc n),some (.str x),some (.loc m),x3]/\Ext S S3/\Qi ts (x.take i) S3 m) (λ_ _ _ _=>trivial) _ ?_ ?_ #[m1,none,rfl,x2,by simpa using R1]
 .rintro i u env S3 K hu ⟨m,x3,rfl,x3',R3⟩ hK
  rw[au] at hu;obtain⟨c,hc,rfl⟩:=ag.mp hu;obtain⟨rs,g,rl,hr⟩:=R3;room;rw[g,aH]
  refine pA (ts:=ts) (w:=x.take (i+1)) (by simpa using rl) ∅ (λS' x=>x.get g) (λu S' k h=>h) (λj t u S4 k' et hu x4 hk'=>?_) λrs' S4 x4 R4=>?_
  .rw[au] at hu
   obtain⟨r,er,rfl⟩:=ag.mp hu;obtain⟨X,gX,rX⟩:=hr j _ r et er;obtain⟨n0,pl,n1,sz,dt⟩:=vy hT (aw et);have Xl:=tU pl rX;refine ca h1 #[r,c,X,t,_,n0,rfl,x4.get gX,rX,pl,n1,dt,sz,∅,λm2 Y S5 x5 gY rY=>hk' _ _ _ x5 gY ?_];rw[<-jv,<-take_snoc hc] at rY;exact rY
  .exact hK _ _ #[_,_,rfl,x3'.trans (x4.trans (Ext.app _)),zy R4]
 .rintro env S3 ⟨m,x3,rfl,x3',R3⟩
  rw[ar,b9] at R3;obtain⟨rs,g,rl,hr⟩:=R3;refine rr ?_;rw[Sv]
  simp only[Ho,MN,OJ,Sw,w_var,Zi,g,aH,List.getElem?_cons_succ,nE,oQ];refine fQ (rs.map .loc) (λi acc S4=>Ext S3 S4/\∃bs:List Bool,acc=bs.map .bl/\bs.length=i/\∀(j:Nat)t,j<i->ts[j]?=some t->∃b,bs[j]?=some b/\(b=true↔∃p,hs t x p/\mF (ct t p)=true)) (λi acc S4 hi #[x,bs,e1,e2,_]=>#[x.get g,by rw[e1,ar];simp at hi;omega]) (λi u acc S4 k' hu hi hk'=>?_) (λacc S4 h=>?_) #[.refl,[],rfl,rfl,∅]
  .obtain⟨x4,bs,rfl,e2,inv⟩:=hi
   rw[au] at hu;obtain⟨r,er,rfl⟩:=ag.mp hu;have it:i<ts.length:=by rw[<-rl];exact(ae.mp er).1
   have et:ts[i]?=some ts[i]:=aa it;obtain⟨X,gX,rX⟩:=hr i _ r et er;obtain⟨n0,pl,n1,sz,dt⟩:=vy hT (bI it);have Xl:=tU pl rX;simp only[bind_f,Sx,w_lit,lg,So,aP,Ba,if_true];refine any_rows h2 Mi (x4.get gX) rX dt sz ∅ λb S5 hb x5=>hk' _ _ #[x4.trans x5,bs++[b],by simp,by simp[e2],λj t hj e=>?_]
   by_cases z:j=i
   .subst z
    rw[et] at e;cases e;exact#[b,by rw[ay ∅,e2,cq];rfl,hb]
   .rw[aq ∅]
    exact inv j t ∅ e
  .obtain⟨x4,bs,rfl,e2,inv⟩:=h
   rw[ar,rl] at e2 inv;rw[Sq]
   refine#[bs,by simp,q _ _ ?_ (x3'.trans (x4.trans (Ext.app _)))];rw[hJ]
   constructor
   .rintro⟨b,m,hb⟩
    obtain⟨j,hj⟩:=bA m;have jl:j<ts.length:=by rw[<-e2];exact(ae.mp hj).1
    obtain⟨b',e1,e3⟩:=inv j _ jl (aa jl);rw[hj] at e1;cases e1;exact#[_,bI jl,e3.mp hb]
   .rintro⟨t,m,z⟩
    obtain⟨j,hj⟩:=bA m;obtain⟨b,e1,e3⟩:=inv j t (ae.mp hj).1 hj;exact#[b,aw e1,e3.mpr z]
section
variable{ts:List Tr}{w v x y:List Nat}{u r k:Nat}{f:Option (Nat×Nat)}
theorem AZ(hT:nV ts)(m:t∈ts)(hq:hs t (w++[c]) q)(z:dm (ct t q)=true):M9 ts w:=by
 rw[jv] at hq;obtain⟨q0,h0,f,hc⟩:=hq;obtain⟨n,pl,n0,_⟩:=vy hT m;exact#[t,m,q0,h0,vt.mpr #[c,_,(vo pl n0).mpr #[q,f,hc,rfl],z]]
theorem tV(hT:nV ts):∀{v w},M9 ts (w++v)->M9 ts w
 |[],w,h=>by rwa [bb] at h
 |c::v,w,h=>by
  have h:M9 ts ((w++[c])++v):=by rwa [bp]
  obtain⟨t,m,q,hq,z⟩:=tV hT h;rw[mF,af] at z;exact AZ hT m hq z.1
theorem DW(h:sM ts w k f)(hk:k<=w.length):sM ts (w++v) k f:=by
 have e:∀{j i},j<=k->(Nn ts (w++v) j i↔Nn ts w j i):=λ{j i}hj=>by
  unfold Nn;rw[ua ∅]
 rcases f with _|⟨i,j⟩
 .exact λj i h1 h2=>(e h2).mpr (h j i h1 h2)
 .obtain⟨h1,h2,h3,h4⟩:=h
  exact#[h1,λz=>h2 ((e h1.2).mp z),λi' hi=>(e h1.2).mpr (h3 i' hi),λj' i' a b=>(e b).mpr (h4 j' i' a b)]
theorem IY(hT:nV ts)(h:sM ts w w.length f)(n:¬M9 ts w):sM ts (w++v) (w++v).length f:=by
 refine oE (DW h (ax _)) (by simp) λj i h1 h2 t e=>?_
 rintro⟨p,hp,z⟩;rw[aB] at h2;refine n (tV hT (v:=v.take (j-1-w.length)) (AZ hT (c:=v[j-1-w.length]'∅) (aw e) (q:=p) ?_ (vq z)));have:(w++v).take j=w++v.take (j-1-w.length)++[v[j-1-w.length]'∅]:=by
  rw[bp,<-take_snoc (aa ∅),show j-1-w.length+1=j-w.length by omega,List.take_append,bN ∅]
 rw[<-this];exact hp
theorem Fn.app(h:Fn ts u x r k f):Fn ts u (x++v) r k f:=by
 have:=h.le;exact#[by simp;omega,by rw[ua this];exact h.wr,DW h.bs this]
theorem Fn.open(hT:nV ts)(A:xR ts sg bh en)(U:Fj sg bh en u)(h:Fn ts u x r k f)(e:r=0\/k=x.length):r≠0↔M9 ts x:=by
 have a:=IS A U h.wr;rcases e with rfl|rfl
 .refine#[λz=>absurd rfl z,λz=>?_]
  rw[<-By k x] at z;exact a.mpr (tV hT z)
 .rw[b9] at a
  exact a
noncomputable def FO(ts:List Tr)(last:Bool)(y:List Nat):Prop:=y≠[]/\(last=true\/¬M9 ts y)
inductive zA(ts:List Tr)(last:Bool):Nat->List Nat->Bool->Nat->List Nat->List U->Prop where
 |jI {a y}:¬FO ts last y->zA ts last a y false a y []
 |bad {a y}:FO ts last y->sM ts y y.length none->zA ts last a y true a y []
 |go {a y i j b a' y' l}:FO ts last y->sM ts y y.length (some (i,j))->zA ts last (a+j) (y.drop j) b a' y' l->zA ts last a y b a' y' (.tup [a9 i,.str (y.take j)]::l)
variable{last b b':Bool}{a a' a'':Nat}{y' y'':List Nat}{l l':List U}
theorem jw(h:zA ts last a y b a' y' l):∀{b' a'' y'' l'},zA ts last a y b' a'' y'' l'->b=b'/\a'=a''/\y'=y''/\l=l':=by
 induction h with
 |jI n=>
  intro b' a'' y'' l' h';cases h' with
  |jI _=>exact#[rfl,rfl,rfl,rfl]
  |bad z _=>exact absurd z n
  |go z _ _=>exact absurd z n
 |bad n z=>
  intro b' a'' y'' l' h';cases h' with
  |jI m=>exact absurd n m
  |bad _ _=>exact#[rfl,rfl,rfl,rfl]
  |go _ z' _=>cases zh z z'
 |go n z _ ih=>
  intro b' a'' y'' l' h';cases h' with
  |jI m=>exact absurd n m
  |bad _ z'=>cases zh z z'
  |go _ z' t=>
   cases zh z z';obtain⟨rfl,rfl,rfl,rfl⟩:=ih t;exact#[rfl,rfl,rfl,rfl]
theorem DX(h:zA ts last a y b a' y' l):(b=true->FO ts last y'/\sM ts y' y'.length none)/\(b=false->¬FO ts last y')/\(∃d,d<=y.length/\a'=a+d/\y'=y.drop d/\l.length<=d)/\(l=[]->a'=a/\y'=y)/\jJ l=true/\jK l<=1:=by
 induction h with
 |jI n=>exact#[λz=>(by cases z),λ_=>n,#[0,∅,rfl,rfl,by simp],λ_=>#[rfl,rfl],rfl,by simp[jK]]
 |bad n z=>exact#[λ_=>#[n,z],λz=>(by cases z),#[0,∅,rfl,rfl,by simp],λ_=>#[rfl,rfl],rfl,by simp[jK]]
 |@go a y i j b a' y' l n z _ ih=>
  obtain⟨h1,h2,⟨d,h3,h4,h5,h6⟩,_,h7,h8⟩:=ih;have jl:=z.1;rw[jF] at h3;refine#[h1,h2,#[j+d,∅,∅,by rw[h5,wH],by simp;omega],λe=>by simp at e,?_,?_]
  .show(vX _&&jJ l)=true
   rw[h7];rfl
  .show max (dep _) (jK l)<=1
   have:dep (.tup [a9 i,.str (y.take j)])=1:=rfl;omega
end
noncomputable def Fix(o:SO):Prop:=∀c fs,o=.ins c fs->c="Places"
noncomputable def nW(S S':bJ):Prop:=S.length<=S'.length/\∀(n:Nat)o,S[n]?=some o->Fix o->S'[n]?=some o
section
variable{S S' S'':bJ}{r C P w a k:Nat}{c:String}{fs:List (String×U)}{ts:List Tr}{x:List Nat}
theorem nW.trans(h:nW S S')(g:nW S' S''):nW S S'':=#[aT h.1 g.1,λn o e f=>g.2 n o (h.2 n o e f) f]
theorem nW.ext(h:Ext S S'):nW S S':=#[h.1,λ_ _ e _=>h.get e]
theorem nW.old(h:Old r S S')(hr:S[r]?=some (.ins c fs))(hc:c≠"Places"):nW S S':=#[h.1,λn o e f=>by
 have:n≠r:=λz=>by rw[z,hr] at e;exact hc (f c fs (aG e).symm)
 rw[h.2 n (bG e) this];exact e]
theorem nW.get{l:List U}(h:nW S S')(e:S[r]?=some (.lst l)):S'[r]?=some (.lst l):=h.2 r _ e λ_ _ z=>by cases z
theorem tP.lst{u:Nat}(h:tP S P ts u)(x:nW S S'):tP S' P ts u:=by
 obtain⟨sg,bh,en,⟨b,e,k,g1,g2,g3,g4⟩,A,U,l⟩:=h.o;exact#[sg,bh,en,#[b,e,k,x.2 _ _ g1 λc fs z=>by cases z;rfl,x.get g2,x.get g3,x.2 _ _ g4 λ_ _ z=>by cases z],A,U,l]
theorem Na{f:String}{v v' u:U}{K:bJ->Prop}(h:S[r]?=some (.ins c fs))(hv:fs.lookup f=some v)(hl:fs.length<100)(ha:∀Qk:KU,Qk v' S->sZ .add v u S Qk)(q:∀S',Old r S S'->S'.length=S.length->S'[r]?=some (.ins c (d7 f v' fs))->K S'):
  mz S[r]? λc fs=>opt (fs.lookup f) λv=>sZ .add v u S λz S3=>mz S3[r]? λc' fs'=>c'=c/\fs'.length<100/\K (S3.set r (.ins c (d7 f z fs'))):=by
 rw[h,aZ,hv]
 refine ha _ ?_;rw[h,aZ]
 exact#[rfl,hl,q _ (kr.set h).old (by simp) (gs h)]
noncomputable def Bk(P a:Nat)(x:List Nat)(w:Nat):SO:=.ins "Cutter" [("places",.loc P),("at",a9 a),("rest",.str x),("walk",.loc w)]
theorem Xt(h:S[C]?=some (Bk P a x w)):jB (.loc C) "places" S R=R (.loc P):=by rw[d8,h];rfl
theorem Xu(h:S[C]?=some (Bk P a x w)):jB (.loc C) "at" S R=R (a9 a):=by rw[d8,h];rfl
theorem Mj(h:S[C]?=some (Bk P a x w)):jB (.loc C) "rest" S R=R (.str x):=by rw[d8,h];rfl
theorem IZ(h:S[C]?=some (Bk P a x w)):jB (.loc C) "walk" S R=R (.loc w):=by rw[d8,h];rfl
structure sO(S:bJ)(C P:Nat)(ts:List Tr)(u a:Nat)(x:List Nat):Prop where
 o:∃w r k f,S[C]?=some (Bk P a x w)/\S[w]?=some (zN P r k (uR f))/\Fn ts u x r k f
structure Q4(S:bJ)(C P:Nat)(ts:List Tr)(u a:Nat)(x:List Nat)(f:Option (Nat×Nat)):Prop where
 o:∃w r k,S[C]?=some (Bk P a x w)/\S[w]?=some (zN P r k (uR f))/\Fn ts u x r k f/\(r=0\/k=x.length)
theorem Q4.ct{u:Nat}{f:Option (Nat×Nat)}(h:Q4 S C P ts u a x f):sO S C P ts u a x:=by
 obtain⟨w,r,k,h1,h2,h4,_⟩:=h.o;exact#[w,r,k,f,h1,h2,h4]
theorem Q4.Zs(h:Q4 S C P ts u a x f)(pa:tP S P ts u):sM ts x x.length f:=by
 obtain⟨w,r,k,h1,h2,h4,h5⟩:=h.o;obtain⟨sg,bh,en,pp,A,U,l⟩:=pa.o;exact h4.full A U h5
theorem sO.set{T u:Nat}{l l':List U}(h:sO S C P ts u a x)(g:S[T]?=some (.lst l)):sO (S.set T (.lst l')) C P ts u a x:=by
 obtain⟨w,r,k,f,h1,h2,h4⟩:=h.o;have n1:T≠C:=λz=>by rw[z,h1] at g;cases g
 have n2:T≠w:=λz=>by rw[z,h2] at g;cases g
 exact#[w,r,k,f,by rw[av n1];exact h1,by rw[av n2];exact h2,h4]
theorem tP.ne{u:Nat}(h:tP S P ts u)(hr:S[r]?=some (.ins c fs))(e:c≠"Places"):P≠r:=λz=>by
 obtain⟨sg,bh,en,pp,_⟩:=h.o;obtain⟨_,_,_,g,_⟩:=pp.o;rw[z,hr] at g;cases g;exact e rfl
theorem sO.ext{u:Nat}(h:sO S C P ts u a x)(e:Ext S S'):sO S' C P ts u a x:=by
 obtain⟨w,r,k,f,h1,h2,h4⟩:=h.o;exact#[w,r,k,f,e.get h1,e.get h2,h4]
theorem Nb(h1:S[C]?=some (Bk P a x w))(h2:S[w]?=some (zN P r k f)):C≠w:=λz=>by
 rw[z,h2] at h1;have:=aG h1;unfold zN Bk at this;injection this with e _
 exact absurd e ⋯
end
theorem A0{Γ:bY}(h1:Γ "Walk.__init__"=Mb){S:bJ}{P u:Nat}{ts:List Tr}{K:KU}{E:KX}(pa:tP S P ts u)(q:∀r S',(∀x,Fn ts u x r 0 none)->Ext S S'->S'[S.length]?=some (zN P r 0 .bK)->K .bK S'):Γ "Walk.__init__" [.loc S.length,.loc P] (S++[SO.ins "Walk" []]) K E:=by
 obtain⟨sg,bh,en,pp,A,U,l⟩:=pa.o;have hP:P<S.length:=by obtain⟨_,_,_,h,_⟩:=pp.o;exact bG h
 have b1:1<=bh.length:=by obtain⟨B,e,_⟩:=A.b0;exact(ae.mp e).1
 refine ca h1 #[S.length,P,_,en,_,rfl,by simp,pp.ext (Ext.app _),∅,by rw[ar,A.len];exact l,by rw[ar];exact b1,λr S1 hr o1 g1=>q r S1 (λx=>#[∅,Fm A hr,λj i h1 h2=>∅]) ?_ g1];exact#[by have:=o1.1;simp at this;omega,λn hn=>by rw[o1.2 n (by simp;omega) ∅,aq hn]]
noncomputable def Ql:Spec:=λus S Q _=>∃C X ts,us=[.loc C,.loc X]/\S[C]?=some (.ins "Cutter" [])/\Uj S X ts/\∀P u S',tP S' P ts u->sO S' C P ts u 0 []->nW S S'->Q .bK S'
theorem Uy(Γ:bY)(h1:Γ "Walk.__init__"=Mb):Keeps Γ jt 0 Ql:=by
 rintro us S Q E ⟨C,X,ts,rfl,hC,lx,q⟩;unfold jt;obtain⟨P,u,g,pa⟩:=lx.o;have fp:jB (.loc X) "places" S=λR=>R (.loc P):=by funext R;rw[d8,g];rfl
 room;rw[fp]
 refine pG hC (by simp) λS1 o1 l1 g1=>?_
 room;refine pG g1 (by simp[d7]) λS2 o2 l2 g2=>?_
 room;refine pG g2 (by simp[d7]) λS3 o3 l3 g3=>?_
 have L3:=nW.old ((o1.trans o2).trans o3) hC ⋯;have f3:jB (.loc C) "places" S3=λR=>R (.loc P):=by funext R;rw[d8,g3];rfl
 room;rw[f3]
 refine A0 h1 (pa.lst L3) λr S4 wa x4 g4=>#[rfl,?_]
 refine pG (x4.get g3) (by simp[d7]) λS5 o5 l5 g5=>?_
 room;have ne:S3.length≠C:=by have:=bG g3;omega
 have L5:=(L3.trans (.ext x4)).trans (.old o5 (x4.get g3) ⋯);exact q P u S5 (pa.lst L5) #[S3.length,r,0,none,g5,by rw[o5.2 _ (bG g4) ne];exact g4,wa _] L5
noncomputable def Uz:Spec:=λus S Q _=>∃C P e ts u a x,us=[.loc C,.bl e]/\sO S C P ts u a x/\tP S P ts u/\nV ts/\(∀c∈x,c∈SG)/\x.length<=1000/\∀b f S',(b=true↔FO ts e x)->Q4 S' C P ts u a x f->nW S S'->Q (.bl b) S'
theorem UA(Γ:bY)(h1:Γ "Walk.along"=Uh)(h2:Γ "Walk.may_go_on"=Qe):Keeps Γ dQ 0 Uz:=by
 rintro us S Q E ⟨C,P,e,ts,u,a,x,rfl,ct,pa,hT,hx,hl,q⟩;unfold dQ;obtain⟨w,r,k,f,g1,g2,wa⟩:=ct.o;have g2':=g2;unfold zN at g2';room;rw[IZ g1,Dj,g2',aZ]
 refine#[#[rfl,rfl],?_];rw[Mj g1]
 refine ca h1 #[w,P,r,k,f,x,ts,u,rfl,g2,pa,pa.ne g2' ⋯,wa,hx,hl,λf r k S1 wa e1 o1 g3=>?_];have cn:=Nb g1 g2;have g4:S1[C]?=some (Bk P a x w):=by rw[o1.2 C (bG g1) cn];exact g1
 have L1:=nW.old o1 g2' ⋯;obtain⟨sg,bh,en,pp,A,U,l⟩:=pa.o;have op:=wa.open hT A U e1;have fin:∀b,(b=true↔FO ts e x)->Q (.bl b) S1:=λb hb=>q b f S1 hb #[w,r,k,g4,g3,wa,e1] L1
 have g3':=g3;unfold zN at g3';room;rw[Mj g4]
 room;cases x with
 |nil=>exact fin _ #[λz=>by simp at z,λz=>absurd rfl z.1]
 |cons c x=>
  cases e with
  |true=>exact fin _ #[λ_=>#[by simp,.inl rfl],λ_=>rfl]
  |false=>
   have:(!((c::x)== []))=true:=rfl;simp only[this,if_true,ah,if_false];rw[IZ g4,Dj,g3',aZ]
   refine#[#[rfl,rfl],ca h2 #[w,P,r,k,_,rfl,g3,?_]];room;refine fin _ #[λz=>#[by simp,.inr λo=>?_],λz=>?_]
   .have:=op.mpr o
    simp at z;omega
   .have:¬r≠0:=λh=>(z.2.resolve_left (by simp)) (op.mp h)
    simp;omega
noncomputable def UB:Spec:=λus S Q _=>∃C P ts u a x j,us=[.loc C,a9 j]/\sO S C P ts u a x/\tP S P ts u/\j<=x.length/\x.length<=1000/\∀S',sO S' C P ts u (a+j) (x.drop j)->nW S S'->Q .bK S'
theorem UC(Γ:bY)(h1:Γ "Walk.__init__"=Mb):Keeps Γ fH 0 UB:=by
 rintro us S Q E ⟨C,P,ts,u,a,x,j,rfl,ct,pa,hj,hl,q⟩;unfold fH;obtain⟨w,r,k,f,g1,g2,wa⟩:=ct.o;have g1':=g1;unfold Bk at g1';room;refine Na g1' rfl (by simp) (v':=a9 (a+j)) (λQk z=>by rw[Si,Hj,show((a:Int)+(j:Int))=((a+j:Nat):Int) by omega];exact z) λS1 o1 l1 g3=>?_
 have e1:S1[C]?=some (Bk P (a+j) x w):=g3;room;rw[Mj e1]
 simp only[EM,AV];refine#[#[λi e=>by injection e with e;omega,λi e=>by cases e],∅,?_];refine pG g3 (by simp[d7]) λS2 o2 l2 g4=>?_
 have e2:S2[C]?=some (Bk P (a+j) (x.drop j) w):=g4;have L2:=nW.old (o1.trans o2) g1' ⋯;room;rw[Xt e2]
 refine A0 h1 (pa.lst L2) λr S3 wa x3 g5=>#[rfl,?_]
 refine pG (x3.get g4) (by simp[d7]) λS4 o4 l4 g6=>?_
 room;have ne:S2.length≠C:=by have:=bG g4;omega
 exact q S4 #[S2.length,r,0,none,g6,by rw[o4.2 _ (bG g5) ne];exact g5,wa _] ((L2.trans (.ext x3)).trans (.old o4 (x3.get g4) ⋯))
theorem vz{x:List Nat}{j:Nat}(h:j<=x.length):lV x none (some (j:Nat))=x.take j:=by
 unfold lV;simp[f9 h]
theorem nW.new(h:nW S S1)(hT:S.length<=T):nW S (S1.set T o):=#[by rw[cZ];exact h.1,λn l e f=>by
 have:=bG e;rw[av ∅];exact h.2 n l e f]
noncomputable def Q5(ts:List Tr)(S:bJ)(C P u:Nat)(e:Bool)(a:Nat)(x:List Nat)(Q:KU)(E:KX):Prop:=
 (∀b a' x' l n S',zA ts e a x b a' x' l->(l≠[]\/b=false)->sO S' C P ts u a' x'->nW S S'->S'[n]?=some (.lst l)->Q (.loc n) S')/\∀S',zA ts e a x true a x []->sO S' C P ts u a x->nW S S'->E #["NoToken",[a9 a]] S'
noncomputable def Qm:Spec:=λus S Q E=>∃C P e ts u a x,us=[.loc C,.bl e]/\sO S C P ts u a x/\tP S P ts u/\nV ts/\(∀c∈x,c∈SG)/\x.length<=1000/\Q5 ts S C P u e a x Q E
theorem UD(Γ:bY)(h1:Γ "Cutter.next_is_sure"=Uz)(h2:Γ "Cutter.pass_over"=UB):Keeps Γ d9 2 Qm:=by
  rintro us S Q E ⟨C,P,e,ts,u,a,x,rfl,ct,pa,hT,hx,hl,q,qe⟩;unfold d9;room;refine#[by simp,?_];room;have x0:Ext S (S++[SO.lst []]):=Ext.app _;refine#[x.length+1,lL (λn env S1=>∃(a1:Nat)(x1:List Nat)(acc:List U)(x3:Option U),n=x1.length/\x1.length<=x.length/\(∀c∈x1,c∈SG)/\acc.length+x1.length<=x.length/\env=[some (.loc C),some (.bl e),some (.loc S.length),x3]/\sO S1 C P ts u a1 x1/\nW S S1/\S1[S.length]?=some (.lst acc)/\(acc=[]->a1=a/\x1=x)/\∀b a' x' l,zA ts e a1 x1 b a' x' l->zA ts e a x b a' x' (acc++l))
    ?_ _ x.length _ _ ∅ #[a,x,[],none,rfl,ax _,hx,by simp,rfl,ct.ext x0,.ext x0,by simp,λ_=>#[rfl,rfl],λb a' x' l h=>h]]
  rintro n env S1 K ⟨a1,x1,acc,x3,rfl,hl1,hx1,hac,rfl,ct1,L1,g1,e0,inv⟩ hK;have call:∀{S2:bJ}{Q':KU}{E':KX},sO S2 C P ts u a1 x1->nW S S2->(∀b f S',(b=true↔FO ts e x1)->Q4 S' C P ts u a1 x1 f->nW S2 S'->Q' (.bl b) S')->Γ "Cutter.next_is_sure" [.loc C,.bl e] S2 Q' E':=λc2 L2 k=>ca h1 #[C,P,e,ts,u,a1,x1,rfl,c2,pa.lst L2,hT,hx1,∅,k]
  have cls:∀{S2:bJ},sO S2 C P ts u a1 x1->∃fs,S2[C]?=some (.ins "Cutter" fs)/\(fs.lookup "next_is_sure"=none/\fs.lookup "pass_over"=none):=λc2=>by
    obtain⟨w,r,k,f,h1,_⟩:=c2.o;exact#[_,h1,rfl,rfl]
  obtain⟨fs1,k1,m1,_⟩:=cls ct1;have after:∀{S2:bJ}(b:Bool),sO S2 C P ts u a1 x1->nW S S2->S2[S.length]?=some (.lst acc)->(b=true↔FO ts e x1)->zA ts e a1 x1 b a1 x1 []->Rest Γ (.cons (.ifs (.and (.cg (.cmp .eq @2 (.lst .nil))) (.cg (.cu "Cutter" "next_is_sure" "Cutter.next_is_sure" @0 (.cons @1 .nil)))) (.cons (.raise "NoToken" (.cons (.fld @0 "at") .nil)) .nil) .nil)
   (.cons (.ret @2) .nil)) #[λx S1=>Q .bK S1,Q,λ_=>E] [some (.loc C),some (.bl e),some (.loc S.length),x3] S2:=by
    intro S2 b c2 L2 g2 hb su;room;rw[(Ext.app _).get g2,aH]
    refine#[by simp,by simp,?_];have x3':Ext S2 (S2++[SO.lst []]):=Ext.app _;generalize S2++[SO.lst []]=S3 at x3';have su':=inv _ _ _ _ su;rw[bb] at su';cases acc with
    |cons t acc=>exact q _ _ _ _ _ _ su' (.inl (by simp)) (c2.ext x3') (L2.trans (.ext x3')) (x3'.get g2)
    |nil=>
      simp only[Jp,if_true];obtain⟨fs3,k3,m3,_⟩:=cls (c2.ext x3');rw[k3,aZ]
      refine#[#[rfl,m3],call (c2.ext x3') (L2.trans (.ext x3')) λb' f S4 hb' cb L4=>?_];have L5:=(L2.trans (.ext x3')).trans L4;have eb:b'=b:=by cases b<;>cases b'<;>simp_all
      subst eb;obtain⟨rfl,rfl⟩:=e0 rfl;room;cases b' with
      |false=>exact q _ _ _ _ _ _ su' (.inr rfl) cb.ct L5 (L4.get (x3'.get g2))
      |true=>
        obtain⟨w,r,k,z1,_⟩:=cb.o;simp only[if_true];room;rw[Xu z1]
        exact#[rfl,qe S4 su' cb.ct L5]
  room;rw[k1,aZ]
  refine#[#[rfl,m1],call ct1 L1 λb f S2 hb cb L2=>?_];have L12:=L1.trans L2;have bs:=cb.Zs (pa.lst L12);room;cases b with
  |false=>exact after false cb.ct L12 (L2.get g1) hb (.jI λz=>by have:=hb.mpr z;simp at this)
  |true=>
    have nx:=hb.mp rfl;obtain⟨w,r,k,z1,z2,z3,z4⟩:=cb.o;simp only[if_true];rw[IZ z1,Qd z2]
    rcases f with _|⟨i,j⟩
    · exact after true cb.ct L12 (L2.get g1) hb (.bad nx bs)
    · have jl:=bs.1
      have g2:=L2.get g1;unfold uR at z2 ⊢;room;rw[IZ z1,Qd z2]
      room;simp only[iF,aP];refine#[by simp,?_];room;rw[g2,aH,IZ z1,Qd z2]
      room;simp only[true_and,jC,aP];refine#[by simp,?_];rw[Mj z1]
      simp only[EM,vz jl.2];refine#[#[λi e=>(by cases e),λi e=>by injection e with e;omega],∅,by simp,?_];rw[g2,aH]
      refine#[∅,?_];room;have c3:sO (S2.set S.length (.lst (acc++[.tup [a9 i,.str (x1.take j)]]))) C P ts u a1 x1:=cb.ct.set g2;have L3:=L12.new (T:=S.length) (o:=.lst (acc++[.tup [a9 i,.str (x1.take j)]])) (ax _);have g3:=gs (o':=.lst (acc++[.tup [a9 i,.str (x1.take j)]])) g2;generalize S2.set S.length (.lst (acc++[.tup [a9 i,.str (x1.take j)]]))=S3 at c3 L3 g3;obtain⟨fs3,k3,_,m3⟩:=cls c3;rw[k3,aZ]
      refine#[#[rfl,m3],ca h2 #[C,P,ts,u,a1,x1,j,rfl,c3,pa.lst L3,jl.2,∅,λS4 c4 L4=>?_]];room;refine hK (x1.drop j).length _ _ (by simp;omega) #[a1+j,x1.drop j,_,_,rfl,by simp;omega,λc hc=>hx1 c (jR hc),by simp;omega,rfl,c4,L3.trans L4,L4.get g3,λe=>by simp at e,λb a' x' l h=>?_];have:=inv _ _ _ _ (.go nx bs h)
      rwa [bp]
theorem Q5.back(h:Q5 ts S C P u e a x Q E)(L:nW S S1):Q5 ts S1 C P u e a x Q E:=
 #[λb a' x' l n S' z1 z2 z3 z4 z5=>h.1 b a' x' l n S' z1 z2 z3 (L.trans z4) z5,λS' z1 z2 z3=>h.2 S' z1 z2 (L.trans z3)]
noncomputable def Qn:Spec:=λus S Q E=>∃C P z ts u a x,us=[.loc C,.str z]/\sO S C P ts u a x/\tP S P ts u/\nV ts/\(∀c∈x++z,c∈SG)/\(x++z).length<=1000/\Q5 ts S C P u false a (x++z) Q E
theorem UE(Γ:bY)(h1:Γ "Cutter.sure_tokens"=Qm):Keeps Γ ju 0 Qn:=by
 rintro us S Q E ⟨C,P,z,ts,u,a,x,rfl,ct,pa,hT,hx,hl,q⟩;unfold ju;obtain⟨w,r,k,f,g1,g2,wa⟩:=ct.o;have g1':=g1;unfold Bk at g1';rw[aB] at hl;room;refine Na g1' rfl (by simp) (v':=.str (x++z)) (λQk h=>by rw[Sj,Hk];exact#[∅,h]) λS1 o1 l1 g3=>?_
 have e1:S1[C]?=some (Bk P a (x++z) w):=g3;have L1:=nW.old o1 g1' ⋯;room;rw[g3,aZ]
 exact#[#[rfl,rfl],ca h1 #[C,P,false,ts,u,a,x++z,rfl,#[w,r,k,f,e1,by rw[o1.2 _ (bG g2) (Nb g1 g2).symm];exact g2,wa.app],pa.lst L1,hT,hx,by rw[aB];exact hl,q.back L1]]
noncomputable def Qo:Spec:=λus S Q E=>∃C P ts u a x,us=[.loc C]/\sO S C P ts u a x/\tP S P ts u/\nV ts/\(∀c∈x,c∈SG)/\x.length<=1000/\Q5 ts S C P u true a x Q E
theorem UG(Γ:bY)(h1:Γ "Cutter.sure_tokens"=Qm):Keeps Γ kb 0 Qo:=by
 rintro us S Q E ⟨C,P,ts,u,a,x,rfl,ct,pa,hT,hx,hl,q⟩;unfold kb;obtain⟨w,r,k,f,g1,_⟩:=ct.o;have g1':=g1;unfold Bk at g1';room;rw[g1',aZ]
 exact#[#[rfl,rfl],ca h1 #[C,P,true,ts,u,a,x,rfl,ct,pa,hT,hx,hl,q]]
noncomputable def UH:Spec:=λus S Q _=>∃C P p e ts u a x y,us=[.loc C,p]/\((p=.bK/\e=true/\y=x)\/∃z,p=.str z/\e=false/\y=x++z)/\sO S C P ts u a x/\tP S P ts u/\nV ts/\(∀c∈y,c∈SG)/\y.length<=1000 /\
 (∀b a' x' l n S',zA ts e a y b a' x' l->(l≠[]\/b=false)->sO S' C P ts u a' x'->nW S S'->S'[n]?=some (.lst l)->Q (.tup [.loc n,.int (-1)]) S')/\∀S',zA ts e a y true a y []->sO S' C P ts u a y->nW S S'->Q (.tup [.bK,a9 a]) S'
theorem UI(Γ:bY)(h1:Γ "Cutter.take"=Qn)(h2:Γ "Cutter.end"=Qo):Keeps Γ kf 3 UH:=by
 rintro us S Q E ⟨C,P,p,e,ts,u,a,x,y,rfl,hp,ct,pa,hT,hx,hl,q,qe⟩;unfold kf;obtain⟨w,r,k,f,g1,_⟩:=ct.o;have g1':=g1;unfold Bk at g1';rcases hp with⟨rfl,rfl,rfl⟩|⟨z,rfl,rfl,rfl⟩
 .room
  rw[show uH .bK=true from rfl,if_pos rfl,g1',aZ]
  refine#[#[rfl,rfl],ca h2 #[C,P,ts,u,a,_,rfl,ct,pa,hT,hx,hl,λb a' x' l n S' z1 z2 z3 z4 z5=>?_,λS' z1 z2 z3=>?_]]
  .room
   exact#[by simp,q _ _ _ _ _ _ z1 z2 z3 z4 z5]
  .refine#[rfl,?_]
   room;exact#[by simp,qe S' z1 z2 z3]
 .room
  rw[show uH (.str z)=false from rfl]
  simp only[ah,if_false];rw[g1',aZ]
  refine#[#[rfl,rfl],ca h1 #[C,P,z,ts,u,a,x,rfl,ct,pa,hT,hx,hl,λb a' x' l n S' z1 z2 z3 z4 z5=>?_,λS' z1 z2 z3=>?_]]
  .room
   exact#[by simp,q _ _ _ _ _ _ z1 z2 z3 z4 z5]
  .refine#[rfl,?_]
   room;exact#[by simp,qe S' z1 z2 z3]
theorem DY(h:a+j<=x.length):lV x (some (a:Nat)) (some ((a+j:Nat):Int))=(x.drop a).take j:=by
 unfold lV;simp only[cD,i8];rw[f9 h,f9 (show a<=x.length by omega),Nat.add_sub_cancel_left]
noncomputable def Qp:Spec:=λus S Q _=>∃n x p e ts,us=[.loc n,.str x,a9 p,.bl e]/\S[n]?=some (.lst (ts.map enc))/\nV ts/\x.length<=1000/\p<=x.length/\∀b a' y' l m S',zA ts e p (x.drop p) b a' y' l->Ext S S'->S'[m]?=some (.lst l)->Q (.tup [.loc m,a9 a',.bl b]) S'
theorem UJ(Γ:bY)(h1:Γ "_law_open"=Uw)(h2:Γ "_law_token"=M8):Keeps Γ lG 2 Qp:=by
  rintro us S Q E ⟨n,x,p,e,ts,rfl,gn,hT,hl,hp,q⟩;unfold lG;room;refine#[by simp,?_];room;have x0:Ext S (S++[SO.lst []]):=Ext.app _;refine#[x.length+1,lL (λN env S1=>∃(a:Nat)(acc:List U)(x5:Option U),N=x.length-a/\a<=x.length/\acc.length<=a/\env=[some (.loc n),some (.str x),some (a9 a),some (.bl e),some (.loc S.length),x5]/\Ext S S1/\S1[S.length]?=some (.lst acc)/\∀b a' y' l,zA ts e a (x.drop a) b a' y' l->zA ts e p (x.drop p) b a' y' (acc++l))
    ?_ _ (x.length-p) _ _ ∅ #[p,[],none,rfl,hp,by simp,rfl,x0,by simp,λb a' y' l h=>h]]
  rintro N env S1 K ⟨a,acc,x5,rfl,ha,hac,rfl,x1,g1,inv⟩ hK;have jI:∀{S2:bJ},Ext S1 S2->¬FO ts e (x.drop a)->Rest Γ (.cons (.ret (.tup (.cons @4 (.cons @2 (.cons (.lit (.bl false)) .nil))))) .nil) #[λ_ S1=>Q .bK S1,Q,λ_=>E] [some (.loc n),some (.str x),some (a9 a),some (.bl e),some (.loc S.length),x5] S2:=λx2 z=>by
    room;refine#[by simp,q _ _ _ _ _ _ (inv _ _ _ _ (.jI z)) (x1.trans x2) ?_];rw[bb];exact x2.get g1
  room;refine#[∅,?_];by_cases y:a<x.length
  · have:((a:Int)<(x.length:Int)):=∅
    simp only[this,decide_true,if_true];have dl:(x.drop a).length=x.length-a:=by simp
    have ne:x.drop a≠[]:=λz=>by rw[z] at dl;simp at dl;omega
    have go:∀{S2:bJ},Ext S1 S2->FO ts e (x.drop a)->Rest Γ (.cons (.set 5 (.call "_law_token" (.cons @0 (.cons @1 (.cons @2 .nil)))))
     (.cons (.ifs (.cg (.cmp .KA @5 (.lit .bK))) (.cons (.ret (.tup (.cons @4 (.cons @2 (.cons (.lit (.bl true)) .nil))))) .nil) .nil)
     (.cons (.ex (.kW .append @4 (.cons (.tup (.cons (.ix @5 ↑0) (.cons (.sl @1 (.e @2) (.e (.bin .add @2 (.ix @5 ↑1)))) .nil))) .nil)))
     (.cons (.set 2 (.bin .add @2 (.ix @5 ↑1))) .nil)))) #[K,Q,λ_=>E] [some (.loc n),some (.str x),some (a9 a),some (.bl e),some (.loc S.length),x5] S2:=by
      intro S2 x2 nx;room;refine ca h2 #[n,x,a,ts,rfl,(x1.trans x2).get gn,hT,hl,ha,λf S3 bs x3=>?_];have g3:=(x2.trans x3).get g1;rcases f with _|⟨i,j⟩
      · room
        refine#[by simp,q _ _ _ _ _ _ (inv _ _ _ _ (.bad nx bs)) (x1.trans (x2.trans x3)) ?_];rw[bb];exact g3
      · have jl:=bs.1
        unfold uR;room;rw[g3,aH]
        have e1:((a:Int)+((j:Nat):Int))=((a+j:Nat):Int):=∅
        simp only[true_and,jC,iF,aP];refine#[by simp,by simp,?_];simp only[EM];room;rw[e1,DY ∅]
        refine#[#[λi e=>by injection e with e;omega,λi e=>by injection e with e;omega],∅,by simp,?_];rw[g3,aH]
        refine#[∅,?_];room;simp only[iF,aP];refine#[by simp,?_];room;rw[e1]
        have x4:Ext S (S3.set S.length (.lst (acc++[.tup [a9 i,.str ((x.drop a).take j)]]))):=by
          have:=x1.trans (x2.trans x3);exact#[by rw[cZ];exact this.1,λn hn=>by rw[av ∅];exact this.2 n hn]
        refine hK (x.length-(a+j)) _ _ ∅ #[a+j,_,_,rfl,∅,by simp;omega,rfl,x4,gs g3,λb a' y' l h=>?_];rw[<-wH] at h;have:=inv _ _ _ _ (.go nx bs h)
        rwa [bp]
    cases e with
    |true=>exact go .refl #[ne,.inl rfl]
    |false=>
      simp only[ah,if_false,EM,AV];refine#[#[λi e=>by injection e with e;omega,λi e=>by cases e],∅,?_];refine ca h1 #[n,x.drop a,ts,rfl,x1.get gn,hT,∅,λb S2 hb x2=>?_];room;cases b with
      |true=>exact jI x2 λz=>(z.2.resolve_left (by simp)) (hb.mp rfl)
      |false=>exact go x2 #[ne,.inr λz=>by have:=hb.mpr z;simp at this]
  · have:¬((a:Int)<(x.length:Int)):=∅
    simp only[this,decide_false,ah,if_false];exact jI .refl λz=>z.1 (dG ∅)
noncomputable def zO(m:List Nat)(c:Nat):List Nat:=if m.contains c=true then [92,c] else [c]
theorem CH(m:List Nat)(c:Nat):(zO m c).length<=2:=by unfold zO;split<;>simp
noncomputable def Q6(R:List Nat):List Nat:=zO MW (R.headD 0)++[45]++zO MW (R.getLastD 0)
noncomputable def Nc(R:List Nat):List (List Nat):=if (R.map (zO MW)).flatten.length<=(Q6 R).length then R.map (zO MW) else [Q6 R]
noncomputable def Xv(st:List (List Nat)×List Nat)(c:Nat):List (List Nat)×List Nat:=if iE (st.2++[c]) SG=true then(st.1,st.2++[c]) else(st.1++[st.2],[c])
noncomputable def Q7(l:List Nat):List (List Nat):=(l.foldl Xv ([],[])).1++[(l.foldl Xv ([],[])).2]
noncomputable def Fo(l:List Nat):List (List Nat):=(Q7 l).flatMap Nc
noncomputable def Qq:List (List Nat)->List Nat
 |[]=>[]
 |x::r=>if [94].isPrefixOf x=true then(if r.isEmpty=true then 92::x else r.flatten++x) else(x::r).flatten
noncomputable def Q8(l:List Nat):List (List Nat):=(if l==[] then [] else [[91]++Qq (Fo l)++[93]])++if l==SG then [] else [[91,94]++(Fo (dC l)).flatten++[93]]
noncomputable def Xw:List (List Nat)->List Nat
 |[]=>[]
 |t::ts=>ts.foldl (λb x=>if x.length<b.length then x else b) t
noncomputable def JE(l:List Nat):List Nat:=if l.length=1 then zO MO (l.headD 0) else Xw (Q8 l)
noncomputable def Fp(l:List Nat):Bool:=decide (l.length<=95)&&((Q7 l).all λR=>!(R==[])&&decide (R.length<=95))&&decide ((Q7 l).length<=100)&&decide ((Fo l).length<=200)&&decide ((Fo l).flatten.length<=400) && !(Fo l==[])
noncomputable def Qr:Spec:=λus S Q _=>∃c m,us=[.str [c],.str m]/\Q (.str (zO m c)) S
theorem UK(Γ:bY):Keeps Γ lj 0 Qr:=by
 rintro us S Q E ⟨c,m,rfl,q⟩;unfold lj;room;unfold zO at q;by_cases z:m.contains c=true
 .rw[if_pos z] at q ⊢
  exact#[by simp,q]
 .rw[if_neg z] at q ⊢
  exact q
theorem r6:∀ts:List (List Nat),k9 [] ts=ts.flatten
 |[]=>rfl
 |[x]=>by simp[k9]
 |x::y::r=>by
  rw[k9,r6 (y::r)]
  .simp
  .simp
theorem zB(ts:List (List Nat)):(ts.map cQ).sum+ts.length*([]:List Nat).length=ts.flatten.length:=by rw[List.length_flatten];simp
noncomputable def UL:Spec:=λus S Q _=>∃R,us=[.str R]/\R≠[]/\R.length<=95/\∀n S',Ext S S'->S'[n]?=some (.lst ((Nc R).map .str))->Q (.loc n) S'
theorem I0(m:List Nat):∀R:List Nat,(R.map (zO m)).flatten.length<=2*R.length
 |[]=>by simp
 |c::r=>by
  have:=I0 m r;have:=CH m c;rw[aD,mj,aB,aQ];omega
theorem UM(Γ:bY)(h1:Γ "sign_text"=Qr):Keeps Γ lu 2 UL:=by
 rintro us S Q E ⟨R,rfl,ne,hl,q⟩;unfold lu;have f2:=I0 MW R;room;refine nA (S:=S) _ ((R.map (zO MW)).map .str) (by simp) (by simp;omega) (λ_ _=>trivial) (λu S' k h=>h) (λi u v hu hv S' k x hk=>?_) λS1 x1=>?_
 .rw[au] at hu
  obtain⟨c,e,rfl⟩:=ag.mp hu;rw[au,au,e] at hv;cases hv;exact ca h1 #[c,MW,rfl,hk S' .refl]
 have g2:(S1++[SO.lst ((R.map (zO MW)).map U.str)])[S1.length]?=some (.lst ((R.map (zO MW)).map U.str)):=by simp
 have x2:Ext S (S1++[SO.lst ((R.map (zO MW)).map U.str)]):=x1.trans (Ext.app _);generalize S1.length=m at g2;generalize S1++[SO.lst ((R.map (zO MW)).map U.str)]=S2 at g2 x2;have t1:=CH MW (R.headD 0);have t2:=CH MW (R.getLastD 0);have wl:(Q6 R).length<=5:=by unfold Q6;rw[aB,aB];simp only[aQ,de];omega
 have e0:tJ R 0=some (R.headD 0):=by
  cases R with
  |nil=>exact absurd rfl ne
  |cons a r=>exact jC
 have el:tJ R (-1)=some (R.getLastD 0):=by
  have:0<R.length:=Ei.mpr ne;unfold tJ Oq;rw[if_neg ∅,if_pos ∅]
  simp only[FD];rw[List.getLastD_eq_getLast?,List.getLast?_eq_getElem?]
  have e:((-1:Int)+(R.length:Int)).toNat=R.length-1:=∅
  rw[e,aa ∅]
  rfl
 room;rw[e0,el]
 simp only[aP];refine#[∅,ca h1 #[_,MW,rfl,#[by rw[gk];omega,∅,ca h1 #[_,MW,rfl,#[by rw[aB,gk];omega,?_]]]]];have ew:zO MW (R.headD 0)++[45]++zO MW (R.getLastD 0)=Q6 R:=rfl;rw[ew]
 room;refine#[_,g2,by rw[zB];omega,?_];rw[r6]
 refine#[∅,∅,?_];unfold Nc at q;by_cases z:(R.map (zO MW)).flatten.length<=(Q6 R).length
 .rw[if_pos z] at q
  rw[if_pos (by simpa using z)]
  exact q _ _ x2 g2
 .rw[if_neg z] at q
  rw[if_neg (by simpa using z)]
  exact#[by simp,q _ _ (x2.trans (Ext.app _)) (by simp)]
noncomputable def UN:Spec:=λus S Q _=>∃l,us=[.str l]/\l.length<=95/\∀n S',Ext S S'->S.length<=n->S'[n]?=some (.lst ((Q7 l).map .str))->Q (.loc n) S'
theorem UO(Γ:bY):Keeps Γ yV 3 UN:=by
 rintro us S Q E ⟨l,rfl,hl,q⟩;unfold Q7 Xv at q;unfold yV;generalize hG:SG=G at q ⊢;room;refine#[by simp,?_];have x0:Ext S (S++[SO.lst []]):=Ext.app _;have g0:(S++[SO.lst []])[S.length]?=some (.lst []):=by simp
 room;have keep:∀{S1:bJ}{o:SO},Ext S S1->Ext S (S1.set S.length o):=λx=>#[by rw[cZ];exact x.1,λn hn=>by rw[av ∅];exact x.2 n hn]
 refine eF (λi env S1=>∃(st:List (List Nat)×List Nat)(x3:Option U),env=[some (.str l),some (.loc S.length),some (.str st.2),x3]/\S1[S.length]?=some (.lst (st.1.map .str))/\Ext S S1/\st.1.length<=i/\st.2.length<=i/\i<=l.length/\st=(l.take i).foldl (λst c=>if iE (st.2++[c]) G=true then(st.1,st.2++[c]) else(st.1++[st.2],[c])) ([],[])) (λ_ _ _ _=>trivial) _ ?_ ?_ #[([],[]),none,rfl,g0,x0,by simp,by simp,∅,rfl]
 .rintro i u env S1 K hu ⟨st,x3,rfl,g1,x1,l1,l2,hi,e⟩ hK
  rw[au] at hu;obtain⟨c,hc,rfl⟩:=ag.mp hu;have il:=(ae.mp hc).1;have et:l.take (i+1)=l.take i++[c]:=by rw[cf,hc];rfl
  room;refine#[by simp;omega,?_];show(if (!iE (st.2++[c]) G)=true then _ else _)
  by_cases z:iE (st.2++[c]) G=true
  .rw[z]
   simp only[bO,ah,if_false];room;refine#[by simp;omega,?_];room;refine hK _ _ #[(st.1,st.2++[c]),_,rfl,g1,x1,by simp;omega,by simp;omega,il,?_];rw[et,mi,<-e]
   simp only[vE,wG,if_pos z]
  .rw[fA _ |>.mp z]
   simp only[bV,if_true];room;rw[g1,aH]
   refine#[trivial,by simp;omega,?_];room;refine#[by simp,?_];room;refine hK _ _ #[(st.1++[st.2],[c]),_,rfl,by rw[gs g1];simp,keep x1,by simp;omega,by simp,il,?_];rw[et,mi,<-e]
   simp only[vE,wG,if_neg z]
 .rintro env S1 ⟨st,x3,rfl,g1,x1,l1,l2,hi,e⟩
  room;rw[g1,aH]
  rw[ar] at l1 e;rw[b9] at e;refine#[trivial,by simp;omega,?_];room;exact q _ _ (keep x1) (ax _) (by rw[gs g1,<-e];simp)
noncomputable def UP:Spec:=λus S Q _=>∃l,us=[.str l]/\Fp l=true/\∀n S',Ext S S'->S'[n]?=some (.lst ((Fo l).map .str))->Q (.loc n) S'
theorem DZ{α β:Type}(f:α->List β):∀(l:List α)(i:Nat),((l.take i).flatMap f).length<=(l.flatMap f).length
 |[],i=>by simp
 |a::l,0=>by simp
 |a::l,i+1=>by
  have:=DZ f l i;rw[Ef,F9,F9,aB,aB];omega
theorem UQ(Γ:bY)(h1:Γ "runs"=UN)(h2:Γ "run_items"=UL):Keeps Γ jm 2 UP:=by
 rintro us S Q E ⟨l,rfl,ok,q⟩;unfold Fp at ok;simp only[af,decide_eq_true_eq] at ok;obtain⟨⟨⟨⟨⟨o1,o2⟩,o3⟩,o4⟩,o5⟩,o6⟩:=ok;rw[bR] at o2;unfold Fo at q o4;unfold jm;room;refine#[by simp,?_];have x0:Ext S (S++[SO.lst []]):=Ext.app _;have g0:(S++[SO.lst []])[S.length]?=some (.lst []):=by simp
 have l0:(S++[SO.lst []]).length=S.length+1:=by simp
 generalize S++[SO.lst []]=S1 at x0 g0 l0;room;refine ca h1 #[l,rfl,o1,λn S2 x2 nl g2=>?_];generalize Q7 l=Rs at o2 o3 o4 q g2;room;rw[g2,aH]
 refine eF (λi env S3=>∃x,env=[some (.str l),some (.loc S.length),x]/\S3[S.length]?=some (.lst (((Rs.take i).flatMap Nc).map .str))/\S3[n]?=some (.lst (Rs.map .str))/\Ext S S3) (λi env S3 #[_,_,_,h,_]=>h) _ ?_ ?_ #[none,rfl,by simpa using x2.get g0,g2,x0.trans x2]
 .rintro i u env S3 K hu ⟨x,rfl,g3,g4,x3⟩ hK
  rw[au] at hu;obtain⟨R,hc,rfl⟩:=ag.mp hu;have hR:=o2 R (aw hc);simp only[af,decide_eq_true_eq,gv,beq_eq_false_iff_ne] at hR;have tk:(Rs.take (i+1)).flatMap Nc=(Rs.take i).flatMap Nc++Nc R:=by rw[cf,hc];simp
  have tl:=DZ Nc Rs (i+1);rw[tk,aB] at tl;room;rw[g3,aH]
  refine#[trivial,ca h2 #[R,rfl,hR.1,hR.2,λm S4 x4 g5=>?_]];room;rw[x4.get g3,g5,aH,aH]
  refine#[by rw[ar,ar];omega,?_];room;refine hK _ _ #[_,rfl,by rw[gs (x4.get g3),tk];simp,?_,?_]
  .rw[av ∅];exact x4.get g4
  .have:=x3.trans x4
   exact#[by rw[cZ];exact this.1,λn hn=>by rw[av ∅];exact this.2 n hn]
 .rintro env S3 ⟨x,rfl,g3,g4,x3⟩
  rw[ar,b9] at g3;room;exact q _ _ x3 g3
theorem Nd(x:List Nat)(r:List (List Nat)):Qq (x::r)=if [94].isPrefixOf x=true then(if r.isEmpty=true then 92::x else r.flatten++x) else(x::r).flatten:=rfl
noncomputable def UR:Spec:=λus S Q _=>∃n its,us=[.loc n]/\S[n]?=some (.lst (its.map .str))/\its≠[]/\its.length<=200/\its.flatten.length<=400/\∀S',Ext S S'->Q (.str (Qq its)) S'
theorem US(Γ:bY):Keeps Γ oZ 0 UR:=by
 rintro us S Q E ⟨n,its,rfl,g,ne,hl,hf,q⟩;unfold oZ;cases its with
 |nil=>exact absurd rfl ne
 |cons x r=>
  rw[mj,aB] at hf;simp only[aQ] at hl;have a0:∀{R:U->Prop},opt (tJ ((x::r).map U.str) 0) R=R (.str x):=by intro R;rw[aD,jC];rfl
  room;rw[g,aH]
  rw[a0]
  room;rw[Nd] at q;by_cases z:[94].isPrefixOf x=true
  .rw[if_pos z] at q
   rw[z]
   simp only[bO,ah,if_false];room;rw[uL g]
   simp only[aP,ar,aQ];refine#[∅,?_];cases r with
   |nil=>
    have q:∀S',Ext S S'->Q (.str (92::x)) S':=q;rw[if_pos (by simp)]
    room;rw[g,aH]
    rw[a0]
    room;exact#[by simp at hf ⊢;omega,q S .refl]
   |cons y r=>
    rw[if_neg (by simp)] at q;rw[if_neg (by simp;omega)]
    room;simp only[EM];rw[g,aH]
    have ec:lV ((x::y::r).map U.str) (some 1) none=(y::r).map U.str:=xV (a:=1);rw[ec]
    refine#[#[λi e=>(by injection e with e;omega),λi e=>(by cases e)],y::r,by simp,by rw[zB];omega,?_];rw[r6]
    show getL (S++_)[n]? _
    rw[(Ext.app _:Ext S _).get g,aH,a0]
    room;exact#[∅,q _ (Ext.app _)]
  .rw[if_neg z] at q
   rw[fA _ |>.mp z]
   simp only[bV,if_true];room;refine#[x::r,g,by rw[zB,mj,aB];omega,?_];rw[r6]
   exact q S .refl
theorem Qs(its:List (List Nat)):(Qq its).length<=its.flatten.length+1:=by
 cases its with
 |nil=>simp[Qq]
 |cons x r=>
  rw[Nd]
  split
  .split
   .rename_i z;have:r=[]:=by simpa using z
    subst this;simp
   .simp;omega
  .simp
noncomputable def Qt(l:List Nat):Bool:=(l==[]||Fp l)&&(l==SG||Fp (dC l))
noncomputable def UT:Spec:=λus S Q _=>∃l,us=[.str l]/\Qt l=true/\∀n S',Ext S S'->S'[n]?=some (.lst ((Q8 l).map .str))->Q (.loc n) S'
theorem A2(h:Fp l=true):(Fo l).length<=200/\(Fo l).flatten.length<=400/\Fo l≠[]:=by
 unfold Fp at h;simp only[af,decide_eq_true_eq,gv,beq_eq_false_iff_ne] at h;exact#[h.1.1.2,h.1.2,h.2]
noncomputable def YN:dj:=#v[.ifs (.cg (.cmp .ne @0 (.lit (.str SG)))) #v[.ex (.kW .append @1 #v[.bin .add (.bin .add ↑[91,94] (.kW .join (.lit (.str [])) #v[.call "class_items" #v[.call "all_but" #v[@0]]])) ↑[93]])] .nil,.ret @1]
theorem UU(Γ:bY)(h1:Γ "class_items"=UP)(h2:Γ "guarded"=UR)(h3:Γ "all_but"=spT dC):Keeps Γ jk 1 UT:=by
 rintro us S Q E ⟨l,rfl,ok,q⟩;unfold Qt at ok;rw[af,aO,aO] at ok;have keep:∀{S1:bJ}{o:SO},Ext S S1->Ext S (S1.set S.length o):=λx=>#[by rw[cZ];exact x.1,λn hn=>by rw[av ∅];exact x.2 n hn]
 have fin:∀S1 acc,Ext S S1->S1[S.length]?=some (.lst (acc.map .str))->acc.length<=10->acc=(if l==[] then [] else [[91]++Qq (Fo l)++[93]])->Rest Γ YN #[λ_ S1=>Q .bK S1,Q,λ_=>E] [some (.str l),some (.loc S.length)] S1:=by
  intro S1 acc x1 g1 al ea;unfold Q8 at q;rw[<-ea] at q;unfold YN;have ok2:=ok.2;generalize SG=G at q ok2;room;by_cases z:(l==G)=true
  .rw[z]
   rw[if_pos z,bb] at q;simp only[bO,ah,if_false];room;exact q _ _ x1 g1
  .rw[fA _ |>.mp z]
   rw[if_neg z] at q;simp only[bV,if_true];have ck:=ok2.resolve_left z;obtain⟨f1,f2,f3⟩:=A2 ck;room;rw[g1,aH]
   refine#[trivial,ca h3 #[l,rfl,λS2 x2=>ca h1 #[_,rfl,ck,λn S3 x3 g3=>#[_,g3,by rw[zB];omega,?_]]]];rw[r6]
   refine#[by simp only[aQ,de];omega,by rw[aB];simp only[aQ,de];omega,?_];show getL S3[S.length]? _;rw[(x2.trans x3).get g1,aH]
   refine#[by rw[ar];omega,?_];room;exact q _ _ (keep (x1.trans (x2.trans x3))) (by rw[gs ((x2.trans x3).get g1)];simp)
 unfold jk;room;refine#[by simp,?_];have x0:Ext S (S++[SO.lst []]):=Ext.app _;have g0:(S++[SO.lst []])[S.length]?=some (.lst []):=by simp
 generalize S++[SO.lst []]=S0 at x0 g0;room;by_cases z:(l==[])=true
 .rw[z]
  simp only[bO,ah,if_false];exact Rest.go (fin S0 [] x0 g0 (by simp) (by rw[if_pos z]))
 .rw[fA _ |>.mp z]
  simp only[bV,if_true];have ck:=ok.1.resolve_left z;obtain⟨f1,f2,f3⟩:=A2 ck;have gl:=Qs (Fo l);room;rw[g0,aH]
  refine#[trivial,ca h1 #[l,rfl,ck,λn S2 x2 g2=>ca h2 #[n,_,rfl,g2,f3,f1,f2,λS3 x3=>?_]]];room;refine#[by simp only[aQ,de];omega,by simp only[aQ,de];omega,?_];rw[(x2.trans x3).get g0,aH]
  refine#[by simp,?_];exact Rest.go (fin _ [[91]++Qq (Fo l)++[93]] (keep (x0.trans (x2.trans x3))) (by rw[gs ((x2.trans x3).get g0)];simp) (by simp) (by rw[if_neg z]))
noncomputable abbrev CL:List (List Nat):=[[97],[98],[99],[97,98],[98,99],SG,[48],[]]
theorem I9:∀l∈CL,l.length=1\/(Qt l=true/\(l==dC [10])=false/\Q8 l≠[]/\(Q8 l).all (λx=>decide (x.length<=1000))=true):=by
 decide +kernel
noncomputable def Ml:Spec:=λus S Q _=>∃l,us=[.str l]/\l∈CL/\∀S',Ext S S'->Q (.str (JE l)) S'
theorem UW(Γ:bY)(h1:Γ "sign_text"=Qr)(h2:Γ "all_but"=spT dC)(h3:Γ "class_texts"=UT):Keeps Γ jX 0 Ml:=by
 rintro us S Q E ⟨l,rfl,hl,q⟩;have fa:=I9 l hl;have ll:l.length<=95:=by
  have:∀l∈CL,l.length<=95:=⋯
  exact this l hl
 unfold jX;unfold JE at q;room;refine#[∅,?_];by_cases z:l.length=1
 .rw[if_pos z] at q
  rw[if_pos (by rw[z];rfl)]
  obtain⟨c,rfl⟩:∃c,l=[c]:=i5.mp z;room;exact ca h1 #[c,MO,rfl,q S .refl]
 .rw[if_neg z] at q
  rw[if_neg (by simp;omega)]
  obtain⟨f1,f2,f3,f4⟩:=fa.resolve_left z;room;refine ca h2 #[_,rfl,λS1 x1=>?_];room;rw[f2]
  simp only[ah,if_false];room;refine ca h3 #[l,rfl,f1,λn S2 x2 g2=>?_];cases e:Q8 l with
  |nil=>exact absurd e f3
  |cons t ts=>
   rw[e] at g2 q f4;refine#[t,ts,g2,λu hu=>?_,q S2 (x1.trans x2)];have:=bR.mp f4 u hu;simp at this;omega
theorem Qu:∀l∈CL,(JE l).length<=10:=by decide +kernel
theorem tW:JE [97,98]=[91,97,98,93]/\JE [98,99]=[91,98,99,93]/\JE SG=[91,10,45,126,93]/\JE []=[91,94,10,45,126,93]:=by decide +kernel
set_option maxRecDepth 100000 in
theorem Mm(h:l∈CL)(br:Option (List Nat->PR U)):vh br (JE l) (LP l):=by
 intro rest;simp only[bg,bP,or_false] at h;rcases h with rfl|rfl|rfl|rfl|rfl|rfl|rfl|rfl
 .rfl
 .rfl
 .rfl
 .rw[tW.1];rfl
 .rw[tW.2.1];rfl
 .rw[tW.2.2.1];rfl
 .rfl
 .rw[tW.2.2.2];rfl
noncomputable def num:Nat->Tr->Tr
 |n,.one _ l=>.one n l
 |n,.row a b=>.row (num n a) (num (n+size a) b)
 |n,.or a b=>.or (num n a) (num (n+size a) b)
 |n,.rep m a=>.rep m (num n a)
theorem r8:∀t n,enc (num n t)=enc t/\size (num n t)=size t/\bH (num n t)=bH t/\null (num n t)=null t/\oB (num n t)=oB t/\nR n (num n t)
 |.one _ l,n=>#[rfl,rfl,rfl,rfl,rfl,rfl]
 |.row a b,n=>by
  obtain⟨a1,a2,a3,a4,a5,a6⟩:=r8 a n;obtain⟨b1,b2,b3,b4,b5,b6⟩:=r8 b (n+size a);simp only[num,enc,size,bH,null,oB,nR,a1,a2,a3,a4,a5,b1,b2,b3,b4,b5];exact#[trivial,trivial,trivial,trivial,trivial,a6,b6]
 |.or a b,n=>by
  obtain⟨a1,a2,a3,a4,a5,a6⟩:=r8 a n;obtain⟨b1,b2,b3,b4,b5,b6⟩:=r8 b (n+size a);simp only[num,enc,size,bH,null,oB,nR,a1,a2,a3,a4,a5,b1,b2,b3,b4,b5];exact#[trivial,trivial,trivial,trivial,trivial,a6,b6]
 |.rep m a,n=>by
  obtain⟨a1,a2,a3,a4,a5,a6⟩:=r8 a n;cases m<;>simp only[num,enc,size,bH,null,oB,nR,a1,a2,a3,a4,a5]<;>exact#[trivial,trivial,trivial,trivial,trivial,a6]
noncomputable def wg:Nat->List Tr->List Tr
 |_,[]=>[]
 |n,t::ts=>num n t::wg (n+size t) ts
theorem D1:∀ts n,(wg n ts).map enc=ts.map enc/\Mc n (wg n ts)/\iY (wg n ts)=iY ts/\∀t∈wg n ts,∃t'∈ts,bH t=bH t'/\null t=null t'/\oB t=oB t'
 |[],n=>#[rfl,trivial,rfl,by simp[wg]]
 |t::ts,n=>by
  obtain⟨a1,a2,a3,a4,a5,a6⟩:=r8 t n;obtain⟨b1,b2,b3,b4⟩:=D1 ts (n+size t);refine#[by simp only[wg,aD,a1,b1],#[a6,by rw[a2];exact b2],by simp only[iY] at b3 ⊢;simp only[wg,aD,mL,a2,b3],λt' m=>?_];rcases bg.mp m with rfl|m
  .exact#[t,bf ..,a3,a4,a5]
  .obtain⟨t2,m2,h⟩:=b4 t' m
   exact#[t2,aV _ m2,h]
noncomputable def r9(t:Tr):Prop:=∀l∈oB t,l∈CL
theorem mJ:∀t,size t<=2^bH t
 |.one _ _=>by simp[size,bH]
 |.row a b=>by
  have h1:=mJ a;have h2:=mJ b;have p1:2^bH a<=2^max (bH a) (bH b):=bB ∅ ∅;have p2:2^bH b<=2^max (bH a) (bH b):=bB ∅ ∅;simp only[size,bH,fU];omega
 |.or a b=>by
  have h1:=mJ a;have h2:=mJ b;have p1:2^bH a<=2^max (bH a) (bH b):=bB ∅ ∅;have p2:2^bH b<=2^max (bH a) (bH b):=bB ∅ ∅;simp only[size,bH,fU];omega
 |.rep m a=>by
  have h1:=mJ a;simp only[size,bH,fU];omega
noncomputable def Mn(D:Nat):Spec:=λus S Q _=>∃(ns:List Int)(b:Int)(d:Nat),us=[.pF ns,.int b,a9 d]/\ns.length<=1000/\d<D/\∀t S',bH t<=d->r9 t->Ext S S'->Q (enc t) S'
theorem Ja(Γ:bY)(D:Nat)(h1:Γ "_law_mix"=tL.xI)(h2:Γ "_law_all"=tL.IB)(h3:Γ "_law_small"=Mn D):Keeps Γ j8 3 (Mn (D+1)):=by
 rintro us S Q E ⟨ns,b,d,rfl,hl,hd,q⟩;unfold j8;room;refine ca h1 #[ns,b,rfl,hl,λm m0 m1=>?_];room;refine#[∅,?_];room;have leaf:Rest Γ (.cons (.ret (.tup (.cons ↑[111,110,101] (.cons (.ix (.lst (.cons ↑[97] (.cons ↑[98] (.cons ↑[99] (.cons ↑[97,98] (.cons ↑[98,99] (.cons (.call "_law_all" .nil) (.cons ↑[97] (.cons ↑[98] (.cons ↑[48] (.cons (.lit (.str [])) .nil))))))))))) (.bin .mod (.bin .fdiv @3 ↑9) ↑10)) .nil)))) .nil) #[λ_ S1=>Q .bK S1,Q,λ_=>E] [some (.pF ns),some (.int b),some (a9 d),some (.int m),some (.int (m%9)),none] S:=by
  room;refine ca h2 #[rfl,λG hG=>?_];refine#[by simp,∅,∅,?_];have gl:(S++[SO.lst [U.str [97],U.str [98],U.str [99],U.str [97,98],U.str [98,99],U.str G,U.str [97],U.str [98],U.str [48],U.str []]])[S.length]?=some (.lst ([[97],[98],[99],[97,98],[98,99],G,[97],[98],[48],[]].map U.str)):=by simp
  rw[gl,aH]
  refine rP (km _ ∅) (by simp;exact iO _ ∅) λu hu=>?_
  obtain⟨l,ml,rfl⟩:=bx.mp hu;refine#[by simp,q (.one 0 l) _ (dw _) (λl' m'=>?_) (Ext.app _)];have:l'=l:=by simpa[oB] using m'
  subst this;rw[hG] at ml
  revert ml
  simp only[bg];rintro(h|h|h|h|h|h|h|h|h|h|h)<;>simp_all
 by_cases z:d=0\/m%9<4
 .have z1:((d:Int)== 0)=true\/(((d:Int)== 0)=false/\decide (m%9<4)=true):=by
   by_cases y:d=0
   .subst y;exact .inl rfl
   .refine .inr #[by rw[beq_eq_false_iff_ne];omega,decide_eq_true ∅]
  rcases z1 with z1|⟨z1,z2⟩
  .simp only[z1,if_true];exact leaf
  .simp only[z1,z2,ah,if_false,if_true];exact leaf
 .have z1:((d:Int)== 0)=false:=by rw[beq_eq_false_iff_ne];omega
  have z2:decide (m%9<4)=false:=decide_eq_false ∅;obtain⟨d,rfl⟩:∃d',d=d'+1:=#[d-1,∅]
  have ed:(((d+1:Nat):Int)-1)=(d:Int):=∅
  simp only[z1,z2,ah,if_false];room;by_cases y:m%9<7
  .simp only[y,decide_true,if_true]
   room;refine#[∅,∅,?_];refine fQ _ (λi acc S1=>Ext S S1/\∃l:List Tr,acc=l.map enc/\l.length=i/\∀t∈l,bH t<=d/\r9 t) (λi acc S1 hi #[x,l,e1,e2,_]=>#[trivial,by rw[e1,ar];simp at hi;omega]) (λi u acc S1 k hu hi hk=>?_) (λacc S1 h=>?_) #[.refl,[],rfl,rfl,by simp]
   .obtain⟨x1,l,rfl,e2,inv⟩:=hi
    obtain⟨rfl,_⟩:=mE (n:=2) hu;room;rw[ed]
    refine#[.inl ∅,ca h3 #[ns,_,d,rfl,hl,∅,λt S2 dt lt x2=>hk _ _ #[x1.trans x2,l++[t],by simp,by simp[e2],λt' m'=>?_]]];rcases aE.mp m' with m'|m'
    .exact inv t' m'
    .simp at m';subst m';exact#[dt,lt]
   .obtain⟨x1,l,rfl,e2,inv⟩:=h
    have e2:l.length=2:=e2;obtain⟨a,b,rfl⟩:∃a b,l=[a,b]:=by
     match l,e2 with
     |[a,b],_=>exact#[a,b,rfl]
    have ia:=inv a (by simp);have ib:=inv b (by simp);have g2:(S1++[SO.lst ([a,b].map enc)])[S1.length]?=some (.lst [enc a,enc b]):=by simp
    have x2:Ext S (S1++[SO.lst ([a,b].map enc)]):=x1.trans (Ext.app _);generalize S1.length=m2 at g2;generalize S1++[SO.lst ([a,b].map enc)]=S2 at g2 x2;room;refine#[by simp,?_];have gl:(S2++[SO.lst [U.str [114,111,119],U.str [111,114],U.str [114,111,119]]])[S2.length]?=some (.lst [U.str [114,111,119],U.str [111,114],U.str [114,111,119]]):=by simp
    rw[gl,aH,(Ext.app _:Ext S2 _).get g2]
    refine rP ∅ (by simp;omega) λu hu=>#[by simp,?_]
    have lv:∀l∈oB a++oB b,l∈CL:=λl hl=>(aE.mp hl).elim (ia.2 l) (ib.2 l)
    simp only[bg,bP,or_false] at hu;have dd:max (bH a) (bH b)+1<=d+1:=∅
    rcases hu with rfl|rfl|rfl
    .exact q (.row a b) _ dd lv (x2.trans (Ext.app _))
    .exact q (.or a b) _ dd lv (x2.trans (Ext.app _))
    .exact q (.row a b) _ dd lv (x2.trans (Ext.app _))
  .simp only[y,decide_false,ah,if_false]
   room;refine#[by simp,∅,∅,?_];have gl:(S++[SO.lst [U.str [115,116,97,114],U.str [112,108,117,115],U.str [109,97,121,98,101]]])[S.length]?=some (.lst [U.str [115,116,97,114],U.str [112,108,117,115],U.str [109,97,121,98,101]]):=by simp
   rw[gl,aH]
   refine rP (km _ ∅) (by simp;exact iO _ ∅) λu hu=>?_
   rw[ed]
   refine#[.inl ∅,ca h3 #[ns,_,d,rfl,hl,∅,λt S2 dt lt x2=>#[by simp,?_]]];have xx:Ext S S2:=(Ext.app _).trans x2;have dd:bH t+1<=d+1:=∅
   simp only[bg,bP,or_false] at hu;rcases hu with rfl|rfl|rfl
   .exact q (.rep .star t) _ dd lt xx
   .exact q (.rep .plus t) _ dd lt xx
   .exact q (.rep .may t) _ dd lt xx
noncomputable def Qv:Spec:=λus S Q _=>∃(ns:List Int)(k:Int),us=[.pF ns,.int 0,.int k,.int 2]/\ns.length<=1000/\0<=k/\k<=4/\∀ts n S',nV ts->(∀t∈ts,r9 t)->Ext S S'->S'[n]?=some (.lst (ts.map enc))->Q (.loc n) S'
theorem UX(Γ:bY)(h1:Γ "_law_small"=Mn 3)(h2:Γ "_law_nothing"=zw 5):Keeps Γ j9 3 Qv:=by
 rintro us S Q E ⟨ns,k,rfl,hl,k0,k4,q⟩;unfold j9;room;refine#[by simp,?_];have x0:Ext S (S++[SO.lst []]):=Ext.app _;have g0:(S++[SO.lst []])[S.length]?=some (.lst []):=by simp
 room;refine#[∅,∅,?_];refine eF (λi env S1=>∃(l:List Tr)(x5 x6:Option U),env=[some (.pF ns),some (.int 0),some (.int k),some (.int 2),some (.loc S.length),x5,x6]/\Ext S S1/\S1[S.length]?=some (.lst (l.map enc))/\l.length=i/\iY l<=5*i/\∀t∈l,bH t<4/\null t=false/\r9 t) (λ_ _ _ _=>trivial) _ ?_ ?_ #[[],none,none,rfl,x0,g0,rfl,by simp[iY],by simp]
 .rintro i u env S1 K hu ⟨l,x5,x6,rfl,x1,g1,ll,sl,inv⟩ hK
  obtain⟨rfl,hi⟩:=mE hu;room;refine#[.inl ∅,ca h1 #[ns,_,2,rfl,hl,∅,λt S2 dt lt x2=>?_]];have st:size t<=4:=aT (mJ t) (bB (n:=2) ∅ dt);have g2:=x2.get g1;room;refine ca h2 #[_,rfl,.inl #[t,rfl,∅,λS3 x3=>?_]];have g3:=x3.get g2;have fin:∀(t':Tr)(x5 x6:Option U),bH t'<4->null t'=false->r9 t'->size t'<=5->x6=some (enc t')->Rest Γ (.cons (.ex (.kW .append @4 (.cons @6 .nil))) .nil) #[K,Q,λ_=>E] [some (.pF ns),some (.int 0),some (.int k),some (.int 2),some (.loc S.length),x5,x6] S3:=by
   rintro t' x5 x6 d1 d2 d3 d4 rfl;room;rw[g3,aH]
   refine#[trivial,by simp;omega,?_];room;have x13:=(x1.trans x2).trans x3;refine hK _ _ #[l++[t'],_,_,rfl,#[by rw[cZ];exact x13.1,λn hn=>by rw[av ∅];exact x13.2 n hn],by rw[gs g3];simp,by simp[ll],by simp[iY] at sl ⊢;omega,λt2 m2=>?_];rcases aE.mp m2 with m2|m2
   .exact inv t2 m2
   .simp at m2;subst m2;exact#[d1,d2,d3]
  room;cases nt:null t with
  |false=>
   simp only[ah,if_false];exact fin t _ _ ∅ nt lt ∅ rfl
  |true=>
   simp only[if_true];room;refine#[∅,by simp,?_];refine rP (km _ ∅) (by simp;exact iO _ ∅) λc hc=>#[by simp,by simp,by simp,?_]
   refine fin (.row (.one 0 [c]) t) _ _ ?_ (by simp[null]) (λl hl=>?_) (by simp only[size];omega) rfl
   .show max 0 (bH t)+1<4;omega
   .rcases aE.mp hl with h|h
    .have:l=[c]:=by simpa[oB] using h
     subst this;simp only[bg,bP,or_false] at hc;rcases hc with rfl|rfl|rfl<;>simp
    .exact lt l h
 .rintro env S1 ⟨l,x5,x6,rfl,x1,g1,ll,sl,inv⟩
  room;have ll:l.length<=4:=by rw[ll];simp;omega
  obtain⟨e1,e2,e3,e4⟩:=D1 l 1;have el:(wg 1 l).length=l.length:=by have:=congrArg cQ e1;simpa using this
  refine q (wg 1 l) _ S1 #[∅,e2,λt m=>?_,λt m=>?_,by rw[e3];simp only[ar,sj] at sl;omega] (λt m=>?_) x1 (by rw[e1];exact g1)
  .obtain⟨t',m',h⟩:=e4 t m;rw[h.2.1];exact(inv t' m').2.1
  .obtain⟨t',m',h⟩:=e4 t m;rw[h.1];exact(inv t' m').1
  .obtain⟨t',m',h⟩:=e4 t m
   intro l hl;rw[h.2.2] at hl;exact(inv t' m').2.2 l hl
noncomputable def Qw:Spec:=λus S Q _=>∃(ns:List Int)(b k:Int),us=[.pF ns,.int b,.int k]/\ns.length<=1000/\0<=k/\k<=12/\∀x S',(∀c∈x,c∈SG)->x.length<=12->Ext S S'->Q (.str x) S'
theorem UY(Γ:bY)(h1:Γ "_law_mix"=tL.xI):Keeps Γ lD 0 Qw:=by
 rintro us S Q E ⟨ns,b,k,rfl,hl,k0,k10,q⟩;unfold lD;room;refine#[∅,∅,?_];refine fQ _ (λi acc S1=>S1=S/\∃x:List Nat,acc=(x.map λc=>[c]).map U.str/\x.length=i/\∀c∈x,c∈SG) (λi acc S1 hi #[x,l,e1,e2,_]=>#[trivial,by rw[e1];simp at hi ⊢;omega]) (λi u acc S1 k' hu hi hk=>?_) (λacc S1 h=>?_) #[rfl,[],rfl,rfl,by simp]
 .obtain⟨rfl,x,rfl,e2,inv⟩:=hi
  obtain⟨rfl,hi⟩:=mE hu;room;refine ca h1 #[ns,_,rfl,hl,λm m0 m1=>?_];room;refine#[∅,by simp,?_];refine rP (km _ ∅) (by simp;exact iO _ ∅) λc hc=>hk _ _ #[rfl,x++[c],by simp,by simp[e2],λc' m'=>?_]
  rcases aE.mp m' with m'|m'
  .exact inv c' m'
  .simp at m';subst m'
   have:∀c∈[97,97,98,98,99,48,97,10,98,97,98],c∈SG:=⋯
   exact this _ hc
 .obtain⟨rfl,x,rfl,e2,inv⟩:=h
  have xl:x.length<=12:=by rw[e2];simp;omega
  refine#[x.map λc=>[c],by simp,?_,?_]
  .have:∀l:List Nat,((l.map λc=>[c]).map cQ).sum=l.length:=λl=>by induction l with
    |nil=>rfl
    |cons a l ih=>simp at ih ⊢;omega
   rw[this];simp;omega
  .have e:∀l:List Nat,(l.map λc=>[c]).flatten=l:=λl=>by induction l with
    |nil=>rfl
    |cons a l ih=>rw[aD,mj,ih];rfl
   rw[r6,e]
   exact q x _ inv xl (Ext.app _)
noncomputable def Qx:Mk->Nat
 |.star=>42
 |.plus=>43
 |.may=>63
noncomputable def tx:Tr->List Nat×List Nat
 |.one _ l=>(JE l,JE l)
 |.rep m a=>((tx a).1++[Qx m],(tx a).1++[Qx m])
 |.row a b=>(40::((tx a).1++(tx b).1++[41]),(tx a).1++(tx b).1)
 |.or a b=>(40::((tx a).2++124::(tx b).2++[41]),40::((tx a).2++124::(tx b).2++[41]))
noncomputable def wr:Tr->List Nat
 |.or a b=>(tx a).2++124::(tx b).2
 |t=>(tx t).2
theorem cX:∀t,r9 t->(tx t).1.length+3<=13*2^bH t/\(tx t).2.length<=(tx t).1.length/\(wr t).length<=(tx t).1.length
 |.one _ l,h=>by
  have:=Qu l (h l (by simp[oB]));simp only[tx,wr,bH];omega
 |.rep m a,h=>by
  have:=cX a h;simp only[tx,wr,bH,fU,aB,gk];omega
 |.row a b,h=>by
  have h1:=cX a λl m=>h l (bT _ m)
  have h2:=cX b λl m=>h l (aW _ m)
  have p1:2^bH a<=2^max (bH a) (bH b):=bB ∅ ∅;have p2:2^bH b<=2^max (bH a) (bH b):=bB ∅ ∅;simp only[tx,wr,bH,fU,aB,aQ,de];omega
 |.or a b,h=>by
  have h1:=cX a λl m=>h l (bT _ m)
  have h2:=cX b λl m=>h l (aW _ m)
  have p1:2^bH a<=2^max (bH a) (bH b):=bB ∅ ∅;have p2:2^bH b<=2^max (bH a) (bH b):=bB ∅ ∅;simp only[tx,wr,bH,fU,aB,aQ,de];omega
theorem kG{t:Tr}(h:r9 t)(d:bH t<4):(tx t).1.length<=200/\(tx t).2.length<=200/\(wr t).length<=200:=by
 have:=cX t h;have p:2^bH t<=2^3:=bB ∅ ∅;omega
section
variable{br:Option (List Nat->PR U)}{x:List Nat}{t:U}
theorem qP(h:vi br x t):vj br x t:=#[[t],by simp,by have:=qL.cons h .nil;rwa [bb] at this,rfl]
theorem zC(h:vj br x t):Ff br x t:=#[x,[],t,[],by simp,h,.nil,rfl]
theorem vA(h:vh br x t):vi br x t:=#[x,t,[],by simp,h,by simp,rfl]
end
theorem pB:∀t k,r9 t->bH t<=k->vi (sH k) (tx t).1 (enc t)/\vj (sH k) (tx t).2 (enc t)/\Ff (sH k) (wr t) (enc t)
 |.one _ l,k,h,d=>by
  have a:=vA (Mm (h l (by simp[oB])) (sH k));exact#[a,qP a,zC (qP a)]
 |.rep m a,k,h,d=>by
  have d:bH a+1<=k:=d;obtain⟨x,ta,ms,e,ia,hm,et⟩:=(pB a k h ∅).1;have r:vi (sH k) ((tx a).1++[Qx m]) (enc (.rep m a)):=by
   refine#[x,ta,ms++[Qx m],by rw[e,bp],ia,λc hc=>?_,?_]
   .rcases aE.mp hc with h|h
    .exact hm c h
    .simp at h;subst h;cases m<;>decide
   .unfold LV
    rw[mi]
    show enc (.rep m a)=Iv (Qx m) (LV ta ms)
    rw[<-et]
    cases m<;>rfl
  exact#[r,qP r,zC (qP r)]
 |.row a b,k,h,d=>by
  have d:max (bH a) (bH b)+1<=k:=d;have key:∀k,max (bH a) (bH b)<=k->vj (sH k) ((tx a).1++(tx b).1) (enc (.row a b)):=λk hk=>by
   have h1:=(pB a k (λl m=>h l (bT _ m)) ∅).1;have h2:=(pB b k (λl m=>h l (aW _ m)) ∅).1;exact#[[enc a,enc b],by simp,by have:=qL.cons h1 (qL.cons h2 .nil);rwa [bb] at this,rfl]
  obtain⟨k,rfl⟩:∃k',k=k'+1:=#[k-1,∅]
  have r:=vA (DL (zC (key k ∅)));exact#[r,key _ ∅,zC (key _ ∅)]
 |.or a b,k,h,d=>by
  have d:max (bH a) (bH b)+1<=k:=d;have key:∀k,max (bH a) (bH b)<=k->Ff (sH k) ((tx a).2++124::(tx b).2) (enc (.or a b)):=λk hk=>by
   have h1:=(pB a k (λl m=>h l (bT _ m)) ∅).2.1;have h2:=(pB b k (λl m=>h l (aW _ m)) ∅).2.1;exact#[(tx a).2,124::(tx b).2,enc a,[enc b],rfl,h1,by have:=vk.cons h2 .nil;rwa [bb] at this,rfl]
  obtain⟨k,rfl⟩:∃k',k=k'+1:=#[k-1,∅]
  have r:=vA (DL (key k ∅));exact#[r,qP r,key _ ∅]
theorem Mo{t:Tr}(h:r9 t)(d:bH t<4):sI (wr t)= .ok (enc t,[]):=LW (pB t 6 h ∅).2.2
noncomputable def D3(D:Tr->Prop)(f:Tr->List Nat):Spec:=λus S Q _=>∃t,us=[enc t]/\D t/\r9 t/\bH t<4/\∀S',Ext S S'->Q (.str (f t)) S'
noncomputable def A3:Tr->Prop
 |.row _ _=>True
 |.or _ _=>True
 |_=>False
noncomputable def Jb:Tr->Prop
 |.rep _ _=>False
 |_=>True
theorem Qy(Γ:bY)(k:Nat)(D:Tr->Prop)(hD:∀t,bH t<=k->A3 t->D t)(h1:Γ "place_text"=Ml)(h2:Γ "written"=D3 D wr):Keeps Γ lh 0 (D3 (λt=>bH t<=k/\Jb t) λt=>(tx t).1):=by
 rintro us S Q E ⟨t,rfl,⟨dt,nr⟩,lt,d4,q⟩;have q:∀S',Ext S S'->Q (.str (tx t).1) S':=q;unfold lh;have sm:=kG lt d4;have go:A3 t->(tx t).1=40::(wr t++[41])->Rest Γ (.cons (.ret (.bin .add (.bin .add ↑[40] (.call "written" (.cons @0 .nil))) ↑[41])) .nil) #[λ_ S1=>Q .bK S1,Q,λ_=>E] [some (enc t)] S:=by
  intro ro e;room;refine ca h2 #[t,rfl,hD t dt ro,lt,d4,λS1 x1=>?_];room;refine#[by simp;omega,by simp;omega,?_];rw[<-e]
  exact q S1 x1
 cases t with
 |one n l=>
  refine lZ rfl rfl ?_;unfold enc;room;simp only[iF,aP];exact#[by simp,ca h1 #[l,rfl,lt l (by simp[oB]),q]]
 |row a b=>exact fg rfl rfl (go trivial (by simp[tx,wr]))
 |or a b=>exact fg rfl rfl (go trivial (by simp[tx,wr]))
 |rep m a=>exact nr.elim
noncomputable abbrev VC:List (List Nat×List Nat):=[([115,116,97,114],[42]),([112,108,117,115],[43]),([109,97,121,98,101],[63])]
theorem Qz(Γ:bY)(k:Nat)(hk:k<=10)(h1:Γ "atom_text"=D3 (λt=>bH t<=k/\Jb t) λt=>(tx t).1):Keeps Γ jj 2 (D3 (λt=>bH t<=k) λt=>(tx t).1):=by
 rintro us S Q E ⟨t,rfl,dt,lt,d4,q⟩;have q:∀S',Ext S S'->Q (.str (tx t).1) S':=q;unfold jj;have sm:=kG lt d4;room;refine#[bH t+1,lL (λn env S1=>S1=S/\∃a ms,n=bH a/\bH a<=bH t/\r9 a/\ms.length+bH a<=bH t/\(tx t).1=(tx a).1++ms/\env=[some (enc t),some (.str ms),some (enc a)]) ?_ _ (bH t) _ _ ∅ #[rfl,t,[],rfl,ax _,lt,by simp,by simp,rfl]];rintro n env S1 K ⟨rfl,a,ms,rfl,da,la,ml,e,rfl⟩ hK;have stop:∀kk x,enc a=.tup [.str kk,x]->(VC.lookup kk).isSome=false->Jb a->WT Γ (.cg (.cmp .isin (.ix @2 ↑0) (.lit (.tab VC)))) [some (enc t),some (.str ms),some (enc a)] S1
   (λt1 S2=>if t1=true then Rest Γ (.cons (.set 1 (.bin .add (.ix (.lit (.tab VC)) (.ix @2 ↑0)) @1)) (.cons (.set 2 (.ix @2 ↑1)) .nil)) #[K,Q,λ_=>E] [some (enc t),some (.str ms),some (enc a)] S2 else Rest Γ (.cons (.ret (.bin .add (.call "atom_text" (.cons @2 .nil)) @1)) .nil) #[λ_ S1=>Q .bK S1,Q,λ_=>E] [some (enc t),some (.str ms),some (enc a)] S2) E:=by
  intro kk x ek el nr;have fin:Rest Γ (.cons (.ret (.bin .add (.call "atom_text" (.cons @2 .nil)) @1)) .nil) #[λ_ S1=>Q .bK S1,Q,λ_=>E] [some (enc t),some (.str ms),some (enc a)] S1:=by
   room;refine ca h1 #[a,rfl,#[∅,nr],la,∅,λS2 x2=>?_];room;rw[<-e]
   refine#[?_,q S2 x2];rw[e,aB] at sm;omega
  rw[ek] at fin ⊢;room;rw[jC,aP,Ap,el]
  exact#[by simp,fin]
 cases a with
 |one n l=>exact stop _ _ rfl rfl trivial
 |row a b=>exact stop _ _ rfl rfl trivial
 |or a b=>exact stop _ _ rfl rfl trivial
 |rep m a=>
  have dr:bH (.rep m a)=bH a+1:=rfl;have ek:enc (.rep m a)= .tup [.str (nv m),enc a]:=rfl;rw[ek]
  have el:VC.lookup (nv m)=some [Qx m]:=by cases m<;>rfl
  room;rw[jC,aP,Ap,el]
  refine#[by simp,?_];simp only[Option.isSome_some,if_true];room;simp only[jC,aP,yM,el];room;refine#[by simp,by simp;omega,?_];room;simp only[iF,aP];refine#[by simp,?_];try room
  exact hK (bH a) _ _ ∅ #[rfl,a,Qx m::ms,rfl,∅,la,by simp;omega,by rw[e];simp[tx],rfl]
noncomputable def Mp:Tr->Prop
 |.row _ _=>True
 |_=>False
theorem two_get{a b:Tr}{f:Tr->List Nat}{i:Nat}{u v:U}(hu:[enc a,enc b][i]?=some u)(hv:[U.str (f a),U.str (f b)][i]?=some v):∃t,(t=a\/t=b)/\u=enc t/\v=.str (f t):=by
 obtain⟨t,m,h1,h2⟩:=zx (K:=[a,b]) (f:=λt=>.str (f t)) hu hv;exact#[t,by simpa using m,h1,h2]
theorem QC(Γ:bY)(k:Nat)(h1:Γ "repeat_text"=D3 (λt=>bH t<=k) λt=>(tx t).1):Keeps Γ mZ 0 (D3 (λt=>bH t<=k\/(Mp t/\bH t<=k+1)) λt=>(tx t).2):=by
 rintro us S Q E ⟨t,rfl,dt,lt,d4,q⟩;have q:∀S',Ext S S'->Q (.str (tx t).2) S':=q;unfold mZ;have go:¬Mp t->(tx t).2=(tx t).1->Rest Γ (.cons (.ret (.call "repeat_text" (.cons @0 .nil))) .nil) #[λ_ S1=>Q .bK S1,Q,λ_=>E] [some (enc t)] S:=by
  intro nr e;room;rw[e] at q;exact ca h1 #[t,rfl,dt.resolve_right λz=>nr z.1,lt,d4,q]
 cases t with
 |one n l=>exact fg rfl rfl (go (λz=>z) rfl)
 |rep m a=>exact fg rfl (beq_eq_false_iff_ne.mpr (nI m).2.1) (go (λz=>z) rfl)
 |or a b=>exact fg rfl rfl (go (λz=>z) rfl)
 |row a b=>
  have dt:max (bH a) (bH b)+1<=k+1:=by rcases dt with z|z;exact Js z;exact z.2
  have d4:max (bH a) (bH b)+1<4:=d4;have lo:∀t,t=a\/t=b->r9 t/\bH t<=k/\bH t<4:=by
   rintro t (rfl|rfl)
   .exact#[λl m=>lt l (bT _ m),∅,∅]
   .exact#[λl m=>lt l (aW _ m),∅,∅]
  have sa:=(kG (lo a (.inl rfl)).1 (lo a (.inl rfl)).2.2).1;have sb:=(kG (lo b (.inr rfl)).1 (lo b (.inr rfl)).2.2).1;refine lZ rfl rfl ?_;unfold enc;room;simp only[iF,aP];refine#[by simp,by simp,?_];refine nA (S:=S) _ [.str (tx a).1,.str (tx b).1] (by simp) (by simp) (λ_ _=>trivial) (λu S' k h=>h) (λi u v hu hv S' k x hk=>?_) λS1 x1=>?_
  .obtain⟨t,m,rfl,rfl⟩:=two_get (f:=λt=>(tx t).1) hu hv
   obtain⟨l1,l2,l3⟩:=lo t m;exact ca h1 #[t,rfl,l2,l1,l3,hk]
  .refine#[[(tx a).1,(tx b).1],by simp,by simp;omega,?_]
   have e:k9 [] [(tx a).1,(tx b).1]=(tx (.row a b)).2:=by simp[k9,tx]
   rw[e]
   exact q _ (x1.trans (Ext.app _))
theorem QD(Γ:bY)(k:Nat)(h1:Γ "row_text"=D3 (λt=>bH t<=k\/(Mp t/\bH t<=k+1)) λt=>(tx t).2):Keeps Γ oY 0 (D3 (λt=>bH t<=k\/(A3 t/\bH t<=k+1)) wr):=by
 rintro us S Q E ⟨t,rfl,dt,lt,d4,q⟩;unfold oY;have go:(A3 t->Mp t)->wr t=(tx t).2->Rest Γ (.cons (.ret (.call "row_text" (.cons @0 .nil))) .nil) #[λ_ S1=>Q .bK S1,Q,λ_=>E] [some (enc t)] S:=by
  intro nr e;room;rw[e] at q;exact ca h1 #[t,rfl,dt.imp_right λz=>#[nr z.1,z.2],lt,d4,q]
 cases t with
 |one n l=>exact fg rfl rfl (go (λz=>z) rfl)
 |rep m a=>exact fg rfl (beq_eq_false_iff_ne.mpr (nI m).2.2) (go (λz=>z) rfl)
 |row a b=>exact fg rfl rfl (go (λz=>z) rfl)
 |or a b=>
  have dt:max (bH a) (bH b)+1<=k+1:=by rcases dt with z|z;exact Js z;exact z.2
  have d4:max (bH a) (bH b)+1<4:=d4;have lo:∀t,t=a\/t=b->r9 t/\bH t<=k/\bH t<4:=by
   rintro t (rfl|rfl)
   .exact#[λl m=>lt l (bT _ m),∅,∅]
   .exact#[λl m=>lt l (aW _ m),∅,∅]
  have sa:=(kG (lo a (.inl rfl)).1 (lo a (.inl rfl)).2.2).2.1;have sb:=(kG (lo b (.inr rfl)).1 (lo b (.inr rfl)).2.2).2.1;refine lZ rfl rfl ?_;unfold enc;room;simp only[iF,aP];refine#[by simp,by simp,?_];refine nA (S:=S) _ [.str (tx a).2,.str (tx b).2] (by simp) (by simp) (λ_ _=>trivial) (λu S' k h=>h) (λi u v hu hv S' k x hk=>?_) λS1 x1=>?_
  .obtain⟨t,m,rfl,rfl⟩:=two_get (f:=λt=>(tx t).2) hu hv
   obtain⟨l1,l2,l3⟩:=lo t m;exact ca h1 #[t,rfl,.inl l2,l1,l3,hk]
  .refine#[[(tx a).2,(tx b).2],by simp,by simp;omega,?_]
   have e:k9 [124] [(tx a).2,(tx b).2]=wr (.or a b):=by simp[k9,wr]
   rw[e]
   exact q _ (x1.trans (Ext.app _))
theorem CI{α:Type}{x y z:α}{xs:List α}:tJ (x::y::z::xs) 2=some z:=by
 have:=ir (xs:=x::y::z::xs) (k:=2);simpa using this
theorem Mq{x:List Nat}{c s:Nat}(h:c<=x.length):lV x (some (c:Nat)) (some ((c+s:Nat):Int))=(x.drop c).take s:=by
 by_cases z:c+s<=x.length
 .exact DY z
 .unfold lV
  simp only[cD,i8];rw[jH ∅,f9 h,bN (by simp),bN (by simp;omega)]
theorem CJ{ts:List Tr}{e b:Bool}{a a':Nat}{y y':List Nat}{l:List U}(h:zA ts e a y b a' y' l):qy l l=true:=by
 induction h with
 |jI _=>rfl
 |bad _ _=>rfl
 |go _ _ _ ih=>
  unfold qy;rw[ih]
  simp[oR,qy]
section
variable{S:bJ}{a b:U}{i:Int}{o:Option (List U)}{Q:Bool->Prop}
theorem D6(h1:Jx S a o)(h2:Jx S b o)(e:Vj o o=true)(q:Q false):Ot (.tup [a,.int i]) (.tup [b,.int i]) Q\/KH [a,.int i] (.tup [b,.int i]) S λb=>Q !b:=
 .inr #[a,i,b,i,o,o,rfl,rfl,h1,h2,by rw[e,beq_self_eq_true];exact q]
theorem Jc(h1:Jx S a o)(h2:Jx S b o)(e:Vj o o=true)(q:Q true):tI (.tup [a,.int i]) (.tup [b,.int i]) Q\/KH [a,.int i] (.tup [b,.int i]) S Q:=
 .inr #[a,i,b,i,o,o,rfl,rfl,h1,h2,by rw[e,beq_self_eq_true];exact q]
end
noncomputable def CK(ts:List Tr)(y:List Nat):Prop:=FO ts false y/\sM ts y y.length none
theorem CK.app{ts:List Tr}{y v:List Nat}(hT:nV ts)(h:CK ts y):CK ts (y++v):=by
 obtain⟨⟨h1,h2⟩,h3⟩:=h;have h2:=h2.resolve_left (by simp);exact#[#[λz=>h1 (List.append_eq_nil_iff.mp z).1,.inr λz=>h2 (tV hT z)],IY hT h3 h2]
theorem CK.Xx{ts:List Tr}{y:List Nat}{a:Nat}{e:Bool}(h:CK ts y):zA ts e a y true a y []:=.bad #[h.1.1,by cases e<;>first|exact h.1.2|exact .inl rfl] h.2
noncomputable def UZ:Spec:=λus _ Q _=>∃ns:List Int,us=[.pF ns]/\ns.length<=63/\∀S',Q (.bl true) S'
theorem Mr(Γ:bY)(h1:Γ "_law_mix"=tL.xI)(h2:Γ "_law_trees"=Qv)(h3:Γ "_law_text"=Qw)(h4:Γ "written"=D3 (λt=>bH t<=3\/(A3 t/\bH t<=3+1)) wr)(h5:Γ "Lexer.__init__"=Up)(h6:Γ "Cutter.__init__"=Ql)(h7:Γ "_law_sure"=Qp)(h8:Γ "_law_asked"=UH):Keeps Γ qV.Dr 11 UZ:=by
  rintro us S Q E ⟨ns,rfl,hl,q⟩;unfold qV.Dr;room;refine ca h1 #[ns,50,rfl,∅,λm m0 m1=>#[∅,?_]];refine ca h2 #[ns,_,rfl,∅,∅,∅,λts nt S1 hT hV x1 g1=>?_];room;refine ca h1 #[ns,61,rfl,∅,λm2 m3 m4=>#[∅,?_]];refine ca h3 #[ns,51,_,rfl,∅,∅,∅,λx S2 hx xl x2=>?_];have g2:=x2.get g1;have tl:=hT.len;room;rw[g2,aH]
  refine fQ (ts.map enc) (λi acc S3=>Ext S2 S3/\∃xs:List (List Nat),acc=xs.map .str/\xs.length=i/\∀(j:Nat)t y,ts[j]?=some t->xs[j]?=some y->y.length<=1000/\∃r,sI y=.ok (enc t,r)) (λi acc S3 hi #[x,xs,e1,e2,_]=>#[x.get g2,by rw[e1,ar];simp at hi;omega]) (λi u acc S3 k hu hi hk=>?_) (λacc S3 h=>?_) #[.refl,[],rfl,rfl,λj t y _ e=>by simp at e]
  · obtain⟨x3,xs,rfl,e2,inv⟩:=hi
    rw[au] at hu;obtain⟨t,et,rfl⟩:=ag.mp hu;have mt:=aw et;room;have d4:=hT.dp t mt;refine ca h4 #[t,rfl,.inl ∅,hV t mt,d4,λS4 x4=>hk _ _ #[x3.trans x4,xs++[wr t],by simp,by simp[e2],λj t' y e3 e4=>?_]];by_cases z':j=i
    · subst z'
      rw[ay ∅,e2,cq] at e4;cases e4;rw[et] at e3;cases e3;exact#[by have:=(kG (hV t mt) d4).2.2;omega,[],Mo (hV t mt) d4]
    · have jl:j<i:=by
        have:=(ae.mp e4).1;simp at this;omega
      rw[aq ∅] at e4;exact inv j t' y e3 e4
  obtain⟨x3,xs,rfl,e2,inv⟩:=h;rw[ar] at e2;have x4:Ext S2 (S3++[SO.lst (xs.map U.str)]):=x3.trans (Ext.app _);have g4:(S3++[SO.lst (xs.map U.str)])[S3.length]?=some (.lst (xs.map U.str)):=by simp
  generalize S3.length=n4 at g4;generalize S3++[SO.lst (xs.map U.str)]=S4 at g4 x4;have gX:(S4++[SO.ins "Lexer" []])[S4.length]?=some (.ins "Lexer" []):=by simp
  refine ca h5 #[S4.length,n4,xs,ts,rfl,gX,(Ext.app _).get g4,#[∅,inv],hT,λS5 lx o5=>#[rfl,?_]];have L5:nW S4 S5:=(nW.ext (Ext.app _)).trans (.old o5 gX ⋯);generalize S4.length=X at lx;refine ca h6 #[S5.length,X,ts,rfl,by simp,lx.ext (Ext.app _),λP u S6 pa ct L6=>#[rfl,?_]];have L26:nW S2 S6:=((nW.ext x4).trans L5).trans ((nW.ext (Ext.app _)).trans L6);generalize S5.length=C at ct;have g6:=L26.get g2
  clear L26 L6 L5 lx o5 gX x4 g4 x3 e2 inv g2 x2 g1 x1
  room;refine ca h1 #[ns,60,rfl,∅,λm5 m6 m7=>?_];room;refine#[∅,∅,∅,?_];refine eF (λi env S7=>∃(p c:Nat)(wr:Bool)(y7 y8 y9 y10 y11:Option U),env=[some (.pF ns),some (.loc nt),some (.str x),some (.loc C),some (a9 p),some (a9 c),some (.bl wr),y7,y8,y9,y10,y11]/\p<=c/\c<=x.length/\sO S7 C P ts u p ((x.take c).drop p)/\nW S6 S7/\(wr=true->CK ts ((x.take c).drop p))) (λ_ _ _ _=>trivial) _ ?_ ?_ #[0,0,false,none,none,none,none,none,rfl,∅,∅,by simpa using ct,.ext .refl,λz=>by simp at z]
  · rintro i uu env S7 K hu ⟨p,c,wr,y7,y8,y9,y10,y11,rfl,hpc,hcx,ct7,L7,dd⟩ hK
    obtain⟨rfl,hi⟩:=mE hu;room;refine ca h1 #[ns,_,rfl,∅,λs s0 s1=>?_];room;refine#[∅,?_];obtain⟨sz,hsz⟩:∃sz:Nat,s%5=(sz:Int):=#[(s%5).toNat,∅]
    rw[hsz]
    room;rw[show((c:Int)+(sz:Int))=((c+sz:Nat):Int) by omega]
    simp only[EM,Mq hcx];refine#[#[λi e=>by injection e with e;omega,λi e=>by injection e with e;omega],∅,?_];have zl:c+((x.drop c).take sz).length<=x.length:=by simp;omega
    have zt:x.take (c+((x.drop c).take sz).length)=x.take c++(x.drop c).take sz:=by
      rw[List.take_add,gW,jF]
      congr 1
      by_cases h:sz<=x.length-c
      · rw[f9 h]
      · rw[jH ∅,bN (by simp),bN (by simp;omega)]
    generalize (x.drop c).take sz=z at zl zt;room;refine#[∅,?_];rw[show((c:Int)+(z.length:Int))=((c+z.length:Nat):Int) by omega]
    room;simp only[EM,vz zl];refine#[#[λi e=>(by cases e),λi e=>by injection e with e;omega],∅,?_];have ey:(x.take (c+z.length)).drop p=(x.take c).drop p++z:=by
      rw[zt,List.drop_append_of_le_length (by simp;omega)]
    refine ca h7 #[nt,_,p,false,ts,rfl,L7.get g6,hT,by simp;omega,by simp;omega,λb a' y' l m8 S8 su x8 g8=>?_];obtain⟨s1,s2,⟨d,s3,rfl,rfl,s4⟩,s5,s6,s7⟩:=DX su;rw[wH] at su s1 s2;rw[ey] at su;have L8:=L7.trans (.ext x8);have dl:p+d<=c+z.length:=by simp at s3;omega
    room;have fin:∀(S9:bJ)(f11:U),sO S9 C P ts u (p+d) ((x.take (c+z.length)).drop (p+d))->nW S8 S9->Rest Γ (.cons (.set 6 (.or @6 (.ix @10 ↑2))) (.cons (.set 4 (.ix @10 ↑1)) .nil)) #[K,Q,λ_=>E] [some (.pF ns),some (.loc nt),some (.str x),some (.loc C),some (a9 p),some (a9 (c+z.length)),some (.bl wr),some (.int (i:Nat)),some (.int sz),some (.str z),some (.tup [.loc m8,a9 (p+d),.bl b]),some f11] S9:=by
      intro S9 f11 ct9 L9;have:b=true->CK ts ((x.take (c+z.length)).drop (p+d)):=s1;have hK:=λ(w':Bool)(hw:w'=true->b=true)=>hK [some (.pF ns),some (.loc nt),some (.str x),some (.loc C),some (a9 (p+d)),some (a9 (c+z.length)),some (.bl w'),some (.int (i:Nat)),some (.int sz),some (.str z),some (.tup [.loc m8,a9 (p+d),.bl b]),some f11] S9 #[p+d,c+z.length,w',_,_,_,_,_,rfl,dl,zl,ct9,L8.trans L9,λz=>this (hw z)]
      room;cases wr with
      |true=>
        simp only[if_true];room;simp only[iF,aP];exact#[by simp,hK true λ_=>(jw su ((dd rfl).app hT).Xx).1]
      |false=>
        simp only[ah,if_false,CI,aP];refine#[by simp,?_];room;simp only[iF,aP];exact#[by simp,hK b λz=>z]
    refine ca h8 #[C,P,_,false,ts,u,p,(x.take c).drop p,_,rfl,.inr #[z,rfl,rfl,rfl],ct7.ext x8,pa.lst L8,hT,λc' hc'=>hx c' ?_,?_,λb1 a1 x1 l1 n1 S9 su1 alt ct9 L9 g9=>?_,λS9 su1 ct9 L9=>?_]
    · rw[<-ey] at hc';exact C0 (jR hc')
    · rw[<-ey];simp;omega
    · obtain⟨rfl,rfl,rfl,rfl⟩:=jw su su1
      have fin:=fin S9 (.tup [.loc n1,.int (-1)]) ct9 L9;have g8':=L9.get g8;cases wr with
      |true=>obtain⟨rfl,_,_,rfl⟩:=jw su ((dd rfl).app hT).Xx;exact absurd alt (by simp)
      |false=>
        room;simp only[CI,jC,aP];refine#[by simp,?_];room;cases b with
        |false=>
          simp only[ah,if_false];room;simp only[jC,aP];exact#[by simp,by simp,D6 (o:=some l) (.inr #[n1,l,rfl,g9,#[s6,∅],rfl]) (.inr #[m8,l,rfl,g8',#[s6,∅],rfl]) (CJ su) fin]
        |true=>
          have ne:(l.length !=0)=true:=by
            cases l with
            |nil=>simp at alt
            |cons=>rfl
          simp only[if_true];rw[Aq g8',ne]
          simp only[aP,bO,ah,if_false];refine#[by simp,?_];room;simp only[jC,aP];exact#[by simp,by simp,D6 (o:=some l) (.inr #[n1,l,rfl,g9,#[s6,∅],rfl]) (.inr #[m8,l,rfl,g8',#[s6,∅],rfl]) (CJ su) fin]
    · obtain⟨rfl,e1,e2,rfl⟩:=jw su su1
      have d0:d=0:=∅
      subst d0;have fin:=fin S9 (.tup [.bK,a9 p]) (by rw[Bv,ey];exact ct9) L9;have g8':=L9.get g8;have go:Rest Γ (.cons (.ifs (.cg (.cmp .ne @11 (.tup (.cons (.lit .bK) (.cons (.ix @10 ↑1) .nil))))) (.cons (.ret (.lit (.bl false))) .nil) .nil) .nil) #[λen S1=>Rest Γ (.cons (.set 6 (.or @6 (.ix @10 ↑2))) (.cons (.set 4 (.ix @10 ↑1)) .nil)) #[K,Q,λ_=>E] en S1,Q,λ_=>E] [some (.pF ns),some (.loc nt),some (.str x),some (.loc C),some (a9 p),some (a9 (c+z.length)),some (.bl wr),some (.int (i:Nat)),some (.int sz),some (.str z),some (.tup [.loc m8,a9 (p+0),.bl true]),some (.tup [.bK,a9 p])] S9:=by
        room;simp only[iF,aP];exact#[by simp,by simp,D6 (o:=none) (.inl #[rfl,rfl]) (.inl #[rfl,rfl]) rfl fin]
      room;cases wr with
      |true=>exact go
      |false=>
        simp only[ah,if_false,CI,jC,aP];refine#[by simp,?_];room;rw[Aq g8']
        simp only[aP,de,bne_self_eq_false,bV,if_true];exact#[by simp,go]
  · rintro env S7 ⟨p,c,wr,y7,y8,y9,y10,y11,rfl,hpc,hcx,ct7,L7,dd⟩
    room;simp only[EM,vz hcx];refine#[#[λi e=>(by cases e),λi e=>by injection e with e;omega],∅,?_];refine ca h7 #[nt,_,p,true,ts,rfl,L7.get g6,hT,by simp;omega,by simp;omega,λb a' y' l m8 S8 su x8 g8=>?_];obtain⟨s1,s2,⟨d,s3,s3',rfl,s4⟩,s5,s6,s7⟩:=DX su;have L8:=L7.trans (.ext x8);have sg:∀c'∈(x.take c).drop p,c'∈SG:=λc' h=>hx c' (C0 (jR h))
    have sl:((x.take c).drop p).length<=1000:=by simp;omega
    room;refine ca h8 #[C,P,_,true,ts,u,p,_,_,rfl,.inl #[rfl,rfl,rfl],ct7.ext x8,pa.lst L8,hT,sg,sl,λb1 a1 x1 l1 n1 S9 su1 alt ct9 L9 g9=>?_,λS9 su1 ct9 L9=>?_]
    · obtain⟨rfl,rfl,rfl,rfl⟩:=jw su su1
      have g8':=L9.get g8;have go:Rest Γ (.cons (.ifs (.or (.cg (.cmp .ne @11 (.tup (.cons (.ix @10 ↑0) (.cons (.neg ↑1) .nil))))) (.not (.cg (.Jw (.ix @11 ↑0) [.list])))) (.cons (.ret (.lit (.bl false))) .nil) .nil)
   (.cons (.ret (.cmp .eq (.call "_law_asked" (.cons @3 (.cons (.lit .bK) .nil))) (.xm (.cg (.ix @10 ↑2)) (.tup (.cons (.lit .bK) (.cons (.ix @10 ↑1) .nil))) (.tup (.cons (.lst .nil) (.cons (.neg ↑1) .nil)))))) .nil)) #[λ_ S1=>Q .bK S1,Q,λ_=>E] [some (.pF ns),some (.loc nt),some (.str x),some (.loc C),some (a9 p),some (a9 c),some (.bl wr),y7,y8,y9,some (.tup [.loc m8,a9 a',.bl b]),some (.tup [.loc n1,.int (-1)])] S9:=by
        room;simp only[jC,aP];refine#[by simp,by simp,D6 (o:=some l) (.inr #[n1,l,rfl,g9,#[s6,∅],rfl]) (.inr #[m8,l,rfl,g8',#[s6,∅],rfl]) (CJ su) ?_];have e0:KJ S9 (.loc n1) .list=some true:=(congrArg (Dl · Ty.list) g9).trans rfl;have e1:ou S9 (.loc n1) [.list]=some true:=by simp[ou,e0]
        simp only[ah,if_false,e1,aP,bO];refine#[by simp,?_];room;refine ca h8 #[C,P,_,true,ts,u,a',_,_,rfl,.inl #[rfl,rfl,rfl],ct9,pa.lst (L8.trans L9),hT,λc' h=>sg c' (jR h),by rw[jF];omega,λb2 a2 x2 l2 n2 S10 su2 alt2 ct10 L10 g10=>?_,λS10 su2 ct10 L10=>?_]
        · cases b with
          |true=>
            obtain⟨rfl,_,_,rfl⟩:=jw su2 (.bad (s1 rfl).1 (s1 rfl).2);exact absurd alt2 (by simp)
          |false=>
            obtain⟨rfl,_,_,rfl⟩:=jw su2 (.jI (s2 rfl));room;simp only[CI,aP];refine#[by simp,?_];room;refine#[by simp,by simp,?_];refine Jc (o:=some []) (.inr #[n2,[],rfl,(Ext.app _).get g10,#[rfl,by simp[jK]],rfl]) (.inr #[_,[],rfl,by simp,#[rfl,by simp[jK]],rfl]) rfl (q _)
        · cases b with
          |false=>have:=(jw su2 (.jI (s2 rfl))).1;simp at this
          |true=>
            room;simp only[CI,aP];refine#[by simp,?_];room;simp only[iF,aP];exact#[by simp,by simp,Jc (o:=none) (.inl #[rfl,rfl]) (.inl #[rfl,rfl]) rfl (q _)]
      room;cases wr with
      |true=>obtain⟨rfl,_,_,rfl⟩:=jw su (dd rfl).Xx;exact absurd alt (by simp)
      |false=>
        simp only[ah,if_false,CI,jC,aP];refine#[by simp,?_];room;cases b with
        |false=>exact go
        |true=>
          have ne:(l.length !=0)=true:=by
            cases l with
            |nil=>simp at alt
            |cons=>rfl
          simp only[if_true];rw[Aq g8',ne]
          simp only[aP,bO,ah,if_false];exact#[by simp,go]
    · obtain⟨rfl,rfl,e2,rfl⟩:=jw su su1
      have g8':=L9.get g8;have go:Rest Γ (.cons (.ret (.cmp .eq @11 (.tup (.cons (.lit .bK) (.cons (.ix @10 ↑1) .nil))))) .nil) #[λen S1=>Rest Γ (.cons (.ifs (.or (.cg (.cmp .ne @11 (.tup (.cons (.ix @10 ↑0) (.cons (.neg ↑1) .nil))))) (.not (.cg (.Jw (.ix @11 ↑0) [.list])))) (.cons (.ret (.lit (.bl false))) .nil) .nil)
   (.cons (.ret (.cmp .eq (.call "_law_asked" (.cons @3 (.cons (.lit .bK) .nil))) (.xm (.cg (.ix @10 ↑2)) (.tup (.cons (.lit .bK) (.cons (.ix @10 ↑1) .nil))) (.tup (.cons (.lst .nil) (.cons (.neg ↑1) .nil)))))) .nil)) #[λ_ S1=>Q .bK S1,Q,λ_=>E] en S1,Q,λ_=>E] [some (.pF ns),some (.loc nt),some (.str x),some (.loc C),some (a9 a'),some (a9 c),some (.bl wr),y7,y8,y9,some (.tup [.loc m8,a9 a',.bl true]),some (.tup [.bK,a9 a'])] S9:=by
        room;simp only[iF,aP];exact#[by simp,by simp,Jc (o:=none) (.inl #[rfl,rfl]) (.inl #[rfl,rfl]) rfl (q _)]
      room;cases wr with
      |true=>exact go
      |false=>
        simp only[ah,if_false,CI,jC,aP];refine#[by simp,?_];room;rw[Aq g8']
        simp only[aP,de,bne_self_eq_false,bV,if_true];exact#[by simp,go]
end PL.jM
end
namespace L2
open PySem PySem.Spec PyProof.Rows PySem.W
open PL (U SO bJ Xn KU KX bY)
noncomputable def wj:PL.Spec:=λ_ _ _ _=>False
noncomputable def Fq(Γ:bY)(x:String)(sp:PL.Spec):bY:=λy=>if y=x then sp else Γ y
noncomputable def Role(c:Ctx)(T:Tab)(x:String)(f:Addr):Prop:=
 (x∈T.fns/\c.mg (nm x)=some (.ref f))\/(∃p∈T.qc,x=p.2++"."++p.1/\∃C,c.cls p.2=some C/\Meth c.K C (nm p.1) f)\/(∃y∈T.qb,x=y++".__init__"/\∃C,c.cls y=some C/\Mk c.K C f)
theorem FnAt.mono(F:FnAt c j f sp)(h:j<=k):FnAt c k f sp:=by
 obtain⟨fd,ps,F,B⟩:=F;exact#[fd,ps,F.mono h,B]
theorem aY:Fq Γ x sp x=sp:=if_pos rfl
theorem tX(h:y≠x):Fq Γ x sp y=Γ y:=if_neg h
theorem fZ.add(G:fZ c T Γ k)(h:k<=k')(F:∀f,Role c T x f->FnAt c k' f sp):fZ c T (Fq Γ x sp) k':=by
 refine#[λy hy=>?_,λp hp=>?_,λy hy=>?_]
 .obtain⟨f,hm,kp,A⟩:=G.fns y hy
  refine#[f,hm,kp,?_];by_cases e:y=x
  .subst e;rw[aY];exact F f (.inl #[hy,hm])
  .rw[tX e];exact A.mono h
 .obtain⟨C,f,hc,hm,A⟩:=G.QY p hp
  refine#[C,f,hc,hm,?_];by_cases e:p.2++"."++p.1=x
  .rw[e,aY];exact F f (.inr (.inl #[p,hp,e.symm,C,hc,hm]))
  .rw[tX e];exact A.mono h
 .obtain⟨C,f,hc,hg,hm,A⟩:=G.cls y hy
  refine#[C,f,hc,hg,hm,?_];by_cases e:y++".__init__"=x
  .rw[e,aY];exact F f (.inr (.inr #[y,hy,e.symm,C,hc,hm]))
  .rw[tX e];exact A.mono h
theorem Ms(hm:c.mg (nm x)=some (.ref f0))(h2:(T.qc.all λp=>p.2++"."++p.1 !=x)=true)(h3:(T.qb.all λy=>y++".__init__" !=x)=true)(R:Role c T x f):f=f0:=by
 rcases R with⟨_,e⟩|⟨p,hp,e,_⟩|⟨y,hy,e,_⟩
 .rw[hm] at e;cases e;rfl
 .have:=bR.mp h2 p hp
  rw[e] at this;simp at this
 .have:=bR.mp h3 y hy
  rw[e] at this;simp at this
theorem Mt(hc:c.cls cl=some C)(hm:Meth c.K C (nm m) f0)(h1:T.fns.contains (cl++"."++m)=false)(h2:(T.qc.all λp=>p.2++"."++p.1 !=cl++"."++m||(p.1==m&&p.2==cl))=true)(h3:(T.qb.all λy=>y++".__init__" !=cl++"."++m)=true)(R:Role c T (cl++"."++m) f):f=f0:=by
 rcases R with⟨h,_⟩|⟨p,hp,e,C',hc',hm'⟩|⟨y,hy,e,_⟩
 .exact absurd (gq.mpr h) (by rw[h1];simp)
 .have:=bR.mp h2 p hp
  rw[e] at this;simp at this;obtain⟨e1,e2⟩:=this;rw[e2,hc] at hc';cases hc';rw[e1] at hm';have:=hm.at_.symm.trans hm'.at_;cases this;rfl
 .have:=bR.mp h3 y hy
  rw[e] at this;simp at this
theorem Mu(hc:c.cls cl=some C)(hm:Mk c.K C f0)(h1:T.fns.contains (cl++".__init__")=false)(h2:(T.qc.all λp=>p.2++"."++p.1 !=cl++".__init__")=true)(h3:(T.qb.all λy=>y++".__init__" !=cl++".__init__"||y==cl)=true)(R:Role c T (cl++".__init__") f):f=f0:=by
 rcases R with⟨h,_⟩|⟨p,hp,e,C',hc',hm'⟩|⟨y,hy,e,C',hc',hm'⟩
 .exact absurd (gq.mpr h) (by rw[h1];simp)
 .have:=bR.mp h2 p hp
  rw[e] at this;simp at this
 .have:=bR.mp h3 y hy
  rw[e] at this;simp at this;rw[this,hc] at hc';cases hc';have:=hm.init.symm.trans hm'.init;cases this;rfl
theorem U0(B:Binds c.K fd ps []):FnAt c k f wj:=
 #[fd,ps,#[λvs H Q E h=>by obtain⟨us,ρ,S0,QU,EU,r,R,w,q,qx⟩:=h;exact w.elim,λA outer s H args us vs Q E hr he hb hv hs=>by obtain⟨us,ρ,S0,QU,EU,r,R,w,q,qx⟩:=hs;exact w.elim],B]
structure Df(c:Ctx)(T:Tab)(st:Stmt)(f:Addr)(N ps:List Str)(b:PL.dj)(m:Nat):Prop where
 fn:∃x qual fd,BQ c.K x qual st f fd/\Binds c.K fd ps []
 sc:fX N ps (bc st)
 tx:∃n,Jz T n #[(bc st).names,N,true] (dN st)=some b
 hm:N.length=ps.length+m
theorem Df.ok{c:Ctx}{T:Tab}{Γ:bY}{st:Stmt}{f:Addr}{N ps:List Str}{b:PL.dj}{m k kx:Nat}{sp:PL.Spec}(D:Df c T st f N ps b m)(B:Base c T kx)(hkx:kx<=k)(G:fZ c T Γ k)(hk:PL.Keeps Γ b m sp)(hl:∀us S Q E,sp us S Q E->us.length=ps.length):FnAt c (k+2) f sp:=by
 obtain⟨x,qual,fd,F,Bi⟩:=D.fn;obtain⟨n,hc⟩:=D.tx;exact#[fd,ps,MY F D.sc B hkx G hc hk D.hm hl,Bi]
theorem Df.up{c:Ctx}{T:Tab}{Γ:bY}{st:Stmt}{f:Addr}{N ps:List Str}{b:PL.dj}{m k kx:Nat}{x:String}{sp:PL.Spec}(D:Df c T st f N ps b m)(R:∀g,Role c T x g->g=f)(B:Base c T kx)(hkx:kx<=k)(G:fZ c T Γ k)(hk:PL.Keeps Γ b m sp)(hl:∀us S Q E,sp us S Q E->us.length=ps.length):fZ c T (Fq Γ x sp) (k+2):=
 G.add ∅ λg r=>by rw[R g r];exact D.ok B hkx G hk hl
noncomputable def eG(Γ Γ':bY)(l:List String):Prop:=∀x,x∉l->Γ' x=Γ x
theorem eG.refl(Γ:bY)(l:List String):eG Γ Γ l:=λ_ _=>rfl
theorem eG.up(h:eG Γ Γ' l)(m:x∈l):eG Γ (Fq Γ' x sp) l:=λy hy=>(tX (λe=>hy (by rw[e];exact m))).trans (h y hy)
theorem fZ.none(h1:∀x∈T.fns,∃f,c.mg (nm x)=some (.ref f)/\lT c.K (.ref f)=true/\FnAt c k f wj)(h2:∀p∈T.qc,∃C f,c.cls p.2=some C/\Meth c.K C (nm p.1) f/\FnAt c k f wj)
  (h3:∀x∈T.qb,∃C f,c.cls x=some C/\c.mg (nm x)=some (.ref C)/\Mk c.K C f/\FnAt c k f wj):fZ c T (λ_=>wj) k:=#[h1,h2,h3]
open PL (U SO bJ Xn KU KX bY)
noncomputable def RN:List String:=["in_order","all_but","is_ahead","stretch","read","joined","Reader.__init__","Reader.sees","Reader.passes","Reader.choice","Reader.row","Reader.repeat","Reader.atom","Reader.bracket","Reader.sign_class","Reader.item","Reader.written_sign"]
structure fK(c:Ctx)(T:Tab)(x:String)(n m:Nat)(b:PL.dj):Prop where
 ex:∃st f N ps,Df c T st f N ps b m/\ps.length=n/\∀g,Role c T x g->g=f
structure GS(c:Ctx)(T:Tab)(kx:Nat)(Γ:bY)(k:Nat):Prop where
 le:kx<=k
 ok:fZ c T Γ k
theorem fK.up(D:fK c T x n m b)(B:Base c T kx)(G:GS c T kx Γ k)(hk:PL.Keeps Γ b m sp)(hl:∀us S Q E,sp us S Q E->us.length=n):GS c T kx (Fq Γ x sp) (k+2):=by
 obtain⟨st,f,N,ps,D0,e,R⟩:=D.ex;exact#[Nat.le_add_right_of_le G.le,L2.Df.up D0 R B G.le G.ok hk (λus S Q E h=>(hl us S Q E h).trans e.symm)]
structure Fs(c:Ctx)(T:Tab):Prop where
 PC:fK c T "in_order" 1 0 PL.mX
 Ct:fK c T "all_but" 1 0 PL.oW
 ahead:fK c T "is_ahead" 2 0 PL.mY
 Ip:fK c T "stretch" 2 0 PL.oX
 read:fK c T "read" 1 2 PL.yU
 joined:fK c T "joined" 2 0 PL.qB
 init:fK c T "Reader.__init__" 2 0 PL.je
 sees:fK c T "Reader.sees" 2 0 PL.jf
 passes:fK c T "Reader.passes" 2 0 PL.iu
 choice:fK c T "Reader.choice" 1 1 PL.iw
 row:fK c T "Reader.row" 1 1 PL.jW
 repeat_:fK c T "Reader.repeat" 1 1 PL.iy
 atom:fK c T "Reader.atom" 1 0 PL.jh
 bracket:fK c T "Reader.bracket" 1 1 PL.gJ
 cls:fK c T "Reader.sign_class" 1 2 PL.eS
 item:fK c T "Reader.item" 1 3 PL.ji
 ws:fK c T "Reader.written_sign" 2 1 PL.dP
theorem sP(us:List U)(S:bJ)(Q:KU)(E:KX)(h:PL.zM args p d us S Q E):us.length=args.length+1:=by
 obtain⟨r,x,rest,rfl,_⟩:=h;rfl
theorem len_T(us:List U)(S:bJ)(Q:KU)(E:KX)(h:PL.spT f us S Q E):us.length=1:=by
 obtain⟨l,rfl,_⟩:=h;rfl
theorem A4(R:Fs c T)(B:Base c T kx)(G:GS c T kx Γ k):∃Γ',GS c T kx Γ' (k+16)/\eG Γ Γ' RN/\PL.GR Γ'/\Γ' "joined"=PL.kC/\Γ' "Reader.__init__"=PL.nu:=by
 have g1:=R.PC.up B G (PL.AF _) len_T;have g2:=R.Ct.up B g1 (PL.va _) len_T;have g3:=R.ahead.up B g2 (PL.AG _) (λus S Q E h=>by obtain⟨a,b,rfl,_⟩:=h;rfl);have g4:=R.Ip.up B g3 (PL.Cs _) (λus S Q E h=>by obtain⟨a,b,rfl,_⟩:=h;rfl);have g5:=R.joined.up B g4 (PL.E9 _) (λus S Q E h=>by obtain⟨a,b,t,rfl,_⟩:=h;rfl);have g6:=R.init.up B g5 (PL.IA _) (λus S Q E h=>by obtain⟨a,b,rfl,_⟩:=h;rfl);have g7:=R.sees.up B g6 (PL.LJ _) (λus S Q E h=>by obtain⟨a,b,_,_,_,rfl,_⟩:=h;rfl);have g8:=R.passes.up B g7 (PL.LK _ aY) (λus S Q E h=>by obtain⟨l,d,h⟩:=h;exact sP _ _ _ _ h);refine#[_,g8,?_,#[rfl,rfl,rfl,rfl,rfl,rfl],rfl,rfl];refine eG.up (eG.up (eG.up (eG.up (eG.up (eG.up (eG.up (eG.up (eG.refl _ _) ?_) ?_) ?_) ?_) ?_) ?_) ?_) ?_<;>decide
theorem U1(k d:Nat)(h:d+k=6)(hc:∀j,k=j+1->Γ "Reader.choice"=PL.zM [] (PL.gO (PL.sH j)) (d+1)):PL.Tt Γ (PL.sH k) d:=by
 cases k with
 |zero=>exact .inl #[rfl,∅]
 |succ j=>exact .inr #[_,rfl,∅,PL.rN (j+1),hc j rfl]
theorem sQ(R:Fs c T)(B:Base c T kx)(G:GS c T kx Γ k)(Sm:eG Γ0 Γ RN)(gr:PL.GR Γ)(gj:Γ "joined"=PL.kC)(gi:Γ "Reader.__init__"=PL.nu)(n d:Nat)(hd:d+n=6)
  (hc:∀j,n=j+1->Γ "Reader.choice"=PL.zM [] (PL.gO (PL.sH j)) (d+1)):
  ∃Γ',GS c T kx Γ' (k+16)/\eG Γ0 Γ' RN/\PL.GR Γ'/\Γ' "joined"=PL.kC/\Γ' "Reader.__init__"=PL.nu/\Γ' "Reader.choice"=PL.zM [] (PL.gO (PL.sH n)) d:=by
 obtain⟨e1,e2,e3,e4,e5,e6⟩:=gr;have hbo:=PL.rN n;have g1:=R.bracket.up B G (PL.Tv _ #[e1,e2,e3,e4,e5,e6] (PL.sH n) d (U1 n d hd hc)) (λus S Q E h=>by obtain⟨a,b,_,rfl,_⟩:=h;rfl);have g2:=R.ws.up B g1 (PL.Iq _ #[e1,e2,e3,e4,e5,e6] d) (λus S Q E h=>by obtain⟨m,h⟩:=h;exact sP _ _ _ _ h);have g3:=R.item.up B g2 (PL.LM _ d #[#[e1,e2,e3,e4,e5,e6],rfl]) sP;have g4:=R.cls.up B g3 (PL.PD _ d #[#[#[e1,e2,e3,e4,e5,e6],rfl],rfl]) sP;have g5:=R.atom.up B g4 (PL.LQ _ (PL.sH n) d #[#[#[#[e1,e2,e3,e4,e5,e6],rfl],rfl],rfl,rfl]) sP;have g6:=R.repeat_.up B g5 (PL.Fc _ (PL.sH n) d hbo #[#[#[#[#[e1,e2,e3,e4,e5,e6],rfl],rfl],rfl,rfl],rfl]) sP;have g7:=R.row.up B g6 (PL.PJ _ (PL.sH n) d hbo #[#[#[#[#[#[e1,e2,e3,e4,e5,e6],rfl],rfl],rfl,rfl],rfl],rfl,gj]) sP;have g8:=R.choice.up B g7 (PL.Fd _ (PL.sH n) d hbo #[#[#[#[#[#[#[e1,e2,e3,e4,e5,e6],rfl],rfl],rfl,rfl],rfl],rfl,gj],rfl]) sP;refine#[_,g8,?_,#[e1,e2,e3,e4,e5,e6],gj,gi,rfl];refine eG.up (eG.up (eG.up (eG.up (eG.up (eG.up (eG.up (eG.up Sm ?_) ?_) ?_) ?_) ?_) ?_) ?_) ?_<;>decide
theorem vB(R:Fs c T)(B:Base c T kx)(G:GS c T kx Γ k)(Sm:eG Γ0 Γ RN)(gr:PL.GR Γ)(gj:Γ "joined"=PL.kC)(gi:Γ "Reader.__init__"=PL.nu):
  ∀(n d:Nat),d+n=6->∃Γ',GS c T kx Γ' (k+16*(n+1))/\eG Γ0 Γ' RN/\PL.GR Γ'/\Γ' "joined"=PL.kC/\Γ' "Reader.__init__"=PL.nu/\Γ' "Reader.choice"=PL.zM [] (PL.gO (PL.sH n)) d
 |0,d,h=>sQ R B G Sm gr gj gi 0 d h (λj e=>∅)
 |n+1,d,h=>by
  obtain⟨Γ1,G1,S1,r1,j1,i1,c1⟩:=vB R B G Sm gr gj gi n (d+1) ∅;obtain⟨Γ2,G2,z⟩:=sQ R B G1 S1 r1 j1 i1 (n+1) d h (λj e=>by cases e;exact c1);exact#[Γ2,G2,z]
theorem CM(R:Fs c T)(B:Base c T kx)(G:GS c T kx Γ k):∃Γ',GS c T kx Γ' (k+130)/\eG Γ Γ' RN/\Γ' "read"=PL.Cu/\Γ' "all_but"=PL.spT PL.dC:=by
 obtain⟨Γ1,G1,S1,r1,j1,i1⟩:=A4 R B G;obtain⟨Γ2,G2,S2,r2,j2,i2,c2⟩:=vB R B G1 S1 r1 j1 i1 6 0 rfl;have g:=R.read.up B G2 (PL.LR _ i2 c2) (λus S Q E h=>by obtain⟨x,rfl,_⟩:=h;rfl);exact#[_,g,eG.up S2 ⋯,aY,r2.Ct]
open PL (U SO bJ Xn KU KX bY)
structure wk where
 x:String
 q:String
 cl:String
 st:Stmt
 N:List Str
 ps:List Str
 b:PL.dj
noncomputable def vC(K:Frag)(x qual:Str)(st:Stmt)(f:Addr):Prop:=∃(oc:Value)(od:Option Addr)(kV dc pm:Value)(an:Option Addr)(cd ct:Value)(sl:Array (Option Value)),
 K.lookup f=some #[oc,od,.func (fnOf x qual (jV st) (dN st) (bc st) .none kV dc pm an cd ct),sl]/\codeIn K cd qual=true/\lT K (.ref f)=true
theorem vC.fn{K:Frag}{x qual:Str}{st:Stmt}{f:Addr}(h:vC K x qual st f):∃fd,BQ K x qual st f fd/\lT K (.ref f)=true:=by
 obtain⟨oc,od,kV,dc,pm,an,cd,ct,sl,h1,h2,h3⟩:=h;exact#[_,GG h1 h2 h3,h3]
inductive A5(K:Frag)(CA:List (String×Addr)):wk->Prop
 |fn{q:String}{st:Stmt}{N ps:List Str}{b:PL.dj}{f:Addr}:nsIn K bu (b8 q)=some (some (.ref f))->vC K (b8 q) (b8 q) st f->A5 K CA #[q,q,"",st,N,ps,b]
 |mt{x q cl:String}{st:Stmt}{N ps:List Str}{b:PL.dj}{f C:Addr}:(cl=="")=false->CA.lookup cl=some C->iC K (.ref C) (b8 q)=some (some (.ref f))->isFn K (.ref f)=true->vC K (b8 q) (b8 x) st f->A5 K CA #[x,q,cl,st,N,ps,b]
noncomputable def zD(r:wk):Prop:=∀(x qual:Str)(kV dc pm:Value)(an:Option Addr)(cd ct:Value)(us:List Value),us.length=r.ps.length->Bo (fnOf x qual (jV r.st) (dN r.st) (bc r.st) .none kV dc pm an cd ct) #[us,[]]=pure (r.ps.zip us)
abbrev Jd(r:wk)(us:List Value):Prop:=∀(x qual:Str)(kV dc pm:Value)(an:Option Addr)(cd ct:Value),Bo (fnOf x qual (jV r.st) (dN r.st) (bc r.st) .none kV dc pm an cd ct) #[us,[]]=pure (r.ps.zip us)
theorem Zt(e:r.ps.length=0)(h:Jd r []):zD r:=λx q a b c d f g us hl=>by
 rw[e] at hl;obtain rfl:=zT.mp hl;exact h x q a b c d f g
theorem Zu(e:r.ps.length=1)(h:∀a,Jd r [a]):zD r:=λx q a b c d f g us hl=>by
 rw[e] at hl
 match us,hl with
 |[u],_=>exact h u x q a b c d f g
theorem Zv(e:r.ps.length=2)(h:∀a b,Jd r [a,b]):zD r:=λx q a b c d f g us hl=>by
 rw[e] at hl
 match us,hl with
 |[u,v],_=>exact h u v x q a b c d f g
theorem Zw(e:r.ps.length=3)(h:∀a b c,Jd r [a,b,c]):zD r:=λx q a b c d f g us hl=>by
 rw[e] at hl
 match us,hl with
 |[u,v,w],_=>exact h u v w x q a b c d f g
theorem Zx(e:r.ps.length=4)(h:∀a b c d,Jd r [a,b,c,d]):zD r:=λx q a b c d f g us hl=>by
 rw[e] at hl
 match us,hl with
 |[u,v,w,z],_=>exact h u v w z x q a b c d f g
noncomputable def Ft(r:wk):Bool:=(bc r.st).kind==.function && !(bc r.st).isCoroutine && !(bc r.st).isGenerator&&decide r.N.Nodup&&r.N.take r.ps.length==r.ps&&(r.ps.all λx=>(bc r.st).names.lookup x==some .local||(bc r.st).names.lookup x==some .cell)&&((bc r.st).names.all λy=>y.2 !=.free)&&decide (r.ps.length<=r.N.length)
theorem Ft.sc(h:Ft r=true):fX r.N r.ps (bc r.st)/\r.ps.length<=r.N.length:=by
 unfold Ft at h;simp only[af,bR,decide_eq_true_eq,aO,beq_iff_eq,gv,bne_iff_ne] at h;obtain⟨⟨⟨⟨⟨⟨⟨h1,h2⟩,h3⟩,h4⟩,h5⟩,h6⟩,h7⟩,h8⟩:=h;exact#[#[h1,h2,h3,h4,h5,h6,h7],h8]
noncomputable def QE(T:Tab)(r:wk):Bool:=
 if r.cl=="" then(T.qc.all λp=>p.2++"."++p.1 !=r.x)&&(T.qb.all λy=>y++".__init__" !=r.x)
 else !(T.fns.contains r.x)&&r.x==r.cl++"."++r.q&&if r.q=="__init__" then(T.qc.all λp=>p.2++"."++p.1 !=r.x)&&(T.qb.all λy=>y++".__init__" !=r.x||y==r.cl)
  else(T.qc.all λp=>p.2++"."++p.1 !=r.x||(p.1==r.q&&p.2==r.cl))&&(T.qb.all λy=>y++".__init__" !=r.x)
noncomputable def Je(rows:List wk):List String:=(rows.filter λr=>r.cl=="").map (·.x)
noncomputable def Jf(rows:List wk):List (String×String):=(rows.filter λr=>r.cl !=""&&r.q !="__init__").map λr=>(r.q,r.cl)
structure Mv(K:Frag)(p:String×Addr)(fl:List String):Prop where
 ns:nsIn K bu (b8 p.1)=some (some (.ref p.2))
 cl:wO K p.2
 ms:makesIn K p.2=true
 kp:lT K (.ref p.2)=true
 na:fl.map (λf=>iC K (.ref p.2) (b8 f))=fl.map λ_=>some none
theorem oG{α:Type}{x:String}{a:α}:∀{l:List (String×α)},l.lookup x=some a->(x,a)∈l
 | (k,v)::l,h=>by
  rw[ba] at h;split at h
  .rename_i e
   have e:x=k:=eq_of_beq e;cases h;subst e;exact bf ..
  .exact aV _ (oG h)
theorem Nf{K:Frag}{C:Addr}{fl:List String}(h:fl.map (λf=>iC K (.ref C) (b8 f))=fl.map λ_=>some none):∀f∈fl,fD K C (nm f):=λf m=>eO.mp h f m
section
variable{c:Ctx}{T:Tab}{rows:List wk}{CA:List (String×Addr)}{h:Heap}{fl:List String}
theorem Mw(X:c.K.In h)(G:h.Ns bu c.mg)(hc:c.cls=λx=>CA.lookup x)(hC:∀p∈CA,Mv c.K p fl)(R:∀r∈rows,A5 c.K CA r)(bd:∀r∈rows,zD r)(sc:rows.all Ft=true)(rl:rows.all (QE T)=true)
  (tx:rows.map (λr=>Jz T 60 #[(bc r.st).names,r.N,true] (dN r.st))=rows.map λr=>some r.b) (i:Nat) (r:wk) (e:rows[i]?=some r):fK c T r.x r.ps.length (r.N.length-r.ps.length) r.b:=by
 have m:=aw e;obtain⟨s1,s2⟩:=(bR.mp sc r m |> Ft.sc)
 have t:=eO.mp tx r m;have b:=bd r m;have rr:=bR.mp rl r m;have ln:r.N.length=r.ps.length+(r.N.length-r.ps.length):=∅
 cases R r m with
 |fn h1 h2=>
  obtain⟨fd,F,kp⟩:=h2.fn;refine#[#[_,_,_,_,#[#[_,_,fd,F,F.binds λkV dc pm an cd ct us hl=>b _ _ kV dc pm an cd ct us hl],s1,#[60,t],ln],rfl,λg ro=>?_]];have rr:((T.qc.all λp=>p.2++"."++p.1 !=_)&&(T.qb.all λy=>y++".__init__" !=_))=true:=rr;rw[af] at rr;exact Ms (kS X G h1) rr.1 rr.2 ro
 |@mt x q cl st N ps b' f C hn h0 h1 h2 h3=>
  obtain⟨fd,F,kp⟩:=h3.fn;refine#[#[_,_,_,_,#[#[_,_,fd,F,F.binds λkV dc pm an cd ct us hl=>b _ _ kV dc pm an cd ct us hl],s1,#[60,t],ln],rfl,λg ro=>?_]];unfold QE at rr;simp only[hn,ah,if_false,af,gv,beq_iff_eq] at rr;obtain⟨⟨r1,r2⟩,r3⟩:=rr;have hcl:c.cls cl=some C:=by rw[hc];exact h0
  have cm:=hC _ (oG h0);subst r2;by_cases z:q="__init__"
  .subst z
   simp only[if_true,af] at r3;have e:cl++"."++"__init__"=cl++".__init__":=by rw[String.append_assoc];rfl
   have ro:Role c T (cl++"."++"__init__") g:=ro;rw[e] at r1 r3 ro;exact Mu (cl:=cl) hcl #[cm.ms,h1,h2,cm.kp] r1 r3.1 r3.2 ro
  .rw[if_neg z,af] at r3
   exact Mt (m:=q) (cl:=cl) hcl #[h1,h2,kp] r1 r3.1 r3.2 ro
theorem CN(b:zD r)(h:vC c.K x qual r.st f):FnAt c k f wj:=by
 obtain⟨fd,F,kp⟩:=h.fn;exact U0 (F.binds λkV dc pm an cd ct us hl=>b _ _ kV dc pm an cd ct us hl)
theorem QF(X:c.K.In h)(G:h.Ns bu c.mg)(hc:c.cls=λx=>CA.lookup x)(hC:∀p∈CA,Mv c.K p fl)(R:∀r∈rows,A5 c.K CA r)(bd:∀r∈rows,zD r)
  (t1:T.fns=Je rows) (t2:T.qc=Jf rows) (t3:∀x∈T.qb,∃r∈rows,r.cl=x/\r.q="__init__"/\(x=="")=false):fZ c T (λ_=>wj) k:=by
 refine fZ.none (λx hx=>?_) (λp hp=>?_) (λx hx=>?_)
 .rw[t1] at hx
  obtain⟨r,hr,rfl⟩:=bx.mp hx;obtain⟨m,e⟩:=eJ.mp hr;have b:=bd r m;cases R r m with
  |@fn q st N ps b' f h1 h2=>
   obtain⟨fd,F,kp⟩:=h2.fn;exact#[f,kS X G h1,kp,CN b h2]
  |mt hn=>exact absurd e (by show ¬(_=="")=true;rw[hn];simp)
 .rw[t2] at hp
  obtain⟨r,hr,rfl⟩:=bx.mp hp;obtain⟨m,e⟩:=eJ.mp hr;have b:=bd r m;cases R r m with
  |fn h1 h2=>simp at e
  |@mt x q cl st N ps b' f C hn h0 h1 h2 h3=>
   obtain⟨fd,F,kp⟩:=h3.fn;exact#[C,f,by rw[hc];exact h0,#[h1,h2,kp],CN b h3]
 .obtain⟨r,m,rfl,eq,ne⟩:=t3 x hx
  have b:=bd r m;cases R r m with
  |fn h1 h2=>simp at ne
  |@mt x q cl st N ps b' f C hn h0 h1 h2 h3=>
   have eq:q="__init__":=eq;subst eq;have cm:=hC _ (oG h0);exact#[C,f,by rw[hc];exact h0,kS X G cm.ns,#[cm.ms,h1,h2,cm.kp],CN b h3]
theorem QG(hc:c.cls=λx=>CA.lookup x)(hC:∀p∈CA,Mv c.K p fl)(x:String)(C:Addr)(h:c.cls x=some C):wO c.K C/\∀f∈fl,fD c.K C (nm f):=by
 rw[hc] at h;have:=hC _ (oG h);exact#[this.cl,Nf this.na]
end
structure XF(K:Frag)(C:Addr)(bm:List Value):Prop where
 get:XGet K C
 is:Oi K C
 cls:oq K C bm
theorem U2{K:Frag}{C N:Addr}{bm bs:List Value}{cd:ClassData}{nm q:Str}{sn:List Str}{sub:List Value}{ab:Bool}{col:Option Bool}{dd:Option Addr}{k0 k1 k2 k3 k5:Option Value}
  (ga:iC K (.ref C) "__getattribute__"=some (some (.builtin "BaseException.__getattribute__"))) (gh:iC K (.ref C) "__getattr__"=some none) (hb:mroIn K C (.type "BaseException")=some true) (hd:hasDictIn K C=true) (sa:iC K (.ref C) "__setattr__"=some (some (.builtin "object.__setattr__")))
  (cl:clsIn K C=some cd) (ob:K.lookup C=some (kP nm q C N bs bm true sn sub ab col dd k0 k1 k2 k3 k5 "ValueError.__new__")) (mr:cd.mro=.ref C::bm) (tl:tailIn K xj bm=true)
  (ha:iC K (.ref C) "__class__"=some (some (.builtin "object.__class__"))) (hn:specialIn K (.builtin "object.__class__") "__get__"=some (some (.builtin "getset_descriptor.__get__")))
  (NV:takesIn K (.builtin "object.__class__")=some true) (hm:mroIn K C (.type "object")=some true):XF K C bm:=
 #[#[ga,gh,hb,hd,sa,cd,bm,cl,mr,tl],#[#[ga,gh,hb,hd,sa,cd,bm,cl,mr,tl],ha,hn,NV,hm],#[#[nm,q,N,bs,sn,sub,ab,col,dd,k0,k1,k2,k3,k5,ob],tl]]
theorem QH{K:Frag}{C:Addr}{b1 b2:List Value}(h1:oq K C b1)(h2:oq K C b2):b1=b2:=by
 obtain⟨nm,q,N,bs,sn,sub,ab,col,dd,k0,k1,k2,k3,k5,e1⟩:=h1.ob;obtain⟨nm',q',N',bs',sn',sub',ab',col',dd',k0',k1',k2',k3',k5',e2⟩:=h2.ob;have e:=e1.symm.trans e2;unfold kP at e;cases e
 rfl
abbrev U3:=String×Addr×List Value
structure Xy(K:Frag)(fl:List String)(p:U3):Prop where
 ns:nsIn K bu (b8 p.1)=some (some (.ref p.2.1))
 xf:XF K p.2.1 p.2.2
 na:fl.map (λf=>iC K (.ref p.2.1) (b8 f))=fl.map λ_=>some none
noncomputable def zE(EA:List U3)(x:String):Option Addr:=(EA.lookup x).map (·.1)
structure Xs(K:Frag)(fl:List String)(EA:List U3):Prop where
 xs:∀p∈EA,Xy K fl p
 q:EA.map (λp=>EA.map λr=>rg K (.ref p.2.1) (.ref r.2.1))=EA.map λp=>EA.map λr=>some ((PL.mC p.1).contains r.1)
 v:EA.map (λp=>rg K (.ref p.2.1) (.type "ValueError"))=EA.map λ_=>some true
 u:EA.map (λp=>EA.map λr=>!(PL.mC p.1).contains r.1||(aS p.2.1::p.2.2).contains (.ref r.2.1))=EA.map λ_=>EA.map λ_=>true
section
variable{K:Frag}{fl:List String}{EA:List U3}{x y:String}{C D:Addr}
theorem kH(h:zE EA x=some C):∃bm,(x,C,bm)∈EA:=by
 obtain⟨p,e,rfl⟩:=ag.mp h;exact#[p.2,oG e]
variable(X:Xs K fl EA)
include X
theorem Xs.exc(x:String)(C:Addr)(h:zE EA x=some C):XGet K C/\Oi K C/\(∃bm,oq K C bm)/\∀f∈fl,fD K C (nm f):=by
 obtain⟨bm,m⟩:=kH h;have:=X.xs _ m;exact#[this.xf.get,this.xf.is,#[_,this.xf.cls],Nf this.na]
theorem Xs.ns(h:zE EA x=some C):nsIn K bu (b8 x)=some (some (.ref C)):=by
 obtain⟨bm,m⟩:=kH h;exact(X.xs _ m).ns
theorem Xs.QW(x:String)(C:Addr)(y:String)(D:Addr)(h:zE EA x=some C)(h':zE EA y=some D):rg K (.ref C) (.ref D)=some ((PL.mC x).contains y):=by
 obtain⟨bm,m⟩:=kH h;obtain⟨bn,n⟩:=kH h';exact eO.mp (eO.mp X.q _ m) _ n
theorem Xs.W7(x:String)(C:Addr)(h:zE EA x=some C):rg K (.ref C) (.type "ValueError")=some true:=by
 obtain⟨bm,m⟩:=kH h;exact eO.mp X.v _ m
theorem Xs.up(x:String)(C:Addr)(bm:List Value)(y:String)(D:Addr)(h:zE EA x=some C)(h':zE EA y=some D)(hc:oq K C bm)(hu:(PL.mC x).contains y=true):(aS C::bm).contains (.ref D)=true:=by
 obtain⟨bm',m⟩:=kH h;obtain⟨bn,n⟩:=kH h';have:=eO.mp (eO.mp X.u _ m) _ n;rw[QH hc (X.xs _ m).xf.cls]
 rw[hu] at this;exact this
end
theorem tY(h:c.mg (nm x)=some (.str s t))(e:s=tx l):∃v u,c.mg (nm x)=some u/\RelV v u/\∀ρ H,Rep c ρ H (.str l) v:=
 #[.str (tx l),_,h,#[t,by rw[e]],λ_ _=>bq.mpr rfl]
theorem A6{K:Frag}{a:Addr}:∀(kvs:List (Str×Str)),(∀p∈kvs,∃t,nsIn K a p.1=some (some (.str p.2 t)))->∀k v,(kvs.map λp=>(p.1,V.str p.2)).lookup k=some v->∃u,RelV v u/\nsIn K a k=some (some u)
 |[],_,k,v,h=>by simp at h
 |p::r,hp,k,v,h=>by
  rw[aD,ba] at h;split at h
  .rename_i e
   have e:k=p.1:=eq_of_beq e;cases h;obtain⟨t,z⟩:=hp p (bf ..);exact#[_,#[t,rfl],by rw[e];exact z]
  .exact A6 r (λq hq=>hp q (aV _ hq)) k v h
noncomputable def Fu:Value->Option Str
 |.str s _=>some s
 |_=>none
theorem D7(k:Str):∀(es:List DictEntry)(ks:List Str),es.map (λe=>Fu e.key)=ks.map some->k∉ks->es.find? (·.key.isStr k)=none/\es.any (·.refKey)=false
 |[],_,_,_=>#[rfl,rfl]
 |e::r,[],h,_=>by cases h
 |⟨hs,ky,vl⟩::r,q::ks,h,n=>by
  rw[aD,aD,dX] at h;obtain⟨i,j⟩:=D7 k r ks h.2 λz=>n (aV _ z)
  have h1:Fu ky=some q:=h.1;cases ky with
  |str s t=>
   have e:s=q:=aG h1;subst e;have ne:(s==k)=false:=by
    rw[beq_eq_false_iff_ne];exact λz=>n (z▸bf ..)
   exact#[by rw[fV];show(match (s==k) with|true=>_|false=>_)=_;rw[ne];exact i,by rw[cV,j];rfl]
  |_=>cases h1
theorem Mx(h:c.mg (nm x)=some (.ref a))(l:c.K.lookup a=some #[.type "dict",none,.dict es n,#[]])(kl:Be c.w.params es.toList)
  (ky:es.toList.map (λe=>Fu e.key)=(kvs.map λp=>tx p.1).map some) (ns:(a==dH)=false)
  (hk:∀p∈kvs,∃t,nsIn c.K a (tx p.1)=some (some (.str (tx p.2) t))):∃v u,c.mg (nm x)=some u/\RelV v u/\∀ρ H,Rep c ρ H (.tab kvs) v:=by
 refine#[.ref a,_,h,rfl,λρ H=>tM.mpr #[a,rfl,#[es,n,l,kl],λk v e=>?_,λk e=>?_,ns]]
 .refine A6 (kvs.map λp=>(tx p.1,tx p.2)) ?_ k v (by rw[bM];exact e)
  intro p hp;obtain⟨q,hq,rfl⟩:=bx.mp hp;exact hk q hq
 .have nm:k∉kvs.map λp=>tx p.1:=λz=>by
   obtain⟨q,hq,rfl⟩:=bx.mp z;have:=List.lookup_eq_none_iff.mp e (tx q.1,V.str (tx q.2)) (bx.mpr #[q,hq,rfl]);simp at this
  obtain⟨i,j⟩:=D7 k _ _ ky nm;unfold nsIn;rw[l]
  show(match es.toList.find? (·.key.isStr k) with|some e=>some (some e.val)|none=>if es.toList.any (·.refKey) then none else some none)=some none
  rw[i,j]
  rfl
theorem U4(h:c.mg (nm x)=some (.ref a))(l:c.K.lookup a=some #[.type "dict",none,.dict es n,#[]])(kl:Be c.w.params es.toList)
  (ky:es.toList.map (λe=>Fu e.key)= [some k0,some k1,some k2]) (ns:(a==dH)=false) (c0:k0=tx l0) (c1:k1=tx l1) (c2:k2=tx l2)
  (r0:nsIn c.K a k0=some (some (.str z0 t0))) (e0:z0=tx m0) (r1:nsIn c.K a k1=some (some (.str z1 t1))) (e1:z1=tx m1) (r2:nsIn c.K a k2=some (some (.str z2 t2))) (e2:z2=tx m2):
  ∃v u,c.mg (nm x)=some u/\RelV v u/\∀ρ H,Rep c ρ H (.tab [(l0,m0),(l1,m1),(l2,m2)]) v:=by
 subst c0 c1 c2 e0 e1 e2;refine Mx h l kl ky ns ?_;exact az.mpr #[#[t0,r0],az.mpr #[#[t1,r1],az.mpr #[#[t2,r2],λ_ h=>(bP h).elim]]]
theorem VD{c:Ctx}{EA:List U3}{x:String}{C f:Addr}{st:Stmt}{ps:List Str}(hx:c.exc x=some C)(kc:lT c.K (.ref C)=true)(a:iC c.K (.ref C) "__init__"=some (some (.ref f)))(i:isFn c.K (.ref f)=true){q:Str}(F:vC c.K "__init__" q st f)
  (bd:∀(x qual:Str)(kV dc pm:Value)(an:Option Addr)(cd ct:Value)(us:List Value),us.length=ps.length->Bo (fnOf x qual (jV st) (dN st) (bc st) .none kV dc pm an cd ct) #[us,[]]=pure (ps.zip us)) (hp:ps.length<=1000)
  (h:∀fd,BQ c.K "__init__" q st f fd->iK c.P c.w c.K c.mg c.base (pX c.P c.w) 1 f fd ps (y4 C ((PL.cL x).map nm))):pM c 1 x:=by
 obtain⟨fd,F,kp⟩:=F.fn;exact#[#[C,f,fd,ps,hx,kc,a,i,h fd F,F.binds λkV dc pm an cd ct us hl=>bd _ _ kV dc pm an cd ct us hl,hp]]
open PL (U SO bJ Xn KU KX bY)
theorem fZ.mono(G:fZ c T Γ j)(h:j<=k):fZ c T Γ k:=
 #[λx hx=>let ⟨f,a,b,d⟩:=G.fns x hx;#[f,a,b,d.mono h],λp hp=>let ⟨C,f,a,b,d⟩:=G.QY p hp;#[C,f,a,b,d.mono h],λx hx=>let ⟨C,f,a,b,e,d⟩:=G.cls x hx;#[C,f,a,b,e,d.mono h]]
theorem fZ.mix(G1:fZ c T Γ1 k)(G2:fZ c T Γ2 k)(h:∀x,Γ x=Γ1 x\/Γ x=Γ2 x):fZ c T Γ k:=by
 refine#[λx hx=>?_,λp hp=>?_,λx hx=>?_]
 .rcases h x with e|e<;>rw[e]
  .exact G1.fns x hx
  .exact G2.fns x hx
 .rcases h (p.2++"."++p.1) with e|e<;>rw[e]
  .exact G1.QY p hp
  .exact G2.QY p hp
 .rcases h (x++".__init__") with e|e<;>rw[e]
  .exact G1.cls x hx
  .exact G2.cls x hx
theorem GS.mono(G:GS c T kx Γ j)(h:j<=k):GS c T kx Γ k:=#[aT G.le h,fZ.mono G.ok h]
structure QJ(c:Ctx)(T:Tab):Prop where
 written:fK c T "written" 1 0 PL.oY
 row:fK c T "row_text" 1 0 PL.mZ
 rep:fK c T "repeat_text" 1 2 PL.jj
 atom:fK c T "atom_text" 1 0 PL.lh
 place:fK c T "place_text" 1 0 PL.jX
 sign:fK c T "sign_text" 2 0 PL.lj
 texts:fK c T "class_texts" 1 1 PL.jk
 guarded:fK c T "guarded" 1 0 PL.oZ
 items:fK c T "class_items" 1 2 PL.jm
 runs:fK c T "runs" 1 3 PL.yV
 Xz:fK c T "run_items" 1 2 PL.lu
open PL.jM in
structure My(c:Ctx)(T:Tab):Prop where
 po:fK c T "places_of" 2 4 lz
 to:fK c T "tree_of" 2 1 o7
 mem:fK c T "members" 1 0 o9
 pt:fK c T "Part.__init__" 4 0 lA
 YO:fK c T "one_behind_other" 2 2 fE
 YQ:fK c T "one_or_other" 2 0 iS
 li:fK c T "Layout.__init__" 1 0 jo
 hm:fK c T "Layout.how_many" 1 0 fY
 cr:fK c T "Layout.close_rule" 2 0 eT
 lk:fK c T "Layout.link" 3 1 jq
 lay:fK c T "Layout.lay" 2 0 jY
 lp:fK c T "Layout.lay_place" 2 1 fF
 lr:fK c T "Layout.lay_row" 2 3 gK
 lc:fK c T "Layout.lay_choice" 2 2 eU
 lq:fK c T "Layout.lay_repeat" 2 4 eV
 us:fK c T "useful_places" 1 5 iz
 Zy:fK c T "places_that_take" 2 0 fG
 pi:fK c T "Places.__init__" 2 1 jr
 Zz:fK c T "Places.beyond" 2 2 iA
 fr:fK c T "Places.first_rule" 2 2 eY
 wi:fK c T "Walk.__init__" 2 0 lB
 wm:fK c T "Walk.may_go_on" 1 0 gM
 al:fK c T "Walk.along" 2 0 jZ
 ws:fK c T "Walk.step" 2 2 lC
 lx:fK c T "Lexer.__init__" 2 0 j0
 ci:fK c T "Cutter.__init__" 2 0 PL.qV.jt
 ta:fK c T "Cutter.take" 2 0 PL.qV.ju
 en:fK c T "Cutter.end" 1 0 PL.qV.kb
 st:fK c T "Cutter.sure_tokens" 2 2 PL.qV.d9
 ns:fK c T "Cutter.next_is_sure" 2 0 PL.qV.dQ
 pv:fK c T "Cutter.pass_over" 2 0 PL.qV.fH
open PL.jM in
structure CO(c:Ctx)(T:Tab):Prop where
 cell:fK c T "_law_cell" 2 0 PL.tL.ly
 mix:fK c T "_law_mix" 2 1 PL.tL.m9
 all:fK c T "_law_all" 0 1 PL.tL.ng
 no:fK c T "_law_nothing" 1 0 iT
 be:fK c T "_law_behind" 2 4 js
 re:fK c T "_law_rests" 2 3 j6
 ed:fK c T "_law_ends" 1 0 ow
 tk:fK c T "_law_token" 3 4 j7
 sm:fK c T "_law_small" 3 3 j8
 tr:fK c T "_law_trees" 4 3 j9
 tx:fK c T "_law_text" 3 0 lD
 li:fK c T "_law_lives" 1 0 PL.qV.ke
 mo:fK c T "_law_more" 1 0 PL.qV.lE
 op:fK c T "_law_open" 2 2 PL.qV.lF
 ZA:fK c T "_law_asked" 2 3 PL.qV.kf
 su:fK c T "_law_sure" 4 2 PL.qV.lG
open PL PL.jM in
theorem A7(us:List U)(S:bJ)(Q:KU)(E:KX)(h:D3 D f us S Q E):us.length=1:=by
 obtain⟨_,rfl,_⟩:=h;rfl
open PL PL.jM in
theorem xW(us:List U)(S:bJ)(Q:KU)(E:KX)(h:ik D us S Q E):us.length=2:=by
 obtain⟨_,_,_,_,_,_,rfl,_⟩:=h;rfl
open PL PL.jM in
theorem tZ(W:QJ c T)(B:Base c T kx)(G:GS c T kx Γ j)(k:Nat)(hk:k<=10)(D:Tr->Prop)(hD:∀t,bH t<=k->A3 t->D t)(hp:Γ "place_text"=Ml)(hw:Γ "written"=D3 D wr):
  ∃Γ',GS c T kx Γ' (j+8)/\Γ' "place_text"=Ml/\Γ' "written"=D3 (λt=>bH t<=k\/(A3 t/\bH t<=k+1)) wr:=by
 have g1:=W.atom.up B G (Qy _ k D hD hp hw) A7;have g2:=W.rep.up B g1 (Qz _ k hk aY) A7;have g3:=W.row.up B g2 (QC _ k aY) A7;have g4:=W.written.up B g3 (QD _ k aY) A7;exact#[_,g4,hp,aY]
open PL PL.jM in
theorem U5(R:Fs c T)(W:QJ c T)(B:Base c T kx)(G:GS c T kx Γ j):∃Γ',GS c T kx Γ' (j+50)/\Γ' "written"=D3 (λt=>bH t<=3\/(A3 t/\bH t<=3+1)) wr:=by
 have a0:=R.Ct.up B G (va _) len_T;have a1:=W.sign.up B a0 (UK _) (λus S Q E h=>by obtain⟨_,_,rfl,_⟩:=h;rfl);have a2:=W.Xz.up B a1 (UM _ aY) (λus S Q E h=>by obtain⟨_,rfl,_⟩:=h;rfl);have a3:=W.runs.up B a2 (UO _) (λus S Q E h=>by obtain⟨_,rfl,_⟩:=h;rfl);have a4:=W.items.up B a3 (UQ _ rfl rfl) (λus S Q E h=>by obtain⟨_,rfl,_⟩:=h;rfl);have a5:=W.guarded.up B a4 (US _) (λus S Q E h=>by obtain⟨_,_,rfl,_⟩:=h;rfl);have a6:=W.texts.up B a5 (UU _ rfl rfl rfl) (λus S Q E h=>by obtain⟨_,rfl,_⟩:=h;rfl);have a7:=W.place.up B a6 (UW _ rfl rfl rfl) (λus S Q E h=>by obtain⟨_,rfl,_⟩:=h;rfl);have a8:=W.written.up B a7 (sp:=D3 (λ_=>False) wr) (λus S Q E h=>by obtain⟨_,_,h,_⟩:=h;exact h.elim) A7;obtain⟨Γ1,G1,p1,w1⟩:=tZ W B a8 0 ∅ _ (λt d r=>by cases t<;>first|exact r.elim|exact absurd d (Nat.not_succ_le_zero _)) rfl aY;obtain⟨Γ2,G2,p2,w2⟩:=tZ W B G1 1 ∅ _ (λt d r=>.inr #[r,d]) p1 w1;obtain⟨Γ3,G3,p3,w3⟩:=tZ W B G2 2 ∅ _ (λt d r=>.inr #[r,d]) p2 w2;obtain⟨Γ4,G4,p4,w4⟩:=tZ W B G3 3 ∅ _ (λt d r=>.inr #[r,d]) p3 w3;exact#[Γ4,G4,w4]
section
open PL PL.jM
structure GP(Γ:bY):Prop where
 mem:Γ "members"=AM
 pt:Γ "Part.__init__"=zk
 YO:Γ "one_behind_other"=qf rT
 YQ:Γ "one_or_other"=qf TF
 li:Γ "Layout.__init__"=PZ
 hm:Γ "Layout.how_many"=P0
 cr:Γ "Layout.close_rule"=P1
 lk:Γ "Layout.link"=IJ
 lp:Γ "Layout.lay_place"=ik λt u=>∃n l,t=.one n l/\u=.str l
variable{c:Ctx}{T:Tab}{Γ:bY}{j kx:Nat}
theorem Mz(P:My c T)(B:Base c T kx)(G:GS c T kx Γ j):∃Γ',GS c T kx Γ' (j+20)/\GP Γ'/\Γ' "Layout.lay"=ik (Tu 0):=by
 have g1:=P.mem.up B G (PV _) (λus S Q E h=>by obtain⟨_,rfl,_⟩:=h;rfl);have g2:=P.pt.up B g1 (TC _) (λus S Q E h=>by obtain⟨_,_,_,_,rfl,_⟩:=h;rfl);have g3:=P.YO.up B g2 (PX _ aY) (λus S Q E h=>by obtain⟨_,_,_,_,_,_,_,_,rfl,_⟩:=h;rfl);have g4:=P.YQ.up B g3 (TH _ rfl) (λus S Q E h=>by obtain⟨_,_,_,_,_,_,_,_,rfl,_⟩:=h;rfl);have g5:=P.li.up B g4 (TJ _) (λus S Q E h=>by obtain⟨_,rfl,_⟩:=h;rfl);have g6:=P.hm.up B g5 (TK _) (λus S Q E h=>by obtain⟨_,_,_,_,rfl,_⟩:=h;rfl);have g7:=P.cr.up B g6 (TL _) (λus S Q E h=>by obtain⟨_,_,_,_,_,_,_,_,_,_,rfl,_⟩:=h;rfl);have g8:=P.lk.up B g7 (TN _ rfl) (λus S Q E h=>by obtain⟨_,_,_,_,_,_,rfl,_⟩:=h;rfl);have g9:=P.lp.up B g8 (TQ _ rfl) xW;have ga:=P.lay.up B g9 (sp:=ik (Tu 0)) (λus S Q E h=>by obtain⟨_,_,_,_,_,_,_,h,_⟩:=h;exact absurd h.1 (iM _)) xW;exact#[_,ga,#[rfl,rfl,rfl,rfl,rfl,rfl,rfl,rfl,rfl],aY]
theorem qQ(P:My c T)(B:Base c T kx)(G:GS c T kx Γ j)(g:GP Γ)(d:Nat)(hd:d<=100)(hl:Γ "Layout.lay"=ik (Tu d)):∃Γ',GS c T kx Γ' (j+8)/\GP Γ'/\Γ' "Layout.lay"=ik (Tu (d+1)):=by
 obtain⟨e1,e2,e3,e4,e5,e6,e7,e8,e9⟩:=g;have g1:=P.lr.up B G (TV _ d e2 hl e8 e3) xW;have g2:=P.lc.up B g1 (TX _ d e2 hl e4) xW;have g3:=P.lq.up B g2 (TZ _ d hd e2 hl e8) xW;have g4:=P.lay.up B g3 (P6 _ d e9 rfl rfl rfl) xW;exact#[_,g4,#[e1,e2,e3,e4,e5,e6,e7,e8,e9],aY]
theorem U6(P:My c T)(B:Base c T kx)(G:GS c T kx Γ j):∃Γ',GS c T kx Γ' (j+95)/\GP Γ'/\Γ' "Layout.lay"=ik (Tu 4)/\Γ' "Places.__init__"=P9/\Γ' "Cutter.__init__"=Ql/\Γ' "Cutter.take"=Qn/\Γ' "Cutter.end"=Qo:=by
 obtain⟨Γ0,G0,p0,l0⟩:=Mz P B G;obtain⟨Γ1,G1,p1,l1⟩:=qQ P B G0 p0 0 ∅ l0;obtain⟨Γ2,G2,p2,l2⟩:=qQ P B G1 p1 1 ∅ l1;obtain⟨Γ3,G3,p3,l3⟩:=qQ P B G2 p2 2 ∅ l2;obtain⟨Γ4,G4,p4,l4⟩:=qQ P B G3 p3 3 ∅ l3;obtain⟨e1,e2,e3,e4,e5,e6,e7,e8,e9⟩:=p4;have g1:=P.us.up B G4 (T3 _ e1) (λus S Q E h=>by obtain⟨_,_,_,_,rfl,_⟩:=h;rfl);have g2:=P.Zy.up B g1 (P7 _) (λus S Q E h=>by obtain⟨_,_,_,_,_,rfl,_⟩:=h;rfl);have g3:=P.pi.up B g2 (T5 _ rfl aY) (λus S Q E h=>by obtain⟨_,_,_,_,_,rfl,_⟩:=h;rfl);have g4:=P.Zz.up B g3 (T7 _ e1) (λus S Q E h=>by obtain⟨_,_,_,_,_,rfl,_⟩:=h;rfl);have g5:=P.fr.up B g4 (T9 _) (λus S Q E h=>by obtain⟨_,_,_,_,_,rfl,_⟩:=h;rfl);have g6:=P.wi.up B g5 (Ub _ rfl) (λus S Q E h=>by obtain⟨_,_,_,_,_,rfl,_⟩:=h;rfl);have g7:=P.wm.up B g6 (Uc _) (λus S Q E h=>by obtain⟨_,_,_,_,_,rfl,_⟩:=h;rfl);have g8:=P.ws.up B g7 (Ue _ rfl rfl) (λus S Q E h=>by obtain⟨_,_,_,_,_,_,_,_,_,rfl,_⟩:=h;rfl);have g9:=P.al.up B g8 (Ui _ rfl aY) (λus S Q E h=>by obtain⟨_,_,_,_,_,_,_,_,rfl,_⟩:=h;rfl);have ga:=P.ns.up B g9 (UA _ aY rfl) (λus S Q E h=>by obtain⟨_,_,_,_,_,_,_,rfl,_⟩:=h;rfl);have gb:=P.pv.up B ga (UC _ rfl) (λus S Q E h=>by obtain⟨_,_,_,_,_,_,_,rfl,_⟩:=h;rfl);have gc:=P.st.up B gb (UD _ rfl aY) (λus S Q E h=>by obtain⟨_,_,_,_,_,_,_,rfl,_⟩:=h;rfl);have gd:=P.ta.up B gc (UE _ aY) (λus S Q E h=>by obtain⟨_,_,_,_,_,_,_,rfl,_⟩:=h;rfl);have ge:=P.en.up B gd (UG _ rfl) (λus S Q E h=>by obtain⟨_,_,_,_,_,_,rfl,_⟩:=h;rfl);have gf:=P.ci.up B ge (Uy _ rfl) (λus S Q E h=>by obtain⟨_,_,_,rfl,_⟩:=h;rfl);exact#[_,gf.mono ∅,#[e1,e2,e3,e4,e5,e6,e7,e8,e9],l4,rfl,aY,rfl,rfl]
theorem lQ(us:List U)(S:bJ)(Q:KU)(E:KX)(h:DV f fR d us S Q E):us.length=1:=by
 obtain⟨_,rfl,_⟩:=h;rfl
theorem QK{f:Tr->Bool}{fR:List Tr->Bool}{P:Prop}{us:List U}{S:bJ}{Q:KU}{E:KX}(h:DV f fR 0 us S Q E):P:=by
 obtain⟨_,_,⟨_,_,h,_⟩|⟨_,_,h,_⟩⟩:=h
 .exact absurd h (iM _)
 .exact absurd h (iM _)
theorem qR(L:CO c T)(B:Base c T kx)(G:GS c T kx Γ j)(d:Nat)(hd:d<=100)(h1:Γ "_law_nothing"=zw d)(h2:Γ "_law_behind"=CC d):∃Γ',GS c T kx Γ' (j+4)/\Γ' "_law_nothing"=zw (d+1)/\Γ' "_law_behind"=CC (d+1):=by
 have g1:=L.be.up B G (Ut _ d hd h2 h1) (λus S Q E h=>by obtain⟨_,_,rfl,_⟩:=h;rfl);have g2:=L.no.up B g1 (Us _ d h1) lQ;exact#[_,g2,aY,rfl]
theorem U7(L:CO c T)(B:Base c T kx)(G:GS c T kx Γ j):∃Γ',GS c T kx Γ' (j+100)/\Γ' "_law_mix"=tL.xI/\Γ' "_law_trees"=Qv/\Γ' "_law_text"=Qw/\Γ' "_law_sure"=Qp:=by
 have a1:=L.no.up B G (sp:=zw 0) (λus S Q E h=>QK h) lQ;have a2:=L.be.up B a1 (sp:=CC 0) (λus S Q E h=>by
  obtain⟨_,_,_,⟨_,_,h,_⟩|⟨_,_,h,_⟩⟩:=h
  .exact absurd h (iM _)
  .exact absurd h (iM _)) (λus S Q E h=>by obtain⟨_,_,rfl,_⟩:=h;rfl)
 obtain⟨Γ1,G1,n1,b1⟩:=qR L B a2 0 ∅ rfl aY;obtain⟨Γ2,G2,n2,b2⟩:=qR L B G1 1 ∅ n1 b1;obtain⟨Γ3,G3,n3,b3⟩:=qR L B G2 2 ∅ n2 b2;obtain⟨Γ4,G4,n4,b4⟩:=qR L B G3 3 ∅ n3 b3;obtain⟨Γ5,G5,n5,b5⟩:=qR L B G4 4 ∅ n4 b4;have c1:=L.cell.up B G5 (sp:=tL.Cv) (tL.LU _) (λus S Q E h=>by obtain⟨_,_,rfl,_⟩:=h;rfl);have c2:=L.mix.up B c1 (sp:=tL.xI) (tL.PK _ aY) (λus S Q E h=>by obtain⟨_,_,rfl,_⟩:=h;rfl);have c3:=L.all.up B c2 (sp:=tL.IB) (tL.PM _) (λus S Q E h=>by obtain⟨rfl,_⟩:=h;rfl);have c4:=L.sm.up B c3 (sp:=Mn 0) (λus S Q E h=>by obtain⟨_,_,_,_,_,h,_⟩:=h;exact absurd h (iM _)) (λus S Q E h=>by obtain⟨_,_,_,rfl,_⟩:=h;rfl);have c5:=L.sm.up B c4 (Ja _ 0 rfl rfl aY) (λus S Q E h=>by obtain⟨_,_,_,rfl,_⟩:=h;rfl);have c6:=L.sm.up B c5 (Ja _ 1 rfl rfl aY) (λus S Q E h=>by obtain⟨_,_,_,rfl,_⟩:=h;rfl);have c7:=L.sm.up B c6 (Ja _ 2 rfl rfl aY) (λus S Q E h=>by obtain⟨_,_,_,rfl,_⟩:=h;rfl);have c8:=L.tr.up B c7 (UX _ aY n5) (λus S Q E h=>by obtain⟨_,_,rfl,_⟩:=h;rfl);have c9:=L.tx.up B c8 (UY _ rfl) (λus S Q E h=>by obtain⟨_,_,_,rfl,_⟩:=h;rfl);have cc:=L.re.up B c9 (Uu _ b5) (λus S Q E h=>by obtain⟨_,_,_,_,_,_,rfl,_⟩:=h;rfl);have cd:=L.ed.up B cc (Uv _ n5) (λus S Q E h=>by obtain⟨_,_,_,_,rfl,_⟩:=h;rfl);have ce:=L.tk.up B cd (Qj _ rfl aY) (λus S Q E h=>by obtain⟨_,_,_,_,rfl,_⟩:=h;rfl);have d0:=L.li.up B ce (sp:=DV live dm 0) (λus S Q E h=>QK h) lQ;have d1:=L.li.up B d0 (AX _ 0 aY) lQ;have d2:=L.li.up B d1 (AX _ 1 aY) lQ;have d3:=L.li.up B d2 (AX _ 2 aY) lQ;have d4:=L.li.up B d3 (AX _ 3 aY) lQ;have d5:=L.li.up B d4 (AX _ 4 aY) lQ;have f0:=L.mo.up B d5 (sp:=DV sN mF 0) (λus S Q E h=>QK h) lQ;have f1:=L.mo.up B f0 (AY _ 0 ∅ aY rfl) lQ;have f2:=L.mo.up B f1 (AY _ 1 ∅ aY rfl) lQ;have f3:=L.mo.up B f2 (AY _ 2 ∅ aY rfl) lQ;have f4:=L.mo.up B f3 (AY _ 3 ∅ aY rfl) lQ;have f5:=L.mo.up B f4 (AY _ 4 ∅ aY rfl) lQ;have h1:=L.op.up B f5 (Ux _ rfl aY) (λus S Q E h=>by obtain⟨_,_,_,rfl,_⟩:=h;rfl);have h2:=L.su.up B h1 (UJ _ aY rfl) (λus S Q E h=>by obtain⟨_,_,_,_,_,rfl,_⟩:=h;rfl);exact#[_,h2.mono ∅,rfl,rfl,rfl,aY]
theorem zF(l:List String)(G1:GS c T kx Γ1 j)(G2:GS c T kx Γ2 j):GS c T kx (λx=>if x∈l then Γ1 x else Γ2 x) j:=#[G1.le,fZ.mix G1.ok G2.ok λx=>by
 by_cases h:x∈l
 .exact .inl (if_pos h)
 .exact .inr (if_neg h)]
theorem Jg{xs qual:Str}{st:Stmt}{f:Addr}{fd:dS}{N ps:List Str}(R:Fs c T)(W:QJ c T)(P:My c T)(L:CO c T)(F:BQ c.K xs qual st f fd)(S:fX N ps (bc st))(tx:Jz T 60 #[(bc st).names,N,true] (dN st)=some PL.qV.Dr)(hm:N.length=ps.length+11)(hp:ps.length=1)(B:Base c T 1)(G:fZ c T (λ_=>wj) 1):iK c.P c.w c.K c.mg c.base (pX c.P c.w) 200 f fd ps (lift c Cp):=by
 have G:GS c T 1 (λ_=>wj) 1:=#[ax _,G]
 obtain⟨Γr,Gr,-,hr,-⟩:=CM R B G;obtain⟨Γw,Gw,hw⟩:=U5 R W B G;obtain⟨Γp,Gp,gp,pl,pi,pk,pt,pe⟩:=U6 P B G;obtain⟨Γl,Gl,l1,l2,l3,l4⟩:=U7 L B G;obtain⟨e1,e2,e3,e4,e5,e6,e7,e8,e9⟩:=gp;have m1:=zF ["read"] Gr (Gp.mono (k:=1+130) ∅);have g1:=P.to.up B m1 (Ul _ hr) (λus S Q E h=>by obtain⟨_,_,_,_,rfl,_⟩:=h;rfl);have g2:=P.po.up B g1 (Uo _ e5 pl aY e6 e7 pi) (λus S Q E h=>by obtain⟨_,_,_,rfl,_⟩:=h;rfl);have g3:=P.lx.up B g2 (Uq _ aY) (λus S Q E h=>by obtain⟨_,_,_,_,rfl,_⟩:=h;rfl);have g4:=L.ZA.up B g3 (UI _ pt pe) (λus S Q E h=>by obtain⟨_,_,_,_,_,_,_,_,_,rfl,_⟩:=h;rfl);have m2:=zF ["written"] (Gw.mono (k:=139) ∅) (g4.mono ∅);have m3:=zF ["_law_mix","_law_trees","_law_text","_law_sure"] (Gl.mono (k:=139) ∅) m2;have h:=MY F S B m3.le m3.ok tx (sp:=Cp) (Mr _ l1 l2 l3 hw rfl pk l4 rfl) hm (λus S Q E h=>by obtain⟨_,rfl,_⟩:=h;exact hp.symm);exact h.mono ∅
end
end L2
section
set_option autoImplicit false
namespace CP
open PySem PySem.Spec PyProof.Rows PySem.W L2
noncomputable def top(i:Nat):Stmt:=PySem.Challenge.pw_tokenwright_k12_whole_pieces.main.body.getD i (.Pass #[0,0,0,0])
noncomputable def rows:List wk:=
 #["in_order","in_order","",top 11,["signs"],["signs"],PL.mX]::
 #["all_but","all_but","",top 12,["signs"],["signs"],PL.oW]::
 #["is_ahead","is_ahead","",top 13,["one","other"],["one","other"],PL.mY]::
 #["stretch","stretch","",top 14,["first","last"],["first","last"],PL.oX]::
 #["read","read","",top 19,["text","reader","tree"],["text"],PL.yU]::
 #["joined","joined","",top 20,["kind","trees"],["kind","trees"],PL.qB]::
 #["Reader.__init__","__init__","Reader",inClass (top 21) 0,["self","text"],["self","text"],PL.je]::
 #["Reader.sees","sees","Reader",inClass (top 21) 1,["self","signs"],["self","signs"],PL.jf]::
 #["Reader.passes","passes","Reader",inClass (top 21) 2,["self","signs"],["self","signs"],PL.iu]::
 #["Reader.choice","choice","Reader",inClass (top 21) 3,["self","trees"],["self"],PL.iw]::
 #["Reader.row","row","Reader",inClass (top 21) 4,["self","trees"],["self"],PL.jW]::
 #["Reader.repeat","repeat","Reader",inClass (top 21) 5,["self","tree"],["self"],PL.iy]::
 #["Reader.atom","atom","Reader",inClass (top 21) 6,["self"],["self"],PL.jh]::
 #["Reader.bracket","bracket","Reader",inClass (top 21) 7,["self","tree"],["self"],PL.gJ]::
 #["Reader.sign_class","sign_class","Reader",inClass (top 21) 8,["self","turned","taken"],["self"],PL.eS]::
 #["Reader.item","item","Reader",inClass (top 21) 9,["self","first","second_at","second"],["self"],PL.ji]::
 #["Reader.written_sign","written_sign","Reader",inClass (top 21) 10,["self","marked","sign"],["self","marked"],PL.dP]::
 #["written","written","",top 42,["tree"],["tree"],PL.oY]::
 #["row_text","row_text","",top 43,["tree"],["tree"],PL.mZ]::
 #["repeat_text","repeat_text","",top 44,["tree","marks","inner"],["tree"],PL.jj]::
 #["atom_text","atom_text","",top 45,["tree"],["tree"],PL.lh]::
 #["place_text","place_text","",top 46,["signs"],["signs"],PL.jX]::
 #["sign_text","sign_text","",top 47,["sign","marked"],["sign","marked"],PL.lj]::
 #["class_texts","class_texts","",top 48,["signs","texts"],["signs"],PL.jk]::
 #["guarded","guarded","",top 49,["items"],["items"],PL.oZ]::
 #["class_items","class_items","",top 50,["signs","items","run"],["signs"],PL.jm]::
 #["runs","runs","",top 51,["signs","found","run","sign"],["signs"],PL.yV]::
 #["run_items","run_items","",top 52,["run","singles","whole"],["run"],PL.lu]::
 #["places_of","places_of","",top 25,["rules","most","layout","number","rule","part"],["rules","most"],PL.jM.lz]::
 #["tree_of","tree_of","",top 26,["rule","number","fault"],["rule","number"],PL.jM.o7]::
 #["members","members","",top 27,["bits"],["bits"],PL.jM.o9]::
 #["Part.__init__","__init__","Part",inClass (top 28) 0,["self","empty","firsts","lasts"],["self","empty","firsts","lasts"],PL.jM.lA]::
 #["one_behind_other","one_behind_other","",top 29,["one","other","firsts","lasts"],["one","other"],PL.jM.fE]::
 #["one_or_other","one_or_other","",top 30,["one","other"],["one","other"],PL.jM.iS]::
 #["Layout.__init__","__init__","Layout",inClass (top 31) 0,["self"],["self"],PL.jM.jo]::
 #["Layout.how_many","how_many","Layout",inClass (top 31) 1,["self"],["self"],PL.jM.fY]::
 #["Layout.close_rule","close_rule","Layout",inClass (top 31) 2,["self","part"],["self","part"],PL.jM.eT]::
 #["Layout.link","link","Layout",inClass (top 31) 3,["self","lasts","firsts","place"],["self","lasts","firsts"],PL.jM.jq]::
 #["Layout.lay","lay","Layout",inClass (top 31) 4,["self","tree"],["self","tree"],PL.jM.jY]::
 #["Layout.lay_place","lay_place","Layout",inClass (top 31) 5,["self","signs","place"],["self","signs"],PL.jM.fF]::
 #["Layout.lay_row","lay_row","Layout",inClass (top 31) 6,["self","trees","whole","tree","part"],["self","trees"],PL.jM.gK]::
 #["Layout.lay_choice","lay_choice","Layout",inClass (top 31) 7,["self","trees","whole","tree"],["self","trees"],PL.jM.eU]::
 #["Layout.lay_repeat","lay_repeat","Layout",inClass (top 31) 8,["self","tree","marks","inner","part","empty"],["self","tree"],PL.jM.eV]::
 #["useful_places","useful_places","",top 32,["layout","takes_some","grown","lasts","useful","place"],["layout"],PL.jM.iz]::
 #["places_that_take","places_that_take","",top 33,["layout","sign"],["layout","sign"],PL.jM.fG]::
 #["Places.__init__","__init__","Places",inClass (top 34) 0,["self","layout","useful"],["self","layout"],PL.jM.jr]::
 #["Places.beyond","beyond","Places",inClass (top 34) 1,["self","held","reached","place"],["self","held"],PL.jM.iA]::
 #["Places.first_rule","first_rule","Places",inClass (top 34) 2,["self","held","number","lasts"],["self","held"],PL.jM.eY]::
 #["Walk.__init__","__init__","Walk",inClass (top 37) 0,["self","places"],["self","places"],PL.jM.lB]::
 #["Walk.may_go_on","may_go_on","Walk",inClass (top 37) 1,["self"],["self"],PL.jM.gM]::
 #["Walk.along","along","Walk",inClass (top 37) 2,["self","text"],["self","text"],PL.jM.jZ]::
 #["Walk.step","step","Walk",inClass (top 37) 3,["self","sign","held","rule"],["self","sign"],PL.jM.lC]::
 #["Lexer.__init__","__init__","Lexer",inClass (top 38) 0,["self","rules"],["self","rules"],PL.jM.j0]::
 #["Cutter.__init__","__init__","Cutter",inClass (top 39) 0,["self","lexer"],["self","lexer"],PL.qV.jt]::
 #["Cutter.take","take","Cutter",inClass (top 39) 1,["self","piece"],["self","piece"],PL.qV.ju]::
 #["Cutter.end","end","Cutter",inClass (top 39) 2,["self"],["self"],PL.qV.kb]::
 #["Cutter.sure_tokens","sure_tokens","Cutter",inClass (top 39) 3,["self","ended","told","size"],["self","ended"],PL.qV.d9]::
 #["Cutter.next_is_sure","next_is_sure","Cutter",inClass (top 39) 4,["self","ended"],["self","ended"],PL.qV.dQ]::
 #["Cutter.pass_over","pass_over","Cutter",inClass (top 39) 5,["self","size"],["self","size"],PL.qV.fH]::
 #["_law_cell","_law_cell","",top 54,["_law_script","_law_k"],["_law_script","_law_k"],PL.tL.ly]::
 #["_law_mix","_law_mix","",top 55,["_law_script","_law_k","_law_number"],["_law_script","_law_k"],PL.tL.m9]::
 #["_law_all","_law_all","",top 58,["_law_low"],[],PL.tL.ng]::
 #["_law_nothing","_law_nothing","",top 59,["_law_tree"],["_law_tree"],PL.jM.iT]::
 #["_law_behind","_law_behind","",top 60,["_law_tree","_law_sign","_law_found","_law_part","_law_k","_law_more_here"],["_law_tree","_law_sign"],PL.jM.js]::
 #["_law_rests","_law_rests","",top 61,["_law_rows","_law_sign","_law_found","_law_row","_law_rest"],["_law_rows","_law_sign"],PL.jM.j6]::
 #["_law_ends","_law_ends","",top 62,["_law_rows"],["_law_rows"],PL.jM.ow]::
 #["_law_token","_law_token","",top 66,["_law_trees_here","_law_text_here","_law_at","_law_found","_law_rows","_law_size","_law_good"],["_law_trees_here","_law_text_here","_law_at"],PL.jM.j7]::
 #["_law_small","_law_small","",top 68,["_law_script","_law_base","_law_deep","_law_number","_law_way","_law_parts"],["_law_script","_law_base","_law_deep"],PL.jM.j8]::
 #["_law_trees","_law_trees","",top 69,["_law_script","_law_base","_law_many","_law_deep","_law_found","_law_k","_law_tree"],["_law_script","_law_base","_law_many","_law_deep"],PL.jM.j9]::
 #["_law_text","_law_text","",top 70,["_law_script","_law_base","_law_many"],["_law_script","_law_base","_law_many"],PL.jM.lD]::
 #["_law_lives","_law_lives","",top 63,["_law_tree"],["_law_tree"],PL.qV.ke]::
 #["_law_more","_law_more","",top 64,["_law_tree"],["_law_tree"],PL.qV.lE]::
 #["_law_open","_law_open","",top 67,["_law_trees_here","_law_text_here","_law_rows","_law_sign"],["_law_trees_here","_law_text_here"],PL.qV.lF]::
 #["_law_asked","_law_asked","",top 71,["_law_cutter","_law_piece","_law_found","_law_place","e"],["_law_cutter","_law_piece"],PL.qV.kf]::
 #["_law_sure","_law_sure","",top 72,["_law_trees_here","_law_text_here","_law_past","_law_last","_law_found","_law_one_here"],["_law_trees_here","_law_text_here","_law_past","_law_last"],PL.qV.lG]::[]
noncomputable def T:Tab where
 const:=[("SIGNS",.str PL.SG),("MARKED_OUTSIDE",.str [46,124,40,41,91,93,42,43,63,92]),("MARKED_WITHIN",.str [93,45,92]),("DEEPEST",.int 6),("REPEATS",.tab [([42],[115,116,97,114]),([43],[112,108,117,115]),([63],[109,97,121,98,101])]),("BEHIND_BACKSLASH",.str [46,124,40,41,91,93,42,43,63,92,45,94,110]),("MOST_RULES",.int 6),("AHEAD",.int 1),("MOST_PLACES",.int 24),("MARKS",.tab [([115,116,97,114],[42]),([112,108,117,115],[43]),([109,97,121,98,101],[63])])]
 fns:=Je rows
 qb:=["Reader","Part","Layout","Places","Walk","Lexer","Cutter"]
 qc:=Jf rows
 uS:=["text","at","depth","rule","empty","firsts","lasts","signs","behind","ends","takers","places","reach","passed","found","rest","walk"]
 v5:=["TokenError","BadRule","TakesNothing","TooMany","NoToken"]
 fu:=["len","tuple","list","int","bool","dict","sum","min","all","any","isinstance","range","enumerate","ValueError"]
theorem XA:rows.all Ft=true:=by decide +kernel
theorem XB:rows.all (QE T)=true:=by decide +kernel
theorem XD:rows.map (λr=>Jz T 60 #[(bc r.st).names,r.N,true] (dN r.st))=rows.map λr=>some r.b:=by kernel_rfl
theorem U8:∀r∈rows,zD r:=by
 unfold rows
 repeat' refine az.mpr #[?_,?_]
 all_goals first|exact λ_ h=>(bP h).elim|exact Zu rfl λ_ _ _ _ _ _ _ _ _=>rfl|exact Zv rfl λ_ _ _ _ _ _ _ _ _ _=>rfl|exact Zw rfl λ_ _ _ _ _ _ _ _ _ _ _=>rfl|exact Zt rfl λ_ _ _ _ _ _ _ _=>rfl|exact Zx rfl λ_ _ _ _ _ _ _ _ _ _ _ _=>rfl
noncomputable abbrev sL:Stmt:=top 73
theorem QL:fX ["_law_script","_law_trees_here","_law_text_here","_law_cutter","_law_past","_law_come","_law_wrong","_law_k","_law_size","_law_piece","_law_due","_law_found"] ["_law_script"] (bc sL):=#[rfl,rfl,rfl,by decide +kernel,rfl,by decide +kernel,by decide +kernel]
theorem QM:Jz T 60 #[(bc sL).names,["_law_script","_law_trees_here","_law_text_here","_law_cutter","_law_past","_law_come","_law_wrong","_law_k","_law_size","_law_piece","_law_due","_law_found"],true] (dN sL)=some PL.qV.Dr:=by kernel_rfl
noncomputable abbrev xX:Stmt:=inClass (top 3) 0
theorem CQ:fX ["self","rule","at"] ["self","rule","at"] (bc xX):=#[rfl,rfl,rfl,by decide +kernel,rfl,by decide +kernel,by decide +kernel]
noncomputable abbrev oH:Stmt:=inClass (top 4) 0
theorem tq:fX ["self","rule"] ["self","rule"] (bc oH):=#[rfl,rfl,rfl,by decide +kernel,rfl,by decide +kernel,by decide +kernel]
noncomputable abbrev xY:Stmt:=inClass (top 5) 0
theorem CS:fX ["self","rule"] ["self","rule"] (bc xY):=#[rfl,rfl,rfl,by decide +kernel,rfl,by decide +kernel,by decide +kernel]
noncomputable abbrev xZ:Stmt:=inClass (top 6) 0
theorem CT:fX ["self","at"] ["self","at"] (bc xZ):=#[rfl,rfl,rfl,by decide +kernel,rfl,by decide +kernel,by decide +kernel]
end CP
end
section
set_option autoImplicit true
namespace CP
open PySem PySem.Spec PyProof.Rows PySem.W L2
theorem all_mk{l:F4}{w:bZ}{K:Frag}{h:Heap}{mg:Str->Option Value}{fa:Addr}(X:K.In h)(G:h.Ns bu mg)(hfa:mg "law"=some (.ref fa))
  (a_law:nsIn K bu "law"=some (some (.ref fl)))
  (f_law:vC K "law" "law" sL fl)
  (hC:∀p∈([("Reader",C_Reader),("Part",C_Part),("Layout",C_Layout),("Places",C_Places),("Walk",C_Walk),("Lexer",C_Lexer),("Cutter",C_Cutter)]:List (String×Addr)),Mv K p T.uS)
  (hR:∀r∈rows,A5 K [("Reader",C_Reader),("Part",C_Part),("Layout",C_Layout),("Places",C_Places),("Walk",C_Walk),("Lexer",C_Lexer),("Cutter",C_Cutter)] r)
  (hE:Xs K T.uS [("TokenError",X_TokenError,b_TokenError),("BadRule",X_BadRule,b_BadRule),("TakesNothing",X_TakesNothing,b_TakesNothing),("TooMany",X_TooMany,b_TooMany),("NoToken",X_NoToken,b_NoToken)])
  (k_BadRule:lT K (.ref X_BadRule)=true)
  (a_BadRule:iC K (.ref X_BadRule) "__init__"=some (some (.ref f_BadRule)))
  (i_BadRule:isFn K (.ref f_BadRule)=true)
  (f_BadRule:vC K "__init__" "BadRule.__init__" xX f_BadRule)
  (k_TakesNothing:lT K (.ref X_TakesNothing)=true)
  (a_TakesNothing:iC K (.ref X_TakesNothing) "__init__"=some (some (.ref f_TakesNothing)))
  (i_TakesNothing:isFn K (.ref f_TakesNothing)=true)
  (f_TakesNothing:vC K "__init__" "TakesNothing.__init__" oH f_TakesNothing)
  (k_TooMany:lT K (.ref X_TooMany)=true)
  (a_TooMany:iC K (.ref X_TooMany) "__init__"=some (some (.ref f_TooMany)))
  (i_TooMany:isFn K (.ref f_TooMany)=true)
  (f_TooMany:vC K "__init__" "TooMany.__init__" xY f_TooMany)
  (k_NoToken:lT K (.ref X_NoToken)=true)
  (a_NoToken:iC K (.ref X_NoToken) "__init__"=some (some (.ref f_NoToken)))
  (i_NoToken:isFn K (.ref f_NoToken)=true)
  (f_NoToken:vC K "__init__" "NoToken.__init__" xZ f_NoToken)
  (a_SIGNS:nsIn K bu "SIGNS"=some (some (.str z_SIGNS t_SIGNS)))
  (e_SIGNS:z_SIGNS=tx PL.SG)
  (a_MARKED_OUTSIDE:nsIn K bu "MARKED_OUTSIDE"=some (some (.str z_MARKED_OUTSIDE t_MARKED_OUTSIDE)))
  (e_MARKED_OUTSIDE:z_MARKED_OUTSIDE=tx [46,124,40,41,91,93,42,43,63,92])
  (a_MARKED_WITHIN:nsIn K bu "MARKED_WITHIN"=some (some (.str z_MARKED_WITHIN t_MARKED_WITHIN)))
  (e_MARKED_WITHIN:z_MARKED_WITHIN=tx [93,45,92])
  (a_DEEPEST:nsIn K bu "DEEPEST"=some (some (.int 6 t_DEEPEST)))
  (a_REPEATS:nsIn K bu "REPEATS"=some (some (.ref r_REPEATS)))
  (l_REPEATS:K.lookup r_REPEATS=some #[.type "dict",none,.dict es_REPEATS ec_REPEATS,#[]])
  (kl_REPEATS:Be w.params es_REPEATS.toList)
  (ky_REPEATS:es_REPEATS.toList.map (λe=>Fu e.key)= [some ("*":Str),some ("+":Str),some ("?":Str)])
  (sm_REPEATS:(r_REPEATS==dH)=false)
  (r_REPEATS0:nsIn K r_REPEATS "*"=some (some (.str z_REPEATS0 t_REPEATS0)))
  (re_REPEATS0:z_REPEATS0=tx [115,116,97,114])
  (r_REPEATS1:nsIn K r_REPEATS "+"=some (some (.str z_REPEATS1 t_REPEATS1)))
  (re_REPEATS1:z_REPEATS1=tx [112,108,117,115])
  (r_REPEATS2:nsIn K r_REPEATS "?"=some (some (.str z_REPEATS2 t_REPEATS2)))
  (re_REPEATS2:z_REPEATS2=tx [109,97,121,98,101])
  (a_BEHIND_BACKSLASH:nsIn K bu "BEHIND_BACKSLASH"=some (some (.str z_BEHIND_BACKSLASH t_BEHIND_BACKSLASH)))
  (e_BEHIND_BACKSLASH:z_BEHIND_BACKSLASH=tx [46,124,40,41,91,93,42,43,63,92,45,94,110])
  (a_MOST_RULES:nsIn K bu "MOST_RULES"=some (some (.int 6 t_MOST_RULES)))
  (a_AHEAD:nsIn K bu "AHEAD"=some (some (.int 1 t_AHEAD)))
  (a_MOST_PLACES:nsIn K bu "MOST_PLACES"=some (some (.int 24 t_MOST_PLACES)))
  (a_MARKS:nsIn K bu "MARKS"=some (some (.ref r_MARKS)))
  (l_MARKS:K.lookup r_MARKS=some #[.type "dict",none,.dict es_MARKS ec_MARKS,#[]])
  (kl_MARKS:Be w.params es_MARKS.toList)
  (ky_MARKS:es_MARKS.toList.map (λe=>Fu e.key)= [some ("star":Str),some ("plus":Str),some ("maybe":Str)])
  (sm_MARKS:(r_MARKS==dH)=false)
  (r_MARKS0:nsIn K r_MARKS "star"=some (some (.str z_MARKS0 t_MARKS0)))
  (re_MARKS0:z_MARKS0=tx [42])
  (r_MARKS1:nsIn K r_MARKS "plus"=some (some (.str z_MARKS1 t_MARKS1)))
  (re_MARKS1:z_MARKS1=tx [43])
  (r_MARKS2:nsIn K r_MARKS "maybe"=some (some (.str z_MARKS2 t_MARKS2)))
  (re_MARKS2:z_MARKS2=tx [63])
  (hz:∀b∈T.fu,nsIn K bu (b8 b)=some none)
  : ∃fd:dS,(∀(s:ak)(v:Value),A9 s fd #[[v],[]] [("_law_script",v)])/\∀base:Heap,K.In base->base.Ns bu mg->iK l.prog w K mg base (pX l.prog w) 200 fa fd ["_law_script"] (y6 K):=by
 have e:=hfa.symm.trans (kS X G a_law);cases e;obtain⟨oc,od,kV,dc,pm,an,cd,ct,sl,h1,h2,h3⟩:=f_law;refine#[fnOf "law" "law" (jV sL) (dN sL) (bc sL) .none kV dc pm an cd ct,λs v=>.of_eq rfl,λbase _ _=>?_]
 let c:L2.Ctx:=#[l.prog,w,K,mg,base,λx=>([("Reader",C_Reader),("Part",C_Part),("Layout",C_Layout),("Places",C_Places),("Walk",C_Walk),("Lexer",C_Lexer),("Cutter",C_Cutter)]:List (String×Addr)).lookup x,zE [("TokenError",X_TokenError,b_TokenError),("BadRule",X_BadRule,b_BadRule),("TakesNothing",X_TakesNothing,b_TakesNothing),("TooMany",X_TooMany,b_TooMany),("NoToken",X_NoToken,b_NoToken)]]
 have hT:Ay c T:=by
  refine#[?_,λx hx=>mg_none_of X G (hz x hx),QG rfl hC,hE.exc,hE.QW,hE.W7,?_]
  .exact(az.mpr #[tY (kS X G a_SIGNS) e_SIGNS,(az.mpr #[tY (kS X G a_MARKED_OUTSIDE) e_MARKED_OUTSIDE,(az.mpr #[tY (kS X G a_MARKED_WITHIN) e_MARKED_WITHIN,(az.mpr #[#[.int 6,_,kS X G a_DEEPEST,#[t_DEEPEST,rfl],λ_ _=>aN.mpr rfl],(az.mpr #[U4 (kS X G a_REPEATS) l_REPEATS kl_REPEATS ky_REPEATS sm_REPEATS (by kernel_rfl:("*":Str)=tx [42]) (by kernel_rfl:("+":Str)=tx [43]) (by kernel_rfl:("?":Str)=tx [63]) r_REPEATS0 re_REPEATS0 r_REPEATS1 re_REPEATS1 r_REPEATS2 re_REPEATS2,(az.mpr #[tY (kS X G a_BEHIND_BACKSLASH) e_BEHIND_BACKSLASH,(az.mpr #[#[.int 6,_,kS X G a_MOST_RULES,#[t_MOST_RULES,rfl],λ_ _=>aN.mpr rfl],(az.mpr #[#[.int 1,_,kS X G a_AHEAD,#[t_AHEAD,rfl],λ_ _=>aN.mpr rfl],(az.mpr #[#[.int 24,_,kS X G a_MOST_PLACES,#[t_MOST_PLACES,rfl],λ_ _=>aN.mpr rfl],(az.mpr #[U4 (kS X G a_MARKS) l_MARKS kl_MARKS ky_MARKS sm_MARKS (by kernel_rfl:("star":Str)=tx [115,116,97,114]) (by kernel_rfl:("plus":Str)=tx [112,108,117,115]) (by kernel_rfl:("maybe":Str)=tx [109,97,121,98,101]) r_MARKS0 re_MARKS0 r_MARKS1 re_MARKS1 r_MARKS2 re_MARKS2,(λ_ h=>(bP h).elim)])])])])])])])])])])
  .exact(az.mpr #[#[X_TokenError,rfl,kS X G (hE.ns rfl)],(az.mpr #[#[X_BadRule,rfl,kS X G (hE.ns rfl)],(az.mpr #[#[X_TakesNothing,rfl,kS X G (hE.ns rfl)],(az.mpr #[#[X_TooMany,rfl,kS X G (hE.ns rfl)],(az.mpr #[#[X_NoToken,rfl,kS X G (hE.ns rfl)],(λ_ h=>(bP h).elim)])])])])])
 have x_BadRule:pM c 1 "BadRule":=VD (EA:=[("TokenError",X_TokenError,b_TokenError),("BadRule",X_BadRule,b_BadRule),("TakesNothing",X_TakesNothing,b_TakesNothing),("TooMany",X_TooMany,b_TooMany),("NoToken",X_NoToken,b_NoToken)]) rfl k_BadRule a_BadRule i_BadRule f_BadRule (ps:=["self","rule","at"]) (λ_ _ _ _ _ _ _ _ us hl=>match us,hl with|[_,_,_],_=>rfl) ⋯ λfd F=>Tp F CQ rfl (hE.exc "BadRule" _ rfl).1 ((hE.exc "BadRule" _ rfl).2.2.2 "rule" ⋯) ((hE.exc "BadRule" _ rfl).2.2.2 "at" ⋯) (by decide +kernel) (so (by decide +kernel)) (so (by decide +kernel)) (so (by decide +kernel)) (by decide +kernel) (by decide +kernel) (by decide +kernel) (by decide +kernel) (by decide +kernel) (by decide +kernel)
 have x_TakesNothing:pM c 1 "TakesNothing":=VD (EA:=[("TokenError",X_TokenError,b_TokenError),("BadRule",X_BadRule,b_BadRule),("TakesNothing",X_TakesNothing,b_TakesNothing),("TooMany",X_TooMany,b_TooMany),("NoToken",X_NoToken,b_NoToken)]) rfl k_TakesNothing a_TakesNothing i_TakesNothing f_TakesNothing (ps:=["self","rule"]) (λ_ _ _ _ _ _ _ _ us hl=>match us,hl with|[_,_],_=>rfl) ⋯ λfd F=>Ih F tq rfl (hE.exc "TakesNothing" _ rfl).1 ((hE.exc "TakesNothing" _ rfl).2.2.2 "rule" ⋯) (so (by decide +kernel)) (so (by decide +kernel)) (by decide +kernel) (by decide +kernel) (by decide +kernel) (by decide +kernel)
 have x_TooMany:pM c 1 "TooMany":=VD (EA:=[("TokenError",X_TokenError,b_TokenError),("BadRule",X_BadRule,b_BadRule),("TakesNothing",X_TakesNothing,b_TakesNothing),("TooMany",X_TooMany,b_TooMany),("NoToken",X_NoToken,b_NoToken)]) rfl k_TooMany a_TooMany i_TooMany f_TooMany (ps:=["self","rule"]) (λ_ _ _ _ _ _ _ _ us hl=>match us,hl with|[_,_],_=>rfl) ⋯ λfd F=>Ih F CS rfl (hE.exc "TooMany" _ rfl).1 ((hE.exc "TooMany" _ rfl).2.2.2 "rule" ⋯) (so (by decide +kernel)) (so (by decide +kernel)) (by decide +kernel) (by decide +kernel) (by decide +kernel) (by decide +kernel)
 have x_NoToken:pM c 1 "NoToken":=VD (EA:=[("TokenError",X_TokenError,b_TokenError),("BadRule",X_BadRule,b_BadRule),("TakesNothing",X_TakesNothing,b_TakesNothing),("TooMany",X_TooMany,b_TooMany),("NoToken",X_NoToken,b_NoToken)]) rfl k_NoToken a_NoToken i_NoToken f_NoToken (ps:=["self","at"]) (λ_ _ _ _ _ _ _ _ us hl=>match us,hl with|[_,_],_=>rfl) ⋯ λfd F=>Ih F CT rfl (hE.exc "NoToken" _ rfl).1 ((hE.exc "NoToken" _ rfl).2.2.2 "at" ⋯) (so (by decide +kernel)) (so (by decide +kernel)) (by decide +kernel) (by decide +kernel) (by decide +kernel) (by decide +kernel)
 have hB:Base c T 1:=by
  refine#[hT,?_,hE.up];exact(az.mpr #[λh=>absurd rfl h,(az.mpr #[λ_=>x_BadRule,(az.mpr #[λ_=>x_TakesNothing,(az.mpr #[λ_=>x_TooMany,(az.mpr #[λ_=>x_NoToken,(λ_ h=>(bP h).elim)])])])])])
 have G0:fZ c T (λ_=>wj) 1:=QF X G rfl hC hR U8 rfl rfl (az.mpr #[#[rows[6],bI _,rfl,rfl,rfl],(az.mpr #[#[rows[31],bI _,rfl,rfl,rfl],(az.mpr #[#[rows[34],bI _,rfl,rfl,rfl],(az.mpr #[#[rows[45],bI _,rfl,rfl,rfl],(az.mpr #[#[rows[48],bI _,rfl,rfl,rfl],(az.mpr #[#[rows[52],bI _,rfl,rfl,rfl],(az.mpr #[#[rows[53],bI _,rfl,rfl,rfl],(λ_ h=>(bP h).elim)])])])])])])]);have R:=Mw (c:=c) X G rfl hC hR U8 XA XB XD;exact LI (Jg #[R 0 _ rfl,R 1 _ rfl,R 2 _ rfl,R 3 _ rfl,R 4 _ rfl,R 5 _ rfl,R 6 _ rfl,R 7 _ rfl,R 8 _ rfl,R 9 _ rfl,R 10 _ rfl,R 11 _ rfl,R 12 _ rfl,R 13 _ rfl,R 14 _ rfl,R 15 _ rfl,R 16 _ rfl] #[R 17 _ rfl,R 18 _ rfl,R 19 _ rfl,R 20 _ rfl,R 21 _ rfl,R 22 _ rfl,R 23 _ rfl,R 24 _ rfl,R 25 _ rfl,R 26 _ rfl,R 27 _ rfl] #[R 28 _ rfl,R 29 _ rfl,R 30 _ rfl,R 31 _ rfl,R 32 _ rfl,R 33 _ rfl,R 34 _ rfl,R 35 _ rfl,R 36 _ rfl,R 37 _ rfl,R 38 _ rfl,R 39 _ rfl,R 40 _ rfl,R 41 _ rfl,R 42 _ rfl,R 43 _ rfl,R 44 _ rfl,R 45 _ rfl,R 46 _ rfl,R 47 _ rfl,R 48 _ rfl,R 49 _ rfl,R 50 _ rfl,R 51 _ rfl,R 52 _ rfl,R 53 _ rfl,R 54 _ rfl,R 55 _ rfl,R 56 _ rfl,R 57 _ rfl,R 58 _ rfl] #[R 59 _ rfl,R 60 _ rfl,R 61 _ rfl,R 62 _ rfl,R 63 _ rfl,R 64 _ rfl,R 65 _ rfl,R 66 _ rfl,R 67 _ rfl,R 68 _ rfl,R 69 _ rfl,R 70 _ rfl,R 71 _ rfl,R 72 _ rfl,R 73 _ rfl,R 74 _ rfl] (GG h1 h2 h3) QL QM rfl rfl hB G0)
theorem walk{l:F4}{q:bC}{loose:List Str}{XP:(Str->Option Value)->Heap->Prop}{YP:bZ->Heap->Prop}{d:DefRec}{K:FZ->Frag}(hn:l.most=some 63)(hdf:d.params.defaults=[])
  (hY:∀(w:bZ)(h:Heap),YP w h->(K w.params).In h)
  (F:∀(w:bZ)(mg:Str->Option Value)(fa:Addr)(h:Heap),(K w.params).In h->h.Ns bu mg->mg d.name=some (.ref fa) ->
   ∃fd:dS,(∀(s:ak)(u:Value),A9 s fd #[[u],[]] [("_law_script",u)])/\∀base:Heap,(K w.params).In base->base.Ns bu mg->iK l.prog w (K w.params) mg base (pX l.prog w) 200 fa fd ["_law_script"] (y6 (K w.params))):
  WalkO q loose XP YP l.row.toRowW d [] (λf vs=>Eb f vs):=
 L2.Kp (n:=63) (k:=200) (x:="_law_script") (CX:=λw=>pX l.prog w) (sp:=λw=>y6 (K w.params)) hn ⋯ hdf #[rfl,⋯,⋯] hY F (λ_ _ a ns hl o hS=>#[a,ns,rfl,hl,Ii o hS,λ_=>rfl]) λ_ _ _ _ _ z=>Py z
end CP
end
end
section
structure PySem.W.Fast:Prop where(tw15516639872087289992 tw4717101730777738742 tw17156083941682103000 tw7341212159990151790 tw8880891781028464398 tw10643352214816247272 tw11287072517103446273 tw2400512356872234532 tw5983970888535700599 tw2559682482036506355 tw1871246254792213129 tw16946310882390814704 tw3787779984776211799 tw8666348935912407203 tw15515658266363577161 tw16959579490566962672 tw9987453696604620451 tw3628615352240009736 tw9114730991390185500 tw10441891818978727112 tw16603334006846796633 tw10169938007152787930 tw4359537765365223321 tw11123151553581920069 tw4537922102791603543 tw9767447635694763539 tw4331618429104798098 tw14386546008276183040 tw13441372932399989795 tw13005964995752047468 tw11887894690405387387 tw8843190160033646991 tw12482932530635787629 tw3356599460982581162 tw2065425506488961353 tw18176411803077620916 tw1056255686006436053 tw16858973760773139831 tw7707071117058231033 tw8856444325531514839 tw2986263890193868579 tw4937795756397745405 tw7623945252581907503 tw5807587187103680553 tw8458861785639507359 tw1208778589104494316 tw6480365314918077685 tw18034072160913512837 tw12132418328292876975 tw7523124952878349157 tw4588192483537962255 tw5818816709864387664 tw18205622775181274505 tw3439797662824571027 tw12823581317521879735 tw6571742879183487089 tw14422436810733732347 tw4550426222895209123 tw2861280336357130255 tw6236875093147992690 tw11708100446606116276 tw17319400052804178060 tw11548538783270776722 tw406099267062181029 tw1232967279561899244 tw12123779515603489261 tw9589795899734731898 tw9165783805414184897 tw15105419842062935916 tw13855792922841304290 tw10634740510341184352 tw4384355220976683808 tw3732157728619817358 tw10622137586393451064 tw864450090841093593 tw18058329733858577903 tw14727285935188466877 tw10324929481730221378 tw4604268627751774627 tw8253666858569467251 tw9801221263386363641 tw2614480244715807232 tw1846289833248766089 tw7442574638802679680 tw3935767720493215123 tw5310369487100725655 tw8805177432125639726 tw11576475419637586964 tw807800452951355399 tw10616547087053884142 tw338279213484322862 tw5570534683123574803 tw4165650807977044570 tw6099156026763208747 tw11586105503032965692 tw15841051070954529847 tw10742470701221824466 tw15805052389043009768 tw7132650183779493256 tw13826996289225854139 tw18221099289529474782 tw12588766924654029135 tw13582292733941139448 tw14227651869817010574 tw12147389355274633121 tw1678906918333444405 tw9887217183629822588 tw7402549307644767677 tw1100906574853588771 tw6354236366990982996 tw8919287463066216468 tw10932441723362784376 tw7903279575615586022 tw14090351793762482653 tw4335047151415982234 tw3270245304585265909 tw1348246281430968362 tw11998660513074927304 tw4207275427928325922 tw3618291428175195162 tw14844312308128623504 tw498496841187069063 tw7377470432851332977 tw5594450721311487184 tw11956794163685677196 tw1849123142670069667 tw10005636362649921013 tw11109452481865631611 tw15969900301586653154 tw1111027655920824524 tw4190179159373666790 tw14784158113358301051 tw2682266843202467953 tw8233519818432559869 tw6640998584651364352 tw10823155321027536142 tw13785105171591430378 tw60520954207393145 tw12369295637031625693 tw2751319217106392906 tw11366684357587941334 tw8813966200761670578 tw1058139550707931004 tw8909204067026959706 tw6301933136493389296 tw13680142108834838647 tw7058585560968943933 tw14015464102564226696 tw11727825900260276289 tw12920316651921739315 tw1967941519652509668 tw9931271587006712521 tw751290403850855075 tw16279253209760174910 tw15185735922794547032 tw17459293507290253735 tw12541594613982322448 tw7169644100214979198 tw6506717522027957856 tw1054802638798452890 tw11363357759549510397 tw16052086667739207904 tw702059977989348513 tw9044304468035386349 tw12190630415922758527 tw17979383117726311879 tw12747663190408504986 tw14882391470772847232 tw16838081537180834215 tw8767756181083679520 tw17548304960970570659 tw1235206739708239597 tw11267449807202690867 tw14464091979650044171 tw3865662608805550257 tw15510305765949066183 tw13965832966517749713 tw5230220654122055424 tw5551731420182498282 tw3792121053690090637 tw12927967501472695319 tw14822952884141086251 tw8702564431999211944 tw6040550838582536071 tw4249435050876508578 tw3679942233735170779 tw14137486343899315816 tw10036280889299123279 tw2626211298047105136 tw5879150361419347971 tw11181111798012436502 tw7266846259993728504 tw8820252389710351948 tw261794352045239292 tw11654498033386286050 tw9505923783198527949 tw13784248880359562718 tw1340088861221106396 tw13443864262273302038 tw10169621163812463622 tw3731160615129827128 tw1611410172869589797 tw9754008252615803493 tw1176666596194888219 tw11542835813364007196 tw10120147393324973210 tw4464775222648470951 tw9296954779512378698 tw15491740759723245542 tw6209348146617777845 tw7049053804104391356 tw11079067445565344938 tw13796206637659915924 tw8559379895799757310 tw8910139301008795261 tw5562277700480684958 tw2760132150162210213 tw17370782635340521811 tw591589513473983953 tw2542915495002302991 tw11479181742975992575 tw3947187790848316598 tw14266619289680997086 tw18298258803013983899 tw10607463558420148651 tw4509197975034629971 tw6340412145079591627 tw9929310660041714727 tw14458243818186192510 tw272663361131533823 tw12135453518569900764 tw8791564046239117441 tw8388038937019413274 tw17519105414226400178 tw7706368884824182667 tw235891380704812971 tw17142704074446082352 tw6454122089438430882 tw10370103577757697364 tw11747603835613198595 tw14163322876526722895 tw502243725877604877 tw1266183669473772002 tw4000031319728622444 tw14288697068714236080 tw14634264254033282899 tw10994288177520593616 tw2624051504531205205 tw1621473208265997072 tw16776874530399435402 tw7562699024108086450 tw6947487965283200071 tw3582583260268408566 tw7581381583051676403 tw3921676082025657548 tw2733373233180534501 tw4069899642757758159 tw16805636864599856946 tw17030463523521583859 tw7086878226549795827 tw4440069105536634325 tw16346815647455887394 tw14405211578570752919 tw10404741191278244762 tw1602687999120156673 tw11688382517349614872 tw1760596718774878867 tw6248333450359836140 tw5144660847182459215 tw10331708856178015151 tw17066950422783585809 tw3203254752846221105 tw600283459195444857 tw10271908998284442672 tw7057936240171863866 tw2231479443899813996 tw2549588950543445113 tw7818564791564365475 tw10414824350622818312 tw13443143118354490499 tw8775960428048015675 tw13411156620918350558 tw3398269198751730142 tw14471606796085101693 tw14313800172033525740 tw1810289488731149460 tw4361318189917326526 tw10769974815375700123 tw10163461172891236268 tw12789916213372812594 tw16061109824460596182 tw18089425676055065379 tw6077064233125455559 tw14856107686845019777 tw1331725722790128854 tw12308026345012263141 tw12798294329897537763 tw4197576744982849255 tw7801382014828569786 tw6890160642475682734 tw8698344679435791902 tw812261628395412902 tw9636174259669649157 tw6049644658120069011 tw4706001671119720090 tw3818818151437160097 tw16091619948140976282 tw15724141924957047281 tw13622150327188825486 tw11450459217708431257 tw12697571795266031269 tw10990237401605461224 tw11624629988418722803 tw7601276734743486033 tw8597399433827902938 tw14870327694220257469 tw8562055880314965690 tw6178533929061525286 tw4551428377258532170 tw2314369423049103354 tw3305100173135473444 tw11301867538158451056 tw16373056474333066877 tw4054998084006638183 tw18440520461737619876 tw11285329618173618943 tw12278566369635327734 tw6486748594734145791 tw8470287661619281185 tw14826469692019822176 tw10211163886134059188 tw5485100183858345118 tw9002746550822142258 tw15521540212496962430 tw13946126083268716229 tw5808600390658614211 tw18392477863583580313 tw15633903841708826913 tw10674728376938575014 tw859132072842126563 tw8498146594421469327 tw8028698263924388067 tw5177397160376622059 tw4573372312347704814 tw17515819985171690553 tw15410940196296938196 tw14603806614219007015 tw14302885721300597285 tw14074226306872455531 tw13731130306359236865 tw13530800778343360565 tw12976494669151523001 tw12769347086024678364 tw10859119661687480675 tw12319555925719457726 tw5611566437030929490 tw6436132040464078330 tw16681195279003901776 tw12846176180463445937 tw6968254122962648352 tw3291139498650669579 tw7671727173783651130 tw6752455871982898910 tw10756176062198217464 tw8655373298627243733 tw4621235248444264962 tw322237770077439370 tw2836528865847422071 tw17211255842882475238 tw16676851003236928318 tw12183275748643824901 tw10483352407302359900 tw7227111724123121422 tw12660804059649745327 tw1606439507325034381 tw17461529729760381877 tw9067967306151611802 tw15821364838662385110 tw7968919297865539958 tw16739708339900268230 tw16155634866189037016 tw8326898509430195619 tw5117030933202472042 tw5101513823236286809 tw5024102916977392867 tw16602137120986126804 tw15018184121183271939 tw14718344582919250084 tw12127563286479092554 tw12086326146870956403 tw1460551077498507801 tw9120385683954426936 tw979672300410290420 tw9205662457395613801 tw8770828963702672661 tw797031538716429809 tw7309213288558264060 tw7187920336169260014 tw6577942244954363880 tw599901784685409426 tw5774208178392034350 tw5631796298646063846 tw3767037329800976362 tw3645226085412535885 tw2951474343451578415 tw2181120888310643063 tw205200569166140555 tw17292239200420912204 tw17145967978298570389 tw17095659867522811323 tw14810250339125986849 tw13752120277069561445 tw12607028999827976022 tw12374995646624475500 tw11768410096779096453 tw11659015142059079672 tw4885163014718285803 tw13504736821526985908:True)
open PySem PySem.W PyProof.Rows
set_option maxRecDepth 100000 in
set_option maxHeartbeats 0 in
theorem PySem.Challenge.cw_tokenwright_k12_whole_pieces_holds : PySem.Challenge.rw_tokenwright_k12_whole_pieces.Holds := by
 w_on;o_law;k_head;(case hw=>w_witness2)
 k_fill
 refine CP.walk (l:=PySem.Challenge.rw_tokenwright_k12_whole_pieces) rfl rfl (fun w h Y=>PySem.W.kIn_of Y) ?F
 case F=>
  intro w mg fa h KX G hmg;refine' CP.all_mk KX G hmg ?a_law ?f_law ?hC ?hR ?hE ?k_BadRule ?a_BadRule ?i_BadRule ?f_BadRule ?k_TakesNothing ?a_TakesNothing ?i_TakesNothing ?f_TakesNothing ?k_TooMany ?a_TooMany ?i_TooMany ?f_TooMany ?k_NoToken ?a_NoToken ?i_NoToken ?f_NoToken ?a_SIGNS ?e_SIGNS ?a_MARKED_OUTSIDE ?e_MARKED_OUTSIDE ?a_MARKED_WITHIN ?e_MARKED_WITHIN ?a_DEEPEST ?a_REPEATS ?l_REPEATS ?kl_REPEATS ?ky_REPEATS ?sm_REPEATS ?r_REPEATS0 ?re_REPEATS0 ?r_REPEATS1 ?re_REPEATS1 ?r_REPEATS2 ?re_REPEATS2 ?a_BEHIND_BACKSLASH ?e_BEHIND_BACKSLASH ?a_MOST_RULES ?a_AHEAD ?a_MOST_PLACES ?a_MARKS ?l_MARKS ?kl_MARKS ?ky_MARKS ?sm_MARKS ?r_MARKS0 ?re_MARKS0 ?r_MARKS1 ?re_MARKS1 ?r_MARKS2 ?re_MARKS2 ?hz
  (case a_law=>k_is)
  (case f_law=>exact⟨_,_,_,_,_,_,_,_,_,by k_is,by k_is,by k_is⟩)
  (case hC=>(repeat' refine az.mpr ⟨?_,?_⟩);all_goals first | exact fun _ h=>(bP h).elim | exact⟨(by(try dsimp only);k_is),⟨(by(try dsimp only);k_is),(by(try dsimp only);k_is),(by(try dsimp only);k_is),(by(try dsimp only);k_is)⟩,(by(try dsimp only);k_is),(by(try dsimp only);k_is),(by kernel_rfl)⟩)
  (case hR=>unfold CP.rows;(repeat' refine az.mpr ⟨?_,?_⟩);all_goals first | exact fun _ h=>(bP h).elim | exact .fn (by k_is) ⟨_,_,_,_,_,_,_,_,_,by k_is,by k_is,by k_is⟩ | exact .mt rfl rfl (by k_is) (by k_is) ⟨_,_,_,_,_,_,_,_,_,by k_is,by k_is,by k_is⟩)
  (case hE=>refine' ⟨?hx,?hq,?hv,?hu⟩;(case hx=>(repeat' refine az.mpr ⟨?_,?_⟩);all_goals first | exact fun _ h=>(bP h).elim | exact⟨(by(try dsimp only);k_is),L2.U2 (by(try dsimp only);k_is) (by(try dsimp only);k_is) (by(try dsimp only);k_is) (by(try dsimp only);k_is) (by(try dsimp only);k_is) (by(try dsimp only);k_is) (by(try dsimp only);k_is) rfl (by kernel_rfl) (by(try dsimp only);k_is) (by(try dsimp only);k_is) (by(try dsimp only);k_is) (by(try dsimp only);k_is),(by kernel_rfl)⟩);all_goals kernel_rfl)
  (case k_BadRule=>k_is)
  (case a_BadRule=>k_is)
  (case i_BadRule=>k_is)
  (case f_BadRule=>exact⟨_,_,_,_,_,_,_,_,_,by k_is,by k_is,by k_is⟩)
  (case k_TakesNothing=>k_is)
  (case a_TakesNothing=>k_is)
  (case i_TakesNothing=>k_is)
  (case f_TakesNothing=>exact⟨_,_,_,_,_,_,_,_,_,by k_is,by k_is,by k_is⟩)
  (case k_TooMany=>k_is)
  (case a_TooMany=>k_is)
  (case i_TooMany=>k_is)
  (case f_TooMany=>exact⟨_,_,_,_,_,_,_,_,_,by k_is,by k_is,by k_is⟩)
  (case k_NoToken=>k_is)
  (case a_NoToken=>k_is)
  (case i_NoToken=>k_is)
  (case f_NoToken=>exact⟨_,_,_,_,_,_,_,_,_,by k_is,by k_is,by k_is⟩)
  (case a_SIGNS=>k_is)
  (case e_SIGNS=>kernel_rfl)
  (case a_MARKED_OUTSIDE=>k_is)
  (case e_MARKED_OUTSIDE=>kernel_rfl)
  (case a_MARKED_WITHIN=>k_is)
  (case e_MARKED_WITHIN=>kernel_rfl)
  (case a_DEEPEST=>k_is)
  (case a_REPEATS=>k_is)
  (case l_REPEATS=>k_is)
  (case kl_REPEATS=>exact⟨⟨_,_,rfl,rfl⟩,⟨⟨_,_,rfl,rfl⟩,⟨⟨_,_,rfl,rfl⟩,trivial⟩⟩⟩)
  (case ky_REPEATS=>kernel_rfl)
  (case sm_REPEATS=>kernel_rfl)
  (case r_REPEATS0=>k_is)
  (case re_REPEATS0=>kernel_rfl)
  (case r_REPEATS1=>k_is)
  (case re_REPEATS1=>kernel_rfl)
  (case r_REPEATS2=>k_is)
  (case re_REPEATS2=>kernel_rfl)
  (case a_BEHIND_BACKSLASH=>k_is)
  (case e_BEHIND_BACKSLASH=>kernel_rfl)
  (case a_MOST_RULES=>k_is)
  (case a_AHEAD=>k_is)
  (case a_MOST_PLACES=>k_is)
  (case a_MARKS=>k_is)
  (case l_MARKS=>k_is)
  (case kl_MARKS=>exact⟨⟨_,_,rfl,rfl⟩,⟨⟨_,_,rfl,rfl⟩,⟨⟨_,_,rfl,rfl⟩,trivial⟩⟩⟩)
  (case ky_MARKS=>kernel_rfl)
  (case sm_MARKS=>kernel_rfl)
  (case r_MARKS0=>k_is)
  (case re_MARKS0=>kernel_rfl)
  (case r_MARKS1=>k_is)
  (case re_MARKS1=>kernel_rfl)
  (case r_MARKS2=>k_is)
  (case re_MARKS2=>kernel_rfl)
  (case hz=>unfold CP.T;(repeat' refine az.mpr ⟨?_,?_⟩);all_goals first | exact fun _ h=>(bP h).elim | k_is)
end
