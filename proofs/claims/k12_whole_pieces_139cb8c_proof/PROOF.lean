import PyProof.Rows.All
import Wide.All
import OpenK.AllK
import Wide.FinOn
import PyProof.EqAt
import PyProof.EqKinds
import PyProof.TupleCall
import PyProof.NeKinds
import KE.KMinBuiltin
import Lean
import PySem.Challenge.RW_tokenwright_k12_whole_pieces
open Array renaming getElem?_eq_some_iff->gE,length_toList->pK,toList->zN
open Bool renaming and_eq_true->af,false_eq_true->ah,or_eq_true->aO,false_ne_true->aX,not_true->bO,not_false->bV,eq_iff_iff->cX,not_eq_true->fu,not_eq_true'->gq,and_true->mG,true_and->qh,and_false->wu,or_true->A6,not_eq_false->FW,noConfusion->Jf
open Classical renaming byContradiction->tw
open False renaming elim->aI
open ForInStep renaming yield->dU
open Function renaming comp_def->kQ
open Iff renaming rfl->jO
open Int renaming emod_lt_of_pos->iM,toNat_natCast->i7,emod_nonneg->kj,fdiv_eq_ediv_of_nonneg->xY
open List renaming getElem?_eq_getElem->aa,getElem?_eq_some_iff->ae,getElem?_append_left->ao,length_map->aq,getElem?_map->ar,getElem?_set_ne->av,mem_of_getElem?->aw,getElem?_append_right->ay,forall_mem_cons->az,length_append->aB,size_toArray->aC,mem_append->aD,map_cons->aF,length_cons->aQ,mem_cons_of_mem->aU,mem_append_right->aW,lookup_cons->ba,append_nil->bb,mem_cons_self->bf,mem_cons->bg,append_assoc->bj,all_cons->bp,mem_map->bx,getElem?_of_mem->bA,suffix_refl->bE,getElem_mem->bH,map_map->bM,take_of_length_le->bN,not_mem_nil->bP,all_eq_true->bR,mem_append_left->bT,getElem?_set_self->bU,take_length->b9,take_add_one->cf,range->cx,length->cM,suffix_cons->cP,map->cQ,any_cons->cR,length_set->cY,length_nil->cZ,replicate->dm,drop_of_length_le->dD,drop_eq_getElem_cons->eF,mem_filter->eG,map_append->eH,map_inj_left->eJ,filterMap_cons->fj,lookup->fJ,eq_nil_of_length_eq_zero->fK,mem_singleton->fP,find?_cons->fS,nil_append->fU,length_singleton->fZ,contains_iff_mem->f9,getElem?_append->gR,length_take->gT,any_eq_true->gV,length_eq_one_iff->i3,getElem?_set->i4,length_drop->jE,getElem?_mapIdx->jP,mem_of_mem_drop->jQ,nodup_cons->kg,mem_filterMap->kU,contains_cons->kW,drop_zero->kX,nodup_append->me,foldl_append->mf,flatten_cons->mh,sum_cons->mH,prefix_iff_eq_take->nq,getElem?_cons_zero->nu,lookup_cons_self->oH,getElem?_eq_none->oI,filterMap_map->qQ,set_cons_succ->qR,set_cons_zero->qS,all_map->r9,any_map->sd,length_range->se,set_set->sf,drop_length->tm,cons_append->tq,take_append_of_le_length->t6,of_mem_zip->vA,foldl_cons->vB,dropLast_concat_getLast->vC,mem_range->we,isPrefixOf_iff_prefix->wz,foldl_nil->wB,drop_drop->wC,mem_of_find?_eq_some->yp,exists_mem_of_ne_nil->yq,getElem?_replicate->zO,length_eq_zero_iff->zQ,map_nil->A4,range_succ_eq_map->A7,length_filter_le->Bq,take_append_drop->Bs,drop_eq_nil_iff->CS,mem_of_mem_take->CT,getElem_of_mem->D7,map_congr_left->D8,take_succ_cons->D9,replicate_succ->Ea,drop_succ_cons->Eb,length_pos_iff->Ec,getElem?_range->Ed,filter_append->Fx,length_mapIdx->Fy,append_of_mem->Fz,isEmpty_cons->FX,mem_range'_1->FY,flatMap_cons->FZ,getElem_inj->Jb,map_fst_zip->Jg,map_snd_zip->Jh,filter_cons->Ji,isEmpty_nil->Jj,find?_some->JI,sum_append->JK
open List.IsSuffix renaming trans->mN
open List.cons renaming injEq->dW
open Nat renaming le_refl->ax,lt_of_lt_of_le->aM,le_trans->aS,pow_le_pow_right->bB,ne_of_lt->b7,sub_self->cq,testBit_and->cw,testBit_or->cB,lt_succ_of_lt->cK,zero_le->dv,lt_irrefl->dI,pow_succ->fQ,min_eq_left->fY,le_succ->gS,not_lt_zero->iK,min_eq_right->jG,eq_of_testBit_eq->jT,mul_le_mul_left->kH,ne_of_gt->kJ,testBit_one_eq_true_iff_self_eq_zero->pB,le_of_lt->sP,one_shiftLeft->sR,lt_succ_self->tY,exists_testBit_of_ne_zero->vD,zero_or->vE,not_lt->yo,le_of_eq->Bf,min_self->Bm,add_zero->Bp,testBit_lt_two_pow->Br,mul_add->Ee,or_lt_two_pow->Jk,le_succ_of_le->Jm,le_of_not_lt->JB
open Nat.succ renaming inj->Jd
open Ne renaming symm->dJ
open Option renaming map_eq_some_iff->ag,bind_eq_some_iff->au,bind_eq_bind->aJ,getD_some->cC,getD_none->jc,map_some->jN,isSome_iff_exists->wk,bind_some->Fv,map_map->Jl
open Option.some renaming inj->aH,injEq->pq
open Or renaming inl->si
open PyProof.Rows renaming slot_tuple_getitem->iF,callWith_type1->ja,AllBare->nR,envOfC->pN,subscriptTail_builtinR->FP,IntsAre->FT
open PyProof.Rows.IsTup renaming new->FN
open PySem renaming wpAny_bind->aj,Shared->ak,wpAny_pure->aK,model->aR,mainGlobals->bu,Program->bC,compareOp->bD,wpAny_mono->bL,starEach->bS,World->bZ,binaryOp->cy,Around->cA,wpAny_Call_Name_kw->dw,sysModules->dE,FuncData->dQ,mem_of_lookup->fg,wpAny_truthy_bool->fk,wpAny_loadPart_at->fm,wpAny_passesOwn->gD,inplaceOp->gO,wpAny_holding->gQ,wpAny_newObj_type->gU,swapsWith->iH,backTo->iL,attributeBase->iY,sizeLine_eq->jb,bootBuiltins->jF,cLine->kf,Within->ki,Scope->kI,wpAny_field->kL,sliceBounds->kM,keywordEach->kN,excClassObj->kO,wpAny_execs_nil->lP,wpAny_isSubtype_exc->lZ,codeAny_mono->md,Operator->mK,codeAny->nU,wpAny_pyIter_list->nW,wpAny_standAt->nZ,rawInt->pM,wpAny_call->pO,letOwnedTupleGo->qc,wpAny_loadPart->qU,lookup_relabel_local->qY,Keyword->r8,assignEach->tX,typeLookup->t4,wpAny_assign_Name->vJ,getItem->vK,callerA->vM,plainObj_wpAny_Assign_Attribute->wj,tupleKind->xW,assign->xX,noFill_tuple_add->yb,IsPart->yc,BindsTo->A3,valueAt->A5,bindArgs->Bh,wpAny_setField->Bk,methodCallForm->Bn,seq_tuple_add->DZ,call->D3,wpAny_comprehension_free->D6,Model->Fn,PassesOwn->Fo,bindL->Fq,bindC->Fs,noteFrame->Ft,handedOut->Fw,wpAny_pyNext_list_item->FH,getAttr->FI,setAttr->FJ,concat_meets->FK,wpAny_typeOf->FL,seqIndex_neg->FO,Params->FR,relabel->FV,wpAny_pyNext_list_end->Jc,GenState->Jy,wpAny_loadName_local->Jz,seqIndex_of->JA,codeAny_call_builtin->JC,unbindBehindTheSuite->JF,getAttr?->JG,boot_len->JH
open PySem.Around renaming under->zD,under_plainId->Ba
open PySem.Calls renaming spliced_cons->kK,callWith_builtin->nF,spliced_nil->qV,Name_function_global->vI,evalArgs_plain->Bj
open PySem.Code renaming isFrame->A2,quiet_builtin->Fu
open PySem.EntryCells renaming newEntry->yn
open PySem.Expr renaming Name->Je
open PySem.F renaming args_tuple_add_2->lQ,entry_tuple_add->l7,slot_tuple_add->mL,plainAttrs_str->mM,slot_dict_get->nG,slot_list_getattribute->nH,args_dict_get_3->wx,attr_ValueError->wy,plainAttrs_list->wA,entry_dict_get->ym
open PySem.Heap renaming get?_push_of_some->aA,lt_size->aL,get?_push_size->bz,get?_update_self->dX,get?_update_other->nV,get?_none_of_le->pE,SameBut->r6,size_push->wg
open PySem.Heap.Ns1 renaming of_empty->Bg
open PySem.NameKind renaming free->bQ
open PySem.Obj renaming mapSeq->qW,data_mapFields->qX,isFreed_of_fields->CQ
open PySem.SeqAt renaming EqAt->vL,notIn_listAt->D1
open PySem.SeqAt.EqAt renaming same->l9,int_str->oF,str_int->oG,none_bool->wo,bool_none->wq,bool_bool->wt,none_int->yd,none_str->ye,bool_int->yf,bool_str->yg,int_none->yh,int_bool->yi,str_none->yj,str_bool->yk,int_int->zE,str_str->zF,of_refs->zG
open PySem.SeqAt.RcAt renaming lists_lengths->tj,tuples->zP,lists->A9
open PySem.Str renaming ofString->b8,length->FQ
open PySem.Value renaming ref->aV,none->df,bool->iG,str->jw,int->mJ,builtin->qd,type->vH,float->Be
open PySem.W renaming Frag->aE,emptyDict->cG,kia_one->cL,findIn->dj,instObj->du,InstAt->gk,findIn->iA,fnOf->jS,mg_of->kR,keepIn->lR,plainGet->l6,lookIn->nX,keepIn->nY,plainGet_of->pA,methodObj->qf,hasDictIn->qg,kitOne->qZ,takerIn->sQ,codeIn->tZ,looks_findIn->vN,isFn->xZ,cellsFrom_some->ya,KeysLit->A8,Looks->Bl,callWith_K->Bo,plainOver->CN,kitx_list->CO,kitx_dict->CP,handedIn->DY,makesIn->Fp,OpenLaw->FU,looks_clsIn->JD,any_some->JE,callWith_K0->JJ
open PySem.W.Looks renaming here->kP
open PySem.Within renaming cons->x9
open Sum renaming inr->fq,inl->sO
open Sum.inr renaming inj->zM
open True renaming intro->dS
set_option linter.all false
set_option Elab.async false
set_option maxRecDepth 100000
set_option maxHeartbeats 4000000
set_option genSizeOf false
set_option bootstrap.genMatcherCode false
set_option compiler.extract_closed false
noncomputable section
section
local macro_rules | `(#[$x,$xs,*]) => `(⟨$x,$xs,*⟩) | `(#[$x]) => `(⟨$x⟩)
local macro_rules | `(∅) => `(by omega)
local macro_rules | `(⋯) => `(by decide)
local macro_rules | `(tactic| room) => `(tactic| walk_at "pk")
local macro_rules | `(#v[$x]) => `(.cons $x .nil) | `(#v[$x,$xs,*]) => `(.cons $x #v[$xs,*])
local macro_rules | `(@$n:num) => `(.var $n)
local macro_rules | `(↑$n:num) => `(.lit (.int $n))
local macro_rules | `(↑[$n,*]) => `(.lit (.str [$n,*]))
namespace L2
open PySem PySem.Spec PyProof.Rows
abbrev Key:=Sum Int Str
noncomputable def wD:Key->Value->Bool
 |.inl k,v=>Value.isInt k v
 |.inr x,v=>Value.isStrOf x v
noncomputable def Vv(w:bZ):Key->Int
 |.inl k=>hashInt k
 |.inr x=>hashStr w x
theorem dY:∀{k:Key}{v:Value},wD k v=true->(∃i t,k=sO i/\v=mJ i t)\/(∃x t,k=fq x/\v=jw x t)
 |.inl i,v,h=>by
  obtain⟨t,e⟩:=Value.isInt_shape (k:=i) (v:=v) h;exact .inl #[i,t,rfl,e]
 |.inr x,v,h=>by
  obtain⟨t,e⟩:=Value.isStrOf_shape (x:=x) (v:=v) h;exact .inr #[x,t,rfl,e]
theorem Ef(i:Int)(t:Tok):wD (.inl i) (.int i t)=true:=by simp[wD,Value.isInt]
theorem Eg(x:Str)(t:Tok):wD (.inr x) (.str x t)=true:=by simp[wD,Value.isStrOf]
theorem M7(a b:Int):decide ((sO a:Key)=sO b)=(a==b):=by
 by_cases e:a=b
 .subst e;simp
 .have h:¬(sO a:Key)=sO b:=λq=>e (Sum.inl.inj q)
  rw[decide_eq_false h]
  exact(beq_eq_false_iff_ne.mpr e).symm
theorem M8(a b:Str):decide ((fq a:Key)=fq b)=decide (a=b):=by
 by_cases e:a=b
 .subst e;simp
 .have h:¬(fq a:Key)=fq b:=λq=>e (zM q)
  rw[decide_eq_false h,decide_eq_false e]
theorem M9(a:Int)(b:Str):decide ((sO a:Key)=fq b)=false:=decide_eq_false (λq=>nomatch q)
theorem Na(a:Str)(b:Int):decide ((fq a:Key)=sO b)=false:=decide_eq_false (λq=>nomatch q)
noncomputable def eP(prog:bC)(w:bZ):PySem.KeyKind prog w Key where
 is:=wD
 hash:=Vv w
 inj:=λv a b ha hb=>by
  rcases dY ha with⟨i,t,rfl,rfl⟩|⟨x,t,rfl,rfl⟩
  .rcases dY hb with⟨j,u,rfl,e⟩|⟨y,u,rfl,e⟩
   .injection e with e1 _;rw[e1]
   .exact nomatch e
  .rcases dY hb with⟨j,u,rfl,e⟩|⟨y,u,rfl,e⟩
   .exact nomatch e
   .injection e with e1 _;rw[e1]
 byValue:=λk v h=>by
  rcases dY h with⟨i,t,rfl,rfl⟩|⟨x,t,rfl,rfl⟩<;>rfl
 pyHash:=λhv h=>by
  rcases dY hv with⟨i,t,rfl,rfl⟩|⟨x,t,rfl,rfl⟩
  .exact wpAny_pyHash_int h
  .exact wpAny_pyHash_str h
 eqBool:=λhu hv h=>by
  rcases dY hu with⟨i,t,rfl,rfl⟩|⟨x,t,rfl,rfl⟩
  .rcases dY hv with⟨j,u,rfl,rfl⟩|⟨y,u,rfl,rfl⟩
   .rw[M7] at h;exact wpAny_eqBool_int h
   .rw[M9] at h;exact oF i t y u _ _ _ _ h
  .rcases dY hv with⟨j,u,rfl,rfl⟩|⟨y,u,rfl,rfl⟩
   .rw[Na] at h;exact oG x t j u _ _ _ _ h
   .rw[M8] at h;exact wpAny_eqBool_str h
 «strs»:=λk x t v h=>by
  rcases dY h with⟨i,u,rfl,e⟩|⟨y,u,rfl,e⟩
  .exact nomatch e
  .injection e with e1 _
   subst e1;cases v<;>rfl
theorem zR(prog:bC)(w:bZ)(i:Int)(t:Tok):(eP prog w).is (.inl i) (.int i t)=true:=Ef i t
theorem zS(prog:bC)(w:bZ)(x:Str)(t:Tok):(eP prog w).is (.inr x) (.str x t)=true:=Eg x t
inductive V where
 |bK|bl (b:Bool)|int (i:Int)|str (x:Str)|Bb (b:Array UInt8)|Nb (b:UInt64)|ref (a:Addr)|ty (n:String)
 deriving DecidableEq
def RelV:V->Value->Prop
 |.bK,u=>u=df
 |.bl b,u=>u=iG b
 |.int i,u=>∃t,u=mJ i t
 |.str x,u=>∃t,u=jw x t
 |.Bb b,u=>∃t,u=Value.bytes b t
 |.Nb b,u=>∃t,u=Be b t
 |.ref a,u=>u=aV a
 |.ty n,u=>u=vH n
abbrev Vals:List V->List Value->Prop:=Paired RelV
theorem Vals.length{xs:List V}{us:List Value}(r:Vals xs us):xs.length=us.length:=Paired.length r
theorem Vals.get:∀{xs:List V}{us:List Value}{i:Nat}{x:V},Vals xs us->xs[i]?=some x->∃u,us[i]?=some u/\RelV x u
 |_,_,_,_,.nil,e=>by simp at e
 |_,_,0,_,.cons r _,e=>by simp at e;subst e;exact#[_,rfl,r]
 |_,_,i+1,x,.cons _ t,e=>by
  obtain⟨u,h1,h2⟩:=Vals.get (i:=i) (x:=x) t (by simpa using e);exact#[u,by simpa using h1,h2]
theorem Vals.set{x:V}{u:Value}(r:RelV x u):∀{xs:List V}{us:List Value}(i:Nat),Vals xs us->Vals (xs.set i x) (us.set i u)
 |_,_,_,.nil=>.nil
 |_,_,0,.cons _ t=>.cons r t
 |_,_,i+1,.cons q t=>.cons q (Vals.set r i t)
theorem Vals.append:∀{xs ys:List V}{us ws:List Value},Vals xs us->Vals ys ws->Vals (xs++ys) (us++ws)
 |_,_,_,_,.nil,s=>s
 |_,_,_,_,.cons r t,s=>.cons r (Vals.append t s)
theorem Vals.take:∀{xs:List V}{us:List Value}(n:Nat),Vals xs us->Vals (xs.take n) (us.take n)
 |_,_,0,_=>.nil
 |_,_,_+1,.nil=>.nil
 |_,_,n+1,.cons r t=>.cons r (Vals.take n t)
theorem Vals.drop:∀{xs:List V}{us:List Value}(n:Nat),Vals xs us->Vals (xs.drop n) (us.drop n)
 |_,_,0,r=>r
 |_,_,_+1,.nil=>.nil
 |_,_,n+1,.cons _ t=>Vals.drop n t
def nI:Option V->Option Value->Prop
 |some v,some u=>RelV v u
 |none,none=>True
 |_,_=>False
def KV{κ:Type}:List (κ×V)->List (κ×Value)->Prop:=Paired λ(p:κ×V)(q:κ×Value)=>p.1=q.1/\RelV p.2 q.2
noncomputable def kV:Key->V
 |.inl i=>.int i
 |.inr x=>.str x
inductive HO where
 |lst (xs:List V)
 |tup (xs:List V)
 |dK (kvs:List (Key×V))|dT (kvs:List (List Key×V))
 |set (S:Int->Bool) (n:Nat)
 |ins (C dx:Addr) (fs:List (Str×V))
 |own (x:Addr)
 |xd (fs:List (Str×V))
 |met (f x:Addr)
 |Vw (lo hi:Int)
 |Bt (o:Obj) (u:HO)
 |Nc (ps:Array Value)
 |ext (φ:Heap->Prop)
abbrev Hp:=Addr->Option HO
noncomputable def upd(H:Hp)(a:Addr)(o:HO):Hp:=λb=>if b=a then some o else H b
theorem bJ{H:Hp}{a:Addr}{o:HO}:upd H a o a=some o:=by unfold upd;rw[if_pos rfl]
theorem bw{H:Hp}{a b:Addr}{o:HO}(h:b≠a):upd H a o b=H b:=by unfold upd;rw[if_neg h]
theorem fw{H:Hp}{a b:Addr}{o:HO}(h:H a=some o)(h':H b=none):a≠b:=by
 intro e;subst e;rw[h] at h';cases h'
section
variable(P:bC)(w:bZ)
def eL(H:Hp)(h:Heap)(a:Addr):HO->Prop
 |.lst xs=>xs.length<=sizeLine/\∃(its:List Value)(n:Nat),Vals xs its/\h.get? a=some {cls:=.type "list",data:=.seq its.toArray n}
 |.tup xs=>xs.length<=sizeLine/\∃its:List Value,Vals xs its/\IsTup h a its.toArray
 |.dK kvs=>kvs.length<=sizeLine/\(a==dE)=false/\∃vs,KV kvs vs/\h.DictOf (eP P w) a vs
 |.dT kvs=>kvs.length<=sizeLine/\(a==dE)=false/\∃xs:List (List Key×Addr×Value),
   Paired (λ(p:List Key×V)(q:List Key×Addr×Value)=>p.1=q.1/\H q.2.1=some (.tup (p.1.map kV))/\RelV p.2 q.2.2) kvs xs /\
   ∃o es ep,h.get? a=some o/\o.ExactDict/\o.data=.dict es ep/\es.toList=xs.map (entryOfKey (xW (eP P w)))/\(xs.map (·.1)).Nodup
 |.set S n=>h.SetOf (intKind P w) a S n
 |.ins C dx fs=>H dx=some (.own a)/\fs.length<=1000/\dx≠a/\h.get? a=some (du C dx) /\
   ∃mA,h.Ns1 dx mA/\(∀f,nI (fs.lookup f) (mA f))/\ki mA (fs.map (·.1))
 |.own _=>∃o,h.get? a=some o
 |.xd fs=>∃mA,h.Ns1 a mA/\∀f,nI (fs.lookup f) (mA f)
 |.Vw lo hi=>∃t u v,h.get? a=some {cls:=.type "range",data:=.fields (List.toArray [.int lo t,.int hi u,.int 1 v])}
 |.Bt o u=>h.get? a=some o/\eL H h a u
 |.Nc ps=>h.get? a=some {cls:=.none,data:=.fields ps}
 |.met f x=>h.get? a=some (qf (.ref f) (.ref x))
 |.ext φ=>φ h/\(∃o,h.get? a=some o)/\∀h1 h2:Heap,φ h1->(∀o,h1.get? a=some o->h2.get? a=some o)->φ h2
def n6(H:Hp)(h:Heap):Prop:=∀a o,H a=some o->eL P w H h a o
end
section
variable{P:bC}{w:bZ}{H H':Hp}{h h':Heap}{a:Addr}{o:HO}
theorem eL.lt(x:eL P w H h a o):a<h.objs.size:=by
 cases o with
 |lst xs=>obtain⟨_,_,_,_,e⟩:=x;exact aL e
 |tup xs=>obtain⟨_,_,_,p⟩:=x;exact p.lt
 |dK kvs=>obtain⟨_,_,_,_,o,_,_,e,_⟩:=x;exact aL e
 |dT kvs=>obtain⟨_,_,_,_,o,_,_,e,_⟩:=x;exact aL e
 |set S n=>obtain⟨o,_,_,_,e,_⟩:=x;exact aL e
 |ins C dx fs=>obtain⟨_,_,_,e,_⟩:=x;exact aL e
 |own y=>obtain⟨_,e⟩:=x;exact aL e
 |xd fs=>obtain⟨_,⟨_,_,_,e,_⟩,_⟩:=x;exact aL e
 |Vw lo hi=>obtain⟨_,_,_,e⟩:=x;exact aL e
 |Bt ob u=>obtain⟨e,_⟩:=x;exact aL e
 |Nc ps=>exact aL (show h.get? a=some _ from x)
 |met f y=>exact aL (show h.get? a=some _ from x)
 |ext φ=>obtain⟨_,⟨_,e⟩,_⟩:=x;exact aL e
theorem Paired.Q0{α β:Type}{F G:α->β->Prop}:∀{l₁:List α}{l₂:List β},Paired F l₁ l₂->(∀a b,F a b->G a b)->Paired G l₁ l₂
 |_,_,.nil,_=>.nil
 |_,_,.cons r t,f=>.cons (f _ _ r) (Paired.Q0 t f)
theorem eL.jH(x:eL P w H h a o)(k:∀b u,(b=a\/H b=some (.own a))->h.get? b=some u->h'.get? b=some u)
  (ho:∀b,H b=some (.own a)->H' b=some (.own a)) (ht:∀b xs,H b=some (.tup xs)->H' b=some (.tup xs)):eL P w H' h' a o:=by
 induction o with
 |lst xs=>obtain⟨z,its,n,r,e⟩:=x;exact#[z,its,n,r,k _ _ (.inl rfl) e]
 |tup xs=>obtain⟨z,its,r,ob,e,c⟩:=x;exact#[z,its,r,ob,k _ _ (.inl rfl) e,c]
 |dK kvs=>obtain⟨z,y,vs,r,ob,es,ep,e,c⟩:=x;exact#[z,y,vs,r,ob,es,ep,k _ _ (.inl rfl) e,c]
 |dT kvs=>
  obtain⟨z,y,xs,r,ob,es,ep,e,c⟩:=x;exact#[z,y,xs,Paired.Q0 r λp q z=>#[z.1,ht _ _ z.2.1,z.2.2],ob,es,ep,k _ _ (.inl rfl) e,c]
 |set S n=>obtain⟨ob,es,ep,t,e,c⟩:=x;exact#[ob,es,ep,t,k _ _ (.inl rfl) e,c]
 |ins C dx fs=>
  obtain⟨d,z,ne,e,mA,⟨od,es,ep,e2,c⟩,r⟩:=x;exact#[ho _ d,z,ne,k _ _ (.inl rfl) e,mA,#[od,es,ep,k _ _ (.inr d) e2,c],r]
 |own y=>obtain⟨ob,e⟩:=x;exact#[ob,k _ _ (.inl rfl) e]
 |xd fs=>obtain⟨mA,⟨od,es,ep,e,c⟩,r⟩:=x;exact#[mA,#[od,es,ep,k _ _ (.inl rfl) e,c],r]
 |Vw lo hi=>obtain⟨t,u,v,e⟩:=x;exact#[t,u,v,k _ _ (.inl rfl) e]
 |Bt ob u ih=>obtain⟨e,q⟩:=x;exact#[k _ _ (.inl rfl) e,ih q]
 |Nc ps=>
  have e:h.get? a=some {cls:=.none,data:=.fields ps}:=x;show h'.get? a=some {cls:=.none,data:=.fields ps};exact k a _ (.inl rfl) e
 |met f y=>
  have e:h.get? a=some (qf (.ref f) (.ref y)):=x;show h'.get? a=some (qf (.ref f) (.ref y));exact k a _ (.inl rfl) e
 |ext φ=>obtain⟨p,⟨o,e⟩,st⟩:=x;exact#[st _ _ p λo q=>k _ _ (.inl rfl) q,#[o,k _ _ (.inl rfl) e],st]
theorem n6.lt(x:n6 P w H h)(e:H a=some o):a<h.objs.size:=(x a o e).lt
theorem n6.fresh(x:n6 P w H h)(e:h.objs.size<=a):H a=none:=by
 cases q:H a with
 |none=>rfl
 |some u=>exact absurd (aM (x.lt q) e) (dI _)
theorem n6.kept(x:n6 P w H h)(k:∀b u,h.get? b=some u->h'.get? b=some u):n6 P w H h':=λa o e=>
 (x a o e).jH (λb u _ q=>k b u q) (λ_ q=>q) λ_ _ q=>q
theorem n6.laid(x:n6 P w H h)(k:∀b u,h.get? b=some u->h'.get? b=some u)(hp:h.objs.size<=a)(new:eL P w (upd H a o) h' a o):n6 P w (upd H a o) h':=λb u e=>by
 have hn:=x.fresh hp;by_cases hb:b=a
 .subst hb;rw[bJ] at e;cases e;exact new
 .rw[bw hb] at e
  exact(x b u e).jH (λc v _ q=>k c v q) (λc q=>by rw[bw (fw q hn)];exact q) λc xs q=>by rw[bw (fw q hn)];exact q
end
def Rd(H:Hp)(a:Addr)(u:HO):Prop:=H a=some u\/∃o,H a=some (.Bt o u)
theorem Rd.ok{P:bC}{w:bZ}{H:Hp}{h:Heap}{a:Addr}{u:HO}(r:Rd H a u)(x:n6 P w H h):eL P w H h a u:=by
 rcases r with r|⟨o,r⟩
 .exact x a u r
 .obtain⟨_,q⟩:=x a _ r
  exact q
def U1:Option HO->Prop
 |some (.lst _)=>True
 |some (.dK _)=>True
 |some (.dT _)=>True
 |some (.set _ _)=>True
 |some (.ins _ _ _)=>True
 |some (.ext _)=>True
 |_=>False
section
variable{P:bC}{w:bZ}{H:Hp}{h h':Heap}{x e:Addr}{o':HO}
theorem n6.write(ok:n6 P w H h)(mu:U1 (H x))(he:e=x\/H e=some (.own x))(k:∀b u,b≠e->h.get? b=some u->h'.get? b=some u)(heo:∃u,h'.get? e=some u)
  (new:eL P w (upd H x o') h' x o'):n6 P w (upd H x o') h':=λb u q=>by
 have nown:∀c y,H c=some (.own y)->c≠x:=λc y r z=>by subst z;rw[r] at mu;exact mu
 have ntup:∀c xs,H c=some (.tup xs)->c≠x:=λc xs r z=>by subst z;rw[r] at mu;exact mu
 by_cases hb:b=x
 .subst hb;rw[bJ] at q;cases q;exact new
 .rw[bw hb] at q
  by_cases hbe:b=e
  .have q':H b=some (.own x):=by
    rcases he with z|z
    .exact absurd (hbe.trans z) hb
    .rw[hbe];exact z
   rw[q] at q';cases q';obtain⟨v,hv⟩:=heo;exact#[v,by rw[hbe];exact hv]
  .refine(ok b u q).jH (λc v hc r=>k c v ?_ r) (λc r=>by rw[bw (nown c b r)];exact r) λc xs r=>by rw[bw (ntup c xs r)];exact r
   rcases hc with rfl|hc
   .exact hbe
   .rintro rfl
    rcases he with z|z
    .exact nown c b hc z
    .rw[hc] at z;cases z;exact hb rfl
end
structure Un(fs ex:List Addr)(H H':Hp)(h h':Heap):Prop where
 keep:∀b o,h.get? b=some o->H b=none->b∉fs->b∉ex->h'.get? b=some o
 slot:∀b o,h.get? b=some o->H b=none->b∈fs->b∉ex->∃sl,h'.get? b=some {o with slots:=sl}
 free:∀b o,h.get? b=some o->H b=none->b∉ex->H' b=none
 there:∀b o,h.get? b=some o->b∉ex->∃o',h'.get? b=some o'
 yr:∀b xs,H b=some (.tup xs)->H' b=some (.tup xs)
 vO:∀b o u,H b=some (.Bt o u)->H' b=some (.Bt o u)
 yt:∀b ps,H b=some (.Nc ps)->∃more,H' b=some (.Nc (ps++more))
section
variable{fs fs' ex ex':List Addr}{H H1 H2:Hp}{h h1 h2 h':Heap}{a x e:Addr}{o:HO}
theorem Un.any(u:Un fs ex H H1 h h1){b:Addr}{ob:Obj}(q:h.get? b=some ob)(n:H b=none)(hx:b∉ex):∃sl,h1.get? b=some {ob with slots:=sl}:=by
 by_cases hb:b∈fs
 .exact u.slot b ob q n hb hx
 .exact#[ob.slots,u.keep b ob q n hb hx]
theorem Un.kept(k:∀b u,h.get? b=some u->h'.get? b=some u):Un fs ex H H h h':=
 #[λb ob q _ _ _=>k b ob q,λb ob q _ _ _=>#[ob.slots,k b ob q],λ_ _ _ n _=>n,λb ob q _=>#[ob,k b ob q],λ_ _ q=>q,λ_ _ _ q=>q,λ_ ps q=>#[#[],by rw[q];simp]]
theorem Un.refl:Un fs ex H H h h:=Un.kept λ_ _ q=>q
theorem Un.laid(k:∀b u,h.get? b=some u->h'.get? b=some u)(hp:h.objs.size<=a)(hn:H a=none):Un fs ex H (upd H a o) h h' where
 keep:=λb u q _ _ _=>k b u q
 slot:=λb u q _ _ _=>#[u.slots,k b u q]
 free:=λb u q n _=>by rw[bw (b7 (aM (aL q) hp))];exact n
 there:=λb u q _=>#[u,k b u q]
 yr:=λb xs q=>by rw[bw (fw q hn)];exact q
 vO:=λb u xs q=>by rw[bw (fw q hn)];exact q
 yt:=λb ps q=>#[#[],by rw[bw (fw q hn),q];simp]
theorem Un.write(mu:U1 (H x))(he:e=x\/H e=some (.own x))(k:∀b u,b≠e->h.get? b=some u->h'.get? b=some u)(heo:∃u,h'.get? e=some u):Un fs ex H (upd H x o) h h':=by
 have hx:∀b,H b=none->b≠x:=λb n z=>by subst z;rw[n] at mu;exact mu
 have hb:∀b,H b=none->b≠e:=λb n z=>by
  subst z;rcases he with r|r
  .exact hx b n r
  .rw[n] at r;cases r
 have hm:∀b u,H b=some u->¬U1 (some u)->b≠x:=λb u q nm z=>by subst z;rw[q] at mu;exact nm mu
 refine#[λb u q n _ _=>k b u (hb b n) q,λb u q n _ _=>#[u.slots,k b u (hb b n) q],λb u q n _=>by rw[bw (hx b n)];exact n,λb u q _=>?_,
  λb xs q=>by rw[bw (hm b _ q λz=>z)];exact q,λb u xs q=>by rw[bw (hm b _ q λz=>z)];exact q,λb ps q=>#[#[],by rw[bw (hm b _ q λz=>z),q];simp]]
 by_cases hbe:b=e
 .subst hbe;exact heo
 .exact#[u,k b u hbe q]
end
noncomputable def U2(h:Heap)(H:Hp):List Addr:=(cx h.objs.size).filter λa=>(H a).isSome
noncomputable def yu(h:Heap)(H:Hp):Heap:=PySem.W.hideAll h (U2 h H)
theorem Eh(h:Heap)(H:Hp):(yu h H).objs.size=h.objs.size:=PySem.W.hideAll_size _ _
theorem F3{h:Heap}{H:Hp}{b:Addr}{o:Obj}(e:h.get? b=some o)(n:H b=none):(yu h H).get? b=some o:=
 PySem.W.hideAll_get _ e λhm=>by
  have q:(H b).isSome=true:=(eG.mp hm).2;rw[n] at q;simp at q
theorem JL{h:Heap}{H:Hp}{b:Addr}{o:Obj}(e:(yu h H).get? b=some o):h.get? b=some o/\H b=none:=by
 have e':h.get? b=some o:=PySem.W.of_hideAll (U2 h H) e;refine#[e',?_];cases q:H b with
 |none=>rfl
 |some x=>
  have hm:b∈U2 h H:=eG.mpr #[we.mpr (aL e'),by simp[q]];have z:(yu h H).get? b=none:=PySem.W.hideAll_none (U2 h H) hm;rw[z] at e;cases e
noncomputable def oJ(g h:Heap)(L:Addr):List (Addr×Obj):=(cx h.objs.size).filterMap λa=>if a=L\/(g.get? a).isSome=true then none else(h.get? a).map λo=>(a,o)
theorem zT{g h:Heap}{L a:Addr}{o:Obj}(h1:a≠L)(h2:g.get? a=none)(h3:h.get? a=some o):(a,o)∈oJ g h L:=
 kU.mpr #[a,we.mpr (aL h3),by simp[h1,h2,h3]]
theorem t8{g h:Heap}{L:Addr}{p:Addr×Obj}(hp:p∈oJ g h L):p.1≠L/\g.get? p.1=none/\h.get? p.1=some p.2:=by
 obtain⟨b,_,e⟩:=kU.mp hp;split at e
 .cases e
 .rename_i hn
  cases q:h.get? b with
  |none=>rw[q] at e;simp at e
  |some u=>
   rw[q] at e;simp only[jN,pq] at e;subst e;refine#[λz=>hn (.inl z),?_,q];show g.get? b=none;cases r:g.get? b with
   |none=>rfl
   |some v=>exact(hn (.inr (by simp[r]))).elim
noncomputable def rest(g h:Heap)(L d:Addr):List (Addr×Obj):=(oJ g h L).filter λp=>decide (p.1≠d)
theorem F4{g h:Heap}{L:Addr}:News g L h (oJ g h L):=λp hp=>let ⟨a,b,c⟩:=t8 hp;#[c,a,b]
structure Mod(K:aE)(mg:Str->Option Value)(base:Heap):Prop where
 QD:K.In base
 glob:base.Ns bu mg
 blt:∃mb,base.Ns builtinsNs mb/\∀x:Str,x≠"__name__"->mb x=jF x
 nolimit:base.NoLimit
structure Cx where
 prog:bC
 w:bZ
 K:aE
 mg:Str->Option Value
 base:Heap
 A:cA
 N:List Str
 s₀:ak
 H₀:Hp
 env:Env
 outer:List Env
 stack:List Env
 ex:List Addr
 fn:Str->Bool
 calm:Bool
 pn:List (Addr×Obj)
 xe:Value->ak->Prop
noncomputable def vP(l:List Env):List Addr:=l.filterMap (·.frame)
noncomputable abbrev Cx.fs(X:Cx):List Addr:=vP X.outer
def Jn(sc:kI)(x:Str):Prop:=sc.names.lookup x=some .local\/sc.names.lookup x=some .cell\/sc.names.lookup x=some .free
def Loc(sc:kI)(x:Str):Prop:=sc.names.lookup x=some .local\/sc.names.lookup x=some .cell
def Look(env:Env)(h:Heap)(m:Str->Option Value)(x:Str)(u:Value):Prop:=
 (env.kindOf x=some .local/\m x=some u)\/((env.kindOf x=some .cell\/env.kindOf x=some .free)/\∃c,env.cells.lookup x=some c/\h.IsCell c (some u))
structure Cx.Ok(X:Cx):Prop where
 mod:Mod X.K X.mg X.base
 kind:X.env.scope.kind=.function
 glob:X.env.globals=bu
 blt:X.env.builtins=builtinsNs
 above:X.s₀.heap.objs.size<=X.env.locals
 inj:∀x y c,X.env.cells.lookup x=some c->X.env.cells.lookup y=some c->x=y
 has:∀x,(X.env.kindOf x=some .cell\/X.env.kindOf x=some .free)->∃c,X.env.cells.lookup x=some c
 Mr:∀x c,X.fn x=true->X.env.cells.lookup x=some c->X.s₀.heap.objs.size<=c
 hd:X.calm=true->X.A.handled=none
 frames:X.A.frames=some X.stack
 Ei:X.stack=X.outer\/(X.stack=X.env::X.outer/\X.env.frame=some X.env.locals)
 Q2:∀b∈X.ex,b≠X.env.locals/\∀x c,X.env.cells.lookup x=some c->c≠b
 bs:∀b o,X.base.get? b=some o->X.s₀.heap.get? b=some o/\X.H₀ b=none
 FA:X.base.objs.size<=X.s₀.heap.objs.size
 zU:∀b o,X.base.get? b=some o->b∉X.ex
 Bu:∀b∈X.ex,b∉X.fs
 pP:X.s₀.heap.FunFrames X.base X.outer
 Jo:∀b∈X.fs,X.H₀ b=none
structure Inv(X:Cx)(pZ:List (Addr×Obj))(σ:List (Option V))(H:Hp)(s:ak):Prop where
 ok:X.Ok
 os:s.os=X.s₀.os
 bare:nR s.gens
 base:Un X.fs X.ex X.H₀ H X.s₀.heap s.heap
 loc:∃m,s.heap.Ns X.env.locals m/\∀(i:Nat)(x:Str)(v:V),X.N[i]?=some x->σ[i]?=some (some v)->Jn X.env.scope x->∃u,RelV v u/\Look X.env s.heap m x u
 cell:∀x c,X.env.cells.lookup x=some c->∃v,s.heap.IsCell c v
 free:H X.env.locals=none
 km:∀x c,X.env.cells.lookup x=some c->H c=none
 pin:∀p∈X.pn++pZ,s.heap.get? p.1=some p.2/\H p.1=none/\p.1≠X.env.locals/\p.1∉X.fs/\∀v,p.2.data≠.cell v
 dg:n6 X.prog X.w H s.heap
 len:σ.length=X.N.length
section
variable{X:Cx}{pZ:List (Addr×Obj)}{σ:List (Option V)}{H H':Hp}{s:ak}{h':Heap}
theorem Cx.Ok.Vx(ok:X.Ok){b:Addr}{o:Obj}(e:X.base.get? b=some o):b∉X.fs:=λhb=>by
 have:=(ok.pP.mem hb).1;rw[e] at this;cases this
theorem Inv.bs(I:Inv X pZ σ H s):∀b o,X.base.get? b=some o->s.heap.get? b=some o/\H b=none:=λb o e=>
 #[I.base.keep b o (I.ok.bs b o e).1 (I.ok.bs b o e).2 (I.ok.Vx e) (I.ok.zU b o e),I.base.free b o (I.ok.bs b o e).1 (I.ok.bs b o e).2 (I.ok.zU b o e)]
theorem Inv.bk(I:Inv X pZ σ H s):∀b o,X.base.get? b=some o->s.heap.get? b=some o:=λb o e=>(I.bs b o e).1
theorem Inv.mod(I:Inv X pZ σ H s):Mod X.K X.mg X.base:=I.ok.mod
theorem Inv.kY(I:Inv X pZ σ H s):X.K.In s.heap:=I.ok.mod.QD.keeps I.bk
theorem Inv.fr(I:Inv X pZ σ H s):∃m,Fr X.base X.env.locals s.heap m:=
 let ⟨m,hn,_⟩:=I.loc
 #[m,hn,I.bk,aS I.ok.FA I.ok.above]
theorem Inv.lt(I:Inv X pZ σ H s):X.env.locals<s.heap.objs.size:=let ⟨_,hn,_⟩:=I.loc;hn.lt
theorem Inv.sz(I:Inv X pZ σ H s):X.s₀.heap.objs.size<=s.heap.objs.size:=aS I.ok.above (sP I.lt)
theorem Inv.Vy(I:Inv X pZ σ H s){a:Addr}(h:s.heap.objs.size<=a):a∉X.fs:=λhb=>by
 obtain⟨_,o,ho,_⟩:=I.ok.pP.mem hb;exact absurd (aM (aL ho) (aS I.sz h)) (dI _)
theorem Inv.JM(I:Inv X pZ σ H s):∀x c,X.env.cells.lookup x=some c->c≠X.env.locals:=λx c e z=>by
 obtain⟨v,o,ho,hd⟩:=I.cell x c e;obtain⟨m,⟨o',es,ep,ho',hd',_⟩,_⟩:=I.loc;rw[z,ho'] at ho;cases ho;rw[hd'] at hd;cases hd
theorem Inv.pP(I:Inv X pZ σ H s):s.heap.FunFrames X.base X.outer:=by
 have all:∀(l:List Env),(∀b∈vP l,b∈X.fs)->X.s₀.heap.FunFrames X.base l->s.heap.FunFrames X.base l:=by
  intro l;induction l with
  |nil=>intro _ _;trivial
  |cons env r ih=>
   intro hs hl;obtain⟨hk,⟨L,o,hf,hn,ho,hd⟩,hr⟩:=hl;have hL:L∈X.fs:=hs L (by unfold vP;rw[fj,hf];exact bf);obtain⟨sl,e⟩:=I.base.slot L o ho (I.ok.Jo L hL) hL λz=>I.ok.Bu L z hL
   exact#[hk,#[L,_,hf,hn,e,hd],ih (λb hb=>hs b (by unfold vP;rw[fj,hf];exact aU _ hb)) hr]
 exact all X.outer (λ_ hb=>hb) I.ok.pP
theorem Inv.stack(I:Inv X pZ σ H s):s.heap.FunFrames X.base X.stack:=by
 rcases I.ok.Ei with e|⟨e,hf⟩
 .rw[e];exact I.pP
 .rw[e]
  obtain⟨m,hn,_⟩:=I.loc;refine .cons (by rw[I.ok.kind];decide) hf hn ?_ I.pP;exact pE (aS I.ok.FA I.ok.above)
theorem Inv.t9(I:Inv X pZ σ H s):∀b∈vP X.stack,b∈X.env.locals::X.fs:=λb hb=>by
 rcases I.ok.Ei with e|⟨e,hf⟩
 .rw[e] at hb;exact aU _ hb
 .rw[e] at hb
  unfold vP at hb;rw[fj,hf] at hb;exact hb
theorem Inv.yw(I:Inv X pZ σ H s):∀b∈vP X.stack,H b=none:=λb hb=>by
 rcases bg.mp (I.t9 b hb) with e|hb
 .rw[e];exact I.free
 .obtain⟨_,o,ho,_⟩:=I.ok.pP.mem hb
  exact I.base.free b o ho (I.ok.Jo b hb) λz=>I.ok.Bu b z hb
theorem Inv.step{g':Array Jy}{t':Nat}{d':Drawn}{ch:List Addr}(I:Inv X pZ σ H s)
  (hch:∀b∈ch,(b∈X.ex\/X.s₀.heap.objs.size<=b)/\b≠X.env.locals/\(∀x c,X.env.cells.lookup x=some c->c≠b)/\∀p∈X.pn++pZ,p.1≠b)
  (keep:∀b o,b≠X.env.locals->b∉X.fs->b∉ch->s.heap.get? b=some o->H b=none->h'.get? b=some o)
  (slot:∀b o,b≠X.env.locals->b∈X.fs->b∉ch->s.heap.get? b=some o->H b=none->∃sl,h'.get? b=some {o with slots:=sl}) (free:∀b o,b∉ch->s.heap.get? b=some o->H b=none->H' b=none)
  (there:∀b o,b∉ch->s.heap.get? b=some o->∃o',h'.get? b=some o')
  (yr:∀b xs,H b=some (.tup xs)->H' b=some (.tup xs)) (vO:∀b o u,H b=some (.Bt o u)->H' b=some (.Bt o u)) (yt:∀b ps,H b=some (.Nc ps)->∃more,H' b=some (.Nc (ps++more)))
  (ns:∀m,s.heap.Ns X.env.locals m->h'.Ns X.env.locals m) (dg:n6 X.prog X.w H' h') (hg:nR g'):
  Inv X pZ σ H' {s with heap:=h',gens:=g',drawn:=d',toks:=t'}:=by
 have neL:∀b o,X.s₀.heap.get? b=some o->b≠X.env.locals:=λb o e=>b7 (aM (aL e) I.ok.above)
 have neC:∀b o,X.s₀.heap.get? b=some o->b∉X.ex->b∉ch:=λb o e hx hb=>by
  rcases(hch b hb).1 with z|z
  .exact hx z
  .exact absurd (aM (aL e) z) (dI _)
 have cellK:∀x c,X.env.cells.lookup x=some c->∀v,s.heap.IsCell c v->h'.IsCell c v:=λx c e v #[o,ho,hd]=>by
  have nch:c∉ch:=λz=>(hch c z).2.2.1 x c e rfl
  by_cases hc:c∈X.fs
  .obtain⟨sl,q⟩:=slot c o (I.JM x c e) hc nch ho (I.km x c e)
   exact#[_,q,hd]
  .exact#[o,keep c o (I.JM x c e) hc nch ho (I.km x c e),hd]
 refine#[I.ok,I.os,hg,#[λb o e n hb hx=>?_,λb o e n hb hx=>?_,λb o e n hx=>?_,λb o e hx=>?_,λb xs e=>yr b xs (I.base.yr b xs e),λb o xs e=>vO b o xs (I.base.vO b o xs e),λb ps e=>?_],?_,λx c e=>?_,?_,λx c e=>?_,λp hp=>?_,dg,I.len]
 .exact keep b o (neL b o e) hb (neC b o e hx) (I.base.keep b o e n hb hx) (I.base.free b o e n hx)
 .obtain⟨sl,e1⟩:=I.base.slot b o e n hb hx
  obtain⟨sl',e2⟩:=slot b _ (neL b o e) hb (neC b o e hx) e1 (I.base.free b o e n hx);exact#[sl',e2]
 .obtain⟨o',e1⟩:=I.base.there b o e hx
  exact free b o' (neC b o e hx) e1 (I.base.free b o e n hx)
 .obtain⟨o',e1⟩:=I.base.there b o e hx
  exact there b o' (neC b o e hx) e1
 .obtain⟨m1,e1⟩:=I.base.yt b ps e
  obtain⟨m2,e2⟩:=yt b _ e1;exact#[m1++m2,by rw[e2,Array.append_assoc]]
 .obtain⟨m,hn,hl⟩:=I.loc
  refine#[m,ns m hn,λi x v e1 e2 e3=>?_];obtain⟨u,r,l⟩:=hl i x v e1 e2 e3;refine#[u,r,?_];rcases l with l|⟨k,c,e,z⟩
  .exact .inl l
  .exact .inr #[k,c,e,cellK x c e _ z]
 .obtain⟨v,z⟩:=I.cell x c e
  exact#[v,cellK x c e v z]
 .obtain⟨m,⟨o,_,_,ho,_⟩,_⟩:=I.loc
  exact free _ o (λz=>(hch _ z).2.1 rfl) ho I.free
 .obtain⟨v,o,ho,hd⟩:=I.cell x c e
  exact free c o (λz=>(hch c z).2.2.1 x c e rfl) ho (I.km x c e)
 .obtain⟨e,n,ne,nf,d⟩:=I.pin p hp
  have nch:p.1∉ch:=λz=>(hch p.1 z).2.2.2 p hp rfl
  exact#[keep p.1 p.2 ne nf nch e n,free p.1 p.2 nch e n,ne,nf,d]
theorem Inv.un{t':Nat}(I:Inv X pZ σ H s)(u:Un X.fs [] H H' s.heap h')(dg:n6 X.prog X.w H' h'):Inv X pZ σ H' {s with heap:=h',toks:=t'}:=by
 obtain⟨m,⟨o,es,ep,ho,r⟩,_⟩:=id I.loc;obtain⟨sl,hL⟩:=u.any ho I.free (by simp);exact I.step (g':=s.gens) (d':=s.drawn) (ch:=[]) (λ_ z=>nomatch z) (λb o _ hb _ e n=>u.keep b o e n hb (by simp)) (λb o _ hb _ e n=>u.slot b o e n hb (by simp)) (λb o _ e n=>u.free b o e n (by simp)) (λb o _ e=>u.there b o e (by simp)) u.yr u.vO u.yt (λm' hm=>by
  obtain⟨o',es',ep',ho',r'⟩:=hm;rw[ho] at ho';cases ho';exact#[_,es',ep',hL,r']) dg I.bare
theorem Inv.call{g':Array Jy}{t':Nat}{d':Drawn}{ch:List Addr}(I:Inv X pZ σ H s)(u:Un (vP X.stack) ch H H' s.heap h')(dg:n6 X.prog X.w H' h')(hg:nR g')
  (hch:∀b∈ch,(b∈X.ex\/X.s₀.heap.objs.size<=b)/\b≠X.env.locals/\(∀x c,X.env.cells.lookup x=some c->c≠b)/\∀p∈X.pn++pZ,p.1≠b):
  Inv X pZ σ H' {s with heap:=h',gens:=g',drawn:=d',toks:=t'}:=by
 obtain⟨m,⟨o,es,ep,ho,r⟩,_⟩:=id I.loc;obtain⟨sl,hL⟩:=u.any ho I.free λz=>(hch _ z).2.1 rfl
 exact I.step (ch:=ch) hch (λb o hL hb hc e n=>u.keep b o e n (λz=>(bg.mp (I.t9 b z)).elim hL hb) hc) (λb o _ _ hc e n=>u.any e n hc) (λb o hc e n=>u.free b o e n hc) (λb o hc e=>u.there b o e hc) u.yr u.vO u.yt (λm' hm=>by
  obtain⟨o',es',ep',ho',r'⟩:=hm;rw[ho] at ho';cases ho';exact#[_,es',ep',hL,r']) dg hg
theorem Inv.turned{t':Nat}{it:Addr}(I:Inv X pZ σ H s)(k:∀b o,b≠it->s.heap.get? b=some o->h'.get? b=some o)(hn:H it=none)(hL:it≠X.env.locals)
  (h1:it∈X.ex\/X.s₀.heap.objs.size<=it) (h2:∀x c,X.env.cells.lookup x=some c->c≠it) (h3:∀p∈X.pn++pZ,p.1≠it):Inv X pZ σ H {s with heap:=h',toks:=t'}:=by
 have nit:∀b u,H b=some u->b≠it:=λb u e z=>by rw[z,hn] at e;cases e
 refine I.step (g':=s.gens) (d':=s.drawn) (ch:=[it]) (λb hb=>?_) (λb o _ _ hc e _=>k b o (λz=>hc (by simp[z])) e) (λb o _ _ hc e _=>#[o.slots,k b o (λz=>hc (by simp[z])) e]) (λ_ _ _ _ n=>n)
  (λb o hc e=>#[o,k b o (λz=>hc (by simp[z])) e]) (λ_ _ e=>e) (λ_ _ _ e=>e) (λb ps e=>#[#[],by rw[e];simp]) (λm hm=>?_) (λb u e=>?_) I.bare
 .have e:b=it:=by simpa using hb
  subst e;exact#[h1,hL,h2,h3]
 .obtain⟨o,es,ep,ho,r⟩:=hm
  exact#[o,es,ep,k _ o (dJ hL) ho,r]
 .refine(I.dg b u e).jH (λc v hc q=>k c v ?_ q) (λ_ q=>q) λ_ _ q=>q
  rcases hc with z|z
  .rw[z];exact nit b u e
  .exact nit c _ z
theorem Inv.tok(I:Inv X pZ σ H s)(t:Nat):Inv X pZ σ H {s with toks:=t}:=I.un (h':=s.heap) (t':=t) Un.refl I.dg
theorem Inv.kept{t':Nat}(I:Inv X pZ σ H s)(k:∀b u,s.heap.get? b=some u->h'.get? b=some u):Inv X pZ σ H {s with heap:=h',toks:=t'}:=I.un (Un.kept k) (I.dg.kept k)
theorem Inv.laid{a:Addr}{o:HO}{t':Nat}(I:Inv X pZ σ H s)(k:∀b u,s.heap.get? b=some u->h'.get? b=some u)(hp:s.heap.objs.size<=a)(new:eL X.prog X.w (upd H a o) h' a o):
  Inv X pZ σ (upd H a o) {s with heap:=h',toks:=t'}:=I.un (Un.laid k hp (I.dg.fresh hp)) (I.dg.laid k hp new)
theorem Inv.write{x e:Addr}{o:HO}{t':Nat}(I:Inv X pZ σ H s)(mu:U1 (H x))(he:e=x\/H e=some (.own x))(k:∀b u,b≠e->s.heap.get? b=some u->h'.get? b=some u)(heo:∃u,h'.get? e=some u)
  (new:eL X.prog X.w (upd H x o) h' x o):Inv X pZ σ (upd H x o) {s with heap:=h',toks:=t'}:=I.un (Un.write mu he k heo) (I.dg.write mu he k heo new)
theorem Inv.CU{pins':List (Addr×Obj)}(I:Inv X pZ σ H s)(h:∀p∈pins',s.heap.get? p.1=some p.2/\H p.1=none/\p.1≠X.env.locals/\p.1∉X.fs/\∀v,p.2.data≠.cell v):Inv X pins' σ H s:=
 #[I.ok,I.os,I.bare,I.base,I.loc,I.cell,I.free,I.km,λp hp=>(aD.mp hp).elim (λz=>I.pin p (bT _ z)) (h p),I.dg,I.len]
theorem ua{N:List Str}(hN:N.Nodup){i j:Nat}{x:Str}(a:N[i]?=some x)(b:N[j]?=some x):i=j:=by
 obtain⟨h1,e1⟩:=ae.mp a;obtain⟨h2,e2⟩:=ae.mp b;exact(Jb hN).mp (e1.trans e2.symm)
theorem wF{M:Fn}{A:cA}{E:Value->ak->Prop}{i:Nat}{x:Str}{v:V}{u:Value}{Q:Unit->ak->Prop}(I:Inv X pZ σ H s)(hN:X.N.Nodup)(hi:X.N[i]?=some x)(hx:Loc X.env.scope x)(r:RelV v u)
  (h:∀s',Inv X pZ (σ.set i (some v)) H s'->(∃a,r6 a s.heap s'.heap/\(a=X.env.locals\/X.env.cells.lookup x=some a))->Q () s') (hf:X.fn x=true\/X.env.scope.names.lookup x=some .local:=by first|exact .inl rfl|exact .inr rfl|assumption):wpAny M A (storeName X.env x u) Q E s:=by
 obtain⟨m,hn,hl⟩:=id I.loc;have hcls:(X.env.scope.kind==.class||(X.env.scope.kind==.module&&X.env.locals !=X.env.globals))=false:=by rw[I.ok.kind];rfl
 have hiσ:i<σ.length:=by rw[I.len];exact(ae.mp hi).1
 have JM:=I.JM;have tracked:∀{a:Addr}{h':Heap},(∃o,s.heap.get? a=some o/\H a=none)->r6 a s.heap h'->n6 X.prog X.w H h':=λ{a h'}ha hs b ob e=>by
  obtain⟨_,_,hfree⟩:=ha;refine(I.dg b ob e).jH (λc w' hc q=>(hs.2 c ?_).trans q) (λ_ q=>q) λ_ _ q=>q
  rintro rfl;rcases hc with rfl|hc
  .rw[hfree] at e;cases e
  .rw[hfree] at hc;cases hc
 rcases hx with hk|hk
 .refine wpAny_storeName_local hk hn (λh' hn' hs=>?_) hcls
  obtain⟨oL,_,_,hoL,_⟩:=id hn;refine h _ #[I.ok,I.os,I.bare,#[λb o e n hb hx=>?_,λb o e n hb hx=>?_,I.base.free,λb o e hx=>?_,I.base.yr,I.base.vO,I.base.yt],#[_,hn',λj y v' e1 e2 e3=>?_],λy c e=>?_,I.free,I.km,λp hp=>?_,tracked #[oL,hoL,I.free] hs,by simpa using I.len] #[_,hs,.inl rfl]
  .exact(hs.2 b (b7 (aM (aL e) I.ok.above))).trans (I.base.keep b o e n hb hx)
  .obtain⟨sl,e1⟩:=I.base.slot b o e n hb hx
   exact#[sl,(hs.2 b (b7 (aM (aL e) I.ok.above))).trans e1]
  .obtain⟨o',e1⟩:=I.base.there b o e hx
   exact#[o',(hs.2 b (b7 (aM (aL e) I.ok.above))).trans e1]
  .by_cases hj:j=i
   .subst hj
    rw[hi] at e1;cases e1;rw[bU hiσ] at e2;cases e2;exact#[u,r,.inl #[hk,by simp]]
   .rw[av (dJ hj)] at e2
    obtain⟨u',r',q⟩:=hl j y v' e1 e2 e3;refine#[u',r',?_];rcases q with⟨k,e⟩|⟨k,c,e,z⟩
    .refine .inl #[k,?_]
     have:y≠x:=λe=>hj (ua hN e1 (e▸hi))
     simp[this,e]
    .exact .inr #[k,c,e,z.sameBut hs (JM y c e)]
  .obtain⟨w',z⟩:=I.cell y c e
   exact#[w',z.sameBut hs (JM y c e)]
  .obtain⟨e,n,ne,nf,d⟩:=I.pin p hp
   exact#[(hs.2 p.1 ne).trans e,n,ne,nf,d]
 .have hfn:X.fn x=true:=by
   rcases hf with z|z
   .exact z
   .rw[z] at hk;cases hk
  obtain⟨c,hc⟩:=I.ok.has x (.inl hk);obtain⟨w',z⟩:=I.cell x c hc;refine wpAny_storeName_cell I.ok.kind hk hc z (λh' hc' hs=>?_);obtain⟨oc,hoc,hocd⟩:=id z;refine h {s with heap:=h'} #[I.ok,I.os,I.bare,#[λb o e n hb hx=>?_,λb o e n hb hx=>?_,I.base.free,λb o e hx=>?_,I.base.yr,I.base.vO,I.base.yt],#[m,hn.sameBut hs (dJ (JM x c hc)),λj y v' e1 e2 e3=>?_],λy c' e=>?_,I.free,I.km,λp hp=>?_,tracked #[oc,hoc,I.km x c hc] hs,by simpa using I.len] #[c,hs,.inr hc]
  .exact(hs.2 b (b7 (aM (aL e) (I.ok.Mr x c hfn hc)))).trans (I.base.keep b o e n hb hx)
  .obtain⟨sl,e1⟩:=I.base.slot b o e n hb hx
   exact#[sl,(hs.2 b (b7 (aM (aL e) (I.ok.Mr x c hfn hc)))).trans e1]
  .obtain⟨o',e1⟩:=I.base.there b o e hx
   exact#[o',(hs.2 b (b7 (aM (aL e) (I.ok.Mr x c hfn hc)))).trans e1]
  .by_cases hj:j=i
   .subst hj
    rw[hi] at e1;cases e1;rw[bU hiσ] at e2;cases e2;exact#[u,r,.inr #[.inl hk,c,hc,hc']]
   .rw[av (dJ hj)] at e2
    obtain⟨u',r',q⟩:=hl j y v' e1 e2 e3;refine#[u',r',?_];rcases q with q|⟨k,c',e,z'⟩
    .exact .inl q
    .refine .inr #[k,c',e,z'.sameBut hs ?_]
     rintro rfl;exact hj (ua hN e1 (I.ok.inj _ _ _ e hc▸hi))
  .by_cases hcc:c'=c
   .subst hcc;exact#[_,hc']
   .obtain⟨w2,z2⟩:=I.cell y c' e
    exact#[w2,z2.sameBut hs hcc]
  .obtain⟨e,n,ne,nf,d⟩:=I.pin p hp
   refine#[(hs.2 p.1 ?_).trans e,n,ne,nf,d];intro q;rw[q,hoc] at e;have q':oc=p.2:=aH e;exact d w' (by rw[<-q'];exact hocd)
theorem mi{M:Fn}{A:cA}{E:Value->ak->Prop}{i:Nat}{x:Str}{v:V}{u:Value}{Q:Unit->ak->Prop}(I:Inv X pZ σ H s)(hN:X.N.Nodup)(hi:X.N[i]?=some x)(hx:Loc X.env.scope x)(r:RelV v u)
  (h:∀s',Inv X pZ (σ.set i (some v)) H s'->Q () s') (hf:X.fn x=true\/X.env.scope.names.lookup x=some .local:=by first|exact .inl rfl|exact .inr rfl|assumption):wpAny M A (storeName X.env x u) Q E s:=
 wF I hN hi hx r (λs' I' _=>h s' I') hf
theorem Inv.Ms{s':ak}{ch:List Addr}(I:Inv X pZ σ H s)(ho:s'.os=s.os)(u:Un (vP X.stack) ch H H' s.heap s'.heap)(dg:n6 X.prog X.w H' s'.heap)(hg:nR s'.gens)
  (hch:∀b∈ch,(b∈X.ex\/X.s₀.heap.objs.size<=b)/\b≠X.env.locals/\(∀x c,X.env.cells.lookup x=some c->c≠b)/\∀p∈X.pn++pZ,p.1≠b):Inv X pZ σ H' s':=by
 obtain⟨h',g',d',t',o'⟩:=s';have e:o'=s.os:=ho;subst e;exact I.call (g':=g') (t':=t') (d':=d') u dg hg hch
end
abbrev XK:=Value->Option Addr->Hp->Prop
abbrev St:=List (Option V)
abbrev VK:=V->Hp->Prop
abbrev TE:=St->Hp->VK->Prop
abbrev TT:=St->Hp->(Bool->Hp->Prop)->Prop
abbrev TA:=St->Hp->(List V->Hp->Prop)->Prop
structure Ends where
 nx:St->Hp->Prop
 rt:VK
 bk:St->Hp->Prop:=λ_ _=>False
 ct:St->Hp->Prop:=λ_ _=>False
abbrev TS:=Ends->St->Hp->Prop
def EP(X:Cx)(pZ:List (Addr×Obj))(σ:St)(Q:VK)(u:Value)(s':ak):Prop:=∃v H',Inv X pZ σ H' s'/\RelV v u/\Q v H'
def TP(X:Cx)(pZ:List (Addr×Obj))(σ:St)(Q:Bool->Hp->Prop)(b:Bool)(s':ak):Prop:=∃H',Inv X pZ σ H' s'/\Q b H'
def AP(X:Cx)(pZ:List (Addr×Obj))(σ:St)(Q:List V->Hp->Prop)(us:List Value)(s':ak):Prop:=∃vs H',Inv X pZ σ H' s'/\Vals vs us/\Q vs H'
def SP(X:Cx)(pZ:List (Addr×Obj))(D:Ends)(f:Flow)(s':ak):Prop:=
 match f with
 |.next=>∃σ' H',Inv X pZ σ' H' s'/\D.nx σ' H'
 |.brk=>∃σ' H',Inv X pZ σ' H' s'/\D.bk σ' H'
 |.cont=>∃σ' H',Inv X pZ σ' H' s'/\D.ct σ' H'
 |.ret u=>∃v σ' H',Inv X pZ σ' H' s'/\RelV v u/\D.rt v H'
def PE(X:Cx)(e:Expr)(t:TE):Prop:=
 ∀(pZ:List (Addr×Obj))(s:ak)(σ:St)(H:Hp)(Q:VK),Inv X pZ σ H s->t σ H Q->wpAny (aR X.prog X.w) X.A (eval e X.env) (EP X pZ σ Q) X.xe s
def PT(X:Cx)(e:Expr)(t:TT):Prop:=
 ∀(pZ:List (Addr×Obj))(s:ak)(σ:St)(H:Hp)(Q:Bool->Hp->Prop),Inv X pZ σ H s->t σ H Q->wpAny (aR X.prog X.w) X.A (isTrue e X.env (eval e X.env)) (TP X pZ σ Q) X.xe s
def PW(X:Cx)(e:Expr)(t:TT):Prop:=
 ∀(whole:Sem Value)(pZ:List (Addr×Obj))(s:ak)(σ:St)(H:Hp)(Q:Bool->Hp->Prop),Inv X pZ σ H s->t σ H Q->wpAny (aR X.prog X.w) X.A (isTrue e X.env whole) (TP X pZ σ Q) X.xe s
theorem PW.pt{X:Cx}{e:Expr}{t:TT}(h:PW X e t):PT X e t:=h _
def PA(X:Cx)(es:List Expr)(t:TA):Prop:=
 ∀(pos:Pos)(pZ:List (Addr×Obj))(s:ak)(σ:St)(H:Hp)(Q:List V->Hp->Prop),Inv X pZ σ H s->t σ H Q->wpAny (aR X.prog X.w) X.A (spliced (iL pos (bS es X.env))) (AP X pZ σ Q) X.xe s
def PS(X:Cx)(st:Stmt)(t:TS):Prop:=
 ∀(pZ:List (Addr×Obj))(s:ak)(σ:St)(H:Hp)(D:Ends),Inv X pZ σ H s->t D σ H->wpAny (aR X.prog X.w) X.A (exec st X.env) (SP X pZ D) X.xe s
def sS(X:Cx)(st:List Stmt)(t:TS):Prop:=
 ∀(pZ:List (Addr×Obj))(s:ak)(σ:St)(H:Hp)(D:Ends),Inv X pZ σ H s->t D σ H->wpAny (aR X.prog X.w) X.A (execs st X.env) (SP X pZ D) X.xe s
theorem fh{α:Type}{t:Sem α}{Q Q':α->ak->Prop}{M:Fn}{A:cA}{E:Value->ak->Prop}{s:ak}(h:wpAny M A t Q E s)(hQ:∀a s,Q a s->Q' a s):wpAny M A t Q' E s:=bL h hQ λ_ _ x=>x
section
variable{X:Cx}
def Vz(i:Nat):TE:=λσ H Q=>∃v,σ[i]?=some (some v)/\Q v H
def tC(v:V):TE:=λ_ H Q=>Q v H
theorem pQ{i:Nat}{x:Str}{pos:Pos}(hN:X.N[i]?=some x)(hv:Jn X.env.scope x)(hd:(x==("__debug__":Str))=false:=by decide)(hcd:(x==("__classdict__":Str))=false:=by decide):PE X (.Name x pos) (Vz i):=by
 intro pZ s σ H Q I h;obtain⟨v,e,h⟩:=h;obtain⟨m,hn,hl⟩:=I.loc;obtain⟨u,r,l⟩:=hl i x v hN e hv;have fin:EP X pZ σ Q u s:=#[v,H,I,r,h]
 rcases l with⟨hk,hm⟩|⟨hk,c,hc,hcell⟩
 .exact wpAny_Name (Jz I.ok.kind hk hn hm fin) hd
 .rcases hk with hk|hk
  .exact wpAny_Name (wpAny_loadName_cell I.ok.kind hk hc hcell fin) hd
  .exact wpAny_Name (wpAny_loadName_free I.ok.kind hk hc hcell fin hcd) hd
theorem Nd{i j pos}:PE X (.Constant (.int i) j pos) (tC (.int i)):=λ_ _ _ H _ I h=>wpAny_Constant_int #[.int i,H,I.tok _,#[_,rfl],h]
theorem Q3{b j pos}:PE X (.Constant (.bool b) j pos) (tC (.bl b)):=λ_ _ _ H _ I h=>Constant_bool #[.bl b,H,I,rfl,h]
theorem Nf{j pos}:PE X (.Constant .none j pos) (tC .bK):=λ_ _ _ H _ I h=>Constant_none #[.bK,H,I,rfl,h]
theorem Ng{x j pos}:PE X (.Constant (.str x) j pos) (tC (.str x)):=λ_ _ _ H _ I h=>Calls.Constant_str #[.str x,H,I.tok _,#[_,rfl],h]
def Gl(X:Cx)(x:Str):Prop:=X.env.kindOf x=some .globalImplicit
theorem mO{E:Value->ak->Prop}{pZ:List (Addr×Obj)}{s:ak}{σ:St}{H:Hp}{x:Str}{u:Value}{pos:Pos}{Q:Value->ak->Prop}(I:Inv X pZ σ H s)(hg:Gl X x)(hm:X.mg x=some u)(h:Q u s)
  (hd:(x==("__debug__":Str))=false:=by decide):wpAny (aR X.prog X.w) X.A (eval (.Name x pos) X.env) Q E s:=
 vI I.ok.kind hg (Calls.loadGlobal_global (by rw[I.ok.glob];exact I.mod.glob.keeps I.bk) hm h) hd
theorem pR{E:Value->ak->Prop}{pZ:List (Addr×Obj)}{s:ak}{σ:St}{H:Hp}{x:Str}{u:Value}{pos:Pos}{Q:Value->ak->Prop}(I:Inv X pZ σ H s)(hg:Gl X x)(hm:X.mg x=none)(hv:jF x=some u)(h:Q u s)
  (hn:x≠"__name__":=by decide) (hd:(x==("__debug__":Str))=false:=by decide):wpAny (aR X.prog X.w) X.A (eval (.Name x pos) X.env) Q E s:=by
 obtain⟨mb,h1,h2⟩:=I.mod.blt;exact vI I.ok.kind hg (Calls.loadGlobal_builtin (by rw[I.ok.glob];exact I.mod.glob.keeps I.bk) hm (by rw[I.ok.blt];exact h1.keeps I.bk) ((h2 x hn).trans hv) h) hd
theorem CV{x:Str}{v:V}{u:Value}{pos:Pos}(hg:Gl X x)(hm:X.mg x=some u)(r:RelV v u)(hd:(x==("__debug__":Str))=false:=by decide):PE X (.Name x pos) (tC v):=
 λ_ _ _ H _ I h=>mO I hg hm #[v,H,I,r,h] hd
theorem JN{x:Str}{v:V}{u:Value}{pos:Pos}(hg:Gl X x)(hm:X.mg x=none)(hv:jF x=some u)(r:RelV v u)(hn:x≠"__name__":=by decide)(hd:(x==("__debug__":Str))=false:=by decide):PE X (.Name x pos) (tC v):=
 λ_ _ _ H _ I h=>pR I hg hm hv #[v,H,I,r,h] hn hd
variable{a b:Expr}{ta tb:TE}{pos:Pos}
variable{tA tB':TT}{rest:List Expr}
def VA(t u:TT):TT:=λσ H Q=>t σ H λc H1=>if c=true then u σ H1 Q else Q false H1
def YJ(t u:TT):TT:=λσ H Q=>t σ H λc H1=>if c=true then Q true H1 else u σ H1 Q
def VB(t:TT):TT:=λσ H Q=>t σ H λc H1=>Q (!c) H1
theorem JO(ha:PT X a tA):PW X (.BoolOp .And [a] pos) tA:=by
 intro wh pZ s σ H Q I h;refine isTrue_and (fh (ha pZ s σ H Q I h) λc s1 e=>?_);cases c with
 |true=>exact isTrue_and_nil e
 |false=>exact e
theorem Nh(ha:PT X a tA):PW X (.BoolOp .Or [a] pos) tA:=by
 intro wh pZ s σ H Q I h;refine isTrue_or (fh (ha pZ s σ H Q I h) λc s1 e=>?_);cases c with
 |false=>exact isTrue_or_nil e
 |true=>exact e
theorem Ni(ha:PT X a tA)(hb:PW X (.BoolOp .And (b::rest) pos) tB'):PW X (.BoolOp .And (a::b::rest) pos) (VA tA tB'):=by
 intro wh pZ s σ H Q I h;refine isTrue_and (fh (ha pZ s σ H _ I h) λc s1 h9=>?_);obtain⟨H1,I1,q1⟩:=h9;cases c with
 |true=>exact hb wh pZ s1 σ H1 Q I1 q1
 |false=>exact#[H1,I1,q1]
theorem Q4(ha:PT X a tA)(hb:PW X (.BoolOp .Or (b::rest) pos) tB'):PW X (.BoolOp .Or (a::b::rest) pos) (YJ tA tB'):=by
 intro wh pZ s σ H Q I h;refine isTrue_or (fh (ha pZ s σ H _ I h) λc s1 h9=>?_);obtain⟨H1,I1,q1⟩:=h9;cases c with
 |true=>exact#[H1,I1,q1]
 |false=>exact hb wh pZ s1 σ H1 Q I1 q1
theorem Nj(ha:PT X a tA):PT X (.UnaryOp .Not a pos) (VB tA):=by
 intro pZ s σ H Q I h;exact isTrue_not (ha pZ s σ H (λc H1=>Q (!c) H1) I h)
def Q5(ta tb:TE):TE:=λσ H Q=>ta σ H λx H1=>∃c,x=.bl c/\if c=true then tb σ H1 Q else Q (.bl false) H1
def VC(ta tb:TE):TE:=λσ H Q=>ta σ H λx H1=>∃c,x=.bl c/\if c=true then Q (.bl true) H1 else tb σ H1 Q
def Q6(ta:TE):TE:=λσ H Q=>ta σ H λx H1=>∃c,x=.bl c/\Q (.bl (!c)) H1
theorem Nk{op}{t:TE}(h:PE X a t):PE X (.BoolOp op [a] pos) t:=λpZ s σ H Q I hw=>BoolOp_one (h pZ s σ H Q I hw)
theorem Nl(ha:PE X a ta)(hb:PE X (.BoolOp .And (b::rest) pos) tb):PE X (.BoolOp .And (a::b::rest) pos) (Q5 ta tb):=by
 intro pZ s σ H Q I h;refine BoolOp_and (fh (ha pZ s σ H _ I h) λv s1 h9=>?_);obtain⟨x,H1,I1,r1,q1⟩:=h9;obtain⟨c,rfl,q1⟩:=q1;cases r1;refine fk ?_;cases c with
 |true=>exact hb pZ s1 σ H1 Q I1 q1
 |false=>exact#[.bl false,H1,I1,rfl,q1]
theorem Q7(ha:PE X a ta)(hb:PE X (.BoolOp .Or (b::rest) pos) tb):PE X (.BoolOp .Or (a::b::rest) pos) (VC ta tb):=by
 intro pZ s σ H Q I h;refine BoolOp_or (fh (ha pZ s σ H _ I h) λv s1 h9=>?_);obtain⟨x,H1,I1,r1,q1⟩:=h9;obtain⟨c,rfl,q1⟩:=q1;cases r1;refine fk ?_;cases c with
 |false=>exact hb pZ s1 σ H1 Q I1 q1
 |true=>exact#[.bl true,H1,I1,rfl,q1]
theorem Nm(ha:PE X a ta):PE X (.UnaryOp .Not a pos) (Q6 ta):=by
 intro pZ s σ H Q I h;refine UnaryOp_ (fh (ha pZ s σ H _ I h) λv s1 h9=>?_);obtain⟨x,H1,I1,r1,q1⟩:=h9;obtain⟨c,rfl,q1⟩:=q1;cases r1;exact not_of (fk #[.bl (!c),H1,I1,rfl,q1])
def YK(t:TT)(ta tb:TE):TE:=λσ H Q=>t σ H λc H1=>if c=true then ta σ H1 Q else tb σ H1 Q
theorem F5{c:Expr}(hc:PT X c tA)(ha:PE X a ta)(hb:PE X b tb):PE X (.IfExp c a b pos) (YK tA ta tb):=by
 intro pZ s σ H Q I h;refine wpAny_IfExp (fh (hc pZ s σ H _ I h) λd s1 h9=>?_);obtain⟨H1,I1,q1⟩:=h9;cases d with
 |true=>exact ha pZ s1 σ H1 Q I1 q1
 |false=>exact hb pZ s1 σ H1 Q I1 q1
end
def gF(K:aE)(H:Hp)(a:Addr)(xs:List V):Prop:=
 Rd H a (.lst xs) \/
  ∃(o:Obj)(its:Array Value)(n:Nat),K.lookup a=some o/\o.cls=.type "list"/\o.dict=none/\o.data=.seq its n/\its.size<=sizeLine/\Vals xs its.toList
def lS(K:aE)(H:Hp)(a:Addr)(xs:List V):Prop:=
 Rd H a (.tup xs) \/
  ∃(o:Obj)(its:Array Value)(n:Nat),K.lookup a=some o/\o.cls=.type "tuple"/\o.data=.seq its n/\its.size<=sizeLine/\Vals xs its.toList
noncomputable def VD:Value->Option V
 |.none=>some .bK
 |.bool b=>some (.bl b)
 |.int i _=>some (.int i)
 |.str x _=>some (.str x)
 |.bytes b _=>some (.Bb b)
 |.float b _=>some (.Nb b)
 |.ref a=>some (.ref a)
 |.type n=>some (.ty n)
 |_=>none
theorem RelV.abs{x:V}{u:Value}(r:RelV x u):VD u=some x:=by
 cases x with
 |bK=>cases r;rfl
 |bl _=>cases r;rfl
 |int _=>obtain⟨t,rfl⟩:=r;rfl
 |str _=>obtain⟨t,rfl⟩:=r;rfl
 |Bb _=>obtain⟨t,rfl⟩:=r;rfl
 |Nb _=>obtain⟨t,rfl⟩:=r;rfl
 |ref _=>cases r;rfl
 |ty _=>cases r;rfl
theorem RelV.inj{x y:V}{u:Value}(r:RelV x u)(q:RelV y u):x=y:=aH (r.abs.symm.trans q.abs)
theorem Vals.inj:∀{xs ys:List V}{us:List Value},Vals xs us->Vals ys us->xs=ys
 |_,_,_,.nil,.nil=>rfl
 |_,_,_,.cons r t,.cons r' t'=>by rw[r.inj r',Vals.inj t t']
section
variable{X:Cx}{pZ:List (Addr×Obj)}{σ:St}{H:Hp}{s:ak}{a:Addr}{xs ys:List V}
theorem gF.of{K:aE}(h:H a=some (.lst xs)):gF K H a xs:=.inl (.inl h)
theorem lS.of{K:aE}(h:H a=some (.tup xs)):lS K H a xs:=.inl (.inl h)
theorem Inv.list(I:Inv X pZ σ H s)(h:gF X.K H a xs):∃its:List Value,Vals xs its/\PlainL s.heap a its.toArray/\xs.length<=sizeLine:=by
 rcases h with h|⟨o,its,n,hk,hc,hd,hs,hz,r⟩
 .obtain⟨z,its,n,r,e⟩:=h.ok I.dg
  exact#[its,r,#[_,n,e,rfl,rfl,rfl],z]
 .refine#[its.toList,r,#[o,n,I.kY a o hk,hc,hd,by simpa using hs],?_]
  have e:=r.length;simp only[pK] at e;omega
theorem Inv.tuple(I:Inv X pZ σ H s)(h:lS X.K H a xs):∃its:List Value,Vals xs its/\IsTup s.heap a its.toArray/\xs.length<=sizeLine:=by
 rcases h with h|⟨o,its,n,hk,hc,hs,hz,r⟩
 .obtain⟨z,its,r,p⟩:=h.ok I.dg
  exact#[its,r,p,z]
 .refine#[its.toList,r,#[o,I.kY a o hk,hc,n,by simpa using hs],?_]
  have e:=r.length;simp only[pK] at e;omega
theorem Inv.ud(I:Inv X pZ σ H s)(h:gF X.K H a xs)(h':gF X.K H a ys):xs=ys:=by
 obtain⟨its,r,⟨o,n,e,_,_,d⟩,_⟩:=I.list h;obtain⟨its',r',⟨o',n',e',_,_,d'⟩,_⟩:=I.list h';rw[e] at e';cases e';rw[d] at d';injection d' with d1 _
 have:its=its':=by simpa using congrArg zN d1
 subst this;exact r.inj r'
theorem Inv.wG(I:Inv X pZ σ H s)(h:lS X.K H a xs)(h':lS X.K H a ys):xs=ys:=by
 obtain⟨its,r,⟨o,e,_,n,d⟩,_⟩:=I.tuple h;obtain⟨its',r',⟨o',e',_,n',d'⟩,_⟩:=I.tuple h';rw[e] at e';cases e';rw[d] at d';injection d' with d1 _
 have:its=its':=by simpa using congrArg zN d1
 subst this;exact r.inj r'
end
section
variable{X:Cx}{st:Stmt}{rest:List Stmt}{t u:TS}{e:Expr}{te:TE}{pos:Pos}
def Q8:TS:=λD σ H=>D.nx σ H
def VE(t u:TS):TS:=λD σ H=>t {D with nx:=u D} σ H
theorem JP:sS X [] Q8:=λ_ _ σ H _ I h=>lP #[σ,H,I,h]
theorem zV(h1:PS X st t)(h2:sS X rest u):sS X (st::rest) (VE t u):=by
 intro pZ s σ H D I h;refine wpAny_execs_cons (fh (h1 pZ s σ H {D with nx:=u D} I h) λf s1 q=>?_);cases f with
 |next=>
  obtain⟨σ',H',I',q⟩:=q;exact h2 pZ s1 σ' H' D I' q
 |ret v=>exact q
 |brk=>exact q
 |cont=>exact q
theorem CW(h1:PS X st t):sS X [st] t:=by
 intro pZ s σ H D I h;refine wpAny_execs_cons (fh (h1 pZ s σ H D I h) λf s1 q=>?_);cases f with
 |next=>exact lP q
 |ret v=>exact q
 |brk=>exact q
 |cont=>exact q
theorem Inv.quiet{pZ:List (Addr×Obj)}{σ:St}{H:Hp}{s:ak}(I:Inv X pZ σ H s):interactive X.env=false:=by simp[interactive,I.ok.kind]
def Q9(te:TE):TS:=λD σ H=>te σ H λ_ H1=>D.nx σ H1
theorem JQ(he:PE X e te)(hs:iH e none pos.line X.env=pure false:=by rfl):PS X (.Expr e pos) (Q9 te):=by
 intro pZ s σ H D I h;refine wpAny_Expr_any (fh (he pZ s σ H _ I h) λv s1 h9=>?_) I.quiet hs;obtain⟨x,H1,I1,r1,q1⟩:=h9;exact#[σ,H1,I1,q1]
def VF(te:TE):TS:=λD σ H=>te σ H D.rt
theorem Np(he:PE X e te):PS X (.Return (some e) pos) (VF te):=by
 intro pZ s σ H D I h;refine wpAny_Return_some (fh (he pZ s σ H _ I h) λv s1 h9=>?_);obtain⟨x,H1,I1,r1,q1⟩:=h9;exact#[x,σ,H1,I1,r1,q1]
def VG(c:TT)(t u:TS):TS:=λD σ H=>c σ H λb H1=>if b=true then t D σ H1 else u D σ H1
theorem Ra{c:Expr}{a b:List Stmt}{tc:TT}(hc:PT X c tc)(ha:sS X a t)(hb:sS X b u):PS X (.If c a b pos) (VG tc t u):=by
 intro pZ s σ H D I h;refine wpAny_If (fh (hc pZ s σ H _ I h) λd s1 h9=>?_);obtain⟨H1,I1,q1⟩:=h9;cases d with
 |true=>exact ha pZ s1 σ H1 D I1 q1
 |false=>exact hb pZ s1 σ H1 D I1 q1
end
abbrev TG:=V->St->Hp->(St->Hp->Prop)->Prop
abbrev Nq:=List V->St->Hp->(St->Hp->Prop)->Prop
def PG(X:Cx)(target:Expr)(t:TG):Prop:=
 ∀(pZ:List (Addr×Obj))(s:ak)(σ:St)(H:Hp)(v:V)(u:Value)(Q:St->Hp->Prop),Inv X pZ σ H s->RelV v u->t v σ H Q ->
  wpAny (aR X.prog X.w) X.A (xX target X.env u) (λ_ s'=>∃σ' H',Inv X pZ σ' H' s'/\Q σ' H') X.xe s
def U3(X:Cx)(ts:List Expr)(t:Nq):Prop:=
 ∀(pZ:List (Addr×Obj))(s:ak)(σ:St)(H:Hp)(vs:List V)(us:List Value)(Q:St->Hp->Prop),Inv X pZ σ H s->Vals vs us->t vs σ H Q ->
  wpAny (aR X.prog X.w) X.A (assignInOrder ((tX ts X.env).map (·.2)) us) (λ_ s'=>∃σ' H',Inv X pZ σ' H' s'/\Q σ' H') X.xe s
abbrev Nr:=V->V->V->Hp->(Hp->Prop)->Prop
def Rb(X:Cx)(t:Nr):Prop:=
 ∀(pZ:List (Addr×Obj))(s:ak)(σ:St)(H:Hp)(o i v:V)(ov iv u:Value)(Q:Hp->Prop),Inv X pZ σ H s->RelV o ov->RelV i iv->RelV v u->t o i v H Q ->
  wpAny (aR X.prog X.w) X.A (setItem ov iv u) (λ_ s'=>∃H',Inv X pZ σ H' s'/\Q H') X.xe s
abbrev Rc:=V->V->Hp->VK->Prop
def Xw(X:Cx)(op:mK)(t:Rc):Prop:=
 ∀(pZ:List (Addr×Obj))(s:ak)(σ:St)(H:Hp)(x y:V)(v u:Value)(Q:VK),Inv X pZ σ H s->RelV x v->RelV y u->t x y H Q ->
  wpAny (aR X.prog X.w) X.A (gO op v u) (EP X pZ σ Q) X.xe s
section
variable{X:Cx}{pos:Pos}
def wH(i:Nat):TG:=λv σ H Q=>Q (σ.set i (some v)) H
theorem qi{i:Nat}{x:Str}(hN:X.N.Nodup)(hi:X.N[i]?=some x)(hx:Loc X.env.scope x)(hf:X.fn x=true\/X.env.scope.names.lookup x=some .local:=by first|exact .inl rfl|exact .inr rfl|assumption):PG X (.Name x pos) (wH i):=by
 intro pZ s σ H v u Q I r h;exact vJ (mi I hN hi hx r (λs' I'=>#[_,H,I',h]) hf)
noncomputable def VH:Nq:=λvs σ H Q=>vs=[]/\Q σ H
noncomputable def Rf(t:TG)(u:Nq):Nq:=λvs σ H Q=>∃v r,vs=v::r/\t v σ H λσ' H'=>u r σ' H' Q
theorem CY:U3 X [] VH:=by
 intro pZ s σ H vs us Q I r h;obtain⟨e,h⟩:=h;subst e;cases r;exact assignInOrder_nil #[σ,H,I,h]
theorem qj{e:Expr}{es:List Expr}{t:TG}{u:Nq}(h1:PG X e t)(h2:U3 X es u)
  (hs:(tX (e::es) X.env).map (·.2)=xX e X.env::(tX es X.env).map (·.2):=by rfl):U3 X (e::es) (Rf t u):=by
 intro pZ s σ H vs us Q I r h;obtain⟨v,vr,e1,h⟩:=h;subst e1;cases r with
 |cons r rr=>
  rw[hs]
  refine assignInOrder_cons (fh (h1 pZ s σ H _ _ _ I r h) λ_ s1 h9=>?_);obtain⟨σ1,H1,I1,q1⟩:=h9;exact h2 pZ s1 σ1 H1 _ _ Q I1 rr q1
def VI(K:aE)(n:Nat)(t:Nq):TG:=λv σ H Q=>∃a xs,v=.ref a/\lS K H a xs/\xs.length=n/\t xs σ H Q
theorem F6{es:List Expr}{k:Nat}{t:Nq}{n:Nat}(hc:X.calm=true)(h:U3 X es t)
  (hn:(tX es X.env).length=n:=by rfl) (hst:(tX es X.env).findIdx? (·.1)=none:=by rfl):PG X (.Tuple es k pos) (VI X.K n t):=by
 intro pZ s σ H v u Q I r hw;obtain⟨a,xs,e1,hq,hl,hw⟩:=hw;subst e1;cases r;obtain⟨its,rv,ht,hz⟩:=I.tuple hq;refine assign_Tuple_tuple (I.ok.hd hc) ht (by simp[hn,<-hl,rv.length]) hst λh' hx=>?_
 have I1:Inv X pZ σ H {s with heap:=h'}:=I.kept (t':=s.toks) λb o e=>hx b o (b7 (aL e)) e
 exact h pZ _ σ H xs _ Q I1 (by simpa using rv) hw
def Rg(te:TE)(g:TG):TS:=λD σ H=>te σ H λx H1=>g x σ H1 D.nx
theorem F7{i:Nat}{x:Str}{e:Expr}{te:TE}{pos':Pos}(hN:X.N.Nodup)(hi:X.N[i]?=some x)(hx:Loc X.env.scope x)(he:PE X e te)(hs:iH e (some (.Name x pos')) pos.line X.env=pure false:=by rfl)(hf:X.fn x=true\/X.env.scope.names.lookup x=some .local:=by first|exact .inl rfl|exact .inr rfl|assumption):
  PS X (.Assign [.Name x pos'] e pos) (Rg te (wH i)):=by
 intro pZ s σ H D I h;refine wpAny_Assign_Name (fh (he pZ s σ H _ I h) λv s1 h9=>?_) hs;obtain⟨y,H1,I1,r1,q1⟩:=h9;exact mi I1 hN hi hx r1 (λs2 I2=>#[_,H1,I2,q1]) hf
def VJ(i:Nat)(te:TE)(ti:Rc):TS:=λD σ H=>∃x,σ[i]?=some (some x)/\te σ H λy H1=>ti x y H1 λz H2=>D.nx (σ.set i (some z)) H2
theorem Nt{i:Nat}{x:Str}{e:Expr}{te:TE}{op:mK}{ti:Rc}{pos':Pos}(hN:X.N.Nodup)(hi:X.N[i]?=some x)(hx:Loc X.env.scope x)(he:PE X e te)(ho:Xw X op ti)(hf:X.fn x=true\/X.env.scope.names.lookup x=some .local:=by first|exact .inl rfl|exact .inr rfl|assumption):
  PS X (.AugAssign (.Name x pos') op e pos) (VJ i te ti):=by
 intro pZ s σ H D I h;obtain⟨v,e1,h⟩:=h;obtain⟨m,hn,hl⟩:=I.loc;have vis:Jn X.env.scope x:=by rcases hx with k|k;exact .inl k;exact .inr (.inl k)
 obtain⟨u,r,l⟩:=hl i x v hi e1 vis;refine wpAny_AugAssign_Name ?_;have go:wpAny (aR X.prog X.w) X.A (eval e X.env) (λw s₂=>wpAny (aR X.prog X.w) X.A (gO op u w) (λr s₃=>wpAny (aR X.prog X.w) X.A (storeName X.env x r) (λ_=>SP X pZ D .next) X.xe s₃) X.xe s₂) X.xe s:=by
  refine fh (he pZ s σ H _ I h) λw s1 h9=>?_
  obtain⟨y,H1,I1,r1,q1⟩:=h9;refine fh (ho pZ s1 σ H1 v y u w _ I1 r r1 q1) λz s2 h9=>?_
  obtain⟨zv,H2,I2,r2,q2⟩:=h9;exact mi I2 hN hi hx r2 (λs3 I3=>#[_,H2,I3,q2]) hf
 rcases l with⟨hk,hm⟩|⟨hk,c,hc,hcell⟩
 .exact Jz I.ok.kind hk hn hm go
 .rcases hk with hk|hk
  .exact wpAny_loadName_cell I.ok.kind hk hc hcell go
  .rcases hx with k|k
   .have:X.env.scope.names.lookup x=some .free:=hk
    rw[k] at this;cases this
   .have:X.env.scope.names.lookup x=some .free:=hk
    rw[k] at this;cases this
def Rh(to ti te:TE)(tget:V->V->Hp->VK->Prop)(tip:Rc)(tset:Nr):TS:=λD σ H=>to σ H λo H1=>ti σ H1 λi H2=>tget o i H2 λx H3=>te σ H3 λy H4=>tip x y H4 λz H5=>tset o i z H5 λH6=>D.nx σ H6
def Ri(X:Cx)(t:V->V->Hp->VK->Prop):Prop:=
 ∀(pZ:List (Addr×Obj))(s:ak)(σ:St)(H:Hp)(o i:V)(ov iv:Value)(Q:VK),Inv X pZ σ H s->RelV o ov->RelV i iv->t o i H Q ->
  wpAny (aR X.prog X.w) X.A (vK ov iv) (EP X pZ σ Q) X.xe s
theorem JR{o i e:Expr}{to ti te:TE}{tget:V->V->Hp->VK->Prop}{tip:Rc}{tset:Nr}{op:mK}{tpos:Pos}(ho:PE X o to)(hi:PE X i ti)(hg:Ri X tget)(he:PE X e te)(hp:Xw X op tip)(hs:Rb X tset)
  (ha:∀ov iv new,augStore i ov iv new=(do holding [new,ov,iv] (setItem ov iv new);release [new,ov,iv] [];pure .next):=by intros;rfl):PS X (.AugAssign (.Subscript o i tpos) op e pos) (Rh to ti te tget tip tset):=by
 intro pZ s σ H D I h;refine wpAny_AugAssign_SubscriptAny (fh (ho pZ s σ H _ I h) λov s1 h9=>?_) ha;obtain⟨x1,H1,I1,r1,q1⟩:=h9;refine fh (hi pZ s1 σ H1 _ I1 q1) λiv s2 h9=>?_
 obtain⟨x2,H2,I2,r2,q2⟩:=h9;refine fh (hg pZ s2 σ H2 x1 x2 ov iv _ I2 r1 r2 q2) λold s3 h9=>?_
 obtain⟨x3,H3,I3,r3,q3⟩:=h9;refine fh (he pZ s3 σ H3 _ I3 q3) λv s4 h9=>?_
 obtain⟨x4,H4,I4,r4,q4⟩:=h9;refine fh (hp pZ s4 σ H4 x3 x4 old v _ I4 r3 r4 q4) λnew s5 h9=>?_
 obtain⟨x5,H5,I5,r5,q5⟩:=h9;refine fh (hs pZ s5 σ H5 x1 x2 x5 ov iv new _ I5 r1 r2 r5 q5) λ_ s6 h9=>?_
 obtain⟨H6,I6,q6⟩:=h9;exact#[σ,H6,I6,q6]
end
section
variable{X:Cx}{pos:Pos}
def Nu(c:TT)(tb:TS):TS:=λD σ H=>∃W:Nat->St->Hp->Prop,(∃m,W m σ H)/\∀m σ H,W m σ H ->
 c σ H λb H1=>if b=true then ∃N:St->Hp->Prop,(∀σ' H',N σ' H'->∃m',m'<m/\W m' σ' H')/\tb {D with nx:=N,ct:=N,bk:=D.nx} σ H1 else D.nx σ H1
theorem F8{c:Expr}{body:List Stmt}{tc:TT}{tb:TS}(hp:Fo (aR X.prog X.w) X.A X.env X.xe)(hc:PT X c tc)(hb:sS X body tb):PS X (.While c body [] pos) (Nu tc tb):=by
 intro pZ s σ H D I h;obtain⟨W,⟨m0,w0⟩,turn⟩:=h;refine wpAny_While (codeAny_whileLoop (λn s'=>∃σ' H',Inv X pZ σ' H' s'/\W n σ' H') ?_ m0 #[σ,H,I,w0]);rintro n s1 ⟨σ1,H1,I1,w1⟩;refine gD hp (fh (hc pZ s1 σ1 H1 _ I1 (turn n σ1 H1 w1)) λb s2 h9=>?_);obtain⟨H2,I2,q2⟩:=h9;cases b with
 |true=>
  obtain⟨N,hN,q2⟩:=q2;rw[if_pos rfl]
  refine gD hp (fh (hb pZ s2 σ1 H2 _ I2 q2) λf s3 q3=>?_);cases f with
  |next=>
   obtain⟨σ3,H3,I3,n3⟩:=q3;obtain⟨m',hm,w3⟩:=hN σ3 H3 n3;exact#[m',hm,σ3,H3,I3,w3]
  |cont=>
   obtain⟨σ3,H3,I3,n3⟩:=q3;obtain⟨m',hm,w3⟩:=hN σ3 H3 n3;exact#[m',hm,σ3,H3,I3,w3]
  |brk=>exact q3
  |ret v=>exact q3
 |false=>
  rw[if_neg aX]
  exact lP #[σ1,H2,I2,q2]
end
structure It where
 go:Nat->Hp->Prop
 Rj:Nat->Hp->V->Hp->Prop
 stop:Nat->Hp->Prop
def pS(X:Cx)(pZ:List (Addr×Obj))(H:Hp)(b:Addr):Prop:=
 H b=none/\b≠X.env.locals/\b∉X.fs/\(b∈X.ex\/X.s₀.heap.objs.size<=b)/\(∀x c,X.env.cells.lookup x=some c->c≠b)/\∀p∈X.pn++pZ,p.1≠b
theorem Inv.Ej{X:Cx}{pZ:List (Addr×Obj)}{σ:St}{H H':Hp}{s:ak}{b:Addr}(I:Inv X pZ σ H s)(hb:s.heap.objs.size<=b)(hn:H' b=none):pS X pZ H' b:=by
 refine#[hn,kJ (aM I.lt hb),I.Vy hb,.inr (aS I.sz hb),λx c e z=>?_,λp hp z=>?_]
 .obtain⟨v,q⟩:=I.cell x c e
  exact absurd (aM q.lt (by rw[z];exact hb)) (dI _)
 .exact absurd (aM (aL (I.pin p hp).1) (by rw[z];exact hb)) (dI _)
structure Turn(P:bC)(w:bZ)(K:aE)(tg:Expr)(J:It)(fp:List Addr)(it:Addr)(tn:Nat->Heap->Prop):Prop where
 mem:it∈fp
 obj:∀i h,tn i h->∀b∈fp,∃o,h.get? b=some o/\∀v,o.data≠.cell v
 keep:∀i h h',tn i h->(∀b∈fp,∀o,h.get? b=some o->h'.get? b=some o)->tn i h'
 item:∀(X:Cx),X.prog=P->X.w=w->X.K=K->X.calm=true->∀(i:Nat)(pZ:List (Addr×Obj))(s:ak)(σ:St)(H:Hp)(E:Value->ak->Prop),Inv X pZ σ H s->(∀b∈fp,pS X pZ H b)->tn i s.heap->J.go i H ->
  wpAny (aR P w) X.A (pyNext (.ref it)) (λr s1=>∃u,r=some u /\
   wpAny (aR P w) X.A (qc tg (.ref it) u) (λ_ s2=>∃x H',Inv X pZ σ H' s2/\RelV x u/\J.Rj i H x H'/\tn (i+1) s2.heap/\∀b∈fp,H' b=none) E s1) E s
 done:∀(X:Cx),X.prog=P->X.w=w->X.K=K->X.calm=true->∀(i:Nat)(pZ:List (Addr×Obj))(s:ak)(σ:St)(H:Hp)(E:Value->ak->Prop),Inv X pZ σ H s->(∀b∈fp,pS X pZ H b)->tn i s.heap->J.stop i H ->
  wpAny (aR P w) X.A (pyNext (.ref it)) (λr s1=>r=none/\Inv X pZ σ H s1) E s
 self:∀(A:cA)(i:Nat)(s:ak)(Q:Value->ak->Prop)(E:Value->ak->Prop),tn i s.heap->Q (.ref it) s->wpAny (aR P w) A (pyIter (.ref it)) Q E s
abbrev TI:=St->Hp->(It->Hp->Prop)->Prop
def VL(X:Cx)(pZ:List (Addr×Obj))(σ:St)(tg:Expr)(R:It->Hp->Prop)(itv:Value)(s2:ak):Prop:=
 ∃(it:Addr)(fp:List Addr)(tn:Nat->Heap->Prop)(J:It)(H':Hp),itv=.ref it/\Inv X pZ σ H' s2/\Turn X.prog X.w X.K tg J fp it tn/\tn 0 s2.heap/\(∀b∈fp,pS X pZ H' b)/\R J H'
def PI(X:Cx)(tg iter:Expr)(wi:TI):Prop:=
 ∀(pZ:List (Addr×Obj))(s:ak)(σ:St)(H:Hp)(R:It->Hp->Prop),Inv X pZ σ H s->wi σ H R ->
  wpAny (aR X.prog X.w) X.A (eval iter X.env) (λv s1=>wpAny (aR X.prog X.w) X.A (pyIter v) (VL X pZ σ tg R) X.xe s1) X.xe s
theorem CZ{M:Fn}{A:cA}{E:Value->ak->Prop}{s:ak}{tg:Expr}{it:Addr}{u:Value}{o:Obj}{n:String}{vs:Array Value}{Q:Unit->ak->Prop}(ho:s.heap.get? it=some o)(hc:o.cls=.type n)(hd:o.data=.fields vs)
    (hn:["enumerate","zip","dict_itemiterator","dict_reverseitemiterator","odict_iterator","itertools.zip_longest","itertools.pairwise"].contains n=false) (hQ:Q () s):wpAny M A (qc tg (.ref it) u) Q E s:=by
  unfold qc;cases tg<;>first
    |exact aK hQ
    | (cases u<;>first
        |exact aK hQ
        | (refine aj (wpAny_load ho ?_)
           rw[hc,hd]
           show wpAny M A (if (["enumerate","zip","dict_itemiterator","dict_reverseitemiterator","odict_iterator","itertools.zip_longest","itertools.pairwise"].contains n&&vs[0]?==some (pM _))=true then _ else _) Q E s
           rw[if_neg (by intro h;rw[hn,Bool.false_and] at h;cases h)]
           exact aK hQ))
def VM(K:aE)(a:Addr):It:=
 #[λi H=>∃xs x,gF K H a xs/\xs[i]?=some x,λi H x H'=>H'=H/\∀xs,gF K H a xs->xs[i]?=some x,λi H=>∃xs,gF K H a xs/\xs.length<=i]
def VN(K:aE)(a:Addr):It:=
 #[λi H=>∃xs x,lS K H a xs/\xs[i]?=some x,λi H x H'=>H'=H/\∀xs,lS K H a xs->xs[i]?=some x,λi H=>∃xs,lS K H a xs/\xs.length<=i]
def U4(lo:Int)(n:Nat):It:=#[λi _=>i<n,λi H x H'=>H'=H/\x=.int (lo+i),λi _=>n<=i]
theorem Ek{P:bC}{w:bZ}{K:aE}{tg:Expr}(a it:Addr):Turn P w K tg (VM K a) [it] it (λi h=>h.IsListIter it a i) where
 mem:=by simp
 obj:=λi h st b hb=>by
  have e:b=it:=by simpa using hb
  subst e;obtain⟨o,e,c,d⟩:=st;exact#[o,e,λv z=>by rw[d] at z;cases z]
 keep:=λi h h' st k=>st.at λo e=>k it (by simp) o e
 item:=by
  intro X hP hw hK hc i pZ s σ H E I hf st hg;subst hP hw hK;obtain⟨xs,x,hq,hx⟩:=hg;obtain⟨its,rv,p,hz⟩:=I.list hq;obtain⟨u,hu,ru⟩:=rv.get hx;obtain⟨f0,f1,f2,f3,f4,f5⟩:=hf it (by simp);refine FH st p.isList (x:=u) (by simpa using hu) λh' st' sb=>?_
  have I1:Inv X pZ σ H {s with heap:=h'}:=I.turned (t':=s.toks) (λb o hb e=>(sb.2 b hb).trans e) f0 f1 f3 f4 f5;obtain⟨o,e,c,d⟩:=id st';exact#[u,rfl,CZ (s:={s with heap:=h'}) e c d ⋯ #[x,H,I1,ru,#[rfl,λys hy=>by rw[I.ud hy hq];exact hx],st',λb hb=>(hf b hb).1]]
 done:=by
  intro X hP hw hK hc i pZ s σ H E I hf st hg;subst hP hw hK;obtain⟨xs,hq,hx⟩:=hg;obtain⟨its,rv,p,hz⟩:=I.list hq;obtain⟨f0,f1,f2,f3,f4,f5⟩:=hf it (by simp);have hl:=rv.length;exact Jc (I.ok.hd hc) st p.isList (by simp;omega) λh' eb=>#[rfl,I.turned (t':=s.toks) (λb o hb e=>eb b o hb e) f0 f1 f3 f4 f5]
 self:=λ_ _ _ _ _ st h=>wpAny_pyIter_listiter st h
theorem Bv{P:bC}{w:bZ}{K:aE}{tg:Expr}(a it:Addr):Turn P w K tg (VN K a) [it] it (λi h=>h.IsTupleIter it a i) where
 mem:=by simp
 obj:=λi h st b hb=>by
  have e:b=it:=by simpa using hb
  subst e;obtain⟨o,e,c,d⟩:=st;exact#[o,e,λv z=>by rw[d] at z;cases z]
 keep:=λi h h' st k=>st.at λo e=>k it (by simp) o e
 item:=by
  intro X hP hw hK hc i pZ s σ H E I hf st hg;subst hP hw hK;obtain⟨xs,x,hq,hx⟩:=hg;obtain⟨its,rv,p,hz⟩:=I.tuple hq;obtain⟨u,hu,ru⟩:=rv.get hx;obtain⟨f0,f1,f2,f3,f4,f5⟩:=hf it (by simp);refine wpAny_pyNext_tuple_item st (show s.heap.IsTuple a its.toArray from p) (x:=u) (by simpa using hu) λh' st' sb=>?_
  have I1:Inv X pZ σ H {s with heap:=h'}:=I.turned (t':=s.toks) (λb o hb e=>(sb.2 b hb).trans e) f0 f1 f3 f4 f5;obtain⟨o,e,c,d⟩:=id st';exact#[u,rfl,CZ (s:={s with heap:=h'}) e c d ⋯ #[x,H,I1,ru,#[rfl,λys hy=>by rw[I.wG hy hq];exact hx],st',λb hb=>(hf b hb).1]]
 done:=by
  intro X hP hw hK hc i pZ s σ H E I hf st hg;subst hP hw hK;obtain⟨xs,hq,hx⟩:=hg;obtain⟨its,rv,p,hz⟩:=I.tuple hq;obtain⟨f0,f1,f2,f3,f4,f5⟩:=hf it (by simp);have hl:=rv.length;exact wpAny_pyNext_tuple_end (I.ok.hd hc) st (show s.heap.IsTuple a its.toArray from p) (by simp;omega) λh' eb=>#[rfl,I.turned (t':=s.toks) (λb o hb e=>eb b o hb e) f0 f1 f3 f4 f5]
 self:=λ_ _ _ _ _ st h=>wpAny_pyIter_tupleiter st h
theorem Bw{P:bC}{w:bZ}{K:aE}{tg:Expr}(it:Addr)(lo:Int)(n:Nat):Turn P w K tg (U4 lo n) [it] it (λi h=>IsRangeIter h it (lo+(i:Nat)*1) ((n:Int)-(i:Nat)) 1) where
 mem:=by simp
 obj:=λi h st b hb=>by
  have e:b=it:=by simpa using hb
  subst e;exact#[_,st,λv z=>by
   have z':Data.fields _=Data.cell v:=z;cases z']
 keep:=λi h h' st k=>k it (by simp) _ st
 item:=by
  intro X hP hw hK hc i pZ s σ H E I hf st hg;subst hP hw hK;obtain⟨f0,f1,f2,f3,f4,f5⟩:=hf it (by simp);have W:=Walks.range (prog:=X.prog) (w:=X.w) (I.ok.hd hc) it lo 1 n;refine W.item i s _ _ hg st λv h' tk hv st' kk=>?_
  obtain⟨t,rfl⟩:=hv;have I1:Inv X pZ σ H {s with heap:=h',toks:=tk}:=I.turned (λb o hb e=>kk b o (by simpa using hb) e) f0 f1 f3 f4 f5;refine#[_,rfl,CZ (s:={s with heap:=h',toks:=tk}) (n:="range_iterator") st' rfl rfl ⋯ #[.int (lo+i),H,I1,#[t,?_],#[rfl,rfl],st',λb hb=>(hf b hb).1]];rw[Int.mul_one]
 done:=by
  intro X hP hw hK hc i pZ s σ H E I hf st hg;subst hP hw hK;obtain⟨f0,f1,f2,f3,f4,f5⟩:=hf it (by simp);exact wpAny_pyNext_range_end (I.ok.hd hc) st (by have:n<=i:=hg;omega) λh' eb=>#[rfl,I.turned (t':=s.toks) (λb o hb e=>eb b o hb e) f0 f1 f3 f4 f5]
 self:=λ_ _ _ _ _ st h=>wpAny_pyIter_rangeiter st h
section
variable{X:Cx}{tg:Expr}
theorem F9{pZ:List (Addr×Obj)}{σ:St}{H:Hp}{s:ak}{R:It->Hp->Prop}{E:Value->ak->Prop}{lo hi:Int}{t u v:Tok}{tk:Nat}(I:Inv X pZ σ H s)(h1:-(2^62)<=lo)(h2:lo<2^62)(h3:-(2^62)<=hi)(h4:hi<2^62)
  (q:R (U4 lo (hi-lo).toNat) H):wpAny (aR X.prog X.w) X.A (pyIter (.ref s.heap.objs.size)) (VL X pZ σ tg R) E {s with heap:=s.heap.push {cls:=.type "range",data:=.fields (List.toArray [.int lo t,.int hi u,.int 1 v])},toks:=tk}:=by
 refine wpAny_pyIter_range (IsRange.new ..) (small_one h1 h2 h3 h4) ?_;have I1:Inv X pZ σ H {s with heap:=s.heap.push {cls:=.type "range",data:=.fields (List.toArray [.int lo t,.int hi u,.int 1 v])},toks:=tk}:=I.kept λb o e=>aA _ e
 refine#[(s.heap.push {cls:=.type "range",data:=.fields (List.toArray [.int lo t,.int hi u,.int 1 v])}).objs.size,[(s.heap.push {cls:=.type "range",data:=.fields (List.toArray [.int lo t,.int hi u,.int 1 v])}).objs.size],_,_,H,rfl,
  I1.kept (t':=tk) λb o e=>aA _ e,Bw _ lo (hi-lo).toNat,?_,λb hb=>?_,q]
 .have e1:lo+((0:Nat):Int)*1=lo:=by simp
  have e2:(((hi-lo).toNat:Nat):Int)-((0:Nat):Int)=Builtin.Range.rangeSize lo hi 1:=by rw[rangeSize_one];split<;>omega
  show IsRangeIter _ _ (lo+((0:Nat):Int)*1) ((((hi-lo).toNat:Nat):Int)-((0:Nat):Int)) 1
  rw[e1,e2]
  exact bz _ rfl
 .have e:b=(s.heap.push {cls:=.type "range",data:=.fields (List.toArray [.int lo t,.int hi u,.int 1 v])}).objs.size:=by simpa using hb
  subst e;exact I1.Ej (ax _) (I1.dg.fresh (ax _))
noncomputable def Rk(ta:TA):TI:=λσ H R=>ta σ H λvs H1=>∃j:Int,vs=[.int j]/\-(2^62)<=j/\j<2^62/\R (U4 0 j.toNat) H1
theorem El{a:Expr}{ta:TA}{p pos:Pos}(hg:Gl X "range")(hm:X.mg "range"=none)(ha:PA X [a] ta)(hs:bS [a] X.env=[(false,eval a X.env)]:=by rfl):PI X tg (.Call (.Name "range" p) [a] [] pos) (Rk ta):=by
 intro pZ s σ H R I h;refine Call_ (pR I hg hm boot_range (ja (fh (ha pos pZ s σ H _ I h) λus s1 h9=>?_) hs rfl));obtain⟨vs,H1,I1,r1,q1⟩:=h9;obtain⟨j,e,q1,q2,q⟩:=q1;subst e;cases r1 with
 |cons r rr=>
  cases rr;obtain⟨t,rfl⟩:=r;exact call_range_1 (F9 I1 ∅ ∅ q1 q2 (by simpa using q))
def VO(wi:TI)(g:TG)(tb:TS):TS:=λD σ H=>wi σ H λJ H1=>∃W:Nat->Nat->St->Hp->Prop,(∃m,W 0 m σ H1)/\∀i m σ H,W i m σ H ->
 (J.stop i H/\D.nx σ H)\/(J.go i H/\∃N:St->Hp->Prop,(∀σ' H',N σ' H'->∃m',m'<m/\W (i+1) m' σ' H')/\∀x H',J.Rj i H x H'->g x σ H' λσ2 H2=>tb {D with nx:=N,ct:=N,bk:=D.nx} σ2 H2)
noncomputable def rf(fp:List Addr)(h:Heap):List (Addr×Obj):=fp.filterMap λb=>(h.get? b).map λo=>(b,o)
theorem mP{fp:List Addr}{h:Heap}{b:Addr}{o:Obj}(hb:b∈fp)(e:h.get? b=some o):(b,o)∈rf fp h:=kU.mpr #[b,hb,by rw[e];rfl]
theorem Em{fp:List Addr}{h:Heap}{p:Addr×Obj}(hp:p∈rf fp h):p.1∈fp/\h.get? p.1=some p.2:=by
 obtain⟨b,hb,e⟩:=kU.mp hp;cases q:h.get? b with
 |none=>rw[q] at e;cases e
 |some o=>
  rw[q] at e;have e':(b,o)=p:=aH e;subst e';exact#[hb,q]
theorem Inv.pinned{pZ:List (Addr×Obj)}{σ:St}{H:Hp}{s:ak}{fp:List Addr}(I:Inv X pZ σ H s)(hf:∀b∈fp,pS X pZ H b)(ho:∀b∈fp,∃o,s.heap.get? b=some o/\∀v,o.data≠.cell v):Inv X (pZ++rf fp s.heap) σ H s:=
 I.CU λp hp=>(aD.mp hp).elim (λz=>I.pin p (aW _ z)) λz=>by
  obtain⟨hb,e⟩:=Em z;obtain⟨f0,f1,f2,_⟩:=hf p.1 hb;obtain⟨o,e',d⟩:=ho p.1 hb;rw[e] at e';cases e';exact#[e,f0,f1,f2,d]
theorem Inv.qk{pZ pl:List (Addr×Obj)}{σ:St}{H:Hp}{s:ak}(I:Inv X (pZ++pl) σ H s):Inv X pZ σ H s:=I.CU λp hp=>I.pin p (aW _ (bT _ hp))
theorem Nv{iter:Expr}{body:List Stmt}{wi:TI}{g:TG}{tb:TS}{pos:Pos}(hp:Fo (aR X.prog X.w) X.A X.env X.xe)(hc:X.calm=true)(hi:PI X tg iter wi)(hg:PG X tg g)(hb:sS X body tb)
  (hs:∀x,foldedSetIterable iter X.env x=pure x:=by intro _;rfl):PS X (.For tg iter body [] pos) (VO wi g tb):=by
 intro pZ s σ H D I h;refine wpAny_For (fh (hi pZ s σ H _ I h) λv s1 h1=>fh h1 λitv s2 h2=>?_) hs;obtain⟨it,fp,tn,J,H2,e,I2,T,st2,f2,W,⟨m0,w0⟩,turn⟩:=h2;subst e;have stat:∀{H':Hp},(∀b∈fp,H' b=none)->∀b∈fp,pS X pZ H' b:=λhn b hb=>#[hn b hb,(f2 b hb).2]
 refine codeAny_forLoop_any (λn s'=>∃i σ' H',Inv X pZ σ' H' s'/\tn i s'.heap/\(∀b∈fp,H' b=none)/\W i n σ' H') ?_ m0 #[0,σ,H2,I2,st2,λb hb=>(f2 b hb).1,w0];rintro n s3 ⟨i,σ3,H3,I3,st3,fr3,w3⟩;rcases turn i n σ3 H3 w3 with⟨stop,qn⟩|⟨go,N,hN,step⟩
 .refine gD hp (fh (T.done X rfl rfl rfl hc i pZ s3 σ3 H3 X.xe I3 (stat fr3) st3 stop) λr s4 h9=>?_)
  obtain⟨hr,I4⟩:=h9;subst hr;exact lP #[σ3,H3,I4,qn]
 .refine gD hp (fh (T.item X rfl rfl rfl hc i pZ s3 σ3 H3 X.xe I3 (stat fr3) st3 go) λr s4 h9=>?_)
  obtain⟨u,hr,h4⟩:=h9;subst hr;refine gD hp (fh h4 λ_ s5 h9=>?_);obtain⟨x,H5,I5,r5,y5,st5,fr5⟩:=h9;have I5':=I5.pinned (stat fr5) (T.obj _ _ st5);refine gD hp (fh (hg _ s5 σ3 H5 x u _ I5' r5 (step x H5 y5)) λ_ s6 h9=>?_);obtain⟨σ6,H6,I6,q6⟩:=h9;refine gD hp (fh (hb _ s6 σ6 H6 _ I6 q6) λf s7 q7=>?_);have again:∀{σ7:St}{H7:Hp},Inv X (pZ++rf fp s5.heap) σ7 H7 s7->N σ7 H7->∃m,m<n/\∃i σ' H',Inv X pZ σ' H' s7/\tn i s7.heap/\(∀b∈fp,H' b=none)/\W i m σ' H':=λ{σ7 H7}I7 n7=>by
   obtain⟨m',hm,w7⟩:=hN σ7 H7 n7;refine#[m',hm,i+1,σ7,H7,I7.qk,T.keep _ _ _ st5 λb hb o e=>(I7.pin (b,o) (aW _ (aW _ (mP hb e)))).1,λb hb=>?_,w7];obtain⟨o,e,d⟩:=T.obj _ _ st5 b hb;exact(I7.pin (b,o) (aW _ (aW _ (mP hb e)))).2.1
  cases f with
  |next=>obtain⟨σ7,H7,I7,n7⟩:=q7;exact again I7 n7
  |cont=>obtain⟨σ7,H7,I7,n7⟩:=q7;exact again I7 n7
  |brk=>obtain⟨σ7,H7,I7,q7⟩:=q7;exact#[σ7,H7,I7.qk,q7]
  |ret v=>obtain⟨x7,σ7,H7,I7,r7,q7⟩:=q7;exact#[x7,σ7,H7,I7.qk,r7,q7]
end
abbrev R2:=V->V->Hp->VK->Prop
def gu(X:Cx)(f:Value->Value->Sem Value)(r:R2):Prop:=
 ∀(pZ:List (Addr×Obj))(s:ak)(σ:St)(H:Hp)(x y:V)(v u:Value)(Q:VK),Inv X pZ σ H s->RelV x v->RelV y u->r x y H Q ->
  wpAny (aR X.prog X.w) X.A (f v u) (EP X pZ σ Q) X.xe s
def VP(X:Cx)(f:Value->Sem Value)(r:V->Hp->VK->Prop):Prop:=
 ∀(pZ:List (Addr×Obj))(s:ak)(σ:St)(H:Hp)(x:V)(v:Value)(Q:VK),Inv X pZ σ H s->RelV x v->r x H Q ->
  wpAny (aR X.prog X.w) X.A (f v) (EP X pZ σ Q) X.xe s
def i5(X:Cx)(f:Value)(r:List V->Hp->VK->Prop):Prop:=
 ∀(pZ:List (Addr×Obj))(s:ak)(σ:St)(H:Hp)(xs:List V)(us:List Value)(Q:VK),Inv X pZ σ H s->Vals xs us->r xs H Q ->
  wpAny (aR X.prog X.w) X.A (call f us) (EP X pZ σ Q) X.xe s
def VQ(X:Cx)(r:V->Hp->(Bool->Hp->Prop)->Prop):Prop:=
 ∀(pZ:List (Addr×Obj))(s:ak)(σ:St)(H:Hp)(x:V)(v:Value)(Q:Bool->Hp->Prop),Inv X pZ σ H s->RelV x v->r x H Q ->
  wpAny (aR X.prog X.w) X.A (truthy v) (TP X pZ σ Q) X.xe s
def U5(r:R2)(ta tb:TE):TE:=λσ H Q=>ta σ H λx H1=>tb σ H1 λy H2=>r x y H2 Q
def YL(r:V->Hp->VK->Prop)(ta:TE):TE:=λσ H Q=>ta σ H λx H1=>r x H1 Q
noncomputable def rI(C:Int->Int->Prop)(g:Int->Int->V):R2:=λx y H Q=>∃i j,x=.int i/\y=.int j/\C i j/\Q (g i j) H
noncomputable def Eo(g:Int->Int->V):R2:=λx y H Q=>∃i j,x=.int i/\y=.int j/\Q (g i j) H
def rU(g:Int->V):V->Hp->VK->Prop:=λx H Q=>∃i,x=.int i/\Q (g i) H
section
variable{X:Cx}{a b c:Expr}{ta tb tc:TE}{pos:Pos}
theorem Nw(ha:PE X a ta)(hb:PE X b tb){pZ:List (Addr×Obj)}{s:ak}{σ:St}{H:Hp}{R:V->V->Hp->Prop}(I:Inv X pZ σ H s)
  (h:ta σ H λx H1=>tb σ H1 λy H2=>R x y H2){Q:Value->ak->Prop}{f:Value->Value->Sem Value}
  (hf:∀v u s2 x y H2,Inv X pZ σ H2 s2->RelV x v->RelV y u->R x y H2->wpAny (aR X.prog X.w) X.A (f v u) Q X.xe s2):
  wpAny (aR X.prog X.w) X.A (eval a X.env) (λv s₁=>wpAny (aR X.prog X.w) X.A (eval b X.env) (λu s₂=>wpAny (aR X.prog X.w) X.A (f v u) Q X.xe s₂) X.xe s₁) X.xe s:=by
 refine fh (ha pZ s σ H _ I h) λv s1 h9=>?_
 obtain⟨x,H1,I1,r1,q1⟩:=h9;refine fh (hb pZ s1 σ H1 _ I1 q1) λu s2 h9=>?_
 obtain⟨y,H2,I2,r2,q2⟩:=h9;exact hf v u s2 x y H2 I2 r1 r2 q2
theorem Rl{op:mK}{r:R2}(ho:gu X (cy op) r)(ha:PE X a ta)(hb:PE X b tb):PE X (.BinOp a op b pos) (U5 r ta tb):=by
 intro pZ s σ H Q I h;exact wpAny_BinOp (Nw ha hb I h λv u s2 x y H2 I2 rx ry q=>ho pZ s2 σ H2 x y v u Q I2 rx ry q)
theorem Rm{op:UnaryOp}{r:V->Hp->VK->Prop}(ho:VP X (unaryOp op) r)(ha:PE X a ta):PE X (.UnaryOp op a pos) (YL r ta):=by
 intro pZ s σ H Q I h;refine UnaryOp_ (fh (ha pZ s σ H _ I h) λv s1 h9=>?_);obtain⟨x,H1,I1,r1,q1⟩:=h9;exact ho pZ s1 σ H1 x v Q I1 r1 q1
theorem Rn{f:Value->Value->Sem Value}{C:Int->Int->Prop}{g:Int->Int->Int}
  (rule:∀(i j:Int)(t u:Tok)(s:ak)(Q:Value->ak->Prop)(E:Value->ak->Prop),C i j->Q (.int (g i j) s.toks) {s with toks:=s.toks+1}->wpAny (aR X.prog X.w) X.A (f (.int i t) (.int j u)) Q E s):
  gu X f (rI C λi j=>.int (g i j)):=by
 intro pZ s σ H x y v u Q I rx ry h;obtain⟨i,j,rfl,rfl,hc,q⟩:=h;obtain⟨t,rfl⟩:=rx;obtain⟨t',rfl⟩:=ry;exact rule i j t t' s _ _ hc #[.int (g i j),H,I.tok _,#[_,rfl],q]
theorem Bx{f:Value->Value->Sem Value}{g:Int->Int->Int}
  (rule:∀(i j:Int)(t u:Tok)(s:ak)(Q:Value->ak->Prop)(E:Value->ak->Prop),Q (.int (g i j) s.toks) {s with toks:=s.toks+1}->wpAny (aR X.prog X.w) X.A (f (.int i t) (.int j u)) Q E s):
  gu X f (Eo λi j=>.int (g i j)):=by
 intro pZ s σ H x y v u Q I rx ry h;obtain⟨i,j,rfl,rfl,q⟩:=h;obtain⟨t,rfl⟩:=rx;obtain⟨t',rfl⟩:=ry;exact rule i j t t' s _ _ #[.int (g i j),H,I.tok _,#[_,rfl],q]
theorem JS{f:Value->Value->Sem Value}{g:Int->Int->Bool}
  (rule:∀(i j:Int)(t u:Tok)(s:ak)(Q:Value->ak->Prop)(E:Value->ak->Prop),Q (.bool (g i j)) s->wpAny (aR X.prog X.w) X.A (f (.int i t) (.int j u)) Q E s):
  gu X f (Eo λi j=>.bl (g i j)):=by
 intro pZ s σ H x y v u Q I rx ry h;obtain⟨i,j,rfl,rfl,q⟩:=h;obtain⟨t,rfl⟩:=rx;obtain⟨t',rfl⟩:=ry;exact rule i j t t' s _ _ #[.bl (g i j),H,I,rfl,q]
def VR(i j:Int):Prop:=0<j/\j<1073741824
def VS(i j:Int):Prop:=0<=j/\j<=1000000/\i.natAbs<2^64
def Nx(i j:Int):Prop:=(-(2^64)<i/\i<2^64)\/(-(2^64)<j/\j<2^64)
theorem Nx.ok{i j:Int}(h:Nx i j):IntMulOk i j:=by
 rcases h with⟨h1,h2⟩|⟨h1,h2⟩
 .exact .of_left (intBits_le_64 h1 h2)
 .exact .of_right (intBits_le_64 h1 h2)
theorem two_pow_nn(k:Nat):(0:Int)<=2^k:=by
 rw[two_pow_cast]
 exact Int.natCast_nonneg _
theorem Ny:gu X (cy .Add) (Eo λi j=>.int (i+j)):=Bx λ_ _ _ _ _ _ _ q=>add_int q
theorem Nz:gu X (cy .Sub) (Eo λi j=>.int (i-j)):=Bx λ_ _ _ _ _ _ _ q=>sub_int q
theorem NA:gu X (cy .Mult) (rI Nx λi j=>.int (i*j)):=Rn λ_ _ _ _ _ _ _ hc q=>mul_int q hc.ok
theorem JT:gu X (cy .FloorDiv) (rI VR λi j=>.int (i/j)):=Rn λi j _ _ _ _ _ hc q=>by
 have h1:(0:Int)<j:=hc.1;have h2:j<1073741824:=hc.2;exact floordiv_int ∅ (by rw[xY i ∅];exact q) (.inl (PyProof.noPylong_small ∅))
theorem NB:gu X (cy .Mod) (rI (λ_ j=>0<j) λi j=>.int (i%j)):=Rn λi j _ _ _ _ _ hc q=>by
 have h1:(0:Int)<j:=hc;exact mod_int' ∅ (by rw[Int.fmod_eq_emod_of_nonneg i ∅];exact q)
theorem NC:gu X (cy .LShift) (rI VS λi j=>.int (i*2^j.toNat)):=Rn λ_ _ _ _ _ _ _ hc q=>lshift_int_small hc.1 hc.2.1 hc.2.2 q
theorem ND:gu X (cy .RShift) (rI (λ_ j=>0<=j) λi j=>.int (i/2^j.toNat)):=Rn λi j _ _ _ _ _ hc q=>
 rshift_int hc (by rw[xY i (two_pow_nn _)];exact q)
theorem NF:gu X (cy .BitAnd) (Eo λi j=>.int (Builtin.bitAnd i j)):=Bx λ_ _ _ _ _ _ _ q=>and_int q
theorem Ro:gu X (cy .BitOr) (Eo λi j=>.int (Builtin.bitOr i j)):=Bx λ_ _ _ _ _ _ _ q=>or_int q
theorem JU:gu X (gO .Add) (Eo λi j=>.int (i+j)):=Bx λ_ _ _ _ _ _ _ q=>iadd_int q
theorem JV:gu X (gO .Sub) (Eo λi j=>.int (i-j)):=Bx λ_ _ _ _ _ _ _ q=>isub_int q
theorem NG:gu X (gO .BitOr) (Eo λi j=>.int (Builtin.bitOr i j)):=Bx λ_ _ _ _ _ _ _ q=>ior_int q
theorem YM{f:Value->Sem Value}{g:Int->Int}
  (rule:∀(i:Int)(t:Tok)(s:ak)(Q:Value->ak->Prop)(E:Value->ak->Prop),Q (.int (g i) s.toks) {s with toks:=s.toks+1}->wpAny (aR X.prog X.w) X.A (f (.int i t)) Q E s):
  VP X f (rU λi=>.int (g i)):=by
 intro pZ s σ H x v Q I rx h;obtain⟨i,rfl,q⟩:=h;obtain⟨t,rfl⟩:=rx;exact rule i t s _ _ #[.int (g i),H,I.tok _,#[_,rfl],q]
theorem NH:VP X (unaryOp .USub) (rU λi=>.int (-i)):=YM λ_ _ _ _ _ q=>neg_int q
end
noncomputable def NI:V->V->Bool
 |.bK,.bK=>true|.bK,.int _=>true|.int _,.bK=>true|.bK,.bl _=>true|.bl _,.bK=>true|.bK,.str _=>true|.str _,.bK=>true
 |.int _,.int _=>true|.bl _,.bl _=>true|.str _,.str _=>true|.Bb _,.Bb _=>true
 |.int _,.str _=>true|.str _,.int _=>true|.bl _,.str _=>true|.str _,.bl _=>true
 |_,_=>false
noncomputable def YN:R2:=λx y H Q=>NI x y=true/\Q (.bl (decide (x=y))) H
noncomputable def YO:R2:=λx y H Q=>NI x y=true/\Q (.bl (!decide (x=y))) H
theorem yx{i j:Int}:decide (V.int i=V.int j)=(i==j):=by
 rw[cX]
 simp
theorem By{i j:Bool}:decide (V.bl i=V.bl j)=(i==j):=by
 rw[cX]
 simp
theorem C0{i j:Str}:decide (V.str i=V.str j)=(i==j):=by
 rw[cX]
 simp
theorem C1{i j:Array UInt8}:decide (V.Bb i=V.Bb j)=(i.toList==j.toList):=by
 rw[cX]
 cases i;cases j;simp
section
variable{X:Cx}{a b c:Expr}{ta tb tc:TE}{pos:Pos}
theorem cF{pZ:List (Addr×Obj)}{σ:St}{H:Hp}{s:ak}{Q:VK}{k k':Bool}(I:Inv X pZ σ H s)(q:Q (.bl k) H)(e:k=k'):EP X pZ σ Q (.bool k') s:=by
 subst e;exact#[.bl k,H,I,rfl,q]
theorem Rp:gu X (bD .Eq) YN:=by
 intro pZ s σ H x y v u Q I rx ry h;obtain⟨hs,q⟩:=h;cases x with
 |bK=>
  cases rx;cases y with
  |bK=>cases ry;exact PySem.EqNone.eq_none_none (cF I q (by simp))
  |bl j=>cases ry;exact PySem.EqNone.eq_none_bool (cF I q (by simp))
  |int j=>obtain⟨t',rfl⟩:=ry;exact PySem.EqNone.eq_none_int (cF I q (by simp))
  |str j=>obtain⟨t',rfl⟩:=ry;exact PySem.EqNone.eq_none_str (cF I q (by simp))
  |_=>exact absurd (show false=true from hs) aX
 |bl i=>
  cases rx;cases y with
  |bK=>cases ry;exact PySem.EqNone.eq_bool_none (cF I q (by simp))
  |bl j=>cases ry;exact eq_bool (cF I q By)
  |str j=>obtain⟨t',rfl⟩:=ry;exact PySem.EqMixed.eq_bool_str (cF I q (by simp))
  |_=>exact absurd (show false=true from hs) aX
 |int i=>
  obtain⟨t,rfl⟩:=rx;cases y with
  |bK=>cases ry;exact PySem.EqNone.eq_int_none (cF I q (by simp))
  |int j=>obtain⟨t',rfl⟩:=ry;exact eq_int (cF I q yx)
  |str j=>obtain⟨t',rfl⟩:=ry;exact PySem.EqMixed.eq_int_str (cF I q (by simp))
  |_=>exact absurd (show false=true from hs) aX
 |str i=>
  obtain⟨t,rfl⟩:=rx;cases y with
  |bK=>cases ry;exact PySem.EqNone.eq_str_none (cF I q (by simp))
  |bl j=>cases ry;exact PySem.EqMixed.eq_str_bool (cF I q (by simp))
  |int j=>obtain⟨t',rfl⟩:=ry;exact PySem.EqMixed.eq_str_int (cF I q (by simp))
  |str j=>obtain⟨t',rfl⟩:=ry;exact eq_str (cF I q C0)
  |_=>exact absurd (show false=true from hs) aX
 |Bb i=>
  obtain⟨t,rfl⟩:=rx;cases y with
  |Bb j=>obtain⟨t',rfl⟩:=ry;exact PySem.W.eq_bytes (cF I q C1)
  |_=>exact absurd (show false=true from hs) aX
 |_=>cases y<;>exact absurd (show false=true from hs) aX
theorem Rr:gu X (bD .NotEq) YO:=by
 intro pZ s σ H x y v u Q I rx ry h;obtain⟨hs,q⟩:=h;cases x with
 |bK=>
  cases rx;cases y with
  |bK=>cases ry;exact PySem.EqNone.ne_none_none (cF I q (by simp))
  |bl j=>cases ry;exact PySem.EqNone.ne_none_bool (cF I q (by simp))
  |int j=>obtain⟨t',rfl⟩:=ry;exact PySem.EqNone.ne_none_int (cF I q (by simp))
  |str j=>obtain⟨t',rfl⟩:=ry;exact PySem.EqNone.ne_none_str (cF I q (by simp))
  |_=>exact absurd (show false=true from hs) aX
 |bl i=>
  cases rx;cases y with
  |bK=>cases ry;exact PySem.EqNone.ne_bool_none (cF I q (by simp))
  |bl j=>cases ry;exact ne_bool (cF I q (congrArg not By))
  |str j=>obtain⟨t',rfl⟩:=ry;exact PySem.EqMixed.ne_bool_str (cF I q (by simp))
  |_=>exact absurd (show false=true from hs) aX
 |int i=>
  obtain⟨t,rfl⟩:=rx;cases y with
  |bK=>cases ry;exact PySem.EqNone.ne_int_none (cF I q (by simp))
  |int j=>obtain⟨t',rfl⟩:=ry;exact ne_int (cF I q (congrArg not yx))
  |str j=>obtain⟨t',rfl⟩:=ry;exact PySem.EqMixed.ne_int_str (cF I q (by simp))
  |_=>exact absurd (show false=true from hs) aX
 |str i=>
  obtain⟨t,rfl⟩:=rx;cases y with
  |bK=>cases ry;exact PySem.EqNone.ne_str_none (cF I q (by simp))
  |bl j=>cases ry;exact PySem.EqMixed.ne_str_bool (cF I q (by simp))
  |int j=>obtain⟨t',rfl⟩:=ry;exact PySem.EqMixed.ne_str_int (cF I q (by simp))
  |str j=>obtain⟨t',rfl⟩:=ry;exact ne_str (cF I q (congrArg not C0))
  |_=>exact absurd (show false=true from hs) aX
 |Bb i=>
  obtain⟨t,rfl⟩:=rx;cases y with
  |Bb j=>obtain⟨t',rfl⟩:=ry;exact PySem.W.ne_bytes (cF I q (congrArg not C1))
  |_=>exact absurd (show false=true from hs) aX
 |_=>cases y<;>exact absurd (show false=true from hs) aX
theorem Rt:gu X (bD .Lt) (Eo λi j=>.bl (decide (i<j))):=JS λ_ _ _ _ _ _ _ q=>lt_int q
theorem Ru:gu X (bD .LtE) (Eo λi j=>.bl (decide (i<=j))):=JS λ_ _ _ _ _ _ _ q=>le_int q
theorem Rv:gu X (bD .Gt) (Eo λi j=>.bl (decide (j<i))):=JS λ_ _ _ _ _ _ _ q=>gt_int q
theorem Rw:gu X (bD .GtE) (Eo λi j=>.bl (decide (j<=i))):=JS λ_ _ _ _ _ _ _ q=>ge_int q
theorem Ep:gu X (bD .In) (λx y H Q=>∃i j,x=.str i/\y=.str j/\Q (.bl (!(Builtin.Str.occurrences j i 0 j.length 1).isEmpty)) H):=by
 intro pZ s σ H x y v u Q I rx ry h;obtain⟨i,j,rfl,rfl,q⟩:=h;obtain⟨t,rfl⟩:=rx;obtain⟨t',rfl⟩:=ry;exact in_str (cF I q rfl)
theorem NJ:gu X (bD .Is) (λx y H Q=>y=.bK/\Q (.bl (decide (x=.bK))) H):=by
 intro pZ s σ H x y v u Q I rx ry h;obtain⟨rfl,q⟩:=h;cases ry;refine is_none_gen (cF I q ?_);cases x<;>first
  | (cases rx;rfl)
  | (obtain⟨t,rfl⟩:=rx;rfl)
theorem JW:gu X (bD .IsNot) (λx y H Q=>y=.bK/\Q (.bl (!decide (x=.bK))) H):=by
 intro pZ s σ H x y v u Q I rx ry h;obtain⟨rfl,q⟩:=h;cases ry;refine isnot_none_gen (cF I q ?_);cases x<;>first
  | (cases rx;rfl)
  | (obtain⟨t,rfl⟩:=rx;rfl)
theorem JX{op:CmpOp}{r:R2}(ho:gu X (bD op) r)(ha:PE X a ta)(hb:PE X b tb)(hm:behindInMarks op b=false):PE X (.Compare a [op] [b] pos) (U5 r ta tb):=by
 intro pZ s σ H Q I h;exact wpAny_Compare1 (Nw ha hb I h λv u s2 x y H2 I2 rx ry q=>ho pZ s2 σ H2 x y v u Q I2 rx ry q) hm
def Rx(t:TE):TT:=λσ H Q=>t σ H λx H'=>∃k,x=.bl k/\Q k H'
theorem JY{op:CmpOp}{r:R2}(ho:gu X (bD op) r)(ha:PE X a ta)(hb:PE X b tb)(hm:behindInMarks op b=false):PT X (.Compare a [op] [b] pos) (Rx (U5 r ta tb)):=by
 intro pZ s σ H Q I h;refine wpAny_isTrue_Compare1 (fh (ha pZ s σ H _ I h) λv s1 #[x,H1,I1,r1,q1]=>fh (hb pZ s1 σ H1 _ I1 q1) λu s2 #[y,H2,I2,r2,q2]=>
  fh (ho pZ s2 σ H2 x y v u _ I2 r1 r2 q2) λc s3 #[z,H3,I3,r3,k,e,q3]=>?_) hm
 subst e;cases r3;exact fk #[H3,I3,q3]
def NK(K:aE)(x:V)(H:Hp)(k:Bool):Prop:=
 match x with
 |.bK=>k=false
 |.bl b=>k=b
 |.int i=>k=(i !=0)
 |.str y=>y.length<=sizeLine/\k=((y.length:Int) !=0)
 |.Bb y=>y.size<=sizeLine/\k=((y.size:Int) !=0)
 |.ref p=>(∃xs,gF K H p xs/\k = !xs.isEmpty)\/(∃xs,lS K H p xs/\k = !xs.isEmpty)\/∃kvs,H p=some (.dK kvs)/\k = !kvs.isEmpty
 |_=>False
theorem Bz{κ:Type}{kvs:List (κ×V)}{vs:List (κ×Value)}(r:KV kvs vs):(!vs.isEmpty)= !kvs.isEmpty:=by
 cases r<;>rfl
theorem ue{xs:List V}{its:List Value}(r:Vals xs its):(!its.toArray.isEmpty)= !xs.isEmpty:=by
 cases r<;>simp
theorem n8:(sizeLine:Nat)<2^63:=by rw[jb];decide
theorem NL:VQ X (λx H Q=>∃k,NK X.K x H k/\Q k H):=by
 intro pZ s σ H x v Q I rx h;obtain⟨k,e,q⟩:=h;have hl:=n8;have hs:sizeLine=16777216:=jb;cases x with
 |bK=>
  cases rx;have e':k=false:=e;subst e';exact truthy_none #[H,I,q]
 |bl b=>
  cases rx;have e':k=b:=e;subst e';exact fk #[H,I,q]
 |int i=>
  obtain⟨t,rfl⟩:=rx;have e':k=(i !=0):=e;subst e';exact PySem.P.truthy_int #[H,I,q]
 |str y=>
  obtain⟨t,rfl⟩:=rx;obtain⟨hy,e'⟩:y.length<=sizeLine/\k=((y.length:Int) !=0):=e;subst e';exact PySem.P.truthy_str ∅ #[H,I.tok _,q]
 |Bb y=>
  obtain⟨t,rfl⟩:=rx;obtain⟨hy,e'⟩:y.size<=sizeLine/\k=((y.size:Int) !=0):=e;subst e';exact PySem.W.truthy_bytes ∅ #[H,I.tok _,q]
 |ref p=>
  cases rx;have e':(∃xs,gF X.K H p xs/\k = !xs.isEmpty)\/(∃xs,lS X.K H p xs/\k = !xs.isEmpty)\/∃kvs,H p=some (.dK kvs)/\k = !kvs.isEmpty:=e;rcases e' with⟨xs,hx,e'⟩|⟨xs,hx,e'⟩|⟨kvs,hx,e'⟩
  .subst e'
   obtain⟨its,r,pl,hz⟩:=I.list hx;have hlen:=r.length;exact wpAny_truthy_list pl.isList (by simp only[aC];omega) #[H,I.tok _,by rw[ue r];exact q]
  .subst e'
   obtain⟨its,r,pl,hz⟩:=I.tuple hx;have hlen:=r.length;exact truthy_tuple pl (by simp only[aC];omega) #[H,I.tok _,by rw[ue r];exact q]
  .subst e'
   obtain⟨hz,hS,vs,r,m⟩:kvs.length<=sizeLine/\(p==dE)=false/\∃vs,KV kvs vs/\s.heap.DictOf (eP X.prog X.w) p vs:=I.dg p _ hx;have hlen:kvs.length=vs.length:=Paired.length r;exact wpAny_truthy_dict hS m ∅ #[H,I.tok _,by rw[Bz r];exact q]
 |_=>exact(show False from e).elim
theorem Ga(ha:PE X a ta)(he:∀whole,isTrue a X.env whole=(do let v <-whole;standAt a.pos;holding [v] (truthy v))):
  PT X a (λσ H Q=>ta σ H λx H'=>∃k,NK X.K x H' k/\Q k H'):=by
 intro pZ s σ H Q I h;refine isTrue_plain (fh (ha pZ s σ H _ I h) λv s1 h9=>?_) (he _);obtain⟨x,H1,I1,r1,q1⟩:=h9;exact NL pZ s1 σ H1 x v Q I1 r1 q1
theorem BA:gu X (cy .Add) (λx y H Q=>∃i j,x=.str i/\y=.str j/\i.length+j.length<=sizeLine/\Q (.str (i++j)) H):=by
 intro pZ s σ H x y v u Q I rx ry h;obtain⟨i,j,rfl,rfl,hz,q⟩:=h;obtain⟨t,rfl⟩:=rx;obtain⟨t',rfl⟩:=ry;exact add_str (λt' tk=>#[.str (i++j),H,I.tok _,#[_,rfl],q]) hz
theorem zW:gu X (gO .Add) (λx y H Q=>∃i j,x=.str i/\y=.str j/\i.length+j.length<=sizeLine/\Q (.str (i++j)) H):=by
 intro pZ s σ H x y v u Q I rx ry h;obtain⟨i,j,rfl,rfl,hz,q⟩:=h;obtain⟨t,rfl⟩:=rx;obtain⟨t',rfl⟩:=ry;exact iadd_str (λt' tk=>#[.str (i++j),H,I.tok _,#[_,rfl],q]) hz
theorem vals1{x:V}{us:List Value}(r:Vals [x] us):∃u,us=[u]/\RelV x u:=by
 cases r with
 |cons r1 r2=>cases r2;exact#[_,rfl,r1]
def Ry(K:aE)(x:V)(H:Hp)(n:Nat):Prop:=
 match x with
 |.str y=>y.length<=sizeLine/\n=y.length
 |.Bb y=>y.size<=sizeLine/\n=y.size
 |.ref p=>(∃xs,gF K H p xs/\n=xs.length)\/∃xs,lS K H p xs/\n=xs.length
 |_=>False
theorem Gb:i5 X (.builtin "len") (λxs H Q=>∃x n,xs=[x]/\Ry X.K x H n/\Q (.int n) H):=by
 intro pZ s σ H xs us Q I r h;obtain⟨x,n,rfl,e,q⟩:=h;obtain⟨u,rfl,rx⟩:=vals1 r;have hl:=n8;have hs:sizeLine=16777216:=jb;cases x with
 |str y=>
  obtain⟨t,rfl⟩:=rx;obtain⟨hy,e'⟩:y.length<=sizeLine/\n=y.length:=e;subst e';exact len_str ∅ #[.int _,H,I.tok _,#[_,rfl],q]
 |Bb y=>
  obtain⟨t,rfl⟩:=rx;obtain⟨hy,e'⟩:y.size<=sizeLine/\n=y.size:=e;subst e';exact PySem.W.len_bytes ∅ #[.int _,H,I.tok _,#[_,rfl],q]
 |ref p=>
  cases rx;have e':(∃xs,gF X.K H p xs/\n=xs.length)\/∃xs,lS X.K H p xs/\n=xs.length:=e;rcases e' with⟨xs,hx,e'⟩|⟨xs,hx,e'⟩
  .subst e'
   obtain⟨its,r',pl,hz⟩:=I.list hx;have hlen:=r'.length;exact Calls.call_len_list pl.isList (by simp only[aC];omega) #[.int xs.length,H,I.tok _,#[_,by simp only[aC];rw[hlen]],q]
  .subst e'
   obtain⟨its,r',pl,hz⟩:=I.tuple hx;have hlen:=r'.length;exact len_tuple pl (by simp only[aC];omega) #[.int xs.length,H,I.tok _,#[_,by simp only[aC];rw[hlen]],q]
 |_=>exact(show False from e).elim
end
structure BC(h:Heap)(x dx C:Addr)(mA:Str->Option Value):Prop where
 obj:h.get? x=some (du C dx)
 ns:h.Ns1 dx mA
 ne:dx≠x
theorem wI{h:Heap}{dx:Addr}{mA:Str->Option Value}(n:h.Ns1 dx mA):∃od,h.get? dx=some od/\∀name,nX name od=some (mA name):=by
 obtain⟨o,es,ep,ho,hd,hk,_,hm⟩:=n;refine#[o,ho,λname=>?_];have e:=hm name;unfold nsFind findBy at e;rw[<-Array.find?_toList] at e;unfold nX;rw[hd]
 dsimp only;split
 .rename_i y q
  rw[q] at e;exact congrArg some e
 .rename_i q
  rw[q] at e;have a:es.toList.any (·.refKey)=false:=by
   rw[List.any_eq_false]
   intro y hy;obtain⟨z,t,hkey⟩:=hk y (Array.mem_toList_iff.mp hy);simp[DictEntry.refKey,hkey]
  have a':¬es.toList.any (·.refKey)=true:=by rw[a];exact aX
  rw[if_neg a']
  exact congrArg some e
theorem BC.look{h:Heap}{x dx C:Addr}{mA:Str->Option Value}(I:BC h x dx C mA):∃od,gk h x (du C dx) C (some od)/\∀name,nX name od=some (mA name):=
 let ⟨od,ho,hl⟩:=wI I.ns
 #[od,#[I.obj,rfl,rfl,ho],hl]
section
variable{prog:bC}{w:bZ}{A:cA}{E:Value->ak->Prop}{s:ak}{K:aE}{x dx C f:Addr}{mA:Str->Option Value}{name:Str}{v:Value}
theorem get_map{expr:Bool}{Q:Value->ak->Prop}(X:K.In s.heap)(I:BC s.heap x dx C mA)(hg:l6 K C name=true)(hh:qg K C=true)
  (ha:dj K (.ref C) name=some none) (hv:mA name=some v) (hv':DY v=true) (h:Q v {s with toks:=s.toks+1}):
  wpAny (aR prog w) A (FI (.ref x) name expr) Q E s:=by
 obtain⟨od,J,hl⟩:=I.look;exact PySem.W.get_value X J (pA hg).1 (PySem.W.findObj_own hh ha rfl (by rw[hl,hv])) hv' h
theorem Gd{pl:Sem Bool}{Q:Value×List Value->ak->Prop}(X:K.In s.heap)(I:BC s.heap x dx C mA)(hg:l6 K C name=true)
  (hf:dj K (.ref C) name=some (some (.ref f))) (ht:xZ K (.ref f)=true) (hv:mA name=none) (h:Q (.ref f,[.ref x]) s):
  wpAny (aR prog w) A (getMethod (.ref x) name pl) Q E s:=by
 obtain⟨od,J,hl⟩:=I.look;exact PySem.W.method_fn X J (pA hg).1 (pA hg).2 hf (beq_iff_eq.mp ht) (by show(nX name od).map (·.isSome)=some false;rw[hl,hv];rfl) h
theorem JZ{ns:List Str}{Q:Unit->ak->Prop}(X:K.In s.heap)(I:BC s.heap x dx C mA)
  (hs:dj K (.ref C) "__setattr__"=some (some (.builtin "object.__setattr__"))) (hp:CN K C=true) (ht:sQ K C name=some none) (hh:qg K C=true)
  (hw:ki mA ns) (hsz:ns.length<=sizeLine)
  (h:∀h',BC h' x dx C (λy=>if y=name then some v else mA y)->r6 dx s.heap h'->Q () {s with heap:=h',toks:=s.toks+2}):
  wpAny (aR prog w) A (FJ (.ref x) name v) Q E s:=by
 obtain⟨od,J,hl⟩:=I.look;refine PySem.W.set_plain X J hs (PySem.W.osa_open (s:={s with toks:=s.toks+1}) (r:=none) X J hp ht λb=>?_);obtain⟨cd,hc,hd'⟩:=PySem.W.any_some hh;have hx:s.heap.get? x=some #[.ref C,some dx,.plain,#[]]:=I.obj;refine aj (aK (aj (aj (qU hx (aj (PySem.W.Looks.here (s:={s with toks:=s.toks+1}) (PySem.W.looks_clsIn X hc) ?_))))));rw[hd']
 refine aK (a:=some dx) (aj (aK (aj ?_)));refine wpAny_nsSet1 (s:={s with toks:=s.toks+1}) I.ns λh' hn2 hs2=>?_
 obtain⟨oD,esD,epD,hoD,hdD,hcD⟩:=hn2.count (x9 name v hw);refine aj (wpAny_lookBehind hoD (by rw[hdD];exact pastItsLine_dict (aS hcD (by rw[aQ];omega))) ?_);exact aK (h _ #[(hs2.2 _ (dJ I.ne)).trans I.obj,hn2,I.ne] hs2)
theorem Ge{R:Result->ak->Prop}{vs:List Value}{kw:List (Str×Value)}(X:K.In s.heap)(hm:Fp K C=true)
  (hi:dj K (.ref C) "__init__"=some (some (.ref f))) (hf:PySem.W.typeIn K (.ref f)=some (.type "function"))
  (h:nU (aR prog w) (A.under (.builtin "type.__call__" #[.ref C::vs,kw])) (.call (.ref f) #[.ref (s.heap.objs.size+1)::vs,kw]) (PySem.W.InitBack (s.heap.objs.size+1) R)
   {s with heap:=(s.heap.push cG).push (du C s.heap.objs.size)}):
  nU (aR prog w) A (.call (.ref C) #[vs,kw]) R s:=by
 obtain⟨hh,g,d,t,os⟩:=s;exact PySem.W.make_core (PySem.W.makes_of X hm) (PySem.W.looks_findIn X hi) (λself=>PySem.W.bind_fn X self hf) (.inl rfl) h
end
noncomputable def gv(f:Str)(v:V):List (Str×V)->List (Str×V)
 |[]=>[(f,v)]
 | (g,x)::r=>if g=f then(g,v)::r else(g,x)::gv f v r
theorem n9(f g:Str)(v:V):∀fs:List (Str×V),(gv f v fs).lookup g=if g=f then some v else fs.lookup g
 |[]=>by
  show fJ g [(f,v)]=_
  by_cases h:g=f
  .have hb:(g==f)=true:=beq_iff_eq.mpr h
   simp only[fJ,hb,if_pos h]
  .have hb:(g==f)=false:=beq_eq_false_iff_ne.mpr h
   simp only[fJ,hb,if_neg h]
 | (k,x)::r=>by
  have ih:=n9 f g v r;rw[show gv f v ((k,x)::r)=(if k=f then(k,v)::r else(k,x)::gv f v r) from rfl]
  by_cases hk:k=f
  .rw[if_pos hk]
   by_cases h:g=k
   .have hb:(g==k)=true:=beq_iff_eq.mpr h
    simp only[fJ,hb,if_pos (h.trans hk)]
   .have hb:(g==k)=false:=beq_eq_false_iff_ne.mpr h
    simp only[fJ,hb,if_neg (λe:g=f=>h (e.trans hk.symm))]
  .rw[if_neg hk]
   by_cases h:g=k
   .have hb:(g==k)=true:=beq_iff_eq.mpr h
    simp only[fJ,hb,if_neg (λe:g=f=>hk (h.symm.trans e))]
   .have hb:(g==k)=false:=beq_eq_false_iff_ne.mpr h
    simp only[fJ,hb];exact ih
theorem mj(f:Str)(v:V):∀fs:List (Str×V),f∈(gv f v fs).map (·.1)/\∀g,g∈fs.map (·.1)->g∈(gv f v fs).map (·.1)
 |[]=>#[by simp[gv],λg h=>by simp at h]
 | (k,x)::r=>by
  obtain⟨i1,i2⟩:=mj f v r;rw[show gv f v ((k,x)::r)=(if k=f then(k,v)::r else(k,x)::gv f v r) from rfl]
  by_cases hk:k=f
  .rw[if_pos hk]
   subst hk;exact#[by simp,λg h=>by simpa using h]
  .rw[if_neg hk]
   refine#[?_,λg h=>?_]
   .rw[aF]
    exact aU _ i1
   .rw[aF] at h ⊢
    rcases bg.mp h with e|e
    .exact bg.mpr (.inl e)
    .exact aU _ (i2 g e)
theorem sj(f:Str)(v:V):∀fs:List (Str×V),(gv f v fs).length<=fs.length+1
 |[]=>by simp[gv]
 | (k,x)::r=>by
  have ih:=sj f v r;rw[show gv f v ((k,x)::r)=(if k=f then(k,v)::r else(k,x)::gv f v r) from rfl]
  by_cases hk:k=f
  .rw[if_pos hk,aQ,aQ];omega
  .rw[if_neg hk,aQ,aQ];omega
theorem nI.some_of{v:V}{o:Option Value}(r:nI (some v) o):∃u,o=some u/\RelV v u:=by
 cases o with
 |none=>exact(show False from r).elim
 |some u=>exact#[u,rfl,r]
theorem nI.none_of{o:Option Value}(r:nI none o):o=none:=by
 cases o with
 |none=>rfl
 |some u=>exact(show False from r).elim
theorem wJ{v:V}{u:Value}(r:RelV v u):DY u=true:=by
 cases v with
 |bK=>cases (show u=df from r);rfl
 |bl b=>cases (show u=iG b from r);rfl
 |int i=>obtain⟨t,e⟩:=(show ∃t,u=mJ i t from r);cases e;rfl
 |str x=>obtain⟨t,e⟩:=(show ∃t,u=jw x t from r);cases e;rfl
 |Bb b=>obtain⟨t,e⟩:=(show ∃t,u=Value.bytes b t from r);cases e;rfl
 |Nb b=>obtain⟨t,e⟩:=(show ∃t,u=Be b t from r);cases e;rfl
 |ref a=>cases (show u=aV a from r);rfl
 |ty n=>cases (show u=vH n from r);rfl
section
variable{P:bC}{w:bZ}{H H':Hp}{h h':Heap}{a C dx:Addr}{fs fs':List (Str×V)}
theorem tB(dg:n6 P w H h)(e:H a=some (.ins C dx fs)):∃mA,BC h a dx C mA/\(∀f,nI (fs.lookup f) (mA f))/\ki mA (fs.map (·.1))/\fs.length<=1000/\H dx=some (.own a):=by
 obtain⟨d,z,ne,ob,mA,n,r,q⟩:=(show eL P w H h a (.ins C dx fs) from dg a _ e)
 exact#[mA,#[ob,n,ne],r,q,z,d]
end
structure wK(K:aE)(C:Addr):Prop where
 pg:l6 K C Str.empty=true
 hd:qg K C=true
 po:CN K C=true
 sa:dj K (.ref C) "__setattr__"=some (some (.builtin "object.__setattr__"))
theorem wK.get{K:aE}{C:Addr}(c:wK K C)(f:Str):l6 K C f=true:=c.pg
def fA(K:aE)(C:Addr)(f:Str):Prop:=dj K (.ref C) f=some none
theorem fA.Gf{K:aE}{C:Addr}{f:Str}(n:fA K C f):sQ K C f=some none:=by
 unfold sQ;rw[show dj K (.ref C) f=some none from n]
 rfl
structure Meth(K:aE)(C:Addr)(m:Str)(f:Addr):Prop where
 at_:dj K (.ref C) m=some (some (.ref f))
 fn:xZ K (.ref f)=true
 kp:nY K (.ref f)=true
section
variable{X:Cx}{pZ:List (Addr×Obj)}{σ:St}{H:Hp}{s:ak}{a C dx:Addr}{fs:List (Str×V)}{f:Str}{v:V}{A:cA}{E:Value->ak->Prop}
theorem uf{b:Bool}{Q:Value->ak->Prop}(I:Inv X pZ σ H s)(e:H a=some (.ins C dx fs))(c:wK X.K C)(n:fA X.K C f)(l:fs.lookup f=some v)
  (h:∀u s',Inv X pZ σ H s'->RelV v u->Q u s'):wpAny (aR X.prog X.w) A (FI (.ref a) f b) Q E s:=by
 obtain⟨mA,O,r,_,_,_⟩:=tB I.dg e;obtain⟨u,hu,ru⟩:=nI.some_of (v:=v) (o:=mA f) (by rw[<-l];exact r f);exact get_map I.kY O (c.get f) c.hd n hu (wJ ru) (h u _ (I.tok _) ru)
theorem ug{m:Str}{g:Addr}{pl:Sem Bool}{Q:Value×List Value->ak->Prop}(I:Inv X pZ σ H s)(e:H a=some (.ins C dx fs))(c:wK X.K C)(k:Meth X.K C m g)(l:fs.lookup m=none)
  (h:Q (.ref g,[.ref a]) s):wpAny (aR X.prog X.w) A (getMethod (.ref a) m pl) Q E s:=by
 obtain⟨mA,O,r,_,_,_⟩:=tB I.dg e;have hn:mA m=none:=nI.none_of (by rw[<-l];exact r m);exact Gd I.kY O (c.get m) k.at_ k.fn hn h
theorem uh{y:V}{u:Value}{Q:Unit->ak->Prop}(I:Inv X pZ σ H s)(e:H a=some (.ins C dx fs))(c:wK X.K C)(n:fA X.K C f)(hl:fs.length<1000)(ry:RelV y u)
  (h:∀s',Inv X pZ σ (upd H a (.ins C dx (gv f y fs))) s'->Q () s'):wpAny (aR X.prog X.w) A (FJ (.ref a) f u) Q E s:=by
 obtain⟨mA,O,r,wi,_,ho⟩:=tB I.dg e;have hz:(fs.map (·.1)).length<=sizeLine:=by rw[aq,jb];omega
 refine JZ I.kY O c.sa c.po n.Gf c.hd wi hz λh' O' sb=>h _ ?_
 have hd:∃o,h'.get? dx=some o:=let ⟨o,_,_,e',_⟩:=O'.ns;#[o,e'];refine I.write (x:=a) (e:=dx) (by rw[e];exact dS) (.inr ho) (λb q hb z=>(sb.2 b hb).trans z) hd ?_;refine#[by rw[bw O.ne];exact ho,?_,O.ne,O'.obj,_,O'.ns,λg=>?_,λg hg=>?_]
 .have:=sj f y fs;omega
 .show nI ((gv f y fs).lookup g) (if g=f then some u else mA g)
  rw[n9]
  by_cases q:g=f
  .rw[if_pos q,if_pos q];exact ry
  .rw[if_neg q,if_neg q];exact r g
 .by_cases q:g=f
  .rw[q];exact(mj f y fs).1
  .refine(mj f y fs).2 g (wi g λz=>hg ?_)
   show(if g=f then some u else mA g)=none
   rw[if_neg q];exact z
theorem Inv.made(I:Inv X pZ σ H s):Inv X pZ σ (upd (upd H s.heap.objs.size (.own (s.heap.objs.size+1))) (s.heap.objs.size+1) (.ins C s.heap.objs.size []))
  {s with heap:=(s.heap.push cG).push (du C s.heap.objs.size)}:=by
 have e1:(s.heap.push cG).get? s.heap.objs.size=some cG:=bz s.heap rfl;have e2:((s.heap.push cG).push (du C s.heap.objs.size)).get? (s.heap.objs.size+1)=some (du C s.heap.objs.size):=by
  have:=bz (s.heap.push cG) (o:=du C s.heap.objs.size) rfl
  rwa [wg] at this
 have e3:(s.heap.push cG).Ns s.heap.objs.size (λ_=>none):=#[cG,#[],_,e1,rfl,(λe he=>absurd he (by simp)),λ_=>rfl]
 have I1:=I.laid (a:=s.heap.objs.size) (o:=.own (s.heap.objs.size+1)) (h':=s.heap.push cG) (t':=s.toks) (λb u q=>aA _ q) (ax _) #[_,e1];refine I1.laid (a:=s.heap.objs.size+1) (o:=.ins C s.heap.objs.size []) (t':=s.toks) (λb u q=>aA _ q) (Bf (wg _ _)) ?_;have ne:s.heap.objs.size≠s.heap.objs.size+1:=b7 (tY _);refine#[by rw[bw ne,bJ],dv _,ne,e2,λ_=>none,(Bg e3).at λo q=>aA _ q,λ_=>dS,λy hy=>absurd rfl hy]
theorem J0{prog:bC}{w:bZ}{env:Env}{e:Expr}{f:Str}{pos:Pos}{s:ak}{Q:Value->ak->Prop}(hb:iY e f env (eval e env)=eval e env)
  (h:wpAny (aR prog w) A (eval e env) (λo s₁=>wpAny (aR prog w) A (FI o f true) Q E s₁) E s):wpAny (aR prog w) A (eval (.Attribute e f pos) env) Q E s:=
 Attribute_any_ h (by rw[arm_eval_Attribute,hb])
end
def VT(K:aE)(ta tv:TE)(f:Str):TS:=λD σ H=>tv σ H λy H1=>ta σ H1 λx H2=>∃a C dx fs,x=.ref a/\H2 a=some (.ins C dx fs)/\wK K C/\fA K C f/\fs.length<1000 /\
 D.nx σ (upd H2 a (.ins C dx (gv f y fs)))
def VU(X:Cx)(op:mK)(rd:V->V->Hp->VK->Prop):Prop:=
 ∀(pZ:List (Addr×Obj))(s:ak)(σ:St)(H:Hp)(x y:V)(u v:Value)(Q:VK),Inv X pZ σ H s->RelV x u->RelV y v->rd x y H Q->wpAny (aR X.prog X.w) X.A (gO op u v) (EP X pZ σ Q) X.xe s
def J1(K:aE)(ta tv:TE)(rd:V->V->Hp->VK->Prop)(f:Str):TS:=λD σ H=>ta σ H λx H1=>∃a C dx fs v,x=.ref a/\H1 a=some (.ins C dx fs)/\wK K C/\fA K C f/\fs.lookup f=some v /\
 tv σ H1 λy H2=>rd v y H2 λz H3=>∃dx' fs',H3 a=some (.ins C dx' fs')/\fs'.length<1000/\D.nx σ (upd H3 a (.ins C dx' (gv f z fs')))
section
variable{X:Cx}{o e value:Expr}{f:Str}{pos pos' tpos:Pos}{ta tv:TE}
theorem NM(ha:PE X o ta)(hv:PE X value tv)(hs:iH value (some (.Attribute o f pos')) pos.line X.env=pure false):PS X (.Assign [.Attribute o f pos'] value pos) (VT X.K ta tv f):=by
 intro pZ s σ H D I h;refine wj (fh (hv pZ s σ H _ I h) λu s1 h9=>?_) hs;obtain⟨y,H1,I1,ry,q⟩:=h9;refine fh (ha pZ s1 σ H1 _ I1 q) λov s2 h9=>?_
 obtain⟨x,H2,I2,rx,a,C,dx,fs,ex,ea,c,n,l,q2⟩:=h9;subst ex;obtain rfl:ov=aV a:=rx;exact uh I2 ea c n l ry λs3 I3=>#[σ,_,I3,q2]
theorem Er{op:mK}{rd:V->V->Hp->VK->Prop}(ha:PE X o ta)(hv:PE X value tv)(hop:VU X op rd):PS X (.AugAssign (.Attribute o f tpos) op value pos) (J1 X.K ta tv rd f):=by
 intro pZ s σ H D I h;refine wpAny_AugAssign_AttributeAny (fh (ha pZ s σ H _ I h) λov s1 h9=>?_);obtain⟨x,H1,I1,rx,a,C,dx,fs,v,ex,ea,c,n,l,q⟩:=h9;subst ex;obtain rfl:ov=aV a:=rx;refine uf I1 ea c n l λu s2 I2 ru=>fh (hv pZ s2 σ H1 _ I2 q) λw3 s3 h9=>?_
 obtain⟨y,H2,I3,ry,q3⟩:=h9;refine fh (hop pZ s3 σ H2 v y u w3 _ I3 ru ry q3) λw4 s4 h9=>?_
 obtain⟨z,H3,I4,rz,dx',fs',ea',l',q4⟩:=h9;exact uh I4 ea' c n l' rz λs5 I5=>#[σ,_,I5,q4]
end
section
variable{X:Cx}{pZ:List (Addr×Obj)}{σ:St}{H:Hp}{s:ak}{A:cA}{E:Value->ak->Prop}{Q:Value->ak->Prop}{c:Value}{b:Bool}
inductive rg(K:aE)(H:Hp):V->Value->Prop where
 |bK:rg K H .bK (.type "NoneType")
 |bl (x:Bool):rg K H (.bl x) (.type "bool")
 |int (i:Int):rg K H (.int i) (.type "int")
 |str (x:Str):rg K H (.str x) (.type "str")
 |Nb (x:UInt64):rg K H (.Nb x) (.type "float")
 |lst{a:Addr}{xs:List V} (e:H a=some (.lst xs)):rg K H (.ref a) (.type "list")
 |Bt{a:Addr}{o:Obj}{xs:List V} (e:H a=some (.Bt o (.lst xs))):rg K H (.ref a) (.type "list")
 |tup{a:Addr}{xs:List V} (e:H a=some (.tup xs)):rg K H (.ref a) (.type "tuple")
 |dK{a:Addr}{kvs:List (Key×V)} (e:H a=some (.dK kvs)):rg K H (.ref a) (.type "dict")
 |dT{a:Addr}{kvs:List (List Key×V)} (e:H a=some (.dT kvs)):rg K H (.ref a) (.type "dict")
 |ins{a C dx:Addr}{fs:List (Str×V)} (e:H a=some (.ins C dx fs)) (cl:wK K C) (ha:dj K (.ref C) "__class__"=some (some (.builtin "object.__class__")))
   (hn:PySem.W.specialIn K (.builtin "object.__class__") "__get__"=some (some (.builtin "getset_descriptor.__get__"))) (NN:PySem.W.takesIn K (.builtin "object.__class__")=some true)
   (hm:PySem.W.mroIn K C (.type "object")=some true):rg K H (.ref a) (.ref C)
theorem Es{x:V}{u t:Value}(I:Inv X pZ σ H s)(rx:RelV x u)(ty:rg X.K H x t)(e:PySem.W.kitOne X.K t c=some b)(h:∀tk,Q (.bool b) {s with toks:=tk}):
  wpAny (aR X.prog X.w) A (call (.builtin "isinstance") [u,c]) Q E s:=by
 cases ty with
 |bK=>cases (show u=df from rx);exact cL PySem.W.kitx_none I.kY dS e (λz=>nomatch z) h
 |bl y=>cases (show u=iG y from rx);exact cL PySem.W.kitx_bool I.kY dS e (λz=>nomatch z) h
 |int i=>obtain⟨t,q⟩:=(show ∃t,u=mJ i t from rx);cases q;exact cL PySem.W.kitx_int I.kY dS e (λz=>nomatch z) h
 |str y=>obtain⟨t,q⟩:=(show ∃t,u=jw y t from rx);cases q;exact cL PySem.W.kitx_str I.kY dS e (λz=>nomatch z) h
 |Nb y=>obtain⟨t,q⟩:=(show ∃t,u=Be y t from rx);cases q;exact cL PySem.W.kitx_float I.kY dS e (λz=>nomatch z) h
 |@lst a xs ea=>
  cases (show u=aV a from rx);obtain⟨_,_,n,_,h1⟩:=(show eL X.prog X.w H s.heap a (.lst xs) from I.dg a _ ea)
  exact cL CO I.kY #[_,h1,rfl] e (λz=>nomatch z) h
 |@Bt a ob xs ea=>
  cases (show u=aV a from rx);obtain⟨_,_,_,n,_,h1⟩:=(show eL X.prog X.w H s.heap a (.Bt ob (.lst xs)) from I.dg a _ ea)
  exact cL CO I.kY #[_,h1,rfl] e (λz=>nomatch z) h
 |@tup a xs ea=>
  cases (show u=aV a from rx);obtain⟨_,_,_,p⟩:=(show eL X.prog X.w H s.heap a (.tup xs) from I.dg a _ ea)
  obtain⟨o,h1,h2,_⟩:=p;exact cL PySem.W.kitx_tuple I.kY #[o,h1,h2] e (λz=>nomatch z) h
 |@dK a kvs ea=>
  cases (show u=aV a from rx);obtain⟨_,_,vs,_,p⟩:=(show eL X.prog X.w H s.heap a (.dK kvs) from I.dg a _ ea)
  obtain⟨o,es,ep,h1,h2,_⟩:=p;exact cL CP I.kY #[o,h1,h2.1] e (λz=>nomatch z) h
 |@dT a kvs ea=>
  cases (show u=aV a from rx);obtain⟨_,_,xs,_,o,es,ep,h1,h2,_⟩:=(show eL X.prog X.w H s.heap a (.dT kvs) from I.dg a _ ea)
  exact cL CP I.kY #[o,h1,h2.1] e (λz=>nomatch z) h
 |@ins a C dx fs ea cl ha hn NN hm=>
  cases (show u=aV a from rx);obtain⟨mA,O,_⟩:=tB I.dg ea;obtain⟨od,J,_⟩:=O.look;exact cL (PySem.W.kitx_own (cl.get _) cl.hd ha hn NN hm) I.kY J e (λz=>nomatch z) h
end
structure jx(k:Nat)(A:cA):Prop where
 hd:A.handled=none
 dp:A.depth+3*k+5<recursionLimit
 un:A.units+16*k+200<kf
theorem jx.mono{j k:Nat}{A:cA}(r:jx k A)(h:j<=k):jx j A:=#[r.hd,by have:=r.dp;omega,by have:=r.un;omega]
theorem jx.deeper{k:Nat}{A:cA}(r:jx (k+1) A)(env:Env):jx k (A.deeper env):=
 #[r.hd,by have:=r.dp;show A.depth+1+3*k+5<_;omega,by have:=r.un;show A.units+3+16*k+200<_;omega]
theorem BD{A:cA}{C:Addr}{us:List Value}{kw:List (Str×Value)}:(A.under (.builtin "type.__call__" #[.ref C::us,kw])).depth=A.depth+1:=by
 first|rfl|simp[zD,Code.weight,Code.isCreation,Code.isGuard,Code.isCaller,Code.frames,A2,guardIds]
theorem BE{A:cA}{C:Addr}{us:List Value}{kw:List (Str×Value)}:(A.under (.builtin "type.__call__" #[.ref C::us,kw])).units=A.units+1:=by
 first|rfl|simp[zD,Code.cUnits,Code.frames,A2]
theorem jx.make{k:Nat}{A:cA}(r:jx (k+1) A)(C:Addr)(us:List Value)(kw:List (Str×Value)):jx k (A.under (.builtin "type.__call__" #[.ref C::us,kw])):=
 #[r.hd,by have:=r.dp;rw[BD];omega,by have:=r.un;rw[BE];omega]
theorem jx.depth{k:Nat}{A:cA}(r:jx k A):A.depth<recursionLimit:=by have:=r.dp;omega
def VV:TA:=λ_ H Q=>Q [] H
def Rz(ta:TE)(tr:TA):TA:=λσ H Q=>ta σ H λx H1=>tr σ H1 λxs H2=>Q (x::xs) H2
section
variable{X:Cx}{e:Expr}{es:List Expr}{te:TE}{t:TA}{pos:Pos}
theorem yy:PA X [] VV:=λ_ _ _ _ H Q I h=>qV #[[],H,I,.nil,h]
theorem qm(ha:PE X e te)(hr:PA X es t)(hs:bS (e::es) X.env=(false,eval e X.env)::bS es X.env:=by rfl):PA X (e::es) (Rz te t):=by
 intro pos pZ s σ H Q I h;rw[hs]
 show wpAny _ _ (spliced ((false,eval e X.env)::iL pos (bS es X.env))) _ _ s
 refine kK (fh (ha pZ s σ H _ I h) λu s1 h9=>?_);obtain⟨x,H1,I1,r1,q1⟩:=h9;refine fh (hr pos pZ s1 σ H1 _ I1 q1) λus s2 h9=>?_
 obtain⟨xs,H2,I2,r2,q2⟩:=h9;exact#[x::xs,H2,I2,.cons r1 r2,q2]
def VW(t:TA):TE:=λσ H Q=>t σ H λxs H1=>xs.length<=sizeLine/\∀p,H1 p=none->Q (.ref p) (upd H1 p (.tup xs))
def VX(t:TA):TE:=λσ H Q=>t σ H λxs H1=>xs.length<=sizeLine/\∀p,H1 p=none->Q (.ref p) (upd H1 p (.lst xs))
theorem NO{x1}(h:PA X es t):PE X (.Tuple es x1 pos) (VW t):=by
 intro pZ s σ H Q I hq;refine wpAny_Tuple_spliced (fh (h pos pZ s σ H _ I hq) λus s1 h9=>?_);obtain⟨xs,H1,I1,r,z,q⟩:=h9;refine#[by rw[<-r.length];exact z,?_];have hf:H1 s1.heap.objs.size=none:=I1.dg.fresh (ax _);refine#[.ref s1.heap.objs.size,upd H1 s1.heap.objs.size (.tup xs),I1.laid (t':=s1.toks) (λb u e=>aA _ e) (ax _) ?_,rfl,q _ hf];exact#[z,us,r,#[_,bz _ rfl,rfl,_,rfl]]
theorem NP(h:PA X es t):PE X (.List es pos) (VX t):=by
 intro pZ s σ H Q I hq;refine wpAny_List_spliced (fh (h pos pZ s σ H _ I hq) λus s1 h9=>?_);obtain⟨xs,H1,I1,r,z,q⟩:=h9;refine#[by rw[<-r.length];exact z,?_];have hf:H1 s1.heap.objs.size=none:=I1.dg.fresh (ax _);refine#[.ref s1.heap.objs.size,upd H1 s1.heap.objs.size (.lst xs),I1.laid (t':=s1.toks) (λb u e=>aA _ e) (ax _) ?_,rfl,q _ hf];exact#[z,us,0,r,bz _ rfl]
end
abbrev Sp:=List V->Hp->VK->XK->Prop
abbrev Gg:=List Env->Hp->ak->XK->Value->ak->Prop
structure BF(P:bC)(w:bZ)(K:aE)(mg:Str->Option Value)(base:Heap)(A:cA)(outer:List Env)(s:ak)(H:Hp):Prop where
 frames:A.frames=some outer
 mod:Mod K mg base
 bs:∀b o,base.get? b=some o->s.heap.get? b=some o/\H b=none
 FA:base.objs.size<=s.heap.objs.size
 pP:s.heap.FunFrames base outer
 Jo:∀b∈vP outer,H b=none
 dg:n6 P w H s.heap
 bare:nR s.gens
def CE(outer:List Env)(P:bC)(w:bZ)(H:Hp)(s:ak)(Q:VK)(u:Value)(s':ak):Prop:=
 ∃v H',s'.os=s.os/\nR s'.gens/\Un (vP outer) [] H H' s.heap s'.heap/\n6 P w H' s'.heap/\RelV v u/\Q v H'
def CR(CX:Gg)(outer:List Env)(P:bC)(w:bZ)(H:Hp)(s:ak)(Q:VK)(E:XK)(r:Result)(s':ak):Prop:=
 match r with
 |.ok (.ret u)=>CE outer P w H s Q u s'
 |.ok _=>False
 |.error e=>CX outer H s E e s'
structure iI(P:bC)(w:bZ)(K:aE)(mg:Str->Option Value)(base:Heap)(CX:Gg)(k:Nat)(f:Addr)(fd:dQ)(ps:List Str)(sp:Sp):Prop where
 len:∀vs H Q E,sp vs H Q E->vs.length=ps.length
 run:∀(A:cA)(outer:List Env)(s:ak)(H:Hp)(args:Args)(us:List Value)(vs:List V)(Q:VK)(E:XK),jx k A->BF P w K mg base A outer s H->A3 s fd args (ps.zip us)->Vals vs us->sp vs H Q E ->
  nU (aR P w) A (.call (.ref f) args) (CR CX outer P w H s Q E) s
theorem iI.mono{P:bC}{w:bZ}{K:aE}{mg:Str->Option Value}{base:Heap}{CX:Gg}{j k:Nat}{f:Addr}{fd:dQ}{ps:List Str}{sp:Sp}(F:iI P w K mg base CX j f fd ps sp)(h:j<=k):
  iI P w K mg base CX k f fd ps sp:=#[F.len,λA outer s H args us vs Q E hr=>F.run A outer s H args us vs Q E (hr.mono h)]
theorem iI.imp{P:bC}{w:bZ}{K:aE}{mg:Str->Option Value}{base:Heap}{CX:Gg}{k:Nat}{f:Addr}{fd:dQ}{ps:List Str}{sp sp':Sp}(F:iI P w K mg base CX k f fd ps sp)
  (h:∀vs H Q E,sp' vs H Q E->sp vs H Q E):iI P w K mg base CX k f fd ps sp':=
 #[λvs H Q E q=>F.len vs H Q E (h _ _ _ _ q),λA outer s H args us vs Q E hr he hb hv hs=>F.run A outer s H args us vs Q E hr he hb hv (h _ _ _ _ hs)]
theorem BF.make{P:bC}{w:bZ}{K:aE}{mg:Str->Option Value}{base:Heap}{A:cA}{outer:List Env}{s:ak}{H:Hp}(e:BF P w K mg base A outer s H)(C:Addr)(us:List Value)(kw:List (Str×Value)):
  BF P w K mg base (A.under (.builtin "type.__call__" #[.ref C::us,kw])) outer s H:=#[by first|exact e.frames| (simpa[zD,Code.envs,A2,pushEnvs] using e.frames),e.mod,e.bs,e.FA,e.pP,e.Jo,e.dg,e.bare]
section
variable{X:Cx}{pZ:List (Addr×Obj)}{σ:St}{H:Hp}{s s':ak}
theorem Inv.NQ(I:Inv X pZ σ H s):BF X.prog X.w X.K X.mg X.base X.A X.stack s H:=
 #[I.ok.frames,I.ok.mod,I.bs,aS I.ok.FA I.sz,I.stack,I.yw,I.dg,I.bare]
theorem Inv.after{Q:VK}{u:Value}(I:Inv X pZ σ H s)(h:CE X.stack X.prog X.w H s Q u s'):EP X pZ σ Q u s':=by
 obtain⟨v,H',os,bare,un,dg,r,q⟩:=h;obtain⟨hh,g,d,t,os'⟩:=s';obtain rfl:os'=s.os:=os;exact#[v,H',I.call (h':=hh) (g':=g) (d':=d) (t':=t) (ch:=[]) un dg bare (λb z=>absurd z (by simp)),r,q]
end
def Binds(K:aE)(fd:dQ)(ps:List Str)(ds:List Value):Prop:=
 ∀(s:ak)(us:List Value),K.In s.heap->(us++ds).length=ps.length->A3 s fd #[us,[]] (ps.zip (us++ds))
theorem Binds.all{K:aE}{fd:dQ}{ps:List Str}(h:∀us:List Value,us.length=ps.length->Bh fd #[us,[]]=pure (ps.zip us)):Binds K fd ps []:=λs us _ hl=>by
 rw[bb] at hl ⊢;exact .of_eq (h us hl)
section
variable{X:Cx}{CX:Gg}{k:Nat}{f C:Addr}{fd:dQ}{ps:List Str}{sp:Sp}{dvs:List V}{ds:List Value}{E:XK}{x m:Str}{p pos apos:Pos}{e o:Expr}{es:List Expr}{ta:TE}{t:TA}
structure Mk(K:aE)(C f:Addr):Prop where
 makes:Fp K C=true
 init:dj K (.ref C) "__init__"=some (some (.ref f))
 fn:xZ K (.ref f)=true
 kp:nY K (.ref C)=true
end
structure fV(N P:List Str)(sc:kI):Prop where
 kind:sc.kind=.function
 co:sc.isCoroutine=false
 gen:sc.isGenerator=false
 nd:N.Nodup
 pre:N.take P.length=P
 par:∀x∈P,sc.names.lookup x=some .local\/sc.names.lookup x=some .cell
 NR:∀y∈sc.names,y.2≠.free
theorem wL{kindOf:Str->Option NameKind}{x:Str}:∀{binds:List (Str×Value)}{m:Str->Option Value},(∀v,(x,v)∉binds)->Fq kindOf binds m x=m x
 |[],_,_=>rfl
 | (n,v)::r,m,h=>by
  unfold Fq;rw[wL λw hw=>h w (aU _ hw)]
  split
  .have:x≠n:=by rintro rfl;exact h v bf
   simp[this]
  .rfl
theorem wM{kindOf:Str->Option NameKind}{x:Str}:∀{binds:List (Str×Value)}{m:Str->Option Value},(∀v,(x,v)∉binds)->Fs kindOf binds m x=m x
 |[],_,_=>rfl
 | (n,v)::r,m,h=>by
  unfold Fs;rw[wM λw hw=>h w (aU _ hw)]
  split
  .rfl
  .have:x≠n:=by rintro rfl;exact h v bf
   simp[this]
theorem wN{kindOf:Str->Option NameKind}{x:Str}{v:Value}:∀{P:List Str}{vs:List Value}{i:Nat}{m:Str->Option Value},P.Nodup->P[i]?=some x->vs[i]?=some v->kindOf x=some .local ->
  Fq kindOf (P.zip vs) m x=some v
 |[],_,_,_,_,h,_,_=>by simp at h
 |_::_,[],_,_,_,_,h,_=>by simp at h
 |p::P,w::vs,0,m,nd,h1,h2,hk=>by
  simp at h1 h2;subst h1;subst h2;show Fq kindOf ((p,w)::P.zip vs) m p=_;unfold Fq;rw[wL λv hv=>(kg.mp nd).1 (vA hv).1,if_pos hk]
  simp
 |p::P,w::vs,i+1,m,nd,h1,h2,hk=>by
  show Fq kindOf ((p,w)::P.zip vs) m x=_
  unfold Fq;exact wN (i:=i) (kg.mp nd).2 (by simpa using h1) (by simpa using h2) hk
theorem wO{kindOf:Str->Option NameKind}{x:Str}{v:Value}:∀{P:List Str}{vs:List Value}{i:Nat}{m:Str->Option Value},P.Nodup->P[i]?=some x->vs[i]?=some v->kindOf x≠some .local ->
  Fs kindOf (P.zip vs) m x=some v
 |[],_,_,_,_,h,_,_=>by simp at h
 |_::_,[],_,_,_,_,h,_=>by simp at h
 |p::P,w::vs,0,m,nd,h1,h2,hk=>by
  simp at h1 h2;subst h1;subst h2;show Fs kindOf ((p,w)::P.zip vs) m p=_;unfold Fs;rw[wM λv hv=>(kg.mp nd).1 (vA hv).1,if_neg hk]
  simp
 |p::P,w::vs,i+1,m,nd,h1,h2,hk=>by
  show Fs kindOf ((p,w)::P.zip vs) m x=_
  unfold Fs;exact wO (i:=i) (kg.mp nd).2 (by simpa using h1) (by simpa using h2) hk
noncomputable def start(N:List Str)(vs:List V):St:=vs.map some++dm (N.length-vs.length) none
noncomputable def zX(CX:Gg)(P:bC)(w:bZ)(K:aE)(mg:Str->Option Value)(base:Heap)(N:List Str)(qual:Str)(scope:kI)(f:Addr)(cd:Value)(A:cA)(outer:List Env)(s:ak)(H:Hp)(E:XK):Cx where
 prog:=P
 w:=w
 K:=K
 mg:=mg
 base:=base
 A:=A.deeper (pN qual scope s.heap.objs.size f cd)
 N:=N
 s₀:=s
 H₀:=H
 env:=pN qual scope s.heap.objs.size f cd
 outer:=outer
 stack:=pN qual scope s.heap.objs.size f cd::outer
 ex:=[]
 calm:=true
 fn:=λ_=>true
 pn:=[]
 xe:=λe s'=>wpAny (aR P w) (A.deeper (pN qual scope s.heap.objs.size f cd)) (leaving (pN qual scope s.heap.objs.size f cd) e) (λ_ s''=>CX outer H s E e s'') (λe' s''=>CX outer H s E e' s'') s'
theorem zY{sc:kI}{n:Nat}{x:Str}(h:sc.names.lookup x=some .cell):∃c,(cellsFrom n sc.names []).lookup x=some c:=by
 have q:=ya sc.names n [] (.inl h);exact wk.mp q
theorem Et{CX:Gg}{P:bC}{w:bZ}{K:aE}{mg:Str->Option Value}{base:Heap}{N ps:List Str}{qual:Str}{scope:kI}{f:Addr}{cd:Value}{A:cA}{outer:List Env}{s s1:ak}{H:Hp}{E:XK}{us:List Value}{vs:List V}
  (S:fV N ps scope) (hd:A.handled=none) (e0:BF P w K mg base A outer s H) (hl:vs.length=ps.length) (r:Vals vs us)
  (x:InCallC s s.heap.objs.size (Fq (pN qual scope s.heap.objs.size f cd).kindOf (ps.zip us) λ_=>none) (cellsFrom (s.heap.objs.size+1) scope.names []) (Fs (pN qual scope s.heap.objs.size f cd).kindOf (ps.zip us) λ_=>none) s1):
  Inv (zX CX P w K mg base N qual scope f cd A outer s H E) [] (start N vs) H s1:=by
 have hpl:ps.length<=N.length:=by have:=congrArg cM S.pre;rw[gT] at this;omega
 obtain⟨h1,tk,rfl,hk⟩:=x.done;have noA:∀b:Addr,b∉(zX CX P w K mg base N qual scope f cd A outer s H E).ex:=λb z=>absurd (show b∈([]:List Addr) from z) (by simp)
 refine#[#[e0.mod,S.kind,rfl,rfl,ax _,λy z c h1 h2=>?_,λy hy=>?_,λy c _ h=>?_,λ_=>hd,Around.frames_deeper e0.frames,.inr #[rfl,rfl],λb z=>absurd z (noA b),e0.bs,e0.FA,λb _ _=>noA b,λb z=>absurd z (noA b),e0.pP,e0.Jo],
  rfl,e0.bare,Un.kept hk,#[_,x.toInCall.ns,λi y v h1 h2 h3=>?_],λy c h=>#[_,x.cell y c h],e0.dg.fresh (ax _),λy c h=>?_,λp hp=>absurd (show p∈([]:List (Addr×Obj)) from hp) (by simp),e0.dg.kept hk,?_]
 .exact name_of_addr x.apart (fg h1) (fg h2)
 .have hy:scope.names.lookup y=some .cell\/scope.names.lookup y=some .free:=hy
  rcases hy with hy|hy
  .exact zY hy
  .exact absurd rfl (S.NR _ (fg hy))
 .exact sP (x.above y c (fg h))
 .have hi:i<vs.length:=by
   unfold start at h2;by_cases hi:i<vs.length
   .exact hi
   .rw[ay (by simpa using hi)] at h2
    rw[zO] at h2;split at h2<;>cases h2
  have ha:vs[i]?=some v:=by
   unfold start at h2;rw[ao (by simpa using hi),ar] at h2;cases e:vs[i]? with
   |none=>rw[e] at h2;cases h2
   |some a=>rw[e] at h2;cases h2;rfl
  obtain⟨u,hu,rv⟩:=r.get ha;have hp:ps[i]?=some y:=by
   rw[<-S.pre,List.getElem?_take_of_lt ∅];exact h1
  have ndP:ps.Nodup:=by rw[<-S.pre];exact S.nd.sublist (List.take_sublist _ _)
  refine#[u,rv,?_];rcases S.par y (aw hp) with k|k
  .exact .inl #[k,wN ndP hp hu k]
  .obtain⟨c,e⟩:=zY (n:=s.heap.objs.size+1) k
   refine .inr #[.inl k,c,e,?_];have q:=x.cell y c e;rw[wO ndP hp hu (by show scope.names.lookup y≠_;rw[k];decide)] at q;exact q
 .exact e0.dg.fresh (sP (x.above y c (fg h)))
 .unfold start
  show _=N.length
  rw[aB,aq,List.length_replicate]
  omega
theorem RA{CX:Gg}{P:bC}{w:bZ}{K:aE}{mg:Str->Option Value}{base:Heap}{k:Nat}{f:Addr}{name qual:Str}{params:Arguments}{body:List Stmt}{scope:kI}{dV kV doc pm cdv ct oc:Value}{an od:Option Addr}
  {osl:Array (Option Value)}{N ps:List Str}{sp:Sp} (lk:K.lookup f=some #[oc,od,.func (jS name qual params body scope dV kV doc pm an cdv ct),osl]) (hcd:tZ K cdv qual=true) (S:fV N ps scope)
  (len:∀vs H Q E,sp vs H Q E->vs.length=ps.length)
  (hbody:∀(A:cA)(outer:List Env)(s:ak)(H:Hp)(vs:List V)(Q:VK)(E:XK),jx k (A.deeper (pN qual scope s.heap.objs.size f cdv))->sp vs H Q E ->
   ∃t,sS (zX CX P w K mg base N qual scope f cdv A outer s H E) body t/\t {nx:=λ_ H'=>Q .bK H',rt:=Q} (start N vs) H):
  iI P w K mg base CX (k+1) f (jS name qual params body scope dV kV doc pm an cdv ct) ps sp:=by
 refine#[len,λA outer s H args us vs Q E hr e0 hb r hsp=>?_];have hl:=len _ _ _ _ hsp;have KX:K.In s.heap:=e0.mod.QD.keeps λb o e=>(e0.bs b o e).1
 have lim:s.heap.NoLimit:=e0.mod.nolimit.keeps λb o e=>(e0.bs b o e).1
 have hkind:∀y∈ps.zip us,scope.names.lookup y.1=some .local\/(scope.names.lookup y.1=some .cell/\((cellsFrom (s.heap.objs.size+1) scope.names []).lookup y.1).isSome=true):=λ⟨n,v⟩ hy=>by
  rcases S.par n (vA hy).1 with q|q
  .exact .inl q
  .exact .inr #[q,ya _ _ _ (.inl q)]
 refine codeAny_call_function hr.depth (KX _ _ lk) rfl S.co S.gen rfl (PySem.W.codeRec_of KX hcd) (hb _ _ _ _ ?_);refine wpAny_newFunctionEnv_cells S.kind hkind λenv he s1 x=>?_
 subst he;refine#[lim.keeps x.toInCall.keep,codeAny_func ?_];obtain⟨t,ht,hq⟩:=hbody A outer s H vs Q E (hr.deeper _) hsp;have I:Inv (zX CX P w K mg base N qual scope f cdv A outer s H E) [] (start N vs) H s1:=Et S hr.hd e0 hl r x;refine bL (ht [] s1 (start N vs) H _ I hq) (λfl s' hs=>?_) λe s' hs=>hs
 have fin:∀{σ':St}{H':Hp}{v:V}{u:Value},Inv (zX CX P w K mg base N qual scope f cdv A outer s H E) [] σ' H' s'->RelV v u->Q v H'->CE outer P w H s Q u s':=
  λ{σ' H' v u}J rv q=>#[v,H',J.os,J.bare,J.base,J.dg,rv,q]
 cases fl with
 |ret u=>
  obtain⟨v,σ',H',J,rv,q⟩:=hs;exact fin J rv q
 |next=>
  obtain⟨σ',H',J,q⟩:=hs;exact fin (v:=V.bK) (u:=df) J rfl q
 |brk=>
  obtain⟨_,_,_,q⟩:=hs;exact aI q
 |cont=>
  obtain⟨_,_,_,q⟩:=hs;exact aI q
section
variable{X:Cx}{x:Str}{p pos:Pos}{e:Expr}{es:List Expr}{t:TA}{id T:String}{r:List V->Hp->VK->Prop}
def VY(r:List V->Hp->VK->Prop)(t:TA):TE:=λσ H Q=>t σ H λvs H1=>r vs H1 Q
theorem oa(hc:i5 X (.builtin id) r)(hg:Gl X x)(hm:X.mg x=none)(hv:jF x=some (.builtin id))(ha:PA X (e::es) t)(hn:x≠"__name__":=by decide)(hdb:(x==("__debug__":Str))=false:=by decide)
  (he:bS (e::es) X.env=(false,eval e X.env)::bS es X.env:=by rfl) (hpl:(iL pos (bS es X.env)).any (·.1)=false:=by rfl):PE X (.Call (.Name x p) (e::es) [] pos) (VY r t):=by
 intro pZ s σ H Q I h;refine dw (pR I hg hm hv ?_ hn hdb);refine PyProof.Rows.callWith_builtin1 (fh (ha pos pZ s σ H _ I h) λus s1 h9=>?_) he hpl;obtain⟨vs,H1,I1,r1,q1⟩:=h9;exact hc pZ s1 σ H1 vs us Q I1 r1 q1
theorem rh(hc:i5 X (.type T) r)(hg:Gl X x)(hm:X.mg x=none)(hv:jF x=some (.type T))(ha:PA X (e::es) t)(hn:x≠"__name__":=by decide)(hdb:(x==("__debug__":Str))=false:=by decide)
  (he:bS (e::es) X.env=(false,eval e X.env)::bS es X.env:=by rfl) (hpl:(iL pos (bS es X.env)).any (·.1)=false:=by rfl):PE X (.Call (.Name x p) (e::es) [] pos) (VY r t):=by
 intro pZ s σ H Q I h;refine dw (pR I hg hm hv ?_ hn hdb);refine ja (fh (ha pos pZ s σ H _ I h) λus s1 h9=>?_) he hpl;obtain⟨vs,H1,I1,r1,q1⟩:=h9;exact hc pZ s1 σ H1 vs us Q I1 r1 q1
end
end L2
namespace HT
open PySem PyProof.Rows
section
variable{prog:bC}{w:bZ}{A:cA}{E:Value->ak->Prop}{s:ak}
theorem J2{t b:Addr}{vs ws:List Value}{Q:Value->ak->Prop}(ht:IsTup s.heap t vs.toArray)(hb:IsTup s.heap b ws.toArray)(hv:vs≠[])
  (h1:ws=[]->Q (.ref t) s) (h2:ws≠[]->Q (.ref s.heap.objs.size) {s with heap:=s.heap.push {cls:=.type "tuple",data:=.seq (vs++ws).toArray} })
  (hsz:vs.length+ws.length<=sizeLine):wpAny (aR prog w) A (cy .Add (.ref t) (.ref b)) Q E s:=by
 obtain⟨⟨cls,dd,data,sl⟩,ho,hc,n,hd⟩:=id ht;obtain⟨⟨cls2,dd2,data2,sl2⟩,ho2,hc2,n2,hd2⟩:=id hb;simp only at hc hd hc2 hd2;subst hc hd hc2 hd2;have e:vs.toArray++ws.toArray=(vs++ws).toArray:=by simp
 by_cases hw:ws=[]
 .exact FK #[_,ho,rfl] #[_,ho2,rfl] yb DZ mL l7 (lQ _ _)
   (tuple_addW1 t b vs.toArray ws.toArray n n2 dd dd2 sl sl2 (by simpa using hv) (by simp[hw])) #[ho,ho2,h1 hw]
 .refine FK #[_,ho,rfl] #[_,ho2,rfl] yb DZ mL l7 (lQ _ _)
   (tuple_addW2 t b vs.toArray ws.toArray n n2 dd dd2 sl sl2 (by simpa using hv) (by simpa using hw) (by rw[aC,aC];exact hsz)) #[ho,ho2,?_]
  rw[e]
  exact h2 hw
noncomputable def iZ(n d:Nat):Option Int->Nat
 |none=>d
 |some v=>if v<0 then(v+(n:Int)).toNat else min v.toNat n
theorem NS(n d:Nat)(hd:d<=n)(o:Option Int):iZ n d o<=n:=by
 cases o with
 |none=>exact hd
 |some v=>
  show(if v<0 then(v+(n:Int)).toNat else min v.toNat n)<=n
  by_cases hv:v<0
  .rw[if_pos hv];omega
  .rw[if_neg hv];exact Nat.min_le_right _ _
theorem C2(v:Int)(n d:Nat):(if v<0 then max (v+(n:Int)) 0 else min v (n:Int))=((iZ n d (some v):Nat):Int):=by
 show(if v<0 then max (v+(n:Int)) 0 else min v (n:Int))=(((if v<0 then(v+(n:Int)).toNat else min v.toNat n):Nat):Int)
 by_cases hv:v<0
 .simp only[if_pos hv];omega
 .simp only[if_neg hv];omega
theorem BG(lo hi:Option Int)(n:Nat):Builtin.Slice.sliceAdjust lo hi 1 (n:Int)=(((iZ n 0 lo:Nat):Int),((iZ n n hi:Nat):Int)):=by
 have h1:¬((1:Int)<0):=∅
 unfold Builtin.Slice.sliceAdjust;simp only[h1,if_false];refine Prod.ext ?_ ?_
 .cases lo with
  |none=>rfl
  |some v=>exact C2 v n 0
 .cases hi with
  |none=>rfl
  |some v=>exact C2 v n n
theorem BH(i j:Nat):Builtin.Slice.slicePlaces (i:Int) (j:Int) 1=j-i:=by
 unfold Builtin.Slice.slicePlaces;have h1:(1:Int)>0:=∅
 simp only[h1,if_true,Int.ediv_one];split<;>omega
theorem ui{v:Value}{o:Option Int}{Q:Option Int->ak->Prop}(p:yc v o)(h:Q o s):wpAny (aR prog w) A (Builtin.Slice.slicePartIndex v) Q E s:=by
 cases p with
 |none=>exact slicePart_none h
 |int i t=>exact slicePart_int h
theorem rj{sl:Addr}{vl vu:Value}{lo hi:Option Int}{n:Nat}{Q:Int×Int×Nat->ak->Prop}(hs:s.heap.IsSliceOf sl vl vu .none)(pl:yc vl lo)(pu:yc vu hi)
  (h:Q (((iZ n 0 lo:Nat):Int),1,iZ n n hi-iZ n 0 lo) s):wpAny (aR prog w) A (Builtin.Slice.sliceApplied (.ref sl) (pure (n:Int))) Q E s:=by
 obtain⟨os,hos,hcs,hds⟩:=id hs;unfold Builtin.Slice.sliceApplied Builtin.Slice.sliceFields;refine aj (aj (kL hos hds (x:=vl) rfl (aj (kL hos hds (x:=vu) rfl (aj (kL hos hds (x:=.none) rfl (aK ?_)))))));refine aj (slicePart_none ?_);show wpAny _ _ (if ((1:Int)== 0)=true then _ else _) _ _ s;rw[if_neg ⋯]
 refine aj (ui pl (aj (ui pu (aj (aK ?_)))));show wpAny _ _ (match Builtin.Slice.sliceAdjust lo hi 1 (n:Int) with| (lo,hi)=>pure (lo,(1:Int),Builtin.Slice.slicePlaces lo hi 1)) _ _ s;rw[BG lo hi n]
 show wpAny _ _ (pure (((iZ n 0 lo:Nat):Int),(1:Int),Builtin.Slice.slicePlaces ((iZ n 0 lo:Nat):Int) ((iZ n n hi:Nat):Int) 1)) _ _ s
 rw[BH]
 exact aK h
theorem Gh(xs:Array Value)(i k:Nat):((cx k).filterMap λ(m:Nat)=>xs[((i:Int)+(m:Int)*1).toNat]?).toArray=((xs.toList.drop i).take k).toArray:=by
 have e:(λ(m:Nat)=>xs[((i:Int)+(m:Int)*1).toNat]?)=λm=>xs[i+m]?:=by
  funext m
  have:((i:Int)+(m:Int)*1).toNat=i+m:=∅
  rw[this]
 rw[e]
 have:=pick_run xs i k;rw[qQ] at this;have e2:((λx=>xs[x]?)∘λx=>i+x)=λm=>xs[i+m]?:=rfl
 rw[e2] at this;rw[this]
theorem qo{t sl:Addr}{items:Array Value}{vl vu:Value}{lo hi:Option Int}{Q:Value->ak->Prop}(ht:IsTup s.heap t items)(hs:s.heap.IsSliceOf sl vl vu .none)(pl:yc vl lo)(pu:yc vu hi)
  (hw:¬(iZ items.size 0 lo=0/\iZ items.size items.size hi=items.size))
  (h:Q (.ref s.heap.objs.size) {s with heap:=s.heap.push {cls:=.type "tuple",data:=.seq ((items.toList.drop (iZ items.size 0 lo)).take (iZ items.size items.size hi-iZ items.size 0 lo)).toArray} })
  (hsz:items.size<=sizeLine):wpAny (aR prog w) A (vK (.ref t) (.ref sl)) Q E s:=by
 have htake:sizeOk (.seq ((items.toList.drop (iZ items.size 0 lo)).take (iZ items.size items.size hi-iZ items.size 0 lo)).toArray):=by
  show((items.toList.drop (iZ items.size 0 lo)).take (iZ items.size items.size hi-iZ items.size 0 lo)).toArray.size<=sizeLine
  rw[aC,gT,jE,pK]
  omega
 have hj:iZ items.size items.size hi<=items.size:=NS _ _ (ax _) hi;obtain⟨os,hos,hcs,hds⟩:=id hs;have hTs:s.TypeIs (.ref sl) "slice":=#[os,hos,hcs]
 unfold vK;try with_reducible refine gQ ?_
 first|refine aj (aK ?_)|skip
 refine aj (wpAny_sequenceKey ht.typeIs ⋯ ?_);refine aj (wpAny_callSpecial?_slot (name:=b8 "__getitem__") ht.typeIs iF
  (wpAny_call_entry iF ht.typeIs entry_tuple_getitem ?_ (args_tuple_getitem _ _)))
 show wpAny _ _ (Builtin.Tuple.tupleItemsOf (.ref t)>>=_) _ _ s
 refine aj (tupleItemsOf_ ht ?_);refine aj (FL hTs ?_);rw[if_pos ⋯]
 refine aj (rj hs pl pu ?_);have hno:¬((((iZ items.size 0 lo:Nat):Int)== 0&&(1:Int)== 1&&(iZ items.size items.size hi-iZ items.size 0 lo)== items.size)=true):=by
  intro q;rw[af,af] at q;have q1:((iZ items.size 0 lo:Nat):Int)=0:=eq_of_beq q.1.1;have q2:iZ items.size items.size hi-iZ items.size 0 lo=items.size:=eq_of_beq q.2;exact hw #[∅,∅]
 show wpAny _ _ (if (((iZ items.size 0 lo:Nat):Int)== 0&&(1:Int)== 1&&(iZ items.size items.size hi-iZ items.size 0 lo)== items.size)=true then _ else _) _ _ s
 rw[if_neg hno,Gh]
 first
  |exact aj (m:=Builtin.Tuple.tupleExact _) (gU (aK #[_,rfl,aK h]) htake)
  |exact aj (m:=Builtin.Tuple.tupleExact _) (gU (aj (aK (aK #[_,rfl,aK h]))) htake)
  |exact aj (aj (m:=Builtin.Tuple.tupleExact _) (gU (aK (aK #[_,rfl,aK h])) htake))
  |exact aj (aj (m:=Builtin.Tuple.tupleExact _) (gU (aK #[_,rfl,aK h]) htake))
end
end HT
namespace L2
open PySem PySem.Spec PyProof.Rows
abbrev TO:=St->Hp->(Option Int->Hp->Prop)->Prop
def PO(X:Cx)(e:Option Expr)(t:TO):Prop:=
 ∀(pZ:List (Addr×Obj))(s:ak)(σ:St)(H:Hp)(Q:Option Int->Hp->Prop),Inv X pZ σ H s->t σ H Q ->
  wpAny (aR X.prog X.w) X.A (evalPart e X.env) (λu s'=>∃o H',Inv X pZ σ H' s'/\yc u o/\Q o H') X.xe s
noncomputable def J4:TO:=λ_ H Q=>Q none H
noncomputable def RB(t:TE):TO:=λσ H Q=>t σ H λx H1=>∃i,x=.int i/\Q (some i) H1
section
variable{X:Cx}{e:Expr}{te:TE}{lo hi:Option Expr}{tl th:TO}{pos p2:Pos}
theorem Ka:PO X none J4:=by
 intro pZ s σ H Q I h;rw[evalPart_none]
 exact aK #[none,H,I,.none,h]
theorem Kb(h:PE X e te):PO X (some e) (RB te):=by
 intro pZ s σ H Q I hw;rw[evalPart_some]
 refine fh (h pZ s σ H _ I hw) λu s1 h9=>?_
 obtain⟨x,H1,I1,r1,q1⟩:=h9;obtain⟨i,rfl,q⟩:=q1;obtain⟨t,rfl⟩:=r1;exact#[some i,H1,I1,.int i t,q]
def RC(X:Cx)(r:V->Option Int->Option Int->Hp->VK->Prop):Prop:=
 ∀(pZ:List (Addr×Obj))(s:ak)(σ:St)(H:Hp)(x:V)(v vl vu:Value)(lo hi:Option Int)(sl:Addr)(Q:VK),Inv X pZ σ H s->RelV x v->s.heap.IsSliceOf sl vl vu .none->yc vl lo->yc vu hi->r x lo hi H Q ->
  ∃T id,t4 (.type T) "__getitem__"=pure (some (.builtin id))/\s.TypeIs v T/\wpAny (aR X.prog X.w) X.A (vK v (.ref sl)) (EP X pZ σ Q) X.xe s
def YQ(r:V->Option Int->Option Int->Hp->VK->Prop)(te:TE)(tl th:TO):TE:=λσ H Q=>te σ H λx H1=>tl σ H1 λl H2=>th σ H2 λu H3=>r x l u H3 Q
theorem Gi{r:V->Option Int->Option Int->Hp->VK->Prop}(hr:RC X r)(he:PE X e te)(hl:PO X lo tl)(hu:PO X hi th):PE X (.Subscript e (.Slice lo hi none p2) pos) (YQ r te tl th):=by
 intro pZ s σ H Q I h;refine Subscript_ (fh (he pZ s σ H _ I h) λv s1 h9=>?_);obtain⟨x,H1,I1,r1,q1⟩:=h9;refine wpAny_Slice (fh (hl pZ s1 σ H1 _ I1 q1) λvl s2 h9=>?_);obtain⟨l,H2,I2,pl,q2⟩:=h9;refine fh (hu pZ s2 σ H2 _ I2 q2) λvu s3 h9=>?_
 obtain⟨u,H3,I3,pu,q3⟩:=h9;rw[evalPart_none]
 refine aK ?_;have I4:Inv X pZ σ H3 {s3 with heap:=s3.heap.push {cls:=.type "slice",data:=.fields (List.toArray [vl,vu,.none])} }:=I3.kept (t':=s3.toks) λb ob q=>aA _ q
 obtain⟨T,id,hT,ht,hg⟩:=hr pZ {s3 with heap:=s3.heap.push {cls:=.type "slice",data:=.fields (List.toArray [vl,vu,.none])} } σ H3 x v vl vu l u s3.heap.objs.size Q I4 r1 (Heap.IsSliceOf.new ..) pl pu q3;show wpAny (aR X.prog X.w) X.A (subscriptTail e (.Slice lo hi none p2) v (.ref s3.heap.objs.size)) (EP X pZ σ Q) X.xe {s3 with heap:=s3.heap.push {cls:=.type "slice",data:=.fields (List.toArray [vl,vu,.none])} };exact tail_any (ops:=[.ref s3.heap.objs.size,v]) ht hT hg (by with_unfolding_all rfl)
noncomputable def zZ(xs:List V)(lo hi:Option Int):List V:=(xs.drop (HT.iZ xs.length 0 lo)).take (HT.iZ xs.length xs.length hi-HT.iZ xs.length 0 lo)
theorem sk(xs:List V)(lo hi:Option Int):(zZ xs lo hi).length<=xs.length:=by
 unfold zZ;rw[gT,jE]
 omega
def VZ(K:aE):V->Option Int->Option Int->Hp->VK->Prop:=λx lo hi H Q=>∃a xs,x=.ref a/\lS K H a xs /\
 ¬(HT.iZ xs.length 0 lo=0/\HT.iZ xs.length xs.length hi=xs.length)/\∀p,H p=none->Q (.ref p) (upd H p (.tup (zZ xs lo hi)))
theorem NT:RC X (VZ X.K):=by
 intro pZ s σ H x v vl vu lo hi sl Q I rx hs pl pu h;obtain⟨a,xs,rfl,hx,hw,q⟩:=h;cases rx;obtain⟨its,r,ht,hz⟩:=I.tuple hx;have hlen:its.toArray.size=xs.length:=by rw[aC];exact r.length.symm
 refine#["tuple",_,iF.lookup,ht.typeIs,?_];refine HT.qo ht hs pl pu (by rw[hlen];exact hw) ?_ (by rw[hlen];exact hz);rw[hlen]
 refine#[.ref s.heap.objs.size,_,I.laid (t':=s.toks) (o:=.tup (zZ xs lo hi)) (λb ob q=>aA _ q) (ax _) ?_,rfl,q _ (I.dg.fresh (ax _))];exact#[aS (sk xs lo hi) hz,_,(r.drop (HT.iZ xs.length 0 lo)).take (HT.iZ xs.length xs.length hi-HT.iZ xs.length 0 lo),FN _ _]
noncomputable def RD(K:aE):R2:=λx y H Q=>∃a b xs ys,x=.ref a/\y=.ref b/\lS K H a xs/\lS K H b ys/\xs≠[]/\xs.length+ys.length<=sizeLine /\
 (ys=[]->Q (.ref a) H)/\(ys≠[]->∀p,H p=none->Q (.ref p) (upd H p (.tup (xs++ys))))
theorem Vals.yz{xs:List V}{us:List Value}(r:Vals xs us):us=[]↔xs=[]:=by
 cases r with
 |nil=>simp
 |cons _ _=>simp
theorem Kc:gu X (cy .Add) (RD X.K):=by
 intro pZ s σ H x y v u Q I rx ry h;obtain⟨a,b,xs,ys,rfl,rfl,ha,hb,hx,hz,q1,q2⟩:=h;cases rx;cases ry;obtain⟨its,r1,p1,_⟩:=I.tuple ha;obtain⟨its2,r2,p2,_⟩:=I.tuple hb;refine HT.J2 p1 p2 (λz=>hx (r1.yz.mp z)) (λz=>#[.ref a,H,I,rfl,q1 (r2.yz.mp z)]) (λz=>?_) (by rw[<-r1.length,<-r2.length];exact hz);refine#[.ref s.heap.objs.size,_,I.laid (t':=s.toks) (o:=.tup (xs++ys)) (λb ob q=>aA _ q) (ax _) ?_,rfl,q2 (λw=>z (r2.yz.mpr w)) _ (I.dg.fresh (ax _))];exact#[by rw[aB];exact hz,_,r1.append r2,FN _ _]
end
noncomputable def NU(n:Nat)(i:Int):Option Nat:=if 0<=i then(if i<n then some i.toNat else none) else if -(n:Int)<=i then some (i+n).toNat else none
noncomputable def NV{α:Type}(xs:List α)(i:Int):Option α:=(NU xs.length i).bind λj=>xs[j]?
theorem C3{n:Nat}{i:Int}{j:Nat}(h:NU n i=some j):seqIndex? i n=some j/\j<n/\-(n:Int)<=i/\i<n:=by
 unfold NU at h;by_cases h0:0<=i
 .rw[if_pos h0] at h
  by_cases h1:i<n
  .rw[if_pos h1] at h
   have e:i.toNat=j:=aH h;exact#[by rw[JA h0 h1,e],∅,∅,h1]
  .rw[if_neg h1] at h;cases h
 .rw[if_neg h0] at h
  by_cases h1:-(n:Int)<=i
  .rw[if_pos h1] at h
   have e:(i+n).toNat=j:=aH h;exact#[by rw[FO ∅ h1,e],∅,h1,∅]
  .rw[if_neg h1] at h;cases h
theorem yA{α:Type}{xs:List α}{i:Int}{v:α}(h:NV xs i=some v):∃j,seqIndex? i xs.length=some j/\xs[j]?=some v/\j<xs.length/\-(xs.length:Int)<=i/\i<xs.length:=by
 unfold NV at h;cases e:NU xs.length i with
 |none=>rw[e] at h;cases h
 |some j=>
  rw[e] at h;obtain⟨h1,h2,h3,h4⟩:=C3 e;exact#[j,h1,h,h2,h3,h4]
def C4(b:Expr):Prop:=∀o i,subscripted b false o i=operate [o,i] (vK o i)
def QE(X:Cx)(r:R2):Prop:=
 ∀(value slice:Expr)(pZ:List (Addr×Obj))(s:ak)(σ:St)(H:Hp)(x y:V)(v u:Value)(Q:VK),Inv X pZ σ H s->RelV x v->RelV y u->r x y H Q ->
  subscripted slice false v u=operate [v,u] (vK v u)->wpAny (aR X.prog X.w) X.A (subscriptTail value slice v u) (EP X pZ σ Q) X.xe s
def FC(X:Cx)(id:String)(r:V->List V->Hp->VK->Prop):Prop:=
 ∀(pZ:List (Addr×Obj))(s:ak)(σ:St)(H:Hp)(x:V)(xs:List V)(v:Value)(us:List Value)(Q:VK),Inv X pZ σ H s->RelV x v->Vals xs us->r x xs H Q ->
  wpAny (aR X.prog X.w) X.A (call (.builtin id) (v::us)) (EP X pZ σ Q) X.xe s
section
variable{X:Cx}{a b:Expr}{ta tb:TE}{pos:Pos}
theorem RE{r:R2}(hr:QE X r)(ha:PE X a ta)(hb:PE X b tb)(hs:C4 b):PE X (.Subscript a b pos) (U5 r ta tb):=by
 intro pZ s σ H Q I h;exact Subscript_ (Nw ha hb I h λv u s2 x y H2 I2 rx ry q=>hr a b pZ s2 σ H2 x y v u Q I2 rx ry q (hs _ _))
noncomputable def V0(K:aE):R2:=λx y H Q=>∃p xs i v,x=.ref p/\y=.int i/\gF K H p xs/\NV xs i=some v/\Q v H
noncomputable def V1(K:aE):R2:=λx y H Q=>∃p xs i v,x=.ref p/\y=.int i/\lS K H p xs/\NV xs i=some v/\Q v H
noncomputable def V2:R2:=λx y H Q=>∃z i c,x=.str z/\y=.int i/\z.length<=sizeLine/\NV z.cps.toList i=some c/\Q (.str #[(List.toArray [c])]) H
theorem C5:QE X (V0 X.K):=by
 intro value slice pZ s σ H x y v u Q I rx ry h hs;obtain⟨p,xs,i,z,rfl,rfl,hq,he,q⟩:=h;cases rx;obtain⟨t,rfl⟩:=ry;obtain⟨its,r,pl,hz⟩:=I.list hq;obtain⟨j,h1,h2,h3,h4,h5⟩:=yA he;obtain⟨w,ew,rw'⟩:=r.get h2;have hl:=r.length;have hn:=n8;have fin:EP X pZ σ Q w s:=#[z,H,I,rw',q]
 by_cases h0:0<=i
 .have hj:i.toNat=j:=by
   rw[JA h0 h5] at h1;exact aH h1
  exact item_listR pl.isList h0 ∅ (by rw[hj];simpa using ew) fin hs
 .have hj:(i+(its.toArray.size:Int)).toNat=j:=by
   rw[FO ∅ h4] at h1;rw[aC,<-hl]
   exact aH h1
  exact FP (x:=w) pl.isList.typeIs slot_list_getitem.lookup
   (wpAny_getItem_list_neg (Q:=λr s'=>r=w/\EP X pZ σ Q r s') pl.isList ∅ (by rw[aC]<;>omega) ∅ (by rw[hj];simpa using ew) #[rfl,fin]) hs
theorem NW:QE X (V1 X.K):=by
 intro value slice pZ s σ H x y v u Q I rx ry h hs;obtain⟨p,xs,i,z,rfl,rfl,hq,he,q⟩:=h;cases rx;obtain⟨t,rfl⟩:=ry;obtain⟨its,r,pl,hz⟩:=I.tuple hq;obtain⟨j,h1,h2,h3,h4,h5⟩:=yA he;obtain⟨w,ew,rw'⟩:=r.get h2;have hl:=r.length;have hn:=n8;have fin:EP X pZ σ Q w s:=#[z,H,I,rw',q]
 exact FP (x:=w) pl.typeIs slot_tuple_getitem.lookup
  (getItem_tuple (j:=j) (Q:=λr s'=>r=w/\EP X pZ σ Q r s') pl ∅ ∅ (by rw[aC,<-hl];exact h1) (by simpa using ew) #[rfl,fin]) hs
theorem NX:QE X V2:=by
 intro value slice pZ s σ H x y v u Q I rx ry h hs;obtain⟨z,i,c,rfl,rfl,hz,he,q⟩:=h;obtain⟨t,rfl⟩:=rx;obtain⟨t',rfl⟩:=ry;obtain⟨j,h1,h2,h3,h4,h5⟩:=yA he;have hl:z.cps.toList.length=z.length:=by simp[FQ]
 rw[hl] at h1 h4 h5;have hn:=n8;exact tail_any (typeIs_str s z t) slot_str_getitem.lookup (getItem_str (c:=c) (by
  have e1:decide (i < -(2^63:Int))=false:=decide_eq_false ∅;have e2:decide (i≥2^63)=false:=decide_eq_false ∅;rw[e1,e2,Bool.or_false]) (by rw[h1];simpa using h2) #[.str #[(List.toArray [c])],H,I.tok _,#[_,rfl],q]) hs
theorem BI(its:List Value)(n j:Nat)(u:Value):qW (·.setIfInBounds j u) {cls:=.type "list",data:=.seq its.toArray n}= {cls:=.type "list",data:=.seq (its.set j u).toArray n}:=by
 simp[qW]
theorem Inv.lst{pZ:List (Addr×Obj)}{σ:St}{H:Hp}{s:ak}{p:Addr}{xs:List V}(I:Inv X pZ σ H s)(h:H p=some (.lst xs)):
  ∃(its:List Value)(n:Nat),Vals xs its/\s.heap.get? p=some {cls:=.type "list",data:=.seq its.toArray n}/\xs.length<=sizeLine:=by
 obtain⟨z,its,n,r,e⟩:=I.dg p _ h;exact#[its,n,r,e,z]
theorem Inv.NY{pZ:List (Addr×Obj)}{σ:St}{H:Hp}{s:ak}{p:Addr}{xs ys:List V}{its its':List Value}{n n':Nat}{f:Obj->Obj}(I:Inv X pZ σ H s)(h:H p=some (.lst xs))
  (ho:s.heap.get? p=some {cls:=.type "list",data:=.seq its.toArray n}) (hf:f {cls:=.type "list",data:=.seq its.toArray n}= {cls:=.type "list",data:=.seq its'.toArray n'}) (r:Vals ys its') (hz:ys.length<=sizeLine) (t:Nat):
  Inv X pZ σ (upd H p (.lst ys)) {s with heap:=s.heap.update p f,toks:=t}:=by
 have e:(s.heap.update p f).get? p=some {cls:=.type "list",data:=.seq its'.toArray n'}:=by
  rw[dX f ho (by rw[hf]<;>rfl),hf]
 refine I.write (x:=p) (e:=p) (by rw[h];trivial) (.inl rfl) (λb u hb q=>(nV _ _ (dJ hb)).trans q) #[_,e] ?_;exact#[hz,its',n',r,e]
def RF:V->V->V->Hp->(Hp->Prop)->Prop:=λo i v H Q=>∃p xs k j,o=.ref p/\i=.int k/\H p=some (.lst xs)/\NU xs.length k=some j/\Q (upd H p (.lst (xs.set j v)))
theorem set_list:Rb X RF:=by
 intro pZ s σ H o i v ov iv u Q I ro ri rv h;obtain⟨p,xs,k,j,rfl,rfl,hp,hj,q⟩:=h;cases ro;obtain⟨t,rfl⟩:=ri;obtain⟨its,n,r,ho,hz⟩:=I.lst hp;obtain⟨h1,h2,h3,h4⟩:=C3 hj;have hl:=r.length;have hn:=n8;have I':Inv X pZ σ (upd H p (.lst (xs.set j v))) {s with heap:=s.heap.update p (qW (·.setIfInBounds j u))}:=
  I.NY hp ho (BI its n j u) (r.set rv j) (by rw[cY];exact hz) s.toks
 by_cases h0:0<=k
 .have hk:k.toNat=j:=by
   rw[JA h0 h4] at h1;exact aH h1
  exact PySem.W.ki_setAt ho h0 ∅ (by rw[aC,<-hl];exact h4) (by rw[hk];exact#[_,I',q])
 .have hk:(k+(its.toArray.size:Int)).toNat=j:=by
   rw[FO ∅ h3] at h1;rw[aC,<-hl]
   exact aH h1
  exact PySem.W.ki_setBack ho ∅ (by rw[aC,<-hl];exact h3) ∅ (by rw[hk];exact#[_,I',q])
theorem yB(lo hi:Option Int)(n:Nat):(kM lo hi none n).1=((HT.iZ n 0 lo:Nat):Int)/\(kM lo hi none n).2.1=((HT.iZ n n hi:Nat):Int)/\(kM lo hi none n).2.2=1:=by
 refine#[?_,?_,rfl]
 .cases lo with
  |none=>simp[kM,HT.iZ]
  |some i=>
   simp only[kM,HT.iZ,jc,show(1:Int)>0 by decide,if_true];by_cases h:i<0
   .simp only[h,if_true]<;>omega
   .simp only[h,if_false]<;>omega
 .cases hi with
  |none=>simp[kM,HT.iZ]
  |some i=>
   simp only[kM,HT.iZ,jc,show(1:Int)>0 by decide,if_true];by_cases h:i<0
   .simp only[h,if_true]<;>omega
   .simp only[h,if_false]<;>omega
theorem vQ(its:List Value)(lo hi:Option Int):slicePick its.toArray lo hi none=((its.drop (HT.iZ its.length 0 lo)).take (HT.iZ its.length its.length hi-HT.iZ its.length 0 lo)).toArray:=by
 obtain⟨h1,h2,h3⟩:=yB lo hi its.toArray.size;unfold slicePick;rw[h1,h2,h3]
 simp only[sliceRange_one,pick_run,aC]<;>rfl
def V3(K:aE):V->Option Int->Option Int->Hp->VK->Prop:=λx lo hi H Q=>∃a xs,x=.ref a/\gF K H a xs/\∀p,H p=none->Q (.ref p) (upd H p (.lst (zZ xs lo hi)))
theorem Kd:RC X (V3 X.K):=by
 intro pZ s σ H x v vl vu lo hi sl Q I rx hs pl pu h;obtain⟨a,xs,rfl,hx,q⟩:=h;cases rx;obtain⟨its,r,ht,hz⟩:=I.list hx;have hlen:=r.length;refine#["list",_,slot_list_getitem.lookup,ht.isList.typeIs,?_];refine wpAny_getItem_list_slice ht.isList hs pl pu .none (by simp) ?_ (by rw[aC]<;>omega);rw[vQ,<-hlen]
 refine#[.ref s.heap.objs.size,_,I.laid (t':=s.toks) (o:=.lst (zZ xs lo hi)) (λb ob q=>aA _ q) (ax _) ?_,rfl,q _ (I.dg.fresh (ax _))];exact#[aS (sk xs lo hi) hz,_,0,(r.drop (HT.iZ xs.length 0 lo)).take (HT.iZ xs.length xs.length hi-HT.iZ xs.length 0 lo),bz _ rfl]
noncomputable def pF:V->Bool
 |.bK=>true
 |.bl _=>true
 |.int _=>true
 |.str _=>true
 |_=>false
noncomputable def Ke:V->V->Bool
 |.bK,.bK=>true
 |.bl a,.bl b=>a==b
 |.bl a,.int b=>(if a then 1 else 0)== b
 |.int a,.bl b=>a==(if b then 1 else 0)
 |.int a,.int b=>a==b
 |.str a,.str b=>a==b
 |_,_=>false
theorem NZ{A:cA}{s:ak}{y x:V}{u v:Value}(ry:RelV y u)(rx:RelV x v)(fy:pF y=true)(fx:pF x=true):vL A s u v (Ke y x):=by
 cases y with
 |bK=>
  cases ry;cases x with
  |bK=>cases rx;exact l9 _
  |bl b=>cases rx;exact wo b
  |int b=>obtain⟨t,rfl⟩:=rx;exact yd b t
  |str b=>obtain⟨t,rfl⟩:=rx;exact ye b t
  |_=>exact absurd (show false=true from fx) aX
 |bl a=>
  cases ry;cases x with
  |bK=>cases rx;exact wq a
  |bl b=>cases rx;exact wt a b
  |int b=>obtain⟨t,rfl⟩:=rx;exact yf a b t
  |str b=>obtain⟨t,rfl⟩:=rx;exact yg a b t
  |_=>exact absurd (show false=true from fx) aX
 |int a=>
  obtain⟨t',rfl⟩:=ry;cases x with
  |bK=>cases rx;exact yh a t'
  |bl b=>cases rx;exact yi a t' b
  |int b=>obtain⟨t,rfl⟩:=rx;exact zE a t' b t
  |str b=>obtain⟨t,rfl⟩:=rx;exact oF a t' b t
  |_=>exact absurd (show false=true from fx) aX
 |str a=>
  obtain⟨t',rfl⟩:=ry;cases x with
  |bK=>cases rx;exact yj a t'
  |bl b=>cases rx;exact yk a t' b
  |int b=>obtain⟨t,rfl⟩:=rx;exact oG a t' b t
  |str b=>obtain⟨t,rfl⟩:=rx;exact zF a t' b t
  |_=>exact absurd (show false=true from fx) aX
 |_=>exact absurd (show false=true from fy) aX
noncomputable def BJ(x:V)(u:Value):Bool:=match u with
 |.none=>Ke .bK x
 |.bool b=>Ke (.bl b) x
 |.int i _=>Ke (.int i) x
 |.str z _=>Ke (.str z) x
 |_=>false
theorem Gj{x y:V}{u:Value}(r:RelV y u)(f:pF y=true):BJ x u=Ke y x:=by
 cases y with
 |bK=>cases r;rfl
 |bl b=>cases r;rfl
 |int i=>obtain⟨t,rfl⟩:=r;rfl
 |str z=>obtain⟨t,rfl⟩:=r;rfl
 |_=>exact absurd (show false=true from f) aX
theorem qp{x:V}:∀{xs:List V}{us:List Value},Vals xs us->xs.all pF=true->us.any (BJ x)=xs.any λy=>Ke y x
 |_,_,.nil,_=>rfl
 |y::xs,u::us,.cons r t,f=>by
  rw[bp,af] at f;rw[cR,cR,Gj r f.1,qp t f.2]
theorem og{A:cA}{s:ak}{x:V}{v:Value}(rx:RelV x v)(fx:pF x=true):∀{xs:List V}{us:List Value},Vals xs us->xs.all pF=true->∀u∈us,vL A s u v (BJ x u)
 |_,_,.nil,_=>λu hu=>by cases hu
 |y::xs,u::us,.cons r t,f=>λu' hu=>by
  rw[bp,af] at f;rcases bg.mp hu with rfl|hu
  .rw[Gj r f.1];exact NZ r rx f.1 fx
  .exact og rx fx t f.2 u' hu
noncomputable def U6(x:V)(xs:List V):Bool:=xs.any λy=>Ke y x
noncomputable def Xx(K:aE)(neg:Bool):R2:=λx y H Q=>∃p xs,y=.ref p/\(gF K H p xs\/lS K H p xs)/\pF x=true/\xs.all pF=true/\Q (.bl (if neg then !U6 x xs else U6 x xs)) H
theorem wQ:gu X (bD .In) (Xx X.K false):=by
 intro pZ s σ H x y v u Q I rx ry h;obtain⟨p,xs,rfl,hq,fx,fs,q⟩:=h;cases ry;rcases hq with hq|hq
 .obtain⟨its,r,pl,hz⟩:=I.list hq
  refine SeqAt.in_listAt (BJ x) pl.isList (λw hw=>og rx fx r fs w (by simpa using hw)) #[.bl _,H,I,rfl,?_];rw[show its.toArray.any (BJ x)=its.any (BJ x) by simp,qp r fs]
  exact q
 .obtain⟨its,r,pl,hz⟩:=I.tuple hq
  refine SeqAt.in_tupleAt (BJ x) pl (λw hw=>og rx fx r fs w (by simpa using hw)) #[.bl _,H,I,rfl,?_];rw[show its.toArray.any (BJ x)=its.any (BJ x) by simp,qp r fs]
  exact q
theorem qr:gu X (bD .NotIn) (Xx X.K true):=by
 intro pZ s σ H x y v u Q I rx ry h;obtain⟨p,xs,rfl,hq,fx,fs,q⟩:=h;cases ry;rcases hq with hq|hq
 .obtain⟨its,r,pl,hz⟩:=I.list hq
  refine D1 (BJ x) pl.isList (λw hw=>og rx fx r fs w (by simpa using hw)) #[.bl _,H,I,rfl,?_];rw[show its.toArray.any (BJ x)=its.any (BJ x) by simp,qp r fs]
  exact q
 .obtain⟨its,r,pl,hz⟩:=I.tuple hq
  refine SeqAt.notIn_tupleAt (BJ x) pl (λw hw=>og rx fx r fs w (by simpa using hw)) #[.bl _,H,I,rfl,?_];rw[show its.toArray.any (BJ x)=its.any (BJ x) by simp,qp r fs]
  exact q
theorem yC:gu X (bD .NotIn) (λx y H Q=>∃i j,x=.str i/\y=.str j/\Q (.bl (!(!(Builtin.Str.occurrences j i 0 j.length 1).isEmpty))) H):=by
 intro pZ s σ H x y v u Q I rx ry h;obtain⟨i,j,rfl,rfl,q⟩:=h;obtain⟨t,rfl⟩:=rx;obtain⟨t',rfl⟩:=ry;exact notIn_str #[.bl _,H,I,rfl,q]
theorem qt:i5 X (.type "list") (λxs H Q=>∃p ys,xs=[.ref p]/\(gF X.K H p ys\/lS X.K H p ys)/\∀l,H l=none->Q (.ref l) (upd H l (.lst ys))):=by
 intro pZ s σ H xs us Q I r h;obtain⟨p,ys,rfl,hq,q⟩:=h;obtain⟨u,rfl,rx⟩:=vals1 r;cases rx;have fin:∀(its:List Value),Vals ys its->ys.length<=sizeLine->∀(h':Heap)(c':Nat),(∀b o',s.heap.get? b=some o'->h'.get? b=some o') ->
   h'.get? s.heap.objs.size=some {cls:=.type "list",dict:=none,data:=.seq its.toArray c',slots:=#[]}->EP X pZ σ Q (.ref s.heap.objs.size) {s with heap:=h'}:=λits r' hz h' c' kp e=>
  #[.ref s.heap.objs.size,_,I.laid (t':=s.toks) kp (ax _) (show eL X.prog X.w _ h' _ (.lst ys) from #[hz,its,c',r',e]),rfl,q _ (I.dg.fresh (ax _))]
 rcases hq with hq|hq
 .obtain⟨its,r',pl,hz⟩:=I.list hq
  have hlen:=r'.length;obtain⟨o,ho,hc,n,hd⟩:=pl.isList;exact call_list_seq p (.inl rfl) ho hc hd (λh' c' kp e=>fin its r' hz h' c' kp e) (by simp only[aC]<;>omega)
 .obtain⟨its,r',pl,hz⟩:=I.tuple hq
  have hlen:=r'.length;obtain⟨o,ho,hc,n,hd⟩:=pl;exact call_list_seq p (.inr rfl) ho hc hd (λh' c' kp e=>fin its r' hz h' c' kp e) (by simp only[aC]<;>omega)
theorem vR:i5 X (.type "tuple") (λxs H Q=>∃p ys,xs=[.ref p]/\((gF X.K H p ys/\∀l,H l=none->Q (.ref l) (upd H l (.tup ys)))\/(lS X.K H p ys/\Q (.ref p) H))):=by
 intro pZ s σ H xs us Q I r h;obtain⟨p,ys,rfl,h⟩:=h;obtain⟨u,rfl,rx⟩:=vals1 r;cases rx;rcases h with⟨hq,q⟩|⟨hq,q⟩
 .obtain⟨its,r',pl,hz⟩:=I.list hq
  have hlen:=r'.length;refine call_tuple_list pl.isList (λh' kp=>?_) (by simp only[aC]<;>omega);have I1:Inv X pZ σ H {s with heap:=h'}:=I.kept (t':=s.toks) kp;have I2:Inv X pZ σ (upd H h'.objs.size (.tup ys)) {s with heap:=h'.push {cls:=.type "tuple",data:=.seq its.toArray} }:=
   I1.laid (t':=s.toks) (λb o e=>aA _ e) (ax _) (show eL X.prog X.w _ _ _ (.tup ys) from #[hz,its,r',FN _ _])
  exact#[.ref h'.objs.size,_,I2,rfl,q _ (I1.dg.fresh (ax _))]
 .obtain⟨its,r',pl,hz⟩:=I.tuple hq
  exact call_tuple_same pl #[.ref p,H,I,rfl,q]
def U7(K:aE)(T:String)(x:V)(H:Hp):Prop:=match x with
 |.str _=>T="str"
 |.int _=>T="int"
 |.ref p=>(T="list"/\∃xs,gF K H p xs)\/(T="tuple"/\∃o,K.lookup p=some o/\o.cls=.type "tuple"/\o.dict=none) \/
   (T="dict"/\((∃kvs,H p=some (.dK kvs))\/∃kvs,H p=some (.dT kvs)))\/(T="set"/\∃S n,H p=some (.set S n))
 |_=>False
theorem Gk{pZ:List (Addr×Obj)}{σ:St}{H:Hp}{s:ak}{T:String}{x:V}{v:Value}(I:Inv X pZ σ H s)(r:RelV x v)(ty:U7 X.K T x H):
  s.TypeIs v T/\∀a,v=.ref a->∃ob,s.heap.get? a=some ob/\ob.dict=none:=by
 cases x with
 |str z=>
  obtain⟨t,rfl⟩:=r;cases (show T="str" from ty);exact#[typeIs_str s z t,λ_ e=>nomatch e]
 |int i=>
  obtain⟨t,rfl⟩:=r;cases (show T="int" from ty);exact#[typeIs_int s i t,λ_ e=>nomatch e]
 |ref p=>
  cases r;rcases ty with⟨rfl,xs,hq⟩|⟨rfl,o,hk,hc,hd⟩|⟨rfl,hk⟩|⟨rfl,S,n,hk⟩
  .obtain⟨its,_,pl,_⟩:=I.list hq
   refine#[pl.isList.typeIs,λa e=>?_];cases e;obtain⟨o,n,e,c,hd,_⟩:=pl;exact#[o,e,hd]
  .refine#[#[o,I.kY p o hk,hc],λa e=>?_]
   cases e;exact#[o,I.kY _ o hk,hd]
  .have z:∃o,s.heap.get? p=some o/\o.ExactDict:=by
    rcases hk with⟨kvs,hk⟩|⟨kvs,hk⟩
    .obtain⟨_,_,_,_,o,_,_,e,ex,_⟩:=I.dg p _ hk
     exact#[o,e,ex]
    .obtain⟨_,_,_,_,o,_,_,e,ex,_⟩:=I.dg p _ hk
     exact#[o,e,ex]
   obtain⟨o,e,ex⟩:=z;refine#[#[o,e,ex.1],λa e2=>?_];cases e2;exact#[o,e,ex.2.1]
  .obtain⟨o,_,_,_,e,ex,_⟩:=I.dg p _ hk
   refine#[#[o,e,ex.1],λa e2=>?_];cases e2;exact#[o,e,ex.2.1]
 |_=>exact aI ty
def V4(K:aE)(T:String)(r:V->List V->Hp->VK->Prop)(to:TE):TE:=λσ H Q=>to σ H λx H1=>U7 K T x H1/\r x [] H1 Q
def Xy(K:aE)(T:String)(r:V->List V->Hp->VK->Prop)(to:TE)(t:TA):TE:=λσ H Q=>to σ H λx H1=>U7 K T x H1/\t σ H1 λxs H2=>r x xs H2 Q
variable{o e:Expr}{es:List Expr}{to:TE}{t:TA}{name:Str}{apos cpos:Pos}{T id:String}{r:V->List V->Hp->VK->Prop}
theorem N0(pa:PlainAttrs T)(slot:Slot T name id)(hty:typeOf (.builtin id)=pure (.type "method_descriptor"))(hm:FC X id r)(ho:PE X o to)
  (hbase:iY o name X.env (eval o X.env)=eval o X.env:=by rfl) (hline:(apos.endLine==cpos.line)=true:=by rfl):PE X (.Call (.Attribute o name apos) [] [] cpos) (V4 X.K T r to):=by
 intro pZ s σ H Q I h;refine wpAny_Call_method0_late hbase hline (fh (ho pZ s σ H _ I h) λv s1 h9=>?_);obtain⟨x,H1,I1,r1,ty,q1⟩:=h9;obtain⟨h1,h2⟩:=Gk I1 r1 ty;exact#[T,id,pa,slot,hty,h1,h2,nF rfl (PySem.evalArgs_none (hm pZ s1 σ H1 x [] v [] Q I1 r1 .nil q1))]
theorem z6(pa:PlainAttrs T)(slot:Slot T name id)(hty:typeOf (.builtin id)=pure (.type "method_descriptor"))(hm:FC X id r)(ho:PE X o to)(ha:PA X (e::es) t)
  (hbase:iY o name X.env (eval o X.env)=eval o X.env:=by rfl)
  (hfew:((iL cpos (bS (e::es) X.env)).all (λx=>!x.1)&&(backToKw cpos (kN [] X.env)).all (λx=>x.1.isSome)
   && decide ((e::es).length+([]:List r8).length+(if ([]:List r8).isEmpty then 0 else 1)<30))=true:=by rfl)
  (hline:(apos.endLine==cpos.line)=true:=by rfl) (hs:bS (e::es) X.env=(false,eval e X.env)::bS es X.env:=by rfl) (hplain:(iL cpos (bS es X.env)).any (·.1)=false:=by rfl):
  PE X (.Call (.Attribute o name apos) (e::es) [] cpos) (Xy X.K T r to t):=by
 intro pZ s σ H Q I h;refine wpAny_Call_method_late hbase hfew hline rfl (fh (ho pZ s σ H _ I h) λv s1 h9=>?_);obtain⟨x,H1,I1,r1,ty,q1⟩:=h9;obtain⟨h1,h2⟩:=Gk I1 r1 ty;refine#[T,id,pa,slot,hty,h1,h2,?_];have hA:=ha cpos pZ s1 σ H1 _ I1 q1;rw[hs] at hA ⊢;refine nF (by show(false||(iL cpos (bS es X.env)).any (·.1))=false;rw[hplain]<;>rfl) (Bj ?_);refine fh hA λus s2 h9=>?_
 obtain⟨vs,H2,I2,r2,q2⟩:=h9;exact hm pZ s2 σ H2 x vs v us Q I2 r1 r2 q2
end
def Xz(X:Cx)(id:String)(r:V->List V->Hp->VK->Prop):Prop:=
 ∀(pZ:List (Addr×Obj))(s:ak)(σ:St)(H:Hp)(x:V)(xs:List V)(v:Value)(us:List Value)(Q:VK),Inv X pZ σ H s->RelV x v->Vals xs us->r x xs H Q ->
  wpAny (aR X.prog X.w) X.A (call (.builtin id) (v::us)) (EP X pZ σ Q) X.xe s
theorem Vals.one:∀{x:V}{us:List Value},Vals [x] us->∃u,us=[u]/\RelV x u
 := by
 intro _ _ h;cases h with|cons r q=>cases q;exact#[_,rfl,r]
theorem Vals.two:∀{x y:V}{us:List Value},Vals [x,y] us->∃u v,us=[u,v]/\RelV x u/\RelV y v
 := by
 intro _ _ _ h;cases h with|cons r q=>cases q with|cons q q'=>cases q';exact#[_,_,rfl,r,q]
section
variable{X:Cx}{pZ:List (Addr×Obj)}{σ:St}{H:Hp}{s:ak}{l b:Addr}{xs ys zs:List V}
theorem Inv.RG{its its':List Value}{n:Nat}{f:Array Value->Array Value}{t':Nat}(I:Inv X pZ σ H s)(hH:H l=some (.lst xs))
  (e:s.heap.get? l=some {cls:=.type "list",data:=.seq its.toArray n}) (hf:f its.toArray=its'.toArray) (hv:Vals ys its') (hz:ys.length<=sizeLine):
  Inv X pZ σ (upd H l (.lst ys)) {s with heap:=s.heap.update l (qW f),toks:=t'}:=by
 have q:=PySem.IsL.update e f;rw[hf] at q;refine I.write (x:=l) (e:=l) (by rw[hH];exact trivial) (.inl rfl) (λb' u hb hu=>(nV s.heap (qW f) (dJ hb)).trans hu) #[_,q] ?_;exact#[hz,its',_,hv,q]
theorem Inv.RH{its:List Value}{t':Nat}(I:Inv X pZ σ H s)(hv:Vals ys its)(hz:ys.length<=sizeLine):
  Inv X pZ σ (upd H s.heap.objs.size (.lst ys)) {s with heap:=s.heap.push {cls:=.type "list",data:=.seq its.toArray},toks:=t'}:=
 I.laid (λ_ _ q=>aA _ q) (ax _) #[hz,its,0,hv,bz _ rfl]
theorem Inv.fresh(I:Inv X pZ σ H s):H s.heap.objs.size=none:=I.dg.fresh (ax _)
theorem Inv.Eu(I:Inv X pZ σ H s)(hH:H l=some (.lst xs)):xs.length<=sizeLine/\∃(its:List Value)(n:Nat),Vals xs its/\xs.length=its.length/\s.heap.get? l=some {cls:=.type "list",data:=.seq its.toArray n}:=by
 obtain⟨z,its,n,r,e⟩:=I.dg l _ hH;exact#[z,its,n,r,r.length,e]
theorem Gq{n:Nat}(h:n<=sizeLine):Builtin.List.listTooLong n=false:=by
 unfold Builtin.List.listTooLong;exact decide_eq_false ∅
end
section
variable{X:Cx}
def Kf:V->List V->Hp->VK->Prop:=λx vs H Q=>∃l xs y,x=.ref l/\vs=[y]/\H l=some (.lst xs)/\xs.length<sizeLine/\Q .bK (upd H l (.lst (xs++[y])))
theorem rk:Xz X "list.append" Kf:=by
 intro pZ s σ H x vs v us Q I rx rv h;obtain⟨l,xs,y,rfl,rfl,hH,hz,q⟩:=h;cases rx;obtain⟨u,rfl,ru⟩:=rv.one;obtain⟨z,its,n,r,hl,e⟩:=I.Eu hH;refine call_meets F.slot_list_append #[_,e,rfl] F.entry_list_append (F.args_list_append_2 _ _) (PySem.list_append l its.toArray n u (by rw[aC];omega)) #[e,?_];refine#[.bK,_,I.RG (its':=its++[u]) hH e (by simp) (r.append (.cons ru .nil)) ?_,rfl,q];rw[aB,fZ]
 omega
def Kg:V->List V->Hp->VK->Prop:=λx vs H Q=>∃l b xs zs,x=.ref l/\vs=[.ref b]/\H l=some (.lst xs)/\H b=some (.lst zs)/\xs.length+zs.length<=sizeLine/\Q .bK (upd H l (.lst (xs++zs)))
theorem wR:Xz X "list.extend" Kg:=by
 intro pZ s σ H x vs v us Q I rx rv h;obtain⟨l,b,xs,zs,rfl,rfl,hH,hB,hz,q⟩:=h;cases rx;obtain⟨u,rfl,ru⟩:=rv.one;cases ru;obtain⟨z,its,n,r,hl,e⟩:=I.Eu hH;obtain⟨z2,its2,n2,r2,hl2,e2⟩:=I.Eu hB;have hsz:its.toArray.size+its2.toArray.size<=sizeLine:=by rw[aC,aC];omega
 have hlong:¬(!its.toArray.isEmpty&&Builtin.List.listTooLong (its.toArray.size+its2.toArray.size))=true:=by
  rw[Gq hsz,wu]
  exact aX
 refine call_meets F.slot_list_extend #[_,e,rfl] F.entry_list_extend (F.args_list_extend_2 _ _)
  (AutoSeq1.list_extend_list_list_0 l its.toArray n b its2.toArray n2 hlong (by rw[aC];omega) ∅) #[e,e2,?_]
 refine#[.bK,_,I.RG (its':=its++its2) hH e (by simp) (r.append r2) ?_,rfl,q];rw[aB]
 omega
noncomputable def V5:R2:=λx y H Q=>∃l b xs zs,x=.ref l/\y=.ref b/\H l=some (.lst xs)/\H b=some (.lst zs)/\xs.length+zs.length<=sizeLine/\∀p,H p=none->Q (.ref p) (upd H p (.lst (xs++zs)))
theorem N1:gu X (cy .Add) V5:=by
 intro pZ s σ H x y v u Q I rx ry h;obtain⟨l,b,xs,zs,rfl,rfl,hH,hB,hz,q⟩:=h;cases rx;cases ry;obtain⟨z,its,n,r,hl,e⟩:=I.Eu hH;obtain⟨z2,its2,n2,r2,hl2,e2⟩:=I.Eu hB;refine PySem.P.add_list e e2 ?_ (by rw[aC,aC];omega);have ea:its.toArray++its2.toArray=(its++its2).toArray:=by simp
 rw[ea]
 exact#[.ref _,_,I.RH (t':=s.toks) (r.append r2) (by rw[aB];omega),rfl,q _ I.fresh]
end
end L2
namespace XA
open PySem PySem.W PySem.Calls PyProof.Rows
theorem sT{P:FR}{h:Heap}:∀(ns:List Int)(vs:List Value),WellAll P h vs (ns.map WData.int)->FT vs ns:=by
 intro ns;induction ns with
 |nil=>
  intro vs w;rw[A4] at w;cases w;exact .nil
 |cons n ns ih=>
  intro vs w;rw[aF] at w;cases w with
  |cons a b=>
   cases a;exact .cons _ _ (ih _ b)
theorem Ew{l:FU}{n:Nat}(hn:l.most=some n){P:FR}{h:Heap}{args:List WData}{vals:List Value}
  (hpre:l.row.toRowW.claim.pre args=true) (hwl:WellAll P h vals args):
  ∃a vs ns,vals=[aV a]/\args=[WData.list (ns.map WData.int)]/\h.get? a=some {cls:=.type "list",data:=.seq vs.toArray}/\FT vs ns/\ns.length<=n:=by
 have hsh:WShape.hasAll [] args [.list .int]=true:=(pre_splitW hpre).1;have hc:l.pre.holds [] {args:=args}= true:=(pre_splitW hpre).2;obtain⟨d,r,rfl,h1,h2⟩:=hasAllW_cons hsh;obtain rfl:=hasAllW_nil h2;obtain⟨xs,rfl,h3⟩:=hasW_list h1;obtain⟨ns,rfl⟩:=items_int h3;have hlen:ns.length<=n:=by
  unfold OpenLaw.pre at hc;have h4:(WTm.not (.lt (.lit (.int (n:Int))) (.len (.arg 0)))).holds [] {args:=[.list (ns.map .int)]}= true:=by
   have h4:=(holds_andW hc).1;rw[hn] at h4;exact h4
  have h5:=condW_of h4 (w_not (w_lt w_lit (w_len_list (w_arg rfl))));rw[aq] at h5;refine JB λq=>?_
  have q':(n:Int)<((ns.length:Nat):Int):=∅
  first
   | (rw[decide_eq_true q'] at h5;exact absurd h5 ⋯)
   | (simp at h5;omega)
 cases hwl with
 |cons w1 w2=>
  cases w2;cases w1 with
  |list ho hall=>exact#[_,_,ns,rfl,rfl,ho,sT ns _ hall,hlen]
theorem Ey(l:FU)(args:List WData):l.row.toRowW.claim.post args (.bool true) args=true:=
 postW_of (r:=l.row.toRowW) (X:=(true==true))
  (show WShape.has [] (.bool true) .bool=true by first|rfl|decide|simp[WShape.has,WShape.arms,WShape.armsAll])
  (show(WTm.eq .res (.lit (.bool true))).value [] {args:=args,res:=some (.bool true),after:=args}= some (.bool (true==true)) from w_eq_bool (w_res rfl) w_lit) rfl
theorem z7{l:FU}{n:Nat}{q:bC}{loose:List Str}{XP:(Str->Option Value)->Heap->Prop}{YP:bZ->Heap->Prop}{d:DefRec}
  (hn:l.most=some n) (hdf:d.params.defaults=[])
  (call:∀(w:bZ)(s₀ s₁:ak)(mg mb:Str->Option Value)(fa:Addr)(o:Obj)(pm cd doc:Value)(a:Addr)(vs:List Value)(ns:List Int),
   Ground q loose [] XP w s₀ mg mb s₁.heap->YP w s₁.heap ->
   s₁.heap.get? fa=some o->o.data=.func (docDef d.name d.params d.body d.scope pm cd doc)->s₁.heap.CodeRec cd d.name->mg d.name=some (.ref fa) ->
   s₁.heap.get? a=some {cls:=.type "list",data:=.seq vs.toArray}->FT vs ns->ns.length<=n->s₁.gens = #[] ->
   nU (aR l.prog w) vM (.call (.ref fa) #[[.ref a],[]]) (λr s'=>r=.ok (.ret (.bool true))/\OldK s₁.heap s'.heap/\s'.os=s₁.os/\nR s'.gens) s₁):
  WalkO q loose XP YP l.row.toRowW d [] (λf vs=>D3 f vs):=by
 intro w s₀ s₁ mg mb G Y fa o pm cd doc dV kV ho hd hcd hD hmg hg args vals as hpre hlay hrd hwl hlo;obtain rfl:dV=.none:=Dflts.none hD hdf;obtain rfl:kV=.none:=Dflts.noKw hD;obtain⟨a,vs,ns,rfl,rfl,hobj,hints,hlen⟩:=Ew hn hpre hwl;refine enter_call (md (call w s₀ s₁ mg mb fa o pm cd doc a vs ns G Y ho (fd_plain hd) hcd hmg hobj hints hlen hg) λr s' hq=>?_);obtain⟨rfl,h2,h3,h4⟩:=hq;exact#[.inl #[.bool true,.bool true,[],rfl,λ_=>rfl,.bool true,Ey l _,λ_=>#[List.Pairwise.nil,λ_ hm=>(nomatch hm)]],h2,h3,h4]
end XA
namespace L2
open PySem PySem.Spec PyProof.Rows
theorem wU:∀{vs:List Value}{ns:List Int},FT vs ns->Vals (ns.map V.int) vs
 |_,_,.nil=>.nil
 |_,_,.cons n t h=>.cons #[t,rfl] (wU h)
def Kh(H:Hp):Prop:=∀b,H b=none\/∃o xs,H b=some (.Bt o (.lst xs))
theorem Gs{P:bC}{w:bZ}{K:aE}{mg mb:Str->Option Value}{CX:Gg}{k:Nat}{fa a:Addr}{fd:dQ}{x:Str}{sp:Sp}{s₁:ak}{vs:List Value}{ns:List Int}
  (KX:K.In s₁.heap) (hns:s₁.heap.Ns bu mg) (hb:s₁.heap.Ns builtinsNs mb) (hbb:∀x:Str,x≠"__name__"->mb x=jF x) (hlim:s₁.heap.NoLimit) (hg:s₁.gens = #[])
  (ha:s₁.heap.get? a=some {cls:=.type "list",data:=.seq vs.toArray}) (hi:FT vs ns) (hl:ns.length<=sizeLine) (hr:jx k vM)
  (F:∀base:Heap,K.In base->base.Ns bu mg->iI P w K mg base CX k fa fd [x] sp) (hbind:∀(s:ak)(u:Value),A3 s fd #[[u],[]] [(x,u)])
  (hsp:∀H:Hp,Kh H->gF K H a (ns.map V.int)->sp [.ref a] H (λv _=>v=.bl true) λ_ _ _=>False)
  (hCX:∀H e s',CX [] H s₁ (λ_ _ _=>False) e s'->False):
  nU (aR P w) vM (.call (.ref fa) #[[.ref a],[]]) (λr s'=>r=.ok (.ret (.bool true))/\OldK s₁.heap s'.heap/\s'.os=s₁.os/\nR s'.gens) s₁:=by
 have rv:=wU hi;have lenV:=hi.length;have core:∀H:Hp,Kh H->gF K H a (ns.map V.int)->n6 P w H s₁.heap->(∀b,H b≠none->b=a)->(H a≠none->K.lookup a=none) ->
   nU (aR P w) vM (.call (.ref fa) #[[.ref a],[]]) (λr s'=>r=.ok (.ret (.bool true))/\OldK s₁.heap s'.heap/\s'.os=s₁.os/\nR s'.gens) s₁:=by
  intro H hO hS dg hA hK;have ie:∀{b:Addr}{o:Obj},s₁.heap.get? b=some o->H b=none->(yu s₁.heap H).get? b=some o:=λe n=>F3 e n
  have noA:∀{b:Addr}{o:Obj}{es:Array DictEntry}{ep:Nat},s₁.heap.get? b=some o->o.data=.dict es ep->H b=none:=λ{b o es ep}e d=>by
   cases q:H b with
   |none=>rfl
   |some u=>
    have e':b=a:=hA b (by rw[q];simp);subst e';rw[ha] at e;cases e;have d':Data.seq vs.toArray _=Data.dict es ep:=d;cases d'
  have nsK:∀{b:Addr}{m:Str->Option Value},s₁.heap.Ns b m->(yu s₁.heap H).Ns b m:=λ{b m} ⟨o,es,ep,e,d,r⟩=>#[o,es,ep,ie e (noA e d),d,r]
  have hKb:K.In (yu s₁.heap H):=λb o e=>ie (KX b o e) (by
   cases q:H b with
   |none=>rfl
   |some u=>
    have e':b=a:=hA b (by rw[q];simp);subst e';rw[hK (by rw[q];simp)] at e;cases e)
  have hM:Mod K mg (yu s₁.heap H):=#[hKb,nsK hns,#[mb,nsK hb,hbb],let ⟨mc,h1,h2⟩:=hlim;#[mc,nsK h1,h2]]
  have e0:BF P w K mg (yu s₁.heap H) vM [] s₁ H:=#[rfl,hM,λb o e=>JL e,Bf (Eh _ _),trivial,λb hb=>absurd (show b∈([]:List Addr) from hb) (by simp),dg,.of_eq hg]
  refine md ((F _ hKb (nsK hns)).run vM [] s₁ H #[[.ref a],[]] [.ref a] [.ref a] _ _ hr e0 (hbind s₁ (.ref a)) (.cons rfl .nil) (hsp H hO hS)) λr s' h=>?_
  cases r with
  |error e=>exact(hCX H e s' h).elim
  |ok fl=>
   cases fl with
   |next=>exact aI h
   |brk=>exact aI h
   |cont=>exact aI h
   |ret u=>
    obtain⟨v,H',os,bare,un,hok',r',q⟩:=h;have q':v=.bl true:=q;subst q';obtain rfl:u=iG true:=r';refine#[rfl,OldK.of_keep λb o e=>?_,os,bare];cases q:H b with
    |none=>exact un.keep b o e q (by intro z;exact absurd (show b∈([]:List Addr) from z) (by simp)) (by simp)
    |some u=>
     rcases hO b with z|⟨ob,xs,z⟩
     .rw[q] at z;cases z
     .have z2:=un.vO b ob _ z
      obtain⟨e1,_⟩:=dg b _ z;obtain⟨e2,_⟩:=hok' b _ z2;rw[e] at e1;cases e1;exact e2
 cases hk:K.lookup a with
 |some o=>
  have e:=KX a o hk;rw[ha] at e;cases e;refine core (λ_=>none) (λ_=>.inl rfl) (.inr #[_,vs.toArray,_,hk,rfl,rfl,rfl,by rw[aC,lenV];exact hl,by simpa using rv]) (λb u z=>by have z':(none:Option HO)=some u:=z;cases z') (λb z=>absurd rfl z) λz=>absurd rfl z
 |none=>
  refine core (λb=>if b=a then some (.Bt {cls:=.type "list",data:=.seq vs.toArray} (.lst (ns.map V.int))) else none) (λb=>?_) (.inl (.inr #[{cls:=.type "list",data:=.seq vs.toArray},if_pos rfl])) (λb u z=>?_) (λb z=>?_) λ_=>hk
  .by_cases hb:b=a
   .exact .inr #[_,_,if_pos hb]
   .exact .inl (if_neg hb)
  .by_cases hb:b=a
   .have z':=(if_pos hb).symm.trans z
    cases z';subst hb;exact#[ha,by rw[aq];exact hl,vs,_,rv,ha]
   .have z':=(if_neg hb).symm.trans z
    cases z'
  .by_cases hb:b=a
   .exact hb
   .exact absurd (if_neg hb) z
theorem Ki{l:PySem.W.OpenLaw}{n k:Nat}{q:bC}{loose:List Str}{XP:(Str->Option Value)->Heap->Prop}{YP:bZ->Heap->Prop}{d:DefRec}{K:FR->aE}{CX:bZ->Gg}{sp:bZ->Sp}{x:Str}
  (hn:l.most=some n) (hn2:n<=sizeLine) (hdf:d.params.defaults=[]) (hr:jx k vM)
  (hY:∀(w:bZ)(h:Heap),YP w h->(K w.params).In h)
  (F:∀(w:bZ)(mg:Str->Option Value)(fa:Addr)(h:Heap),(K w.params).In h->h.Ns bu mg->mg d.name=some (.ref fa) ->
   ∃fd:dQ,(∀(s:ak)(u:Value),A3 s fd #[[u],[]] [(x,u)]) /\
    ∀base:Heap,(K w.params).In base->base.Ns bu mg->iI l.prog w (K w.params) mg base (CX w) k fa fd [x] (sp w))
  (hsp:∀(w:bZ)(H:Hp)(a:Addr)(ns:List Int),ns.length<=n->Kh H->gF (K w.params) H a (ns.map V.int)->sp w [.ref a] H (λv _=>v=.bl true) λ_ _ _=>False)
  (hCX:∀(w:bZ)(H:Hp)(s:ak)(e:Value)(s':ak),CX w [] H s (λ_ _ _=>False) e s'->False):
  PySem.W.WalkO q loose XP YP l.row.toRowW d [] (λf vs=>D3 f vs):=by
 refine XA.z7 hn hdf λw s₀ s₁ mg mb fa o pm cd doc a vs ns G Y ho hd hcd hmg hobj hints hlen hg=>?_
 have KX:=hY w _ Y;obtain⟨fd,hb,hF⟩:=F w mg fa _ KX G.T.g hmg;exact Gs KX G.T.g G.T.b G.T.builtins G.T.nolimit hg hobj hints (aS hlen hn2) hr hF hb (λH hO hS=>hsp w H a ns hlen hO hS) λH e s'=>hCX w H s₁ e s'
noncomputable def inClass(s:Stmt)(j:Nat):Stmt:=match s with
 |.ClassDef _ _ _ body _ _ _ _ _ _ _=>body.getD j (.Pass #[0,0,0,0])
 |_=>.Pass #[0,0,0,0]
noncomputable def jU(s:Stmt):Arguments:=match s with
 |.FunctionDef _ a _ _ _ _ _ _ _ _=>a
 |_=>{posonlyargs:=[],args:=[],vararg:=none,kwonlyargs:=[],kw_defaults:=[],kwarg:=none,defaults:=[]}
noncomputable def dM(s:Stmt):List Stmt:=match s with
 |.FunctionDef _ _ b _ _ _ _ _ _ _=>b
 |_=>[]
noncomputable def bc(s:Stmt):kI:=match s with
 |.FunctionDef _ _ _ _ _ _ sc _ _ _=>sc
 |_=>{kind:=.function,names:=[],isGenerator:=false,isCoroutine:=false}
structure BK(K:aE)(x qual:Str)(st:Stmt)(f:Addr)(fd:dQ):Prop where
 ex:∃(oc:Value)(od:Option Addr)(kV doc pm:Value)(an:Option Addr)(cdv ct:Value)(osl:Array (Option Value)),
  fd=jS x qual (jU st) (dM st) (bc st) .none kV doc pm an cdv ct/\K.lookup f=some #[oc,od,.func fd,osl]/\tZ K cdv qual=true
 kp:nY K (.ref f)=true
section
variable{P:bC}{w:bZ}{K:aE}{mg:Str->Option Value}{base:Heap}
theorem BK.binds{x qual:Str}{st:Stmt}{f:Addr}{fd:dQ}{ps:List Str}(F:BK K x qual st f fd)
  (h:∀(kV doc pm:Value)(an:Option Addr)(cdv ct:Value)(us:List Value),us.length=ps.length->Bh (jS x qual (jU st) (dM st) (bc st) .none kV doc pm an cdv ct) #[us,[]]=pure (ps.zip us)):Binds K fd ps []:=by
 obtain⟨oc,od,kV,doc,pm,an,cdv,ct,osl,rfl,lk,hcd⟩:=F.ex;exact .all (h kV doc pm an cdv ct)
theorem Gu{x qual:Str}{st:Stmt}{f:Addr}{oc:Value}{od an:Option Addr}{osl:Array (Option Value)}{kV doc pm cdv ct:Value}(l:K.lookup f=some #[oc,od,.func (jS x qual (jU st) (dM st) (bc st) .none kV doc pm an cdv ct),osl])
  (c:tZ K cdv qual=true) (k:nY K (.ref f)=true):BK K x qual st f (jS x qual (jU st) (dM st) (bc st) .none kV doc pm an cdv ct):=#[#[oc,od,kV,doc,pm,an,cdv,ct,osl,rfl,l,c],k]
end
section
variable{κ:Type}[DecidableEq κ]
noncomputable def sU(kvs:List (κ×V))(k:κ):Option V:=(kvs.find? λkv=>decide (kv.1=k)).map (·.2)
theorem uj{p:κ×V}{r:List (κ×V)}{k:κ}(e:p.1=k):sU (p::r) k=some p.2:=by simp[sU,fS,e]
theorem uk{p:κ×V}{r:List (κ×V)}{k:κ}(e:¬p.1=k):sU (p::r) k=sU r k:=by simp[sU,fS,e]
theorem nI.getD{o:Option V}{u:Option Value}{d:V}{d':Value}(r:nI o u)(rd:RelV d d'):RelV (o.getD d) (u.getD d'):=by
 cases o with
 |none=>cases u with
  |none=>exact rd
  |some _=>exact(show False from r).elim
 |some _=>cases u with
  |none=>exact(show False from r).elim
  |some _=>exact r
theorem KV.val{kvs:List (κ×V)}{vs:List (κ×Value)}(r:KV kvs vs)(k:κ):nI (sU kvs k) (A5 vs k):=by
 unfold KV at r;induction r with
 |nil=>exact dS
 |@cons p q ps qs h t ih=>
  obtain⟨h1,h2⟩:=h;by_cases e:p.1=k
  .have e':q.1=k:=h1.symm.trans e
   have b:A5 (q::qs) k=some q.2:=by simp[A5,fS,e']
   rw[uj e,b];exact h2
  .have e':¬q.1=k:=λz=>e (h1.trans z)
   have b:A5 (q::qs) k=A5 qs k:=by simp[A5,fS,e']
   rw[uk e,b];exact ih
theorem KV.keys{kvs:List (κ×V)}{vs:List (κ×Value)}(r:KV kvs vs):kvs.map (·.1)=vs.map (·.1):=by
 unfold KV at r;induction r with
 |nil=>rfl
 |cons h t ih=>rw[aF,aF,ih,h.1]
theorem KV.length{kvs:List (κ×V)}{vs:List (κ×Value)}(r:KV kvs vs):kvs.length=vs.length:=Paired.length r
end
theorem Gv{P:bC}{w:bZ}{k:Key}{u:Value}(r:RelV (kV k) u):(eP P w).is k u=true:=by
 cases k with
 |inl i=>obtain⟨t,e⟩:=(show ∃t,u=mJ i t from r);subst e;exact zR P w i t
 |inr x=>obtain⟨t,e⟩:=(show ∃t,u=jw x t from r);subst e;exact zS P w x t
theorem N2{a b:Key}(e:kV a=kV b):a=b:=by
 cases a with
 |inl i=>cases b with
  |inl j=>have e':V.int i=V.int j:=e;injection e' with e';rw[e']
  |inr y=>exact nomatch (show V.int i=V.str y from e)
 |inr x=>cases b with
  |inl j=>exact nomatch (show V.str x=V.int j from e)
  |inr y=>have e':V.str x=V.str y:=e;injection e' with e';rw[e']
theorem wV{P:bC}{w:bZ}:∀{ks:List Key}{us:List Value},Vals (ks.map kV) us->ItemsAre (eP P w) ks us
 |[],_,r=>by rw[A4] at r;cases r;exact .nil
 |k::ks,_,r=>by
  rw[aF] at r;cases r with
  |cons h t=>exact .cons (Gv h) (wV t)
abbrev KT(H:Hp):List (List Key×V)->List (List Key×Addr×Value)->Prop:=Paired λp q=>p.1=q.1/\H q.2.1=some (.tup (p.1.map kV))/\RelV p.2 q.2.2
theorem KT.val{H:Hp}{kvs:List (List Key×V)}{xs:List (List Key×Addr×Value)}(r:KT H kvs xs)(k:List Key):nI (sU kvs k) ((atKey xs k).map (·.2)):=by
 induction r with
 |nil=>exact dS
 |@cons p q ps qs h t ih=>
  obtain⟨h1,_,h2⟩:=h;by_cases e:p.1=k
  .have e':q.1=k:=h1.symm.trans e
   have b:atKey (q::qs) k=some q.2:=by simp[atKey,fS,e']
   rw[uj e,b];exact h2
  .have e':¬q.1=k:=λz=>e (h1.trans z)
   have b:atKey (q::qs) k=atKey qs k:=by simp[atKey,fS,e']
   rw[uk e,b];exact ih
section
variable{P:bC}{w:bZ}{H:Hp}{h:Heap}{a:Addr}
theorem Mt{u:HO}(ok:n6 P w H h)(e:Rd H a u):eL P w H h a u:=e.ok ok
theorem Gx{kvs:List (Key×V)}(ok:n6 P w H h)(e:Rd H a (.dK kvs)):kvs.length<=sizeLine/\(a==dE)=false/\∃vs,KV kvs vs/\h.DictOf (eP P w) a vs:=
 show eL P w H h a (.dK kvs) from Mt ok e
theorem Gy{ks:List Key}(ok:n6 P w H h)(e:H a=some (.tup (ks.map kV))):(xW (eP P w)).is h ks a:=by
 obtain⟨_,its,r,o,h1,h2,n,h3⟩:=(show eL P w H h a (.tup (ks.map kV)) from ok a _ e)
 exact#[o,its.toArray,n,h1,h2,h3,by simpa using wV r]
theorem Mu{kvs:List (List Key×V)}(ok:n6 P w H h)(e:Rd H a (.dT kvs)):kvs.length<=sizeLine/\(a==dE)=false /\
  ∃xs,KT H kvs xs/\h.DictOfH (xW (eP P w)) a xs:=by
 obtain⟨z,y,xs,r,o,es,ep,h1,h2,h3,h4,h5⟩:=(show eL P w H h a (.dT kvs) from Mt ok e)
 refine#[z,y,xs,r,o,es,ep,h1,h2,h3,h4,λx hx=>?_,h5];have all:∀{l:List (List Key×V)}{m:List (List Key×Addr×Value)},KT H l m->∀x∈m,(xW (eP P w)).is h x.1 x.2.1:=by
  intro l m q;induction q with
  |nil=>intro x hx;exact nomatch hx
  |@cons p q ps qs hq t ih=>
   intro x hx;rcases bg.mp hx with e|hx
   .subst e
    exact Gy ok (by rw[<-hq.1];exact hq.2.1)
   .exact ih x hx
 exact all r x hx
end
def Gz(H:Hp)(a:Addr)(y:V)(r:Option V):Prop:=
 (∃kvs k,Rd H a (.dK kvs)/\y=kV k/\r=sU kvs k)\/∃kvs k b,Rd H a (.dT kvs)/\y=.ref b/\H b=some (.tup (k.map kV))/\r=sU kvs k
theorem Gz.k{H:Hp}{a:Addr}{kvs:List (Key×V)}{k:Key}(e:H a=some (.dK kvs)):Gz H a (kV k) (sU kvs k):=.inl #[kvs,k,.inl e,rfl,rfl]
section
variable{X:Cx}{pZ:List (Addr×Obj)}{σ:St}{H:Hp}{s:ak}{a:Addr}{y v:V}{u r:Value}{o:Option V}{A:cA}{E:Value->ak->Prop}
theorem Inv.big(I:Inv X pZ σ H s):dE<s.heap.objs.size:=by
 have h:bu<s.heap.objs.size:=(I.mod.glob.keeps I.bk).lt;exact Nat.lt_trans ⋯ h
theorem N3{P:bC}{w:bZ}{H':Hp}{h':Heap}{kvs:List (Key×V)}{vs:List (Key×Value)}(z:kvs.length<=sizeLine)(hd:(a==dE)=false)(rel:KV kvs vs)(dd:h'.DictOf (eP P w) a vs):
  eL P w H' h' a (.dK kvs):=#[z,hd,vs,rel,dd]
end
section
variable{X:Cx}{pZ:List (Addr×Obj)}{σ:St}{H:Hp}{s:ak}{a:Addr}{kvs:List (Key×V)}{k:Key}{u:Value}{A:cA}{E:Value->ak->Prop}
theorem RI{Q:Value->ak->Prop}(I:Inv X pZ σ H s)(e:Rd H a (.dK kvs))(h:∀t s',Inv X pZ σ H s'->Q (.int kvs.length t) s'):wpAny (aR X.prog X.w) A (call (.builtin "len") [.ref a]) Q E s:=by
 obtain⟨z,hd,vs,rel,dd⟩:=Gx I.dg e;refine call_len_dict hd dd (by rw[<-rel.length];rw[jb] at z;omega) ?_;rw[<-rel.length]
 exact h _ _ (I.tok _)
end
structure M2(X:Cx)(o:Expr)(m:Str)(apos:Pos)(e f:Expr)(cpos:Pos):Prop where
 base:iY o m X.env (eval o X.env)=eval o X.env
 YR:((iL cpos (bS [e,f] X.env)).all (λx=>!x.1)&&(backToKw cpos (kN [] X.env)).all (λx=>x.1.isSome)
  && decide (([e,f]:List Expr).length+([]:List r8).length+(if ([]:List r8).isEmpty then 0 else 1)<30))=true
 line:(apos.endLine==cpos.line)=true
 trees:iL cpos (bS [e,f] X.env)= [(false,eval e X.env),(false,eval f X.env)]
def XB(H:Hp)(a:Addr):Prop:=(∃kvs,Rd H a (.dK kvs))\/∃kvs,Rd H a (.dT kvs)
theorem N4{X:Cx}{pZ:List (Addr×Obj)}{σ:St}{H:Hp}{s:ak}{a:Addr}(I:Inv X pZ σ H s)(d:XB H a):
  s.TypeIs (.ref a) "dict"/\(∀b,aV a=.ref b->∃ob,s.heap.get? b=some ob/\ob.dict=none)/\(a==dE)=false:=by
 rcases d with⟨kvs,e⟩|⟨kvs,e⟩
 .obtain⟨_,hd,vs,_,dd⟩:=Gx I.dg e
  refine#[dd.typeIs,λb q=>?_,hd];cases q;obtain⟨ob,_,_,h1,h2,_⟩:=dd;exact#[ob,h1,h2.2.1]
 .obtain⟨_,hd,xs,_,dd⟩:=Mu I.dg e
  refine#[dd.typeIs,λb q=>?_,hd];cases q;obtain⟨ob,_,_,h1,h2,_⟩:=dd;exact#[ob,h1,h2.2.1]
section
variable{X:Cx}{pZ:List (Addr×Obj)}{σ:St}{H:Hp}{s:ak}{a:Addr}{y d:V}{u r:Value}{o:Option V}{A:cA}{E:Value->ak->Prop}
theorem N5{Q:Value->ak->Prop}(hu:A.units+1<kf)(I:Inv X pZ σ H s)(g:Gz H a y o)(ry:RelV y u)(rd:RelV d r)(h:∀w' s',Inv X pZ σ H s'->RelV (o.getD d) w'->Q w' s'):
  wpAny (aR X.prog X.w) A (call (.builtin "dict.get") [.ref a,u,r]) Q E s:=by
 rcases g with⟨kvs,k,e,ey,l⟩|⟨kvs,k,b,e,ey,eb,l⟩
 .subst ey
  obtain⟨z,hd,vs,rel,dd⟩:=Gx I.dg e;refine call_meetsIn nG dd.typeIs ym (wx _ _ _) (meets_dict_get_default (eP X.prog X.w) a (Gv ry) hd r) #[_,dd.mapOf,h _ _ (I.tok _) ?_];rw[l]
  exact(rel.val k).getD rd
 .subst ey
  cases (show u=aV b from ry);obtain⟨z,hd,xs,rel,dd⟩:=Mu I.dg e;refine call_meetsIn nG dd.typeIs ym (wx _ _ _) (meetsH_dict_get_default (xW (eP X.prog X.w)) a b hd r) #[tupleKind_room_in1 hu,k,xs,Gy I.dg eb,dd,h _ _ (I.tok _) ?_];rw[l]
  exact(rel.val k).getD rd
end
def N6(td ty tx:TE):TE:=λσ H Q=>td σ H λx H1=>∃a,x=.ref a/\XB H1 a/\ty σ H1 λy H2=>tx σ H2 λz H3=>∃o,Gz H3 a y o/\Q (o.getD z) H3
section
variable{X:Cx}{o e f:Expr}{apos cpos:Pos}{td ty tx:TE}
theorem GB(hu:X.A.units+1<kf)(ho:PE X o td)(he:PE X e ty)(hf:PE X f tx)(m:M2 X o "get" apos e f cpos):PE X (.Call (.Attribute o "get" apos) [e,f] [] cpos) (N6 td ty tx):=by
 intro pZ s σ H Q I h;refine wpAny_Call_method m.base m.YR m.line PySem.F.plainAttrs_dict nG PySem.F.type_dict_get (fh (ho pZ s σ H _ I h) λu s1 h9=>?_);obtain⟨x,H1,I1,rx,a,ex,d,q1⟩:=h9;subst ex;obtain rfl:u=aV a:=rx;obtain⟨t1,t2,_⟩:=N4 I1 d;refine#[t1,t2,?_];rw[m.trees]
 refine nF rfl (Bj (kK (fh (he pZ s1 σ H1 _ I1 q1) λiv s2 #[y,H2,I2,ry,q2]=>
  kK (fh (hf pZ s2 σ H2 _ I2 q2) λfv s3 #[z,H3,I3,rz,ov,g,q3]=>qV ?_))))
 exact N5 hu I3 g ry rz λw' s4 I4 rw'=>#[_,H3,I4,rw',q3]
end
section
variable{X:Cx}
theorem Ez:i5 X (.builtin "len") (λxs H Q=>∃a kvs,xs=[V.ref a]/\H a=some (.dK kvs)/\Q (.int kvs.length) H):=by
 intro pZ s σ H xs us Q I r h;obtain⟨a,kvs,rfl,ha,q⟩:=h;obtain⟨u,rfl,ru⟩:=vals1 r;cases ru;exact RI I (.inl ha) λt s' I'=>#[.int kvs.length,H,I',#[t,rfl],q]
end
def vF(h:Heap)(e:Addr)(c:Value)(dx:Option Addr):Option (Addr×Value)->Prop
 |none=>∃vs sl,h.get? e=some #[c,dx,.fields vs,sl]/\vs[1]?=some .none
 |some (T,fl)=>∃vs sl,h.get? e=some #[c,dx,.fields vs,sl]/\vs[1]?=some (.ref T)/\T≠e/\∃oT ts,h.get? T=some oT/\oT.data=.fields ts/\ts[3]?=some fl
theorem vF.obj{h:Heap}{e:Addr}{c:Value}{dx:Option Addr}{tb:Option (Addr×Value)}(x:vF h e c dx tb):∃vs sl,h.get? e=some #[c,dx,.fields vs,sl]:=by
 cases tb with
 |none=>obtain⟨vs,sl,a,_⟩:=x;exact#[vs,sl,a]
 |some p=>obtain⟨vs,sl,a,_⟩:=x;exact#[vs,sl,a]
structure jz(fs ch:List Addr)(h h':Heap):Prop where
 keep:∀b o,h.get? b=some o->b∉fs->b∉ch->h'.get? b=some o
 slot:∀b o,h.get? b=some o->b∈fs->b∉ch->∃sl,h'.get? b=some {o with slots:=sl}
 there:∀b o,h.get? b=some o->∃o',h'.get? b=some o'
theorem jz.trans{fs ch:List Addr}{h1 h2 h3:Heap}(x:jz fs ch h1 h2)(y:jz fs ch h2 h3):jz fs ch h1 h3:=
 #[λb o e n m=>y.keep b o (x.keep b o e n m) n m,λb o e n m=>by
  obtain⟨s1,q1⟩:=x.slot b o e n m;obtain⟨s2,q2⟩:=y.slot b _ q1 n m;exact#[s2,q2],λb o e=>by
  obtain⟨o1,q1⟩:=x.there b o e;exact y.there b o1 q1]
theorem jz.mono{fs fs' ch ch':List Addr}{h h':Heap}(x:jz fs ch h h')(a:∀b∈fs,b∈fs')(c:∀b∈ch,b∈ch'):jz fs' ch' h h':=
 #[λb o e n m=>x.keep b o e (λz=>n (a b z)) λz=>m (c b z),λb o e n m=>by
  by_cases z:b∈fs
  .exact x.slot b o e z λy=>m (c b y)
  .exact#[o.slots,x.keep b o e z λy=>m (c b y)],x.there]
theorem gw{h:Heap}{a b:Addr}{f:Obj->Obj}{o:Obj}(e:h.get? b=some o)(n:b≠a):(h.update a f).get? b=some o:=by
 rw[nV h f (dJ n)]
 exact e
theorem mQ{fs:List Addr}{h:Heap}{a:Addr}{o:Obj}{f:Obj->Obj}(e:h.get? a=some o)(hf:(f o).isFreed=false):jz fs [a] h (h.update a f):=
 #[λb o' q _ m=>gw q λz=>m (by simp[z]),λb o' q _ m=>#[o'.slots,gw q λz=>m (by simp[z])],λb o' q=>by
  by_cases z:b=a
  .subst z;exact#[_,dX f e hf]
  .exact#[o',gw q z]]
theorem BL{fs ch:List Addr}{h:Heap}(o:Obj):jz fs ch h (h.push o):=
 #[λb _ q _ _=>aA o q,λb o' q _ _=>#[o'.slots,aA o q],λb o' q=>#[o',aA o q]]
section
variable{M:Fn}{A:cA}{E:Value->ak->Prop}{s:ak}{base:Heap}{env:Env}{outer:List Env}{L e:Addr}{c:Value}{dx:Option Addr}{Q:Unit->ak->Prop}
theorem GD{vs:Array Value}{sl:Array (Option Value)}{head:Value}{b:Bool}(hfr:A.frames=some (env::outer))(hl:s.heap.FunFrames base (env::outer))(hf:env.frame=some L)
  (he:s.heap.get? e=some #[c,dx,.fields vs,sl]) (hsz:1<vs.size)
  (q:∀h' T,jz (vP (env::outer)) [e] s.heap h'->s.heap.objs.size<=T->vF h' e c dx (some (T,pM L))->Q () {s with heap:=h'}):
  wpAny M A (do let a <-frameOf env;let pl <-entryPlaceOf L b;let t <-yn head a .none (pM L) .none pl;setField (.ref e) 1 t) Q E s:=by
 have ne:e∉vP (env::outer):=λhm=>by
  obtain⟨_,o,ho,hnf⟩:=hl.mem hm;rw[he] at ho;cases ho;exact hnf vs rfl
 refine aj (wpAny_frameOf_fun hfr hl hf λh1 k1=>aj (wpAny_entryPlaceOf λpl hpl=>?_));unfold yn newFields;refine aj (gU ?_ (hpl.sizeOk5 _ _ _ _ _));have e1:h1.get? e=some #[c,dx,.fields vs,sl]:=(k1.2.1 e ne).trans he;have kk:jz (vP (env::outer)) [e] s.heap h1:=#[λb o z n _=>(k1.2.1 b n).trans z,λb o z _ _=>k1.2.2 b o z,λb o z=>let ⟨_,z'⟩:=k1.2.2 b o z;#[_,z']]
 generalize htb:({cls:=.type "traceback",dict:=none,data:=.fields ([head,.ref L,.none,pM L,.none]++(if pl.isEmpty then dm 6 df else pl)).toArray}:Obj)=tb;have e2:(h1.push tb).get? e=some #[c,dx,.fields vs,sl]:=aA tb e1;refine Bk e2 rfl hsz (q _ h1.objs.size ((kk.trans (BL tb)).trans (mQ e2 rfl)) ?_ ?_)
 .rw[k1.1]
  exact ax _
 .have nT:h1.objs.size≠e:=kJ (aL e1)
  refine#[_,_,dX _ e2 rfl,by simp[hsz],nT,tb,_,gw (bz h1 (by rw[<-htb];rfl)) nT,by rw[<-htb],?_]
  first| (simp;done)| (rcases hpl with rfl|⟨_,_,_,_,_,_,_,rfl⟩<;>simp)
theorem Mv{tb:Option Addr}(hfr:A.frames=some (env::outer))(hl:s.heap.FunFrames base (env::outer))(hf:env.frame=some L)(x:vF s.heap e c dx (tb.map λT=>(T,df)))
  (q:∀h' T,jz (vP (env::outer)) (e::tb.toList) s.heap h'->s.heap.objs.size<=T->vF h' e c dx (some (T,pM L))->Q () {s with heap:=h'}):
  wpAny M A (Ft (.ref e) env) Q E s:=by
 unfold Ft;simp only[hf];cases tb with
 |none=>
  obtain⟨vs,sl,he,h1⟩:=x;refine aj (kL he rfl h1 ?_);rw[if_neg ⋯]
  exact GD hfr hl hf he (gE.mp h1).1 q
 |some T=>
  obtain⟨vs,sl,he,h1,nT,oT,ts,hT,hd,h3⟩:=x;refine aj (kL he rfl h1 ?_);rw[if_pos (show(aV T !=df)=true by simp)]
  refine aj (kL hT hd h3 ?_);rw[if_neg (show ¬((df==pM L)=true) by simp[pM])]
  refine aj (Bk hT hd (gE.mp h3).1 ?_);have kT:jz (vP (env::outer)) [T] s.heap (s.heap.update T (Obj.mapFields (·.setIfInBounds 3 df))):=mQ hT (CQ (qX hd _));have e2:=gw (f:=Obj.mapFields (·.setIfInBounds 3 df)) he (dJ nT);refine GD hfr (hl.of_keeps λb o hb hnf=>?_) hf e2 (gE.mp h1).1 λh' T' k n z=>?_
  .have nb:b≠T:=λz=>by rw[z,hT] at hb;cases hb;exact hnf ts hd
   exact#[o,gw hb nb,rfl]
  .refine q h' T' ((kT.mono (λ_ y=>y) (by simp)).trans (k.mono (λ_ y=>y) (by simp))) ?_ z
   rw[Heap.size_after_update] at n;exact n
theorem GF{T:Addr}{fl:Value}(x:vF s.heap e c dx (some (T,fl)))(q:∀h',jz [] [T] s.heap h'->vF h' e c dx (some (T,.none))->Q () {s with heap:=h'}):wpAny M A (setFlight (.ref e) none) Q E s:=by
 obtain⟨vs,sl,he,h1,nT,oT,ts,hT,hd,h3⟩:=x;have sz:=(gE.mp h3).1;unfold setFlight;refine aj (kL he rfl h1 ?_);rw[if_pos (show(aV T !=df)=true by simp)]
 have fr:=CQ (qX hd (·.setIfInBounds 3 df));refine Bk hT hd sz (q _ (mQ hT fr) #[vs,sl,gw he (dJ nT),h1,nT,_,_,dX _ hT fr,qX hd _,by simp[sz]])
theorem N7{tb:Option Addr}(hfr:A.frames=some (env::outer))(hl:s.heap.FunFrames base (env::outer))(hf:env.frame=some L)(x:vF s.heap e c dx (tb.map λT=>(T,df)))
  (q:∀h' T,jz (vP (env::outer)) (e::tb.toList) s.heap h'->s.heap.objs.size<=T->vF h' e c dx (some (T,.none))->Q () {s with heap:=h'}):
  wpAny M A (leaving env (.ref e)) Q E s:=by
 unfold leaving;refine aj (Mv hfr hl hf x λh1 T k1 n1 x1=>?_);refine GF (s:={s with heap:=h1}) x1 λh2 k2 x2=>q h2 T ?_ n1 x2
 refine#[λb o z n m=>?_,λb o z n m=>?_,λb o z=>?_]
 .exact k2.keep b o (k1.keep b o z n m) (by simp) λy=>by
   have y':b=T:=by simpa using y
   rw[y'] at z;exact absurd (aL z) (yo.mpr n1)
 .obtain⟨sl,z1⟩:=k1.slot b o z n m
  refine#[sl,k2.keep b _ z1 (by simp) λy=>?_];have y':b=T:=by simpa using y
  rw[y'] at z;exact absurd (aL z) (yo.mpr n1)
 .obtain⟨o1,z1⟩:=k1.there b o z
  exact k2.there b o1 z1
end
noncomputable def pU(P:bC)(w:bZ):Gg:=λouter H s E e s'=>∃(a T:Addr)(c:Value)(dx:Option Addr)(H':Hp),e=.ref a/\s'.os=s.os/\nR s'.gens/\Un (vP outer) [] H H' s.heap s'.heap/\n6 P w H' s'.heap /\
 vF s'.heap a c dx (some (T,.none))/\(H' a=none/\H' T=none)/\(s.heap.objs.size<=a/\s.heap.objs.size<=T)/\E c dx H'
theorem n6.rm{P:bC}{w:bZ}{H:Hp}{h h':Heap}{fs ch:List Addr}(x:n6 P w H h)(k:jz fs ch h h')(hf:∀b∈fs,H b=none)(hc:∀b∈ch,H b=none):n6 P w H h':=λa o e=>by
 have nf:∀b u,H b=some u->b∉fs/\b∉ch:=λb u q=>#[λz=>(by rw[hf b z] at q;cases q),λz=>(by rw[hc b z] at q;cases q)]
 refine(x a o e).jH (λb u hb q=>?_) (λ_ q=>q) λ_ _ q=>q
 rcases hb with rfl|hb
 .exact k.keep b u q (nf b _ e).1 (nf b _ e).2
 .exact k.keep b u q (nf b _ hb).1 (nf b _ hb).2
def BM(X:Cx)(pZ:List (Addr×Obj))(H:Hp)(b:Addr):Prop:=H b=none/\X.s₀.heap.objs.size<=b/\b≠X.env.locals/\(∀x c,X.env.cells.lookup x=some c->c≠b)/\∀p∈X.pn++pZ,p.1≠b
theorem Inv.RJ{X:Cx}{pZ:List (Addr×Obj)}{σ:St}{H:Hp}{s:ak}{b:Addr}(I:Inv X pZ σ H s)(hb:s.heap.objs.size<=b):BM X pZ H b:=by
 have no:∀o,¬s.heap.get? b=some o:=λo e=>absurd (aL e) (yo.mpr hb)
 refine#[I.dg.fresh hb,aS I.sz hb,λe=>?_,λx c e z=>?_,λp hp z=>?_]
 .exact absurd I.lt (yo.mpr (e▸hb))
 .obtain⟨v,o,ho,_⟩:=I.cell x c e
  rw[z] at ho;exact no o ho
 .have:=(I.pin p hp).1
  rw[z] at this;exact no _ this
theorem Inv.rm{X:Cx}{pZ:List (Addr×Obj)}{σ:St}{H:Hp}{s:ak}{h':Heap}{ch:List Addr}(I:Inv X pZ σ H s)(k:jz (vP X.stack) ch s.heap h')(hc:∀b∈ch,BM X pZ H b):Inv X pZ σ H {s with heap:=h'}:=by
 have any:∀b o,b∉ch->s.heap.get? b=some o->∃sl,h'.get? b=some {o with slots:=sl}:=λb o n e=>by
  by_cases z:b∈vP X.stack
  .exact k.slot b o e z n
  .exact#[o.slots,k.keep b o e z n]
 refine I.step (g':=s.gens) (t':=s.toks) (d':=s.drawn) (ch:=ch) (λb m=>#[.inr (hc b m).2.1,(hc b m).2.2.1,(hc b m).2.2.2.1,(hc b m).2.2.2.2]) (λb o nl nf nc e _=>k.keep b o e (λz=>?_) nc) (λb o _ _ nc e _=>any b o nc e) (λ_ _ _ _ n=>n)
  (λb o nc e=>let ⟨_,q⟩:=any b o nc e;#[_,q]) (λ_ _ e=>e) (λ_ _ _ e=>e) (λb ps e=>#[#[],by rw[e];simp]) (λm hm=>?_) (I.dg.rm k I.yw λb m=>(hc b m).1) I.bare
 .rcases bg.mp (I.t9 b z) with q|q
  .exact nl q
  .exact nf q
 .obtain⟨o,es,ep,ho,r⟩:=hm
  obtain⟨sl,q⟩:=any _ o (λz=>(hc _ z).2.2.1 rfl) ho;exact#[_,es,ep,q,r]
def RK(X:Cx)(E:XK):Prop:=∀(pZ:List (Addr×Obj))(σ:St)(H:Hp)(s:ak)(a:Addr)(tb:Option Addr)(c:Value)(dx:Option Addr),Inv X pZ σ H s->vF s.heap a c dx (tb.map λT=>(T,df)) ->
 (∀b∈a::tb.toList,BM X pZ H b)->E c dx H->X.xe (.ref a) s
theorem pU.inv{X:Cx}{E:XK}{pZ:List (Addr×Obj)}{σ:St}{H:Hp}{s:ak}{e:Value}{s':ak}(I:Inv X pZ σ H s)(h:pU X.prog X.w X.stack H s E e s'):
  ∃a T c dx H',e=.ref a/\Inv X pZ σ H' s'/\vF s'.heap a c dx (some (T,.none))/\(∀b∈[a,T],BM X pZ H' b)/\E c dx H':=by
 obtain⟨a,T,c,dx,H',rfl,os,bare,un,dg,x,⟨ha,hT⟩,⟨fa,fT⟩,q⟩:=h;have I':Inv X pZ σ H' s':=I.Ms (ch:=[]) os un dg bare (λb z=>absurd z (by simp));refine#[a,T,c,dx,H',rfl,I',x,λb m=>?_,q];rcases bg.mp m with e|m
 .subst e;exact#[ha,(I.RJ fa).2]
 .have e:b=T:=by simpa using m
  subst e;exact#[hT,(I.RJ fT).2]
theorem GG{P:bC}{w:bZ}{K:aE}{mg:Str->Option Value}{base:Heap}{N:List Str}{qual:Str}{scope:kI}{f:Addr}{cd:Value}{A:cA}{outer:List Env}{s:ak}{H:Hp}{E:XK}:
  RK (zX (pU P w) P w K mg base N qual scope f cd A outer s H E) E:=by
 intro pZ σ H1 s1 a tb c dx I x fr q;show wpAny _ _ (leaving _ (.ref a)) _ _ s1;have hL:(pN qual scope s.heap.objs.size f cd).frame=some s.heap.objs.size:=rfl;refine N7 (base:=base) (L:=s.heap.objs.size) I.ok.frames I.stack hL x λh' T' k n x'=>?_
 have I':=I.rm k fr;have fa:s.heap.objs.size<=a:=(fr a bf).2.1;have sz:s.heap.objs.size<=s1.heap.objs.size:=I.sz;refine#[a,T',c,dx,H1,rfl,I.os,I.bare,?_,I'.dg,x',#[(fr a bf).1,I.dg.fresh n],#[fa,aS sz n],q];exact I'.base
theorem BK.V6{P:bC}{w:bZ}{K:aE}{mg:Str->Option Value}{base:Heap}{x qual:Str}{st:Stmt}{f:Addr}{fd:dQ}{N ps:List Str}{k:Nat}{sp:Sp}(F:BK K x qual st f fd)(S:fV N ps (bc st))(len:∀vs H Q E,sp vs H Q E->vs.length=ps.length)
  (hbody:∀(cdv:Value)(A:cA)(outer:List Env)(s:ak)(H:Hp)(vs:List V)(Q:VK)(E:XK),jx k (A.deeper (pN qual (bc st) s.heap.objs.size f cdv))->sp vs H Q E ->
   ∃t,sS (zX (pU P w) P w K mg base N qual (bc st) f cdv A outer s H E) (dM st) t/\t {nx:=λ_ H'=>Q .bK H',rt:=Q} (start N vs) H):iI P w K mg base (pU P w) (k+1) f fd ps sp:=by
 obtain⟨oc,od,kV,doc,pm,an,cdv,ct,osl,rfl,lk,hcd⟩:=F.ex;exact RA lk hcd S len λA outer s H vs Q E hr hsp=>hbody cdv A outer s H vs Q E hr hsp
open PySem.W
open Builtin Builtin.ObjectAttr
noncomputable abbrev wW:List Value:=[.type "ValueError",.type "Exception",.type "BaseException",.type "object"]
structure oh(K:Frag)(C:Addr)(bm:List Value):Prop where
 ob:∃nm q N bs sn sub ab col dd k0 k1 k2 k3 k5,K.lookup C=some (kO nm q C N bs bm true sn sub ab col dd k0 k1 k2 k3 k5 "ValueError.__new__")
 tl:tailIn K wW bm=true
theorem oh.tail{K:Frag}{C:Addr}{bm:List Value}{h:Heap}(x:oh K C bm)(X:K.In h):OwnTail h wW bm:=tail_of_in X x.tl
theorem oh.base{K:Frag}{C:Addr}{bm:List Value}{h:Heap}(x:oh K C bm)(X:K.In h):bm.contains (.type "BaseException")=true:=(x.tail X).hasType F.excBase_ValueError.hasBase
section
variable{prog:bC}{w:bZ}{A:cA}{E:Value->ak->Prop}{h:Heap}{g:Array Jy}{d:Drawn}{t:Nat}{os:OsState}
variable{nm q:Str}{C N:Addr}{bs bm bmB:List Value}{sn:List Str}{sub:List Value}{ab:Bool}{col:Option Bool}{dd:Option Addr}{k0 k1 k2 k3 k5:Option Value}{B newId initId:String}
theorem z8(F:ExcBaseFacts B newId initId bmB)(T:OwnTail h bmB bm){rest:List Value}{fI:Addr}{Q:Fin->ak->Prop}
  (hC:h.get? C=some (kO nm q C N bs bm true sn sub ab col dd k0 k1 k2 k3 k5 newId)) (hI:Bl (aR prog w) h (t4 (.ref C) "__init__") (some (.ref fI)))
  (hB:∀self,Bl (aR prog w) h (bindSpecial (.ref fI) self) (.ref fI,[self]))
  (hq:∀h' e,Heap.MadeExcOf h h' e (.ref C) rest->h.objs.size<=e->wpAny (aR prog w) A (call (.ref fI) (.ref e::rest)) (λr s'=>r=.none/\Q (.done (.ret (.ref e))) s') E #[h',g,d,t,os]) (hrest:rest.length<=sizeLine):
  wpAny (aR prog w) A (Builtin.«type.__call__» #[.ref C::rest,[]]) Q E #[h,g,d,t,os]:=by
 generalize e1:({cls:=.type "tuple",data:=.seq rest.toArray}:Obj)=o1;generalize e2:({cls:=.ref C,data:=.fields (List.toArray [.ref h.objs.size,.none,.none,.none,.bool false,.none])}:Obj)=o2;have kp:∀b o,h.get? b=some o->((h.push o1).push o2).get? b=some o:=λb o z=>aA o2 (aA o1 z)
 repeat (first|with_reducible refine fm hC ?_|with_reducible refine wpAny_madeBy_exc hC ?_|wp_step)
 refine codeAny_call_builtin_code (Fu _ F.quiet) (wpAny_check_new_subT F T hC (codeAny_exc_new_subT F T hC ?_ hrest));rw[e1,e2]
 show wpAny _ _ _ _ _ _
 have hC1:=kp C _ hC;have hget:((h.push o1).push o2).get? (h.objs.size+1)=some o2:=by rw[<-e1,<-e2];heap_get
 have hcls:o2.cls=.ref C:=by rw[<-e2]
 have hcC:(aV C::bm).contains (.ref C)=true:=by simp
 unfold isInstance
 repeat (first| (with_reducible refine fm hget ?_;rw[hcls])| (with_reducible refine lZ hC1 ?_;rw[hcC])|wp_step)
 show wpAny _ _ (t4 (.ref C) _) _ _ _
 refine(hI.keeps kp).here ?_;refine gQ (aj (((hB (.ref (h.objs.size+1))).keeps kp).here ?_));refine aj (bL (hq _ (h.objs.size+1) #[kp,pE (gS _),h.objs.size,by rw[hget,<-e2],pE (ax _),?_] (gS _)) (λr s' hr=>?_) λ_ _ x=>x)
 .rw[e1]
  exact aA o2 (Heap.get?_push_at (by rfl) (by rw[<-e1];rfl))
 .obtain⟨rfl,hQ⟩:=hr
  wp_walk
  exact hQ
theorem x_call(F:ExcBaseFacts B newId initId bmB)(T:OwnTail h bmB bm){rest:List Value}{fI:Addr}{Q:Value->ak->Prop}
  (hC:h.get? C=some (kO nm q C N bs bm true sn sub ab col dd k0 k1 k2 k3 k5 newId)) (hI:Bl (aR prog w) h (t4 (.ref C) "__init__") (some (.ref fI)))
  (hB:∀self,Bl (aR prog w) h (bindSpecial (.ref fI) self) (.ref fI,[self]))
  (hq:∀h' e,Heap.MadeExcOf h h' e (.ref C) rest->h.objs.size<=e->wpAny (aR prog w) (A.under (.builtin "type.__call__" #[.ref C::rest,[]])) (call (.ref fI) (.ref e::rest)) (λr s'=>r=.none/\Q (.ref e) s') E #[h',g,d,t,os]) (hrest:rest.length<=sizeLine):
  wpAny (aR prog w) A (call (.ref C) rest) Q E #[h,g,d,t,os]:=by
 have f1:=tc_lookup;have f2:=tc_bind (.ref C);have hT:(#[h,g,d,t,os]:ak).TypeIs (.ref C) "type":=#[_,hC,rfl]
 refine pO (codeAny_of_tree ?_);show wpAny _ _ (callAny (.ref C) _) _ _ _
 repeat (any_goals (first|assumption|with_reducible refine fm hC ?_|wp_step))
 exact#[rfl,codeAny_call_builtin_at (Fu _ (by decide +kernel)) entry_typeCall (wpAny_check_type_call_sub hC (z8 F T hC hI hB (λh' e hm hs=>hq h' e hm hs) hrest))]
theorem z9{env:Env}{M:Fn}{s:ak}{x:Sem Value}{Q:Flow->ak->Prop}(hbase:bm.contains (.type "BaseException")=true)(hh:A.handled=none)
  (hx:wpAny M A x (λv s₁=>∃e dx,v=.ref e/\s₁.heap.get? C=some (kO nm q C N bs bm true sn sub ab col dd k0 k1 k2 k3 k5 newId)/\vF s₁.heap e (.ref C) dx none/\E (.ref e) s₁) E s):
  wpAny M A (raiseStmt env (some x) none) Q E s:=by
 have hcB:(aV C::bm).contains (.type "BaseException")=true:=by rw[kW,hbase,A6]
 unfold raiseStmt;refine aj (bL hx (λv s₁ h₁=>?_) λ_ _ x=>x);obtain⟨e,dx,rfl,hC,⟨vs,sl,he,h1⟩,hE⟩:=h₁;obtain⟨hp,g,d,tk,os⟩:=s₁
 repeat (first|with_reducible refine fm he ?_|with_reducible refine fm hC ?_| (with_reducible refine lZ hC ?_;rw[hcB])|wp_step)
 rw[h1]
 refine aK ?_;rw[if_neg ⋯]
 exact aK (wpAny_raiseNew_none hh hE)
end
structure XGet(K:Frag)(C:Addr):Prop where
 ga:iA K (.ref C) "__getattribute__"=some (some (.builtin "BaseException.__getattribute__"))
 gh:iA K (.ref C) "__getattr__"=some none
 hb:mroIn K C (.type "BaseException")=some true
 hd:hasDictIn K C=true
 sa:iA K (.ref C) "__setattr__"=some (some (.builtin "object.__setattr__"))
 mo:∃cd bm,clsIn K C=some cd/\cd.mro=.ref C::bm/\tailIn K wW bm=true
def YS(e C:Addr)(od:Option Addr):Heap->Prop:=λh=>vF h e (.ref C) od none
def V7(d:Addr)(fs:List (Str×V)):Heap->Prop:=λh=>∃mA,h.Ns1 d mA/\(∀f,nI (fs.lookup f) (mA f))/\ki mA (fs.map (·.1))
noncomputable abbrev HO.xo(e C:Addr)(od:Option Addr):HO:=.ext (YS e C od)
noncomputable abbrev HO.xf(d:Addr)(fs:List (Str×V)):HO:=.ext (V7 d fs)
section
variable{P:bC}{w:bZ}{H:Hp}{h:Heap}{e C d:Addr}{od:Option Addr}{fs:List (Str×V)}
theorem Mw(x:vF h e (.ref C) od none):eL P w H h e (.xo e C od):=by
 obtain⟨vs,sl,a,b⟩:=id x;exact#[x,#[_,a],λh1 h2 #[vs,sl,a,b] k=>#[vs,sl,k _ a,b]]
theorem Mx(x:V7 d fs h):eL P w H h d (.xf d fs):=by
 obtain⟨mA,⟨o,es,ep,e,c⟩,r⟩:=id x;exact#[x,#[_,e],λh1 h2 #[mA,#[o,es,ep,e,c],r] k=>#[mA,#[o,es,ep,k _ e,c],r]]
theorem C6(dg:n6 P w H h)(q:H e=some (.xo e C od)):vF h e (.ref C) od none:=(dg e _ q).1
theorem C7(dg:n6 P w H h)(q:H d=some (.xf d fs)):V7 d fs h:=(dg d _ q).1
end
theorem so{K:Frag}(self:Value):∀{l:List Value},tailIn K wW l=true->refuseLoop self "__setattr__" l=pure ()
 |[],e=>by simp[tailIn] at e
 |v::r,e=>by
  unfold tailIn at e;rcases Bool.or_eq_true_iff.mp e with q|q
  .rw[beq_iff_eq.mp q]
   exact PySem.F.store_ValueError.passes self
  .split at q
   .split at q
    .simp only[af] at q
     rw[refuseLoop_ref]
     exact so self q.2
    .cases q
   .cases q
section
variable{prog:bC}{w:bZ}{A:cA}{E:Value->ak->Prop}{s:ak}{K:Frag}{x C:Addr}{name:Str}{v:Value}{Q:Unit->ak->Prop}
theorem um{ox:Obj}{od:Option Obj}(X:K.In s.heap)(G:XGet K C)(I:gk s.heap x ox C od)(ht:takerIn K C name=some none)
  (h:∀(b:Bool)(t:Nat),wpAny (aR prog w) A.in1 (storeInOwnDict (.ref x) (.ref C) (.str name s.toks) name v b) (λfin s'=>match fin with|.done (.ret _)=>Q () s'|_=>False) E {s with toks:=s.toks+1}):
  wpAny (aR prog w) A (FJ (.ref x) name v) Q E s:=by
 have SF:=PySem.F.store_object;obtain⟨cd,bm,hc,hm,tl⟩:=G.mo;have T:OwnTail s.heap wW bm:=tail_of_in X tl;have ne:¬cd.mro.isEmpty=true:=by rw[hm];simp
 have ho:cd.mro.contains (.type "object")=true:=by rw[hm,kW,T.hasType (X:="object") (b:=true) (by decide +kernel),A6]
 have sub:Bl (aR prog w) s.heap (isInstance (.ref x) (.type "object")) true:=I.type.andThen (looks_mroIn X (by unfold mroIn;rw[hc,Fv,if_neg ne,ho]));refine set_plain X I G.sa ?_;refine JC SF.slot.plain SF.entry (@check_slot (aR prog w) _ _ {s with toks:=s.toks+1} "object.__setattr__" "object" "__setattr__" (.ref x) [.str name s.toks,v] [] _ SF.kind SF.split sub (SF.args (.ref x) (.str name s.toks) v) ?_);obtain⟨attr,ha,hr⟩:=au.mp ht;have hmro:Bl (aR prog w) s.heap (mroOf (.ref C)) cd.mro:=(JD X hc).andThen .now;have L3:Bl (aR prog w) s.heap (storeTaker? attr) none:=by
  cases attr with
  |none=>exact .now
  |some a=>
   obtain⟨b,hb,hb2⟩:=ag.mp hr;cases b with
   |true=>cases hb2
   |false=>exact(looks_takesIn X hb).andThen .now
 rw[osa_eq,refuse_eq]
 have I':Bl (aR prog w) s.heap (typeOf (.ref x)) (.ref C):=I.type;refine aj (aj (kP (s:={s with toks:=s.toks+1}) I' (aj (kP (s:={s with toks:=s.toks+1}) hmro ?_))));rw[hm,refuseLoop_ref,so _ tl]
 refine aK (aj (kP (s:={s with toks:=s.toks+1}) I' (aj (kP (s:={s with toks:=s.toks+1}) (vN X ha) (aj (kP (s:={s with toks:=s.toks+1}) L3 ?_))))));refine bL (h attr.isSome 0) (λfin s' z=>?_) λ_ _ z=>z
 cases fin with
 |again c=>exact z.elim
 |done f=>
  cases f with
  |ret u=>exact z
  |next=>exact z.elim
  |brk=>exact z.elim
  |cont=>exact z.elim
end
theorem BN{mA:Str->Option Value}{f:Str}{y:V}{u:Value}{fs:List (Str×V)}(wi:ki mA (fs.map (·.1))):ki (λg=>if g=f then some u else mA g) ((gv f y fs).map (·.1)):=λg hg=>by
 by_cases q:g=f
 .rw[q];exact(mj f y fs).1
 .refine(mj f y fs).2 g (wi g λz=>hg ?_)
  show(if g=f then some u else mA g)=none
  rw[if_neg q];exact z
theorem GH{mA:Str->Option Value}{f:Str}{y:V}{u:Value}{fs:List (Str×V)}(r:∀g,nI (fs.lookup g) (mA g))(ry:RelV y u)(g:Str):nI ((gv f y fs).lookup g) (if g=f then some u else mA g):=by
 rw[n9]
 by_cases q:g=f
 .rw[if_pos q,if_pos q];exact ry
 .rw[if_neg q,if_neg q];exact r g
section
variable{X:Cx}{pZ:List (Addr×Obj)}{σ:St}{H:Hp}{s:ak}{a C d:Addr}{fs:List (Str×V)}{f:Str}{y:V}{u:Value}{A:cA}{E:Value->ak->Prop}
theorem qu{Q:Fin->ak->Prop}{tk:Tok}(I:Inv X pZ σ H s)(hd:H d=some (.xf d fs))(hl:fs.length<1000)(ry:RelV y u)
  (h:∀s',Inv X pZ σ (upd H d (.xf d (gv f y fs))) s'->Q (.done (.ret .none)) s'):
  wpAny (aR X.prog X.w) A (storeInDict d (.str f tk) f u) Q E s:=by
 obtain⟨mA,ns,r,wi⟩:=C7 I.dg hd;unfold storeInDict newKeyGuard;refine aj (aK (aj (wpAny_nsSet1 ns λh' hn2 hs2=>?_)));obtain⟨oD,esD,epD,hoD,hdD,hcD⟩:=hn2.count (x9 f u wi);refine aj (wpAny_lookBehind hoD (by rw[hdD];exact pastItsLine_dict (aS hcD (by rw[aQ,aq,jb];omega))) ?_);refine aK (h _ (I.write (x:=d) (e:=d) (by rw[hd];exact dS) (.inl rfl) (λb q hb z=>(hs2.2 b hb).trans z) #[oD,hoD] (Mx #[_,hn2,GH r ry,BN wi])))
theorem N8{od:Option Addr}(I:Inv X pZ σ H s)(e:H a=some (.xo a C od)):∃vs sl,s.heap.get? a=some #[.ref C,od,.fields vs,sl]:=by
 obtain⟨vs,sl,q,_⟩:=C6 I.dg e;exact#[vs,sl,q]
theorem BO{Q:Unit->ak->Prop}(I:Inv X pZ σ H s)(G:XGet X.K C)(n:fA X.K C f)(e:H a=some (.xo a C none))(ry:RelV y u)
  (h:∀d s',H d=none->d≠a->Inv X pZ σ (upd (upd H d (.xf d [(f,y)])) a (.xo a C (some d))) s'->Q () s'):wpAny (aR X.prog X.w) A (FJ (.ref a) f u) Q E s:=by
 obtain⟨vs,sl,q,q1⟩:=C6 I.dg e;refine um (ox:=#[.ref C,none,.fields vs,sl]) (od:=none) I.kY G #[q,rfl,rfl,dS] n.Gf λb t=>?_
 obtain⟨cd,hc,hd'⟩:=JE G.hd;refine aj (aK (aj (aj (qU (s:={s with toks:=s.toks+1}) q (aj (kP (s:={s with toks:=s.toks+1}) (JD I.kY hc) ?_))))));rw[hd']
 generalize eD:({cls:=.type "dict",data:=.dict #[]}:Obj)=D0;have n0:H s.heap.objs.size=none:=I.dg.fresh (ax _);have na:s.heap.objs.size≠a:=kJ (aL q);have e1:(s.heap.push D0).get? s.heap.objs.size=some D0:=bz s.heap (by rw[<-eD];rfl);have e3:(s.heap.push D0).Ns s.heap.objs.size (λ_=>none):=#[D0,#[],_,e1,by rw[<-eD],(λe he=>absurd he (by simp)),λ_=>rfl]
 have I1:=I.laid (a:=s.heap.objs.size) (o:=.xf s.heap.objs.size []) (h':=s.heap.push D0) (t':=s.toks+1) (λb u q=>aA _ q) (ax _) (Mx #[_,Bg e3,λ_=>dS,λy hy=>absurd rfl hy]);have qa:(s.heap.push D0).get? a=some #[.ref C,none,.fields vs,sl]:=aA _ q;have fr:(({(#[.ref C,none,.fields vs,sl]:Obj) with dict:=some s.heap.objs.size}):Obj).isFreed=false:=rfl;have I2:=I1.write (x:=a) (e:=a) (o:=.xo a C (some s.heap.objs.size)) (h':=(s.heap.push D0).update a λo=>{o with dict:=some s.heap.objs.size}) (t':=s.toks+1) (by rw[bw (dJ na),e];exact dS) (.inl rfl) (λb u hb z=>gw z hb)
  #[_,dX _ qa fr] (Mw #[vs,sl,dX _ qa fr,q1])
 refine aj (wpAny_alloc (aj (wpAny_update (a:=a) (s:={s with heap:=s.heap.push D0,toks:=s.toks+1}) qa (aK ?_))));refine qu (fs:=[]) I2 (by rw[bw na,bJ]) ⋯ ry λs' I3=>h s.heap.objs.size s' n0 na ?_
 have hh:upd (upd (upd H s.heap.objs.size (.xf s.heap.objs.size [])) a (.xo a C (some s.heap.objs.size))) s.heap.objs.size (.xf s.heap.objs.size (gv f y []))=upd (upd H s.heap.objs.size (.xf s.heap.objs.size [(f,y)])) a (.xo a C (some s.heap.objs.size)):=by
  funext b
  by_cases z:b=s.heap.objs.size
  .rw[z,bJ,bw na,bJ];rfl
  .rw[bw z]
   by_cases z2:b=a
   .rw[z2,bJ,bJ]
   .rw[bw z2,bw z2,bw z,bw z]
 rw[<-hh]
 exact I3
theorem BP{Q:Unit->ak->Prop}(I:Inv X pZ σ H s)(G:XGet X.K C)(n:fA X.K C f)(e:H a=some (.xo a C (some d)))(hd:H d=some (.xf d fs))(hl:fs.length<1000)(ry:RelV y u)
  (h:∀s',Inv X pZ σ (upd H d (.xf d (gv f y fs))) s'->Q () s'):wpAny (aR X.prog X.w) A (FJ (.ref a) f u) Q E s:=by
 obtain⟨vs,sl,q⟩:=N8 I e;obtain⟨mA,⟨oD,es,ep,eo,c⟩,r⟩:=C7 I.dg hd;refine um (ox:=#[.ref C,some d,.fields vs,sl]) (od:=some oD) I.kY G #[q,rfl,rfl,eo] n.Gf λb t=>?_
 obtain⟨cd,hc,hd'⟩:=JE G.hd;refine aj (aK (aj (aj (qU (s:={s with toks:=s.toks+1}) q (aj (kP (s:={s with toks:=s.toks+1}) (JD I.kY hc) ?_))))));rw[hd']
 refine aK (a:=some d) ?_;exact qu (I.tok (s.toks+1)) hd hl ry λs' I'=>h s' I'
def RL(K:Frag)(ta tv:TE)(f:Str):TS:=λD σ H=>tv σ H λy H1=>ta σ H1 λx H2=>∃a C,x=.ref a/\XGet K C/\fA K C f /\
  ((H2 a=some (.xo a C none)/\∀d,H2 d=none->d≠a->D.nx σ (upd (upd H2 d (.xf d [(f,y)])) a (.xo a C (some d)))) \/
   ∃d fs,H2 a=some (.xo a C (some d))/\H2 d=some (.xf d fs)/\fs.length<1000/\D.nx σ (upd H2 d (.xf d (gv f y fs))))
theorem yD{o value:Expr}{pos pos':Pos}{ta tv:TE}(ha:PE X o ta)(hv:PE X value tv)(hs:iH value (some (.Attribute o f pos')) pos.line X.env=pure false):PS X (.Assign [.Attribute o f pos'] value pos) (RL X.K ta tv f):=by
 intro pZ s σ H D I h;refine wj (fh (hv pZ s σ H _ I h) λu s1 h9=>?_) hs;obtain⟨y,H1,I1,ry,q⟩:=h9;refine fh (ha pZ s1 σ H1 _ I1 q) λov s2 h9=>?_
 obtain⟨x,H2,I2,rx,a,C,ex,G,n,q2⟩:=h9;subst ex;obtain rfl:ov=aV a:=rx;rcases q2 with⟨e,k⟩|⟨d,fs,e,hd,hl,k⟩
 .exact BO I2 G n e ry λd s3 hn ne I3=>#[σ,_,I3,k d hn ne]
 .exact BP I2 G n e hd hl ry λs3 I3=>#[σ,_,I3,k]
end
noncomputable def sr(H:Hp)(a:Addr):Hp:=λb=>if b=a then none else H b
theorem pV{H:Hp}{a:Addr}:sr H a a=none:=if_pos rfl
theorem kn{H:Hp}{a b:Addr}(n:b≠a):sr H a b=H b:=if_neg n
section
variable{X:Cx}{pZ:List (Addr×Obj)}{σ:St}{H:Hp}{s:ak}{a C:Addr}{od:Option Addr}
theorem Inv.RM(I:Inv X pZ σ H s)(e:H a=some (.xo a C od)):Inv X pZ σ (sr H a) s:=by
 have no:∀b u,H b=some u->(∀φ,u≠.ext φ)->b≠a:=λb u q k z=>by
  subst z;rw[e] at q;exact k _ (aH q).symm
 have J:=I.step (g':=s.gens) (t':=s.toks) (d':=s.drawn) (h':=s.heap) (H':=sr H a) (ch:=[]) (λ_ z=>absurd z (by simp)) (λb o _ _ _ q _=>q) (λb o _ _ _ q _=>#[o.slots,q]) (λb o _ _ n=>by
   by_cases z:b=a
   .rw[z];exact pV
   .rw[kn z];exact n) (λb o _ q=>#[o,q]) (λb xs q=>by rw[kn (no b _ q (by intro φ z;cases z))];exact q) (λb o u q=>by rw[kn (no b _ q (by intro φ z;cases z))];exact q)
  (λb ps q=>#[#[],by rw[kn (no b _ q (by intro φ z;cases z)),q];simp]) (λm hm=>hm) (λb u q=>?_) I.bare
 .exact J
 .by_cases z:b=a
  .rw[z,pV] at q;cases q
  .rw[kn z] at q
   exact(I.dg b u q).jH (λ_ _ _ q=>q) (λc q=>by rw[kn (no c _ q (by intro φ z;cases z))];exact q) λc xs q=>by rw[kn (no c _ q (by intro φ z;cases z))];exact q
end
section
variable{M:Fn}{A:cA}{E:Value->ak->Prop}{s:ak}
theorem yE{K:Frag}{C C' a:Addr}{bm bm':List Value}{dx:Option Addr}{tb:Option (Addr×Value)}{Q:Bool->ak->Prop}(X:K.In s.heap)(c:oh K C bm)(c':oh K C' bm')(x:vF s.heap a (.ref C) dx tb)
  (h:Q ((aV C::bm).contains (.ref C')) s):wpAny M A (excMatches (.ref a) (.ref C')) Q E s:=by
 obtain⟨nm,q,N,bs,sn,sub,ab,col,dd,k0,k1,k2,k3,k5,hC0⟩:=c.ob;obtain⟨nm',q',N',bs',sn',sub',ab',col',dd',k0',k1',k2',k3',k5',hC0'⟩:=c'.ob;have hb:=c'.base X;obtain⟨vs,sl,he⟩:=x.obj;have hC:=X _ _ hC0;have hC':=X _ _ hC0';obtain⟨hp,g,d,tk,os⟩:=s;have hcB:(aV C'::bm').contains (.type "BaseException")=true:=by rw[kW,hb,A6]
 have f:=tc_notTuple;unfold excMatches
 repeat (first|with_reducible refine fm he ?_|with_reducible refine fm hC' ?_| (with_reducible refine lZ hC' ?_;rw[hcB])|with_reducible refine lZ hC ?_|wp_step)
 cases hb2:(aV C::bm).contains (.ref C')<;>(rw[hb2] at h;wp_walk;exact h)
end
noncomputable abbrev Cx.hand(X:Cx)(a:Addr):Cx:={X with A:=X.A.mark (some (.ref a)),calm:=false,xe:=λ_ _=>False}
section
variable{X:Cx}{pZ:List (Addr×Obj)}{σ:St}{H:Hp}{s:ak}{a:Addr}
theorem Cx.Ok.hand(ok:X.Ok)(a:Addr):(X.hand a).Ok:=
 #[ok.mod,ok.kind,ok.glob,ok.blt,ok.above,ok.inj,ok.has,ok.Mr,λz=>absurd (show false=true from z) ⋯,ok.frames,ok.Ei,ok.Q2,ok.bs,ok.FA,ok.zU,ok.Bu,ok.pP,ok.Jo]
theorem Inv.hand(I:Inv X pZ σ H s)(a:Addr):Inv (X.hand a) pZ σ H s:=#[I.ok.hand a,I.os,I.bare,I.base,I.loc,I.cell,I.free,I.km,I.pin,I.dg,I.len]
theorem Inv.yF(ok:X.Ok)(I:Inv (X.hand a) pZ σ H s):Inv X pZ σ H s:=#[ok,I.os,I.bare,I.base,I.loc,I.cell,I.free,I.km,I.pin,I.dg,I.len]
def YT(a:Addr)(c:Value)(dx:Option Addr):Heap->Prop:=λh=>∃vs sl,h.get? a=some #[c,dx,.fields vs,sl]
noncomputable abbrev HO.xc(a:Addr)(c:Value)(dx:Option Addr):HO:=.ext (YT a c dx)
theorem Inv.RO{c:Value}{dx:Option Addr}{tb:Option (Addr×Value)}(I:Inv X pZ σ H s)(f:BM X pZ H a)(x:vF s.heap a c dx tb):Inv X pZ σ (upd H a (.xc a c dx)) s:=by
 have ne:∀b u,H b=some u->b≠a:=λb u e z=>by rw[z,f.1] at e;cases e
 have J:=I.step (g':=s.gens) (t':=s.toks) (d':=s.drawn) (h':=s.heap) (H':=upd H a (.xc a c dx)) (ch:=[a]) (λb m=>by
   have e:b=a:=by simpa using m
   subst e;exact#[.inr f.2.1,f.2.2.1,f.2.2.2.1,f.2.2.2.2]) (λb o _ _ _ q _=>q) (λb o _ _ _ q _=>#[o.slots,q]) (λb o n _ z=>by rw[bw (λe=>n (by simp[e]))];exact z) (λb o _ q=>#[o,q])
  (λb xs q=>by rw[bw (ne b _ q)];exact q) (λb o u q=>by rw[bw (ne b _ q)];exact q) (λb ps q=>#[#[],by rw[bw (ne b _ q),q];simp]) (λm hm=>hm) (λb u q=>?_) I.bare
 .exact J
 .by_cases z:b=a
  .subst z
   rw[bJ] at q;cases q;obtain⟨vs,sl,e⟩:=x.obj;exact#[#[vs,sl,e],#[_,e],λh1 h2 #[vs,sl,e] k=>#[vs,sl,k _ e]]
  .rw[bw z] at q
   exact(I.dg b u q).jH (λ_ _ _ q=>q) (λc q=>by rw[bw (ne c _ q)];exact q) λc xs q=>by rw[bw (ne c _ q)];exact q
theorem oK{A:cA}{E:Value->ak->Prop}{M:Fn}{i:Nat}{n:Str}{pos:Pos}{Q:Unit->ak->Prop}(I:Inv X pZ σ H s)(hN:X.N.Nodup)(hi:X.N[i]?=some n)(hk:X.env.scope.names.lookup n=some .local)
  (h:∀s',Inv X pZ (σ.set i none) H s'->Q () s'):wpAny M A (do bindName X.env n .none;JF X.env n pos) Q E s:=by
 have hcls:(X.env.scope.kind==.class||(X.env.scope.kind==.module&&X.env.locals !=X.env.globals))=false:=by rw[I.ok.kind];rfl
 have hiσ:i<σ.length:=by rw[I.len];exact(ae.mp hi).1
 refine aj (wpAny_bindName (mi (v:=.bK) I hN hi (.inl hk) rfl (λs1 I1=>?_) (.inr hk)));unfold JF;refine wpAny_onRaise ?_;obtain⟨m,hn,hl⟩:=id I1.loc;obtain⟨u0,r0,l0⟩:=hl i n .bK hi (by rw[bU hiσ]) (.inl hk);have hv:m n=some u0:=by
  rcases l0 with⟨_,q⟩|⟨k,_⟩
  .exact q
  .have k':X.env.scope.names.lookup n=some .cell\/X.env.scope.names.lookup n=some .free:=k
   rw[hk] at k';rcases k' with z|z<;>cases z
 refine wpAny_unbindName_local hk hn hv hcls λh' u hn' hs=>h _ ?_
 obtain⟨oL,_,_,hoL,_⟩:=id hn;have tracked:n6 X.prog X.w H h':=λb ob e=>by
  refine(I1.dg b ob e).jH (λc w' hc q=>(hs.2 c ?_).trans q) (λ_ q=>q) λ_ _ q=>q
  rintro rfl;rcases hc with rfl|hc
  .rw[I1.free] at e;cases e
  .rw[I1.free] at hc;cases hc
 have lt:∀b o,X.s₀.heap.get? b=some o->b≠X.env.locals:=λb o e=>b7 (aM (aL e) I1.ok.above)
 refine#[I1.ok,I1.os,I1.bare,#[λb o e n hb hx=>(hs.2 b (lt b o e)).trans (I1.base.keep b o e n hb hx),λb o e n hb hx=>?_,I1.base.free,λb o e hx=>?_,I1.base.yr,I1.base.vO,I1.base.yt],#[_,hn',λj y v' e1 e2 e3=>?_],λy c e=>?_,I1.free,I1.km,λp hp=>?_,tracked,?_]
 .obtain⟨sl,e1⟩:=I1.base.slot b o e n hb hx
  exact#[sl,(hs.2 b (lt b o e)).trans e1]
 .obtain⟨o',e1⟩:=I1.base.there b o e hx
  exact#[o',(hs.2 b (lt b o e)).trans e1]
 .have hj:j≠i:=by
   rintro rfl;rw[bU hiσ] at e2;cases e2
  rw[av (dJ hj)] at e2;obtain⟨u',r',q⟩:=hl j y v' e1 (by rw[av (dJ hj)];exact e2) e3;refine#[u',r',?_];rcases q with⟨k,e⟩|⟨k,c,e,z⟩
  .refine .inl #[k,?_]
   have:y≠n:=λe=>hj (ua hN e1 (e▸hi))
   simp[this,e]
  .exact .inr #[k,c,e,z.sameBut hs (I1.JM y c e)]
 .obtain⟨w',z⟩:=I1.cell y c e
  exact#[w',z.sameBut hs (I1.JM y c e)]
 .obtain⟨e,n,ne,nf,d⟩:=I1.pin p hp
  exact#[(hs.2 p.1 ne).trans e,n,ne,nf,d]
 .rw[cY];exact I.len
end
def XE(X:Cx)(pZ:List (Addr×Obj))(σ:St)(E:XK)(ex:Value)(s':ak):Prop:=
 ∃(a:Addr)(tb:Option Addr)(c:Value)(dx:Option Addr)(H':Hp),ex=.ref a/\Inv X pZ σ H' s'/\vF s'.heap a c dx (tb.map λT=>(T,df))/\(∀b∈a::tb.toList,BM X pZ H' b)/\E c dx H'
def RP(X:Cx)(pZ:List (Addr×Obj))(E:St->XK)(ex:Value)(s':ak):Prop:=∃σ',XE X pZ σ' (E σ') ex s'
def eM(X:Cx)(e:Expr)(t:XK->TE):Prop:=
 ∀(pZ:List (Addr×Obj))(s:ak)(σ:St)(H:Hp)(Q:VK)(E:XK),Inv X pZ σ H s->t E σ H Q->wpAny (aR X.prog X.w) X.A (eval e X.env) (EP X pZ σ Q) (XE X pZ σ E) s
section
variable{X:Cx}{st:Stmt}{rest:List Stmt}{e:Expr}{es:List Expr}{pos p apos:Pos}
section
variable{k:Nat}{f C:Addr}{fd:dQ}{ps:List Str}{sp:Sp}{dvs:List V}{ds:List Value}{x m:Str}{o:Expr}{ta:TE}{t:TA}
theorem tD{pZ:List (Addr×Obj)}{σ:St}{H:Hp}{s:ak}{Q:VK}{E:XK}{us:List Value}{vs:List V}(F:iI X.prog X.w X.K X.mg X.base (pU X.prog X.w) k f fd ps sp)(hr:jx k X.A)(hb:Binds X.K fd ps ds)(hd:Vals dvs ds)
  (I:Inv X pZ σ H s) (r:Vals vs us) (h:sp (vs++dvs) H Q E):wpAny (aR X.prog X.w) X.A (call (.ref f) us) (EP X pZ σ Q) (XE X pZ σ E) s:=by
 have r2:Vals (vs++dvs) (us++ds):=r.append hd;have hl:(us++ds).length=ps.length:=by rw[<-r2.length];exact F.len _ _ _ _ h
 refine pO (md (F.run X.A X.stack s H #[us,[]] (us++ds) (vs++dvs) Q E hr I.NQ (hb s us I.kY hl) r2 h) λr s' hq=>?_);cases r with
 |error e=>
  obtain⟨a,T,c,dx,H',e1,I',x,fr,q⟩:=pU.inv I hq;exact#[a,some T,c,dx,H',e1,I',x,fr,q]
 |ok fl=>
  cases fl with
  |ret u=>exact I.after hq
  |next=>exact aI hq
  |brk=>exact aI hq
  |cont=>exact aI hq
end
def V8(K:Frag)(C':Addr)(i:Nat)(tb:(St->XK)->TS)(th:TS):TS:=λD σ H=>tb (λσ' c dx H'=>∃C bm,c=.ref C/\oh K C bm/\(aV C::bm).contains (.ref C')=true/\∀a,H' a=none ->
 th {nx:=λσ2 H2=>D.nx (σ2.set i none) H2,rt:=D.rt,bk:=λσ2 H2=>D.bk (σ2.set i none) H2,ct:=λσ2 H2=>D.ct (σ2.set i none) H2} (σ'.set i (some (.ref a))) (upd H' a (.xc a c dx))) D σ H
end
noncomputable def sV(env:Env):List (Str×NameKind)->List (Str×Addr)->List (Str×Addr)
 |[],acc=>acc
 | (n,k)::r,acc=>sV env r (if k=.free then(n,(env.cells.lookup n).getD 0)::acc else acc)
theorem uo{env:Env}{scope:kI}(h:∀n,(n,bQ)∈scope.names->∃c,env.cells.lookup n=some c):closureFor scope env=pure (sV env scope.names []):=by
 have all:∀(l:List (Str×NameKind))(acc:List (Str×Addr)),(∀n,(n,bQ)∈l->∃c,env.cells.lookup n=some c) ->
   (forIn (m:=Sem) l acc λ(x:Str×NameKind)(cs:List (Str×Addr))=>if (x.2==.free)=true then do let c <-cellOf env x.1;pure (dU ((x.1,c)::cs)) else pure (dU cs))=pure (sV env l acc):=by
  intro l;induction l with
  |nil=>intro acc _;rfl
  |cons p r ih=>
   intro acc hl;obtain⟨n,k⟩:=p;rw[List.forIn_cons]
   have hr:∀m,(m,bQ)∈r->∃c,env.cells.lookup m=some c:=λm hm=>hl m (aU _ hm)
   by_cases hk:k=.free
   .subst hk
    obtain⟨c,hc⟩:=hl n bf;have e:cellOf env n=pure c:=by unfold cellOf;rw[hc]
    show(do let x <-(if (bQ==bQ)=true then do let c <-cellOf env n;pure (dU ((n,c)::acc)) else pure (dU acc));_)=_
    rw[if_pos ⋯,e]
    show(forIn (m:=Sem) r ((n,c)::acc) _)=_
    rw[ih _ hr]
    show _=pure (sV env r (if bQ=bQ then(n,(env.cells.lookup n).getD 0)::acc else acc))
    rw[if_pos rfl,hc]
    rfl
   .have hb:(k==bQ)=false:=by simpa using hk
    show(do let x <-(if (k==bQ)=true then do let c <-cellOf env n;pure (dU ((n,c)::acc)) else pure (dU acc));_)=_
    rw[hb,if_neg ⋯]
    show(forIn (m:=Sem) r acc _)=_
    rw[ih _ hr]
    show _=pure (sV env r (if k=bQ then(n,(env.cells.lookup n).getD 0)::acc else acc))
    rw[if_neg hk]
 have:=all scope.names [] h;unfold closureFor;simpa using this
theorem sv{env:Env}:∀(l:List (Str×NameKind))(acc:List (Str×Addr))(y:Str)(c:Addr),(sV env l acc).lookup y=some c->(c=(env.cells.lookup y).getD 0/\(y,bQ)∈l)\/acc.lookup y=some c
 |[],acc,y,c,h=>.inr h
 | (n,k)::r,acc,y,c,h=>by
  rcases sv r _ y c h with⟨e,m⟩|q
  .exact .inl #[e,aU _ m]
  .by_cases hk:k=.free
   .rw[if_pos hk] at q
    by_cases e:y=n
    .subst e
     subst hk;rw[oH] at q;cases q;exact .inl #[rfl,bf]
    .rw[ba,show(y==n)=false by simpa using e] at q
     exact .inr q
   .rw[if_neg hk] at q
    exact .inr q
theorem Aa{env:Env}:∀(l:List (Str×NameKind))(acc:List (Str×Addr))(y:Str),(∃c,acc.lookup y=some c)->∃c,(sV env l acc).lookup y=some c
 |[],_,_,h=>h
 | (n,k)::r,acc,y,h=>by
  refine Aa r _ y ?_;by_cases hk:k=.free
  .rw[if_pos hk]
   by_cases e:y=n
   .subst e;exact#[_,oH]
   .rw[ba,show(y==n)=false by simpa using e];exact h
  .rw[if_neg hk];exact h
theorem ur{env:Env}:∀(l:List (Str×NameKind))(acc:List (Str×Addr))(y:Str),(y,bQ)∈l->∃c,(sV env l acc).lookup y=some c
 | (n,k)::r,acc,y,h=>by
  rcases bg.mp h with e|m
  .have e1:y=n:=congrArg Prod.fst e
   have e2:bQ=k:=congrArg Prod.snd e;subst e1;refine Aa r _ y ?_;rw[if_pos e2.symm]
   exact#[_,oH]
  .exact ur r _ y m
noncomputable def Cx.vS(X:Cx)(scope:kI)(C:Addr)(N:List Str)(s₀:ak)(H₀:Hp)(ex:List Addr):Cx:=
 {X with N:=N,s₀:=s₀,H₀:=H₀,env:=compEnvC scope (sV X.env scope.names []) C X.env,outer:=X.stack,stack:=X.stack,ex:=ex,fn:=λ_=>false,pn:=[],xe:=λ_ _=>False}
structure EB(X:Cx)(scope:kI)(x:List Str):Prop where
 kind:scope.kind=.function
 nc:∀y∈scope.names,y.2≠.cell
 lo:∀y∈scope.names,y.2=.local->scope.names.lookup y.1=some .local
 fr:∀y∈scope.names,y.2=.free->X.env.scope.names.lookup y.1=some .cell
 nm:∀y∈x,scope.names.lookup y=some .local
 nd:x.Nodup
 lk:∀y,scope.names.lookup y=some .free->(y,bQ)∈scope.names
theorem gx{env : Env} : ∀(names : List (Str×NameKind))(x : Str)(k : NameKind),
    (names.map λ(n, k) => if (k==bQ&&env.scope.kind==.function&&env.kindOf n==some .cell) then (n, NameKind.cell) else (n, k)).lookup x=some k -> names.lookup x=some k \/ (k=.cell /\ names.lookup x=some .free)
  |[], _, _, h => by cases h
  | (n, k0)::r, x, k, h => by
    rw [aF] at h;dsimp only at h;by_cases hc : (k0==bQ&&env.scope.kind==.function&&env.kindOf n==some .cell)=true
    · rw [if_pos hc] at h
      simp only [af, beq_iff_eq] at hc;by_cases e : (x==n)=true
      · rw [ba, e] at h
        cases h;refine .inr #[rfl, ?_];rw [ba, e, hc.1.1]
      · have e' : (x==n)=false := by simpa using e
        rw [ba, e'] at h;rw [ba, e'];exact gx r x k h
    · rw [if_neg hc] at h
      by_cases e : (x==n)=true
      · rw [ba, e] at h
        cases h;refine .inl ?_;rw [ba, e]
      · have e' : (x==n)=false := by simpa using e
        rw [ba, e'] at h;rw [ba, e'];exact gx r x k h
section
variable{X:Cx}{pZ:List (Addr×Obj)}{σ:St}{H:Hp}{s:ak}{scope:kI}{x:List Str}
theorem EB.cells(B:EB X scope x)(ok:X.Ok):∀n,(n,bQ)∈scope.names->∃c,X.env.cells.lookup n=some c:=λn hn=>ok.has n (.inl (B.fr _ hn rfl))
theorem EB.cl(B:EB X scope x)(ok:X.Ok){y:Str}{c:Addr}(h:(sV X.env scope.names []).lookup y=some c):X.env.cells.lookup y=some c/\X.env.scope.names.lookup y=some .cell:=by
 rcases sv _ _ _ _ h with⟨e,m⟩|q
 .obtain⟨c',hc'⟩:=B.cells ok y m
  rw[hc'] at e;rw[e]
  exact#[hc',B.fr _ m rfl]
 .cases q
theorem Inv.block{C:Addr}{h':Heap}{t':Nat}{ex:List Addr}{N:List Str}{τ:St}(I:Inv X pZ σ H s)(B:EB X scope x)(hC:C=s.heap.objs.size)(hns:h'.Ns C λ_=>none)
  (kp:∀b o,s.heap.get? b=some o->h'.get? b=some o) (hex:∀b∈ex,pS X pZ H b/\b<s.heap.objs.size) (hl:τ.length=N.length)
  (hτ:∀(i:Nat)(y:Str)(v:V),N[i]?=some y->τ[i]?=some (some v)->scope.names.lookup y=some .free/\∃j:Nat,X.N[j]?=some y/\σ[j]?=some (some v)):
  Inv (X.vS scope C N s H ex) [] τ H {s with heap:=h',toks:=t'}:=by
 have ok:=I.ok;have cleq:∀y c,(X.vS scope C N s H ex).env.cells.lookup y=some c->X.env.cells.lookup y=some c/\X.env.scope.names.lookup y=some .cell:=λy c e=>B.cl ok e
 have hfr:H C=none:=by rw[hC];exact I.dg.fresh (ax _)
 refine#[#[ok.mod,B.kind,ok.glob,ok.blt,Bf hC.symm,λy z c h1 h2=>ok.inj y z c (cleq y c h1).1 (cleq z c h2).1,λy hy=>?_,λy c z=>absurd (show false=true from z) ⋯,ok.hd,ok.frames,.inl rfl,λb hb=>?_,λb o e=>I.bs b o e,aS ok.FA I.sz,λb o e hb=>?_,λb hb=>?_,I.stack,I.yw],
  rfl,I.bare,Un.kept kp,#[_,hns,λi y v e1 e2 e3=>?_],λy c e=>?_,hfr,λy c e=>I.km y c (cleq y c e).1,λp hp=>absurd (show p∈([]:List (Addr×Obj)) from hp) (by simp),I.dg.kept kp,hl]
 .have hy':scope.names.lookup y=some .free:=by
   rcases hy with h|h
   .rcases gx (env:=X.env) scope.names y .cell h with q|q
    .exact absurd rfl (B.nc _ (fg q))
    .exact q.2
   .rcases gx (env:=X.env) scope.names y .free h with q|q
    .exact q
    .exact absurd q.1 ⋯
  exact ur _ _ _ (B.lk y hy')
 .refine#[λz=>?_,λy c e z=>(hex b hb).1.2.2.2.2.1 y c (cleq y c e).1 z]
  have:=(hex b hb).2;rw[z,show(X.vS scope C N s H ex).env.locals=C from rfl,hC] at this;exact absurd this (dI _)
 .obtain⟨f0,f1,f2,f3,f4,f5⟩:=(hex b hb).1
  rcases f3 with z|z
  .exact ok.zU b o e z
  .exact absurd (aM (aL (ok.bs b o e).1) z) (dI _)
 .obtain⟨f0,f1,f2,_⟩:=(hex b hb).1
  intro z;rcases bg.mp (I.t9 b z) with q|q
  .exact f1 q
  .exact f2 q
 .obtain⟨hf,j,hj,hv⟩:=hτ i y v e1 e2
  obtain⟨m,_,hlk⟩:=I.loc;have hcell:=B.fr _ (B.lk y hf) rfl;obtain⟨u,r,l⟩:=hlk j y v hj hv (.inr (.inl hcell));refine#[u,r,.inr #[?_,?_]]
  .show(FV scope X.env).names.lookup y=some .cell\/(FV scope X.env).names.lookup y=some .free
   have:=e3;rcases this with q|q|q
   .rcases gx (env:=X.env) scope.names y .local q with z|z
    .rw[hf] at z;cases z
    .exact absurd z.1 ⋯
   .exact .inl q
   .exact .inr q
  .rcases l with⟨k,_⟩|⟨_,c,hc,z⟩
   .have k':X.env.scope.names.lookup y=some .local:=k
    rw[hcell] at k';cases k'
   .obtain⟨c',hc'⟩:=ur (env:=X.env) scope.names [] y (B.lk y hf)
    have hc2:=(B.cl ok hc').1;rw[hc] at hc2;cases hc2;obtain⟨o,ho,hd⟩:=z;exact#[c,hc',#[o,kp _ _ ho,hd]]
 .obtain⟨v,o,ho,hd⟩:=I.cell y c (cleq y c e).1
  exact#[v,o,kp _ _ ho,hd]
theorem Inv.Kj{C:Addr}{ex:List Addr}{N:List Str}{τ:St}{H':Hp}{s':ak}(I:Inv X pZ σ H s)(J:Inv (X.vS scope C N s H ex) [] τ H' s')(hex:∀b∈ex,pS X pZ H b):Inv X pZ σ H' s':=
 I.Ms (ch:=ex) J.os J.base J.dg J.bare λb hb=>#[(hex b hb).2.2.2.1,(hex b hb).2.1,(hex b hb).2.2.2.2.1,(hex b hb).2.2.2.2.2]
end
def Kk(X:Cx)(ifs:List Expr)(t:TT):Prop:=
 ∀(pZ:List (Addr×Obj))(s:ak)(σ:St)(H:Hp)(Q:Bool->Hp->Prop),Inv X pZ σ H s->t σ H Q ->
  wpAny (aR X.prog X.w) X.A (forIn ifs true λc r=>if r=true then do let ok <-isTrue c X.env (eval c X.env);pure (dU ok) else pure (dU r)) (TP X pZ σ Q) X.xe s
def RQ:TT:=λ_ H Q=>Q true H
theorem Kl{X:Cx}:Kk X [] RQ:=λ_ _ _ H _ I q=>wpAny_tests_nil #[H,I,q]
theorem Km{X:Cx}{c:Expr}{t:TT}(h:PT X c t):Kk X [c] t:=λpZ s σ H Q I q=>wpAny_tests_one (h pZ s σ H Q I q)
noncomputable def gy(σ:St)(ci:List Nat):St:=ci.map λj=>(σ[j]?).join
def RS(K:Frag)(pr:Bool)(y:V)(H:Hp)(k:St->Prop):Prop:=match pr with
 |false=>k [some y]
 |true=>∃p a b,y=.ref p/\lS K H p [a,b]/\k [some a,some b]
abbrev My(bd:V->Hp->(St->Prop)->Prop)(J:It)(D:Addr)(tc:TT)(te:TE)(caps:St)(R:Hp->Prop)(H1:Hp):Prop:=
 ∃W:Nat->Nat->List V->Hp->Prop,(∃m,W 0 m [] (upd H1 D (.lst [])))/\∀i m acc H2,W i m acc H2->H2 D=some (.lst acc)/\acc.length<sizeLine /\
  ((J.stop i H2/\R H2)\/(J.go i H2/\∀y H3,J.Rj i H2 y H3->bd y H3 λτ=>tc (τ++caps) H3 λb H4=>
   if b=true then te (τ++caps) H4 λz H5=>H5 D=some (.lst acc)/\∃m',m'<m/\W (i+1) m' (acc++[z]) (upd H5 D (.lst (acc++[z]))) else ∃m',m'<m/\W (i+1) m' acc H4))
def GI(bd:V->Hp->(St->Prop)->Prop)(wi:TI)(ci:List Nat)(tc:TT)(te:TE):TE:=λσ H Q=>wi σ H λJ H1=>∀D,H1 D=none->My bd J D tc te (gy σ ci) (λH2=>Q (.ref D) H2) H1
structure yG(X:Cx)(scope:kI)(cn:List Str)(ci:List Nat):Prop where
 len:ci.length=cn.length
 at_:∀(k:Nat)(y:Str),cn[k]?=some y->∃j:Nat,ci[k]?=some j/\X.N[j]?=some y
 fr:∀y∈cn,scope.names.lookup y=some .free
section
variable{X:Cx}{pZ:List (Addr×Obj)}{σ:St}{H:Hp}{s:ak}{scope:kI}{x:List Str}
theorem rn{cn:List Str}{X:Cx}{scope:kI}{ci:List Nat}(cp:yG X scope cn ci)(B:EB X scope x)(hn:cn.Nodup):(x++cn).Nodup:=
 me.mpr #[B.nd,hn,λy hy z hz e=>(by
  subst e;have q:=cp.fr y hz;rw[B.nm y hy] at q;cases q)]
def QF(X:Cx)(tg:Expr)(scope:kI)(x cn:List Str)(bd:V->Hp->(St->Prop)->Prop):Prop:=
 ∀(C:Addr)(s₀:ak)(H₀:Hp)(ex:List Addr)(pZ:List (Addr×Obj))(s:ak)(τ caps:St)(H:Hp)(v:V)(u:Value)(k:St->Prop),Inv (X.vS scope C (x++cn) s₀ H₀ ex) pZ (τ++caps) H s->τ.length=x.length->RelV v u->bd v H k ->
  wpAny (aR X.prog X.w) X.A (xX tg (X.vS scope C (x++cn) s₀ H₀ ex).env u) (λ_ s'=>∃τ',τ'.length=x.length/\Inv (X.vS scope C (x++cn) s₀ H₀ ex) pZ (τ'++caps) H s'/\k τ') (λ_ _=>False) s
theorem RT{α:Type}{l:List α}(h:l.length=2):∃a b,l=[a,b]:=by
 cases l with
 |nil=>cases h
 |cons a t=>obtain⟨b,e⟩:=i3.mp (Jd h);exact#[a,b,by rw[e]]
theorem GJ{y:Str}{py:Pos}{cn:List Str}{ci:List Nat}(B:EB X scope [y])(cp:yG X scope cn ci)(hnd:cn.Nodup):QF X (.Name y py) scope [y] cn (RS X.K false):=by
 intro C s₀ H₀ ex pZ s τ caps H v u k I hl r h;have hx:(X.vS scope C ([y]++cn) s₀ H₀ ex).env.scope.names.lookup y=some .local:=qY (B.nm y (by simp));obtain⟨o,rfl⟩:=i3.mp hl;exact vJ (mi I (rn cp B hnd) (i:=0) rfl (.inl hx) r (λs8 J8=>#[[some v],rfl,J8,h]) (.inr hx))
theorem GK{y z:Str}{py pz pt:Pos}{n:Nat}{cn:List Str}{ci:List Nat}(B:EB X scope [y,z])(cp:yG X scope cn ci)(hnd:cn.Nodup)(hc:X.calm=true):QF X (.Tuple [.Name y py,.Name z pz] n pt) scope [y,z] cn (RS X.K true):=by
 intro C s₀ H₀ ex pZ s τ caps H v u k I hl r h;have hy:(X.vS scope C ([y,z]++cn) s₀ H₀ ex).env.scope.names.lookup y=some .local:=qY (B.nm y (by simp));have hz:(X.vS scope C ([y,z]++cn) s₀ H₀ ex).env.scope.names.lookup z=some .local:=qY (B.nm z (by simp));have nd:=rn cp B hnd;obtain⟨p,a,b,e,hq,q⟩:=h;obtain⟨o,o',rfl⟩:=RT hl;refine bL (F6 (X:=X.vS scope C ([y,z]++cn) s₀ H₀ ex) (pos:=pt) (k:=n) hc (qj (qi (i:=0) (pos:=py) nd rfl (.inl hy) (.inr hy)) (qj (qi (i:=1) (pos:=pz) nd rfl (.inl hz) (.inr hz)) CY)) rfl rfl pZ s _ H v u (λσ' H'=>H'=H/\σ'=[some a,some b]++caps) I r ?_) (λ_ s' #[σ',H',I',e1,e2]=>?_) λ_ _ z=>z
 .exact#[p,[a,b],e,hq,rfl,a,[b],rfl,b,[],rfl,rfl,rfl,rfl]
 .subst e1 e2
  exact#[[some a,some b],rfl,I',q]
theorem Ab{elt iter tg:Expr}{bd:V->Hp->(St->Prop)->Prop}{pos:Pos}{ifs:List Expr}{it:Addr}{fp:List Addr}{tn:Nat->Heap->Prop}{J:It}{tc:TT}{te:TE}{cn:List Str}{ci:List Nat}{RR:Value->Addr->Result->ak->Prop}{Rq:Addr->Hp->Prop}{E:Value->ak->Prop}
  (I:Inv X pZ σ H s) (B:EB X scope x) (cp:yG X scope cn ci) (hnd:cn.Nodup) (hcalm:X.calm=true) (ht:QF X tg scope x cn bd) (T:Turn X.prog X.w X.K tg J fp it tn) (t0:tn 0 s.heap) (hf:∀b∈fp,pS X pZ H b)
  (hc:∀C s₀ H₀ ex,Kk (X.vS scope C (x++cn) s₀ H₀ ex) ifs tc) (he:∀C s₀ H₀ ex,PE (X.vS scope C (x++cn) s₀ H₀ ex) elt te)
  (h:∀D,H D=none->My bd J D tc te (gy σ ci) (Rq D) H)
  (fin:∀C D H5 s5,Inv X pZ σ H5 s5->Rq D H5->(∃m,s5.heap.Ns C m)->BM X pZ H5 C->RR (.ref D) C (.ok .next) s5):
  wpAny (aR X.prog X.w) X.A (newList []) (λacc s₃=>wpAny (aR X.prog X.w) X.A (newFunctionEnv scope X.env.globals (sV X.env scope.names []) [] X.env.qual none .none (some X.env)) (λcenv s₄=>
   nU (aR X.prog X.w) X.A (.compStart (.ListComp elt [#[tg,iter,ifs,0]] scope pos) 0 (.ref it) acc {cenv with scope:=FV scope X.env}) (RR acc cenv.locals) s₄) E s₃) E s:=by
 have ok:=I.ok;obtain⟨W,⟨m0,w0⟩,turn⟩:=h s.heap.objs.size (I.dg.fresh (ax _));generalize hD:s.heap.objs.size=D at turn w0;refine gU ?_;have I2:Inv X pZ σ (upd H D (.lst [])) {s with heap:=s.heap.push {cls:=.type "list",dict:=none,data:=.seq ([]:List Value).toArray} }:=by
  have:=I.RH (its:=[]) (ys:=[]) (t':=s.toks) .nil (dv _);rw[hD] at this;exact this
 generalize hH2:s.heap.push {cls:=.type "list",dict:=none,data:=.seq ([]:List Value).toArray}= h2 at I2 ⊢;have k2:∀b o,s.heap.get? b=some o->h2.get? b=some o:=λb o e=>by rw[<-hH2];exact aA _ e
 have sz2:h2.objs.size=s.heap.objs.size+1:=by rw[<-hH2,wg]
 have fpl:∀b∈fp,b<s.heap.objs.size:=λb hb=>by
  obtain⟨o,e,_⟩:=T.obj _ _ t0 b hb;exact aL e
 have nD:∀b∈fp,b≠D:=λb hb=>by rw[<-hD];exact b7 (fpl b hb)
 have hf2:∀b∈fp,pS X pZ (upd H D (.lst [])) b:=λb hb=>#[by rw[bw (nD b hb)];exact(hf b hb).1,(hf b hb).2]
 have t2:tn 0 h2:=T.keep _ _ _ t0 λb _ o e=>k2 b o e
 show wpAny _ _ _ _ _ {s with heap:=h2}
 refine wpAny_newFunctionEnv B.nc (by intro y hy;simp at hy) (λh3 ns3 sb3=>?_) B.kind;have kp3:∀b o,h2.get? b=some o->h3.get? b=some o:=λb o e=>(sb3.2 b (b7 (aL e))).trans (aA _ e)
 have hl:((x.map λ_=>none)++gy σ ci:St).length=(x++cn).length:=by
  rw[aB,aB,aq,gy,aq,cp.len]
 have J3:Inv (X.vS scope h2.objs.size (x++cn) {s with heap:=h2} (upd H D (.lst [])) fp) [] ((x.map λ_=>none)++gy σ ci) (upd H D (.lst [])) {s with heap:=h3,toks:=s.toks+0}:=
  I2.block (s:={s with heap:=h2}) (h':=h3) (t':=s.toks+0) (N:=x++cn) B rfl ns3 kp3 (λb hb=>#[hf2 b hb,by rw[sz2];exact cK (fpl b hb)]) hl (λi y v e1 e2=>by
   by_cases lt:i<x.length
   .rw[ao (by simpa using lt),ar,aa lt] at e2
    cases e2
   .have e1':cn[i-x.length]?=some y:=by rw[ay ∅] at e1;exact e1
    have e2':(gy σ ci)[i-x.length]?=some (some v):=by rw[ay (by simpa using lt),aq] at e2;exact e2
    refine#[cp.fr y (aw e1'),?_];obtain⟨j,hj,hy⟩:=cp.at_ _ y e1';refine#[j,hy,?_];rw[gy,ar,hj] at e2';have e3:(σ[j]?).join=some v:=aH e2';cases q:σ[j]? with
    |none=>rw[q] at e3;cases e3
    |some w=>rw[q] at e3;exact congrArg some e3)
 generalize hY:X.vS scope h2.objs.size (x++cn) {s with heap:=h2} (upd H D (.lst [])) fp=Y at J3;have ePr:Y.prog=X.prog:=by rw[<-hY];rfl
 have eW:Y.w=X.w:=by rw[<-hY];rfl
 have eK:Y.K=X.K:=by rw[<-hY];rfl
 have eC:Y.calm=true:=by rw[<-hY];exact hcalm
 have eA:Y.A=X.A:=by rw[<-hY];rfl
 have eE:Y.env=compEnvC scope (sV X.env scope.names []) h2.objs.size X.env:=by rw[<-hY];rfl
 have hPc:Kk Y ifs tc:=by rw[<-hY];exact hc _ _ _ _
 have hPe:PE Y elt te:=by rw[<-hY];exact he _ _ _ _
 have eN:Y.N=x++cn:=by rw[<-hY];rfl
 have eX:Y.xe=λ_ _=>False:=by rw[<-hY];rfl
 have TY:Turn Y.prog Y.w Y.K tg J fp it tn:=by rw[ePr,eW,eK];exact T
 have fpY:∀{H':Hp},(∀b∈fp,H' b=none)->∀b∈fp,pS Y [] H' b:=λhn b hb=>by
  obtain⟨f0,f1,f2,f3,f4,f5⟩:=hf2 b hb;have lt2:b<h2.objs.size:=by rw[sz2];exact cK (fpl b hb)
  refine#[hn b hb,λz=>?_,λz=>?_,.inl (by rw[<-hY];exact hb),λy c e=>?_,λp hp=>?_]
  .have z':b=h2.objs.size:=by rw[eE] at z;exact z
   exact absurd lt2 (by rw[z'];exact dI _)
  .have z':b∈vP X.stack:=by rw[<-hY] at z;exact z
   rcases bg.mp (I.t9 b z') with q|q
   .exact f1 q
   .exact f2 q
  .rw[eE] at e
   exact f4 y c (B.cl ok e).1
  .have:p∈([]:List (Addr×Obj)):=by rw[<-hY] at hp;exact hp
   exact absurd this (by simp)
 have loop:∀s4:ak,s4={s with heap:=h3,toks:=s.toks+0}->nU (aR X.prog X.w) X.A (.compLoop (.ListComp elt [#[tg,iter,ifs,0]] scope pos) 0 (.ref it) (.ref D) Y.env) (RR (.ref D) h2.objs.size) s4:=by
  rintro s4 rfl;refine codeAny_loop rfl (λn s'=>∃i acc τ H',τ.length=x.length/\Inv Y [] (τ++gy σ ci) H' s'/\tn i s'.heap/\(∀b∈fp,H' b=none)/\W i n acc H') ?_ m0 #[0,[],x.map λ_=>none,_,by simp,J3,T.keep _ _ _ t2 λb _ o e=>kp3 b o e,λb hb=>(hf2 b hb).1,w0];rintro n s5 ⟨i,acc,τ,H5,hτ,J5,t5,f5,w5⟩;obtain⟨hD5,hz5,alt⟩:=turn i n acc H5 w5;show wpAny _ X.A ((compTurn (.ListComp elt [#[tg,iter,ifs,0]] scope pos) 0 (.ref it) (.ref D) Y.env).onRaise (λx=>do Ft x Y.env;theTreesLotGoes x)) _ _ s5;refine wpAny_noted ?_;rw[compTurn_list,<-eA]
  rcases alt with⟨stop,q5⟩|⟨go,step⟩
  .refine aj (nZ (aj ?_))
   rw[<-ePr,<-eW]
   refine fh (TY.done Y rfl rfl rfl eC i [] s5 _ H5 _ J5 (fpY f5) t5 stop) λr s6 h9=>?_
   obtain⟨hr,J6⟩:=h9;subst hr;refine aK ?_;have J6':Inv (X.vS scope h2.objs.size (x++cn) {s with heap:=h2} (upd H D (.lst [])) fp) [] (τ++gy σ ci) H5 s6:=by rw[hY];exact J6
   have I6:=I2.Kj J6' hf2;obtain⟨m6,ns6,_⟩:=J6'.loc;have fC:=I2.RJ (b:=h2.objs.size) (ax _);exact fin h2.objs.size D H5 s6 I6 q5 #[m6,ns6] #[J6'.free,fC.2]
  .refine aj (nZ (aj ?_))
   rw[<-ePr,<-eW]
   refine fh (TY.item Y rfl rfl rfl eC i [] s5 _ H5 _ J5 (fpY f5) t5 go) λr s6 h9=>?_
   obtain⟨u,hr,h6⟩:=h9;subst hr;refine aj ?_;rw[eA,<-eA]
   refine fh h6 λ_ s7 h9=>?_
   obtain⟨y,H7,J7,r7,y7,t7,f7⟩:=h9;have J7':=J7.pinned (fpY f7) (T.obj _ _ t7);have noE:∀{α:Type}{t:Sem α}{Q:α->ak->Prop}{E:Value->ak->Prop}{s:ak},wpAny (aR Y.prog Y.w) Y.A t Q Y.xe s->wpAny (aR Y.prog Y.w) Y.A t Q E s:=λh=>bL h (λ_ _ z=>z) λ_ _ z=>by rw[eX] at z;exact z.elim
   have ht':wpAny (aR Y.prog Y.w) Y.A (xX tg Y.env u) (λ_ s8=>∃τ',τ'.length=x.length/\Inv Y ([]++rf fp s7.heap) (τ'++gy σ ci) H7 s8/\tc (τ'++gy σ ci) H7 λb H4=>
     if b=true then te (τ'++gy σ ci) H4 λz H5=>H5 D=some (.lst acc)/\∃m',m'<n/\W (i+1) m' (acc++[z]) (upd H5 D (.lst (acc++[z]))) else ∃m',m'<n/\W (i+1) m' acc H4) (λ_ _=>False) s7:=by
    have st:=step y H7 y7;subst hY;exact ht _ _ _ _ _ s7 τ _ H7 y u _ J7' hτ r7 st
   refine aj (bL ht' (λ_ s8 h9=>?_) λ_ _ z=>z.elim);obtain⟨τ',hτ',J8',q8⟩:=h9;refine aj (noE (fh (hPc _ s8 _ H7 _ J8' q8) λb s9 h9=>?_));obtain⟨H9,J9,q9⟩:=h9;have again:∀{acc':List V}{H':Hp}{s':ak},Inv Y ([]++rf fp s7.heap) (τ'++gy σ ci) H' s'->(∃m',m'<n/\W (i+1) m' acc' H')->∃m,m<n/\∃i acc τ H',τ.length=x.length/\Inv Y [] (τ++gy σ ci) H' s'/\tn i s'.heap/\(∀b∈fp,H' b=none)/\W i m acc H':=λ{acc' H' s'}J' ⟨m',lt,w'⟩=>by
    refine#[m',lt,i+1,acc',τ',H',hτ',J'.qk,T.keep _ _ _ t7 λb hb o e=>(J'.pin (b,o) (aW _ (aW _ (mP hb e)))).1,λb hb=>?_,w'];obtain⟨o,e,d⟩:=T.obj _ _ t7 b hb;exact(J'.pin (b,o) (aW _ (aW _ (mP hb e)))).2.1
   cases b with
   |false=>exact aK #[rfl,again J9 q9]
   |true=>
    refine aj (aj (noE (fh (hPe _ s9 _ H9 _ J9 q9) λv s10 h9=>?_)));obtain⟨z,H10,J10,r10,hD10,q10⟩:=h9;refine aj (noE (fh (rk _ s10 _ H10 (.ref D) [z] (.ref D) [v] (λ_ H11=>H11=upd H10 D (.lst (acc++[z]))) J10 rfl (.cons r10 .nil) #[D,acc,z,rfl,rfl,hD10,hz5,rfl]) λv11 s11 h9=>?_));obtain⟨z11,H11,J11,_,e11⟩:=h9;subst e11;exact aK (aK #[rfl,again J11 q10])
 rw[eE] at loop;subst hD;exact codeAny_compStart_list (loop _ rfl) (T.self _ 0 _ _ _ (T.keep _ _ _ t2 λb _ o e=>kp3 b o e) (loop _ rfl))
theorem Kn{elt iter tg:Expr}{bd:V->Hp->(St->Prop)->Prop}{pos:Pos}{ifs:List Expr}{wi:TI}{tc:TT}{te:TE}{cn:List Str}{ci:List Nat}(B:EB X scope x)(cp:yG X scope cn ci)(hnd:cn.Nodup)(hcalm:X.calm=true)(ht:QF X tg scope x cn bd)(hi:PI X tg iter wi)
  (hc:∀C s₀ H₀ ex,Kk (X.vS scope C (x++cn) s₀ H₀ ex) ifs tc) (he:∀C s₀ H₀ ex,PE (X.vS scope C (x++cn) s₀ H₀ ex) elt te) (hs:∀x,foldedSetIterable iter X.env x=pure x:=by intro _;rfl):
  PE X (.ListComp elt [#[tg,iter,ifs,0]] scope pos) (GI bd wi ci tc te):=by
 intro pZ s σ H Q I h;rw[eval_ListComp]
 refine D6 (use:=none) rfl hs (uo (B.cells I.ok)) B.kind B.lo (fh (hi pZ s σ H _ I h) λv s1 h1=>fh h1 λitv s2 h2=>?_);obtain⟨it,fp,tn,J,H2,e,I2,T,t2,f2,q⟩:=h2;subst e;refine Ab (RR:=λacc C=>compPost (aR X.prog X.w) X.A X.xe none (EP X pZ σ Q) acc C) (Rq:=λD H2=>Q (.ref D) H2) I2 B cp hnd hcalm ht T t2 f2 hc he q λC D H5 s5 I5 q5 hn fC=>?_
 obtain⟨m,hm⟩:=hn;refine#[m,hm,λh' sb=>#[.ref D,H5,?_,rfl,q5]];exact I5.turned (it:=C) (t':=s5.toks) (λb o hb e=>(sb.2 b hb).trans e) fC.1 fC.2.2.1 (.inr fC.2.1) fC.2.2.2.1 fC.2.2.2.2
theorem BQ{elt iter tg:Expr}{bd:V->Hp->(St->Prop)->Prop}{py pos spos:Pos}{ifs:List Expr}{wi:TI}{tc:TT}{te:TE}{cn:List Str}{ci:List Nat}{i:Nat}{y:Str}(B:EB X scope x)(cp:yG X scope cn ci)(hnd:cn.Nodup)(hcalm:X.calm=true)(ht:QF X tg scope x cn bd)(hi:PI X tg iter wi)
  (hc:∀C s₀ H₀ ex,Kk (X.vS scope C (x++cn) s₀ H₀ ex) ifs tc) (he:∀C s₀ H₀ ex,PE (X.vS scope C (x++cn) s₀ H₀ ex) elt te) (hN:X.N.Nodup) (hy:X.N[i]?=some y) (hk:X.env.scope.names.lookup y=some .local)
  (hsw:iH (.ListComp elt [#[tg,iter,ifs,0]] scope pos) (some (.Name y py)) spos.line X.env=pure true) (hs:∀x,foldedSetIterable iter X.env x=pure x:=by intro _;rfl):
  PS X (.Assign [.Name y py] (.ListComp elt [#[tg,iter,ifs,0]] scope pos) spos) (Rg (GI bd wi ci tc te) (wH i)):=by
 intro pZ s σ H D I h;rw[exec_Assign_Name_used _ _ _ _ hsw]
 refine aj (nZ (aj ?_));show wpAny _ X.A (do let _ <-comprehension (.ListComp elt [#[tg,iter,ifs,0]] scope pos) scope X.env _ (newList []) false (eval iter X.env) (some (xX (.Name y py) X.env))) _ _ s;refine aj (bL (D6 (use:=some (xX (.Name y py) X.env)) (Q:=λ_ s'=>SP X pZ D .next s') rfl hs (uo (B.cells I.ok)) B.kind B.lo (fh (hi pZ s σ H _ I h) λv s1 h1=>fh h1 λitv s2 h2=>?_))
  (λ_ s' hq=>aK (aK hq)) λ_ _ e=>e)
 obtain⟨it,fp,tn,J,H2,e,I2,T,t2,f2,q⟩:=h2;subst e;refine Ab (RR:=λacc C=>compPost (aR X.prog X.w) X.A X.xe (some (xX (.Name y py) X.env)) (λ_ s'=>SP X pZ D .next s') acc C) (Rq:=λD' H2=>(wH i) (.ref D') σ H2 D.nx) I2 B cp hnd hcalm ht T t2 f2 hc he q λC D' H5 s5 I5 q5 hn fC=>?_
 obtain⟨m,hm⟩:=hn;show wpAny _ X.A (xX (.Name y py) X.env (.ref D')) _ _ _;refine vJ (wF (v:=.ref D') I5 hN hy (.inl hk) rfl (λs6 I6 sb6=>?_) (.inr hk));obtain⟨a,sb,ha⟩:=sb6;have nC:C≠a:=by
  rcases ha with z|z
  .rw[z];exact fC.2.2.1
  .intro w;exact fC.2.2.2.1 y a z w.symm
 refine#[m,hm.sameBut sb nC,λh' sb'=>#[_,H5,?_,q5]];exact I6.turned (it:=C) (t':=s6.toks) (λb o hb e=>(sb'.2 b hb).trans e) fC.1 fC.2.2.1 (.inr fC.2.1) fC.2.2.2.1 fC.2.2.2.2
def RV(z:Str):It:=#[λi _=>i<z.cps.size,λi H x H'=>H'=H/\∃c,z.cps[i]?=some c/\x=.str #[(List.toArray [c])],λi _=>z.cps.size<=i]
theorem GL{P:bC}{w:bZ}{K:Frag}{tg:Expr}(it:Addr)(z:Str)(t:Tok)(b:Bool):Turn P w K tg (RV z) [it] it (λi h=>h.IsStrIter it (if b then "str_ascii_iterator" else "str_iterator") z t i) where
 mem:=by simp
 obj:=λi h st c hc=>by
  have e:c=it:=by simpa using hc
  subst e;obtain⟨o,e,_,d⟩:=st;exact#[o,e,λv q=>by rw[d] at q;cases q]
 keep:=λi h h' st k=>by
  obtain⟨o,e,c,d⟩:=st;exact#[o,k it (by simp) o e,c,d]
 item:=by
  intro X hP hw hK hc i pZ s σ H E I hf st hg;subst hP hw hK;obtain⟨f0,f1,f2,f3,f4,f5⟩:=hf it (by simp);have hx:z.cps[i]?=some (z.cps[i]'hg):=Array.getElem?_eq_getElem hg;have done:∀h',h'.IsStrIter it (if b then "str_ascii_iterator" else "str_iterator") z t (i+1)->r6 it s.heap h' ->
    ∃u,(some (jw #[(List.toArray [z.cps[i]'hg])] s.toks):Option Value)=some u/\wpAny (aR X.prog X.w) X.A (qc tg (.ref it) u) (λ_ s2=>∃x H',Inv X pZ σ H' s2/\RelV x u/\(RV z).Rj i H x H'/\s2.heap.IsStrIter it (if b then "str_ascii_iterator" else "str_iterator") z t (i+1)/\∀b∈[it],H' b=none) E {s with heap:=h',toks:=s.toks+1}:=λh' st' sb=>by
   have I1:Inv X pZ σ H {s with heap:=h',toks:=s.toks+1}:=I.turned (t':=s.toks+1) (λb o hb e=>(sb.2 b hb).trans e) f0 f1 f3 f4 f5;obtain⟨o,e,c,d⟩:=id st';exact#[_,rfl,CZ (s:={s with heap:=h',toks:=s.toks+1}) e c d (by cases b<;>decide) #[.str #[(List.toArray [z.cps[i]'hg])],H,I1,#[_,rfl],#[rfl,_,hx,rfl],st',λb hb=>(hf b hb).1]]
  cases b with
  |true=>exact wpAny_pyNext_ascii_item st hx λh' st' sb=>done h' st' sb
  |false=>exact wpAny_pyNext_wide_item st hx λh' st' sb=>done h' st' sb
 done:=by
  intro X hP hw hK hc i pZ s σ H E I hf st hg;subst hP hw hK;obtain⟨f0,f1,f2,f3,f4,f5⟩:=hf it (by simp);have hx:z.cps[i]?=none:=Array.getElem?_eq_none hg;cases b with
  |true=>exact wpAny_pyNext_ascii_end (I.ok.hd hc) st hx λh' eb=>#[rfl,I.turned (t':=s.toks) (λb o hb e=>eb b o hb e) f0 f1 f3 f4 f5]
  |false=>exact wpAny_pyNext_wide_end (I.ok.hd hc) st hx λh' eb=>#[rfl,I.turned (t':=s.toks) (λb o hb e=>eb b o hb e) f0 f1 f3 f4 f5]
 self:=λA i s Q E st h=>by
  cases b with
  |true=>exact wpAny_pyIter_striter_ascii st h
  |false=>exact wpAny_pyIter_striter_wide st h
end
noncomputable abbrev tx(l:List Nat):Str:=#[l.toArray]
theorem RW(z:Str):z=tx z.cps.toList:=by
 obtain⟨a⟩:=z;simp
theorem yH(a b:List Nat):tx a++tx b=tx (a++b):=by
 show Str.mk (a.toArray++b.toArray)=Str.mk (a++b).toArray
 simp
theorem cU(a:List Nat):(tx a).length=a.length:=by simp[FQ]
theorem rq{a b:List Nat}(h:tx a=tx b):a=b:=by
 have:=congrArg (λz:Str=>z.cps.toList) h;simpa using this
theorem Mz{a b:List Nat}:(tx a=tx b)↔a=b:=#[rq,λh=>by rw[h]]
theorem C8{a b:List Nat}:(V.str (tx a)=V.str (tx b))↔a=b:=#[λh=>rq (V.str.inj h),λh=>by rw[h]]
section
variable{X:Cx}
theorem EC:gu X (cy .Add) (λx y H Q=>∃a b,x=.str (tx a)/\y=.str (tx b)/\a.length+b.length<=sizeLine/\Q (.str (tx (a++b))) H):=by
 intro pZ s σ H x y v u Q I rx ry h;obtain⟨a,b,rfl,rfl,hz,q⟩:=h;refine BA pZ s σ H _ _ v u Q I rx ry #[tx a,tx b,rfl,rfl,by rw[cU,cU];exact hz,?_];rw[yH]
 exact q
theorem BR:gu X (gO .Add) (λx y H Q=>∃a b,x=.str (tx a)/\y=.str (tx b)/\a.length+b.length<=sizeLine/\Q (.str (tx (a++b))) H):=by
 intro pZ s σ H x y v u Q I rx ry h;obtain⟨a,b,rfl,rfl,hz,q⟩:=h;refine zW pZ s σ H _ _ v u Q I rx ry #[tx a,tx b,rfl,rfl,by rw[cU,cU];exact hz,?_];rw[yH]
 exact q
theorem Ko{l:List Nat}{c:Nat}(h:c∈l):Txt.find (tx l) (tx [c])=((l.idxOf c:Nat):Int)/\(Builtin.Str.occurrences (tx l) (tx [c]) 0 (tx l).length 1).isEmpty=false:=by
 have h2:(!(Builtin.Str.occurrences (tx l) #[(List.toArray [c])] 0 (tx l).length 1).isEmpty)=true:=by rw[StrLaws.found_one];simpa using h
 refine#[?_,by simpa using h2];have at_iff:∀i,StrLaws.At (tx l) (tx [c]) (tx l).length i↔l[i]?=some c:=λi=>by
  have:=StrLaws.subAt_one (tx l) c i;simpa[StrLaws.At] using this
 rcases find_whole (tx l) (tx [c]) with⟨_,no⟩|⟨i,e,hi,lo⟩
 .obtain⟨j,hj,ej⟩:=D7 h
  exact absurd ((at_iff j).mpr (by rw[aa hj,ej])) (no j)
 .rw[e]
  have hi':=(at_iff i).mp hi;obtain⟨hlt,ei⟩:=ae.mp hi';have e1:l.idxOf c=i:=by
   have hk:=List.idxOf_lt_length_of_mem h;rcases Nat.lt_trichotomy (l.idxOf c) i with q|q|q
   .exact absurd ((at_iff _).mpr (by rw[aa hk,List.getElem_idxOf])) (lo _ q)
   .exact q
   .have:=List.not_of_lt_findIdx (p:=(·==c)) (xs:=l) (i:=i) q
    simp[ei] at this
  rw[e1]
def N9:V->List V->Hp->VK->Prop:=λx xs H Q=>∃l c,x=.str (tx l)/\xs=[.str (tx [c])]/\c∈l/\Q (.int ((l.idxOf c:Nat):Int)) H
theorem Ac(hA:X.A.handled=none):FC X "str.index" N9:=by
 intro pZ s σ H x xs v us Q I rx rs h;obtain⟨l,c,rfl,rfl,hc,q⟩:=h;obtain⟨t,rfl⟩:=rx;obtain⟨u,rfl,t',rfl⟩:=vals1 rs;obtain⟨e,ne⟩:=Ko hc;refine index_or hA (λz w=>?_) λ_ _=>#[.int _,H,I.tok _,#[_,rfl],by rw[e];exact q]
 rw[ne] at w;cases w
end
noncomputable def uv(sep:List Nat):List (List Nat)->List Nat
 |[]=>[]
 |[x]=>x
 |x::r=>x++sep++uv sep r
theorem Kp(sep:List Nat):∀ts:List (List Nat),Txt.join (tx sep) (ts.map tx)=tx (uv sep ts):=by
 intro ts;show Builtin.Str.glued (tx sep) (ts.map tx)=_;rw[StrLaws.glued_eq_join]
 induction ts with
 |nil=>rfl
 |cons a r ih=>
  cases r with
  |nil=>rfl
  |cons b r=>
   show tx a++tx sep++Str.join (tx sep) ((b::r).map tx)=tx (a++sep++uv sep (b::r))
   rw[ih,yH,yH]
theorem uw:∀{ts:List (List Nat)}{us:List Value},Vals (ts.map λt=>V.str (tx t)) us->StrsAre us (ts.map tx)
 |[],_,.nil=>.nil
 |a::ts,_,.cons (b:=u) r h=>by
  obtain⟨t,e⟩:=(show ∃t,u=jw (tx a) t from r)
  subst e;exact .cons _ _ (uw h)
section
variable{X:Cx}
def rJoin(K:Frag):V->List V->Hp->VK->Prop:=λx xs H Q=>∃sep ts p,x=.str (tx sep)/\xs=[.ref p]/\gF K H p (ts.map λt=>V.str (tx t))/\(ts.map cM).sum+ts.length*sep.length<=1000000/\Q (.str (tx (uv sep ts))) H
theorem C9:FC X "str.join" (rJoin X.K):=by
 intro pZ s σ H x xs v us Q I rx rs h;obtain⟨sep,ts,p,rfl,rfl,hl,hz,q⟩:=h;obtain⟨t,rfl⟩:=rx;obtain⟨u,rfl,ru⟩:=vals1 rs;cases ru;obtain⟨its,r,pl,_⟩:=I.list hl;refine join_list pl.isList (ys:=ts.map tx) (by simpa using uw r) ?_ λt' k=>#[.str (tx (uv sep ts)),H,I.tok k,#[t',by rw[Kp]],q]
 have e:((ts.map tx).map (·.length)).sum=(ts.map cM).sum:=by
  congr 1
  rw[bM]
  exact D8 λa _=>cU a
 rw[e,aq,cU]
 omega
theorem uA{f g:Nat->Option Nat}:∀{l:List Nat},(∀k∈l,f k=g k)->l.filterMap f=l.filterMap g
 |[],_=>rfl
 |a::l,h=>by
  rw[fj,fj,h a bf,uA λk hk=>h k (aU _ hk)]
theorem mm(l:List Nat):∀(n i:Nat),i+n<=l.length->(cx n).filterMap (λk=>l[i+k]?)=(l.drop i).take n
 |0,i,_=>by simp
 |n+1,i,h=>by
  rw[A7,fj,qQ]
  have hi:i<l.length:=∅
  have e:l[i+0]?=some l[i]:=by simp[hi]
  rw[e,eF hi,D9]
  have:=mm l n (i+1) ∅;rw[<-this]
  show l[i]::_=l[i]::_
  congr 1
  refine uA λk _=>?_
  show l[i+(k+1)]?=l[i+1+k]?
  rw[show i+(k+1)=i+1+k by omega]
noncomputable def BS(l:List Nat)(i j:Nat):List Nat:=(l.drop i).take (j-i)
theorem GN(l:List Nat)(lo hi:Option Int)(i j:Nat)(hlo:lo=none/\i=0\/∃a:Int,lo=some a/\0<=a/\i=min a.toNat l.length)(hhi:hi=none/\j=l.length\/∃b:Int,hi=some b/\0<=b/\j=min b.toNat l.length):
  Txt.slice (tx l) lo hi=tx (BS l i j):=by
 have hi':i<=l.length:=by rcases hlo with⟨_,e⟩|⟨a,_,_,e⟩<;>omega
 have hj':j<=l.length:=by rcases hhi with⟨_,e⟩|⟨b,_,_,e⟩<;>omega
 have key:Builtin.Str.strSliceIndices lo hi 1 l.length=(cx (j-i)).map λk=>i+k:=by
  have e0:Builtin.Str.strSliceIndices lo hi 1 l.length=sliceRange (i:Int) (j:Int) 1:=by
   unfold Builtin.Str.strSliceIndices;rcases hlo with⟨rfl,rfl⟩|⟨a,rfl,h0,rfl⟩<;>rcases hhi with⟨rfl,rfl⟩|⟨b,rfl,h1,rfl⟩
   .rfl
   .simp only[show ¬b<0 by omega,if_false,show(1:Int)>0 by decide,if_true]
    congr 1
    omega
   .simp only[show ¬a<0 by omega,if_false,show(1:Int)>0 by decide,if_true]
    congr 1
    omega
   .simp only[show ¬a<0 by omega,show ¬b<0 by omega,if_false,show(1:Int)>0 by decide,if_true]
    congr 1<;>omega
  rw[e0]
  unfold sliceRange;simp only[show(1:Int)>0 by decide,if_true,Int.ediv_one];have e3:(if (i:Int)<(j:Int) then(j:Int)-i+1-1 else 0).toNat=j-i:=by split<;>omega
  rw[e3]
  refine D8 λk _=>?_
  omega
 have len:(tx l).length=l.length:=cU l;unfold Txt.slice;rw[len,key]
 have e4:((cx (j-i)).map λk=>i+k).length=j-i:=by simp
 rw[e4]
 by_cases hw:j-i=l.length
 .rw[if_pos (by simp[hw])]
  have:BS l i j=l:=by
   unfold BS;have:i=0:=∅
   subst this;rw[hw,kX,b9]
  rw[this]
 .rw[if_neg (by simp[hw])]
  show tx _=tx _
  congr 1
  rw[qQ]
  by_cases hij:i<=j
  .have:=mm l (j-i) i ∅
   unfold BS;rw[<-this]
   refine uA λk _=>?_
   simp
  .have:j-i=0:=∅
   unfold BS;rw[this]
   simp
def V9:V->Option Int->Option Int->Hp->VK->Prop:=λx lo hi H Q=>∃l i j,x=.str (tx l)/\l.length<=sizeLine/\(lo=none/\i=0\/∃a:Int,lo=some a/\0<=a/\i=min a.toNat l.length)/\(hi=none/\j=l.length\/∃b:Int,hi=some b/\0<=b/\j=min b.toNat l.length)/\Q (.str (tx (BS l i j))) H
theorem RX:RC X V9:=by
 intro pZ s σ H x v vl vu lo hi sl Q I rx hs pl pu h;obtain⟨l,i,j,rfl,hz,h1,h2,q⟩:=h;obtain⟨t,rfl⟩:=rx;refine#["str",_,F.slot_str_getitem.lookup,typeIs_str _ _ _,?_];have fin:∀(a b:Option (Int×Tok)),vl=partValue a->vu=partValue b->lo=a.map (·.1)->hi=b.map (·.1)->wpAny (aR X.prog X.w) X.A (vK (.str (tx l) t) (.ref sl)) (EP X pZ σ Q) X.xe s:=λa b e1 e2 e3 e4=>by
  refine wpAny_getItem_str_slice (l:=a) (u:=b) (st:=none) (by rw[e1,e2] at hs;exact hs) rfl ?_;refine post_val_or_str #[aS (Txt.slice_le (tx l) _ _) (by rw[cU];exact hz),λt' k=>#[.str (tx (BS l i j)),H,I.tok k,#[t',?_],q]];have:=GN l lo hi i j h1 h2;rw[e3,e4] at this;rw[<-this]
  rfl
 cases pl with
 |none=>
  cases pu with
  |none=>exact fin none none rfl rfl rfl rfl
  |int b u=>exact fin none (some (b,u)) rfl rfl rfl rfl
 |int a u=>
  cases pu with
  |none=>exact fin (some (a,u)) none rfl rfl rfl rfl
  |int b u2=>exact fin (some (a,u)) (some (b,u2)) rfl rfl rfl rfl
theorem Oa(c:Nat)(n:Nat):Txt.mul (tx [c]) (n:Int)=tx (dm n c):=by
 unfold Txt.mul;by_cases h:(n:Int)<1
 .rw[if_pos h]
  have:n=0:=∅
  subst this
  rfl
 .rw[if_neg h]
  by_cases h1:n=1
  .subst h1
   rfl
  .rw[if_neg (by simp[FQ];omega)]
   show Str.mk _=Str.mk _
   congr 1
   have all:∀(m:Nat)(acc:List Nat),List.foldl (λx1 x2=>x1++x2) acc.toArray (dm m ((List.toArray [c]):Array Nat))=(acc++dm m c).toArray:=by
    intro m;induction m with
    |zero=>intro acc;simp
    |succ m ih=>
     intro acc;rw[Ea,vB]
     have:acc.toArray ++ (List.toArray [c])=(acc++[c]).toArray:=by simp
     rw[this,ih,Ea]
     simp
   have:=all n [];simpa using this
noncomputable def RY:R2:=λx y H Q=>∃c n:Nat,x=.str (tx [c])/\y=.int (n:Int)/\n<=1000/\Q (.str (tx (dm n c))) H
theorem ED:gu X (cy .Mult) RY:=by
 intro pZ s σ H x y v u Q I rx ry h;obtain⟨c,n,rfl,rfl,hn,q⟩:=h;obtain⟨t,rfl⟩:=rx;obtain⟨t',rfl⟩:=ry;refine SB.mul #[by simp;omega,λh1 h2=>?_,λh1 h2=>?_] λt' k=>#[.str _,H,I.tok k,#[t',by rw[Oa]],q]
 .rw[cU]
  have:(n:Int)<=1000:=∅
  have h3:(1:Int)<=(2^63-1)/(n:Int):=by
   rw[Int.le_ediv_iff_mul_le ∅]
   omega
  show ¬(1:Int)>_
  omega
 .rw[cU]
  show Builtin.Str.tooLong (1*n)=false
  unfold Builtin.Str.tooLong;simp
  rw[jb]
  omega
end
section
variable{prog:bC}{w:bZ}{A:cA}{E:Value->ak->Prop}{hh:Heap}{g:Array Jy}{d:Drawn}{t:Nat}{os:OsState}{K:Frag}{x C:Addr}{ox:Obj}{od:Option Obj}{name:Str}
theorem GO{Q:Value->ak->Prop}{fill expr:Bool}{tk:Tok}(X:K.In hh)(I:gk hh x ox C od)(G:XGet K C)
  (h:wpAny (aR prog w) A.in1 («object.__getattribute__» #[[.ref x,.str name tk],[]])
    (λfin s'=>match fin with
     |.done (.ret v)=>wpAny (aR prog w) A (Fw v) Q E s'
     |.done _=>False
     |.again c'=>c'.quiet=true/\nU (aR prog w) A c' (λr s'=>match r with|.ok (.ret v)=>wpAny (aR prog w) A (Fw v) Q E s'|_=>False) s') (λ_ _=>False) #[hh,g,d,t,os]):
  wpAny (aR prog w) A (getAttrBy (.ref x) (.str name tk) fill expr) Q E #[hh,g,d,t,os]:=by
 have L0:=I.type (M:=aR prog w);have L1:=vN (M:=aR prog w) X G.ga;have L2:=vN (M:=aR prog w) X G.gh;have fb:=wy.ga.bind (.ref x);have hx0:(expr&&onTheHeap (qd "BaseException.__getattribute__"))=false:=by cases expr<;>rfl
 have hx2:(qd "BaseException.__getattribute__"==qd "object.__getattribute__")=false:=by decide +kernel
 unfold getAttrBy;refine gQ (aj (L0.at (aj (L1.at ?_))));dsimp only;rw[hx2,wu,if_neg (by simp)]
 unfold getAttrByItsOwn hookBefore;rw[if_pos (by rfl)]
 refine aj (L2.at ?_);refine aj (wpAny_attempt (gQ ?_));unfold callGetattribute;rw[hx0,if_neg (by simp)]
 unfold boundAndCalled;rw[fb]
 refine aj (aK ?_);refine pO (JC wy.ga.plain F.entry_bexc_ga ?_);have hk:builtinKind "BaseException.__getattribute__"=some .slot:=by decide +kernel
 have hsplit:splitId "BaseException.__getattribute__"=some ("BaseException","__getattribute__"):=by decide +kernel
 have sub:Bl (aR prog w) hh (isInstance (.ref x) (.type "BaseException")) true:=I.type.andThen (looks_mroIn X G.hb);refine @check_slot (aR prog w) _ _ #[hh,g,d,t,os] "BaseException.__getattribute__" "BaseException" "__getattribute__" (.ref x) [.str name tk] [] _ hk hsplit sub (F.args_bexc_ga (.ref x) (.str name tk)) ?_;refine bL h (λfin s' z=>?_) (λ_ _ z=>z.elim);cases fin with
 |done f=>cases f<;>first|exact z|exact z.elim
 |again c'=>
  refine#[z.1,md z.2 λr s2 q=>?_];rcases r with e|f
  .exact q.elim
  .cases f<;>first|exact q|exact q.elim
theorem Kq{Q:Value->ak->Prop}{expr:Bool}{v:Value}{s:ak}(X:K.In s.heap)(I:gk s.heap x ox C od)(G:XGet K C)
  (hf:findObj K C od name=some (.value v)) (hh:handedIn v=true) (h:Q v {s with toks:=s.toks+1}):wpAny (aR prog w) A (FI (.ref x) name expr) Q E s:=by
 obtain⟨hp,g,d,t,os⟩:=s;unfold FI;refine aj (wpAny_mkText ?_);refine GO X I G ?_;have L0:=I.type (M:=aR prog w);have L1:=looks_find (M:=aR prog w) X I hf;refine aj (aK (aj (aK (aj (L0.at (aj (L1.at ?_)))))));refine aK ?_;show wpAny _ _ (Fw v) _ _ _;rw[handedOut_of hh];exact aK h
structure QG(K:Frag)(C:Addr):Prop extends XGet K C where
 ha:iA K (.ref C) "__class__"=some (some (.builtin "object.__class__"))
 hn:specialIn K (.builtin "object.__class__") "__get__"=some (some (.builtin "getset_descriptor.__get__"))
 NN:takesIn K (.builtin "object.__class__")=some true
 hm:mroIn K C (.type "object")=some true
theorem Kr{Q:Option Value->ak->Prop}{s:ak}{oD:Obj}(X:K.In s.heap)(I:gk s.heap x ox C (some oD))(G:QG K C)
  (h:Q (some (.ref C)) {s with toks:=s.toks+1}):wpAny (aR prog w) A (JG (.ref x) "__class__") Q E s:=by
 have hf:findObj K C (some oD) "__class__"=some (.bind (.builtin "getset_descriptor.__get__") (.builtin "object.__class__")):=findObj_data (by obtain⟨_,e,_⟩:=JE G.hd;rw[e];rfl) G.ha G.hn G.NN;obtain⟨hp,g,d,t,os⟩:=s;unfold JG getAttrBy?;refine aj (wpAny_mkText (aj (wpAny_attempt ?_)));refine GO X I G.toXGet ?_;have L0:=I.type (M:=aR prog w);have L1:=looks_find (M:=aR prog w) X I hf;refine aj (aK (aj (aK (aj (L0.at (aj (L1.at ?_)))))));show wpAny _ _ (holding [.builtin "object.__class__"] (call (.builtin "getset_descriptor.__get__") [.builtin "object.__class__",.ref x,.ref C])>>=ret) _ _ _;refine aj (gQ (pO (class_get (s:=#[hp,g,d,t+1,os]) (ox:=ox) (od:=some oD) X I G.hm ?_)));refine aK ?_;show wpAny _ _ (Fw (.ref C)) _ _ _;rw[handedOut_of rfl]
 exact aK (aK h)
theorem Ks(h:hasDictIn K C=true):∃c0 d0 cd0 sl0,K.lookup C=some #[c0,d0,.cls cd0,sl0]:=by
 obtain⟨_,e,_⟩:=JE h;unfold clsIn at e;split at e
 .exact#[_,_,_,_,by assumption]
 .cases e
theorem GQ{oD:Obj}(G:QG K C):KitX K (.ref x) (.ref C) (λh=>gk h x ox C (some oD)):=by
 obtain⟨c0,d0,cd0,sl0,lk⟩:=Ks G.hd;refine#[λ_ _ _ J=>J.type,λ_ _ KI _=>?_,λhp tp dd its n sl KI e=>?_,λKI J k=>Kr KI J G k]
 .intro A1 Q1 E1 s1 sub q
  unfold isType loadHead;exact aj (qU (sub _ _ (KI _ _ lk)) (aK q))
 .refine Bool.eq_false_iff.mpr λz=>?_
  cases Value.ref.inj (beq_iff_eq.mp z);exact nomatch (KI _ _ lk).symm.trans e
end
section
variable{X:Cx}{pZ:List (Addr×Obj)}{σ:St}{H:Hp}{s:ak}{a C d:Addr}{fs:List (Str×V)}{f:Str}{v:V}
theorem Kt(I:Inv X pZ σ H s)(e:H a=some (.xc a (.ref C) (some d)))(hd:H d=some (.xf d fs)):∃vs sl oD,gk s.heap a #[.ref C,some d,.fields vs,sl] C (some oD)/\s.heap.get? d=some oD:=by
 obtain⟨⟨vs,sl,q⟩,_⟩:=I.dg a _ e;obtain⟨mA,⟨oD,es,ep,eo,c⟩,r⟩:=C7 I.dg hd;exact#[vs,sl,oD,#[q,rfl,rfl,eo],eo]
inductive U8(K:Frag)(H:Hp):V->Value->Prop where
 |of{x:V}{t:Value}:rg K H x t->U8 K H x t
 |exc{a C d:Addr}{fs:List (Str×V)} (e:H a=some (.xc a (.ref C) (some d))) (hd:H d=some (.xf d fs)) (cl:QG K C):U8 K H (.ref a) (.ref C)
def XD:V->Value->Prop
 |.ty n,u=>u=.type n
 |.ref C,u=>u=.ref C
 |_,_=>False
theorem GU:i5 X (.builtin "isinstance") (λxs H Q=>∃x c t u b,xs=[x,c]/\U8 X.K H x t/\XD c u/\qZ X.K t u=some b/\Q (.bl b) H):=by
 intro pZ s σ H xs us Q I r h;obtain⟨x,c,t,u,b,rfl,ty,rc,e,q⟩:=h;obtain⟨ux,uc,rfl,rx,rc'⟩:=r.two;have eu:uc=u:=by
  cases c with
  |ref C=>exact Eq.trans (show uc=aV C from rc') (show u=aV C from rc).symm
  |ty n=>exact Eq.trans (show uc=vH n from rc') (show u=vH n from rc).symm
  |_=>exact aI rc
 subst eu;have fin:∀tk,EP X pZ σ Q (.bool b) {s with toks:=tk}:=λtk=>#[.bl b,H,I.tok tk,rfl,q]
 cases ty with
 |of ty=>exact Es I rx ty e fin
 |@exc a C d fs ea hd cl=>
  cases (show ux=aV a from rx);obtain⟨vs,sl,oD,J,_⟩:=Kt I ea hd;exact kia_one (GQ cl) I.kY J e (λz=>nomatch z) fin
structure Ob(K:Frag)(P:FR)(a:Addr)(kvs:List (Str×V)):Prop where
 ex:∃es n,K.lookup a=some #[.type "dict",none,.dict es n,#[]]/\A8 P es.toList
 at_:∀k v,kvs.lookup k=some v->∃u,RelV v u/\nsIn K a k=some (some u)
 no:∀k,kvs.lookup k=none->nsIn K a k=some none
 ns:(a==dE)=false
noncomputable def Wa(K:Frag)(P:FR):R2:=λx y H Q=>∃a kvs k v,x=.ref a/\y=.str k/\Ob K P a kvs/\kvs.lookup k=some v/\Q v H
theorem yI:QE X (Wa X.K X.w.params):=by
 intro value slice pZ s σ H x y v u Q I rx ry h hs;obtain⟨a,kvs,k,z,rfl,rfl,T,e,q⟩:=h;cases rx;obtain⟨t,rfl⟩:=ry;obtain⟨es,n,lk,kl⟩:=T.ex;obtain⟨w,rw',ew⟩:=T.at_ k z e;have hm:=mapOf_K (prog:=X.prog) (w:=X.w) I.kY lk kl;exact tail_any hm.typeIs slot_dict_getitem.lookup (wpAny_getItem_of (strKind_is X.prog X.w k t) hm (find_K lk ew) #[z,H,I.tok _,rw',q]) hs
end
inductive Dv where
 |bK|bl (b:Bool)|int (i:Int)|str (l:List Nat)|tup (ds:List Dv)|lst (ds:List Dv)
mutual
noncomputable def Dv.depth:Dv->Nat
 |.tup ds=>Dv.iB ds+1
 |.lst ds=>Dv.iB ds+1
 |_=>0
noncomputable def Dv.iB:List Dv->Nat
 |[]=>0
 |d::ds=>max d.depth (Dv.iB ds)
end
mutual
noncomputable def mI:Dv->Dv->Bool
 |.bK,.bK=>true
 |.bl a,.bl b=>a==b
 |.bl a,.int b=>(if a then 1 else 0)== b
 |.int a,.bl b=>a==(if b then 1 else 0)
 |.int a,.int b=>a==b
 |.str a,.str b=>a==b
 |.tup xs,.tup ys=>nJ xs ys
 |.lst xs,.lst ys=>nJ xs ys
 |_,_=>false
noncomputable def nJ:List Dv->List Dv->Bool
 |[],[]=>true
 |x::xs,y::ys=>mI x y&&nJ xs ys
 |_,_=>false
end
mutual
noncomputable def fG(K:Frag)(H:Hp):V->Dv->Prop
 |v,.bK=>v=.bK
 |v,.bl b=>v=.bl b
 |v,.int i=>v=.int i
 |v,.str l=>v=.str (tx l)
 |v,.tup ds=>∃a vs,v=.ref a/\lS K H a vs/\gW K H vs ds
 |v,.lst ds=>∃a vs,v=.ref a/\gF K H a vs/\gW K H vs ds
noncomputable def gW(K:Frag)(H:Hp):List V->List Dv->Prop
 |[],[]=>True
 |v::vs,d::ds=>fG K H v d/\gW K H vs ds
 |_,_=>False
end
theorem gW.len{K:Frag}{H:Hp}:∀{vs:List V}{ds:List Dv},gW K H vs ds->vs.length=ds.length
 |[],[],_=>rfl
 |_::vs,_::ds,h=>by
  unfold gW at h;rw[aQ,aQ,gW.len h.2]
 |[],_::_,h=>by unfold gW at h;exact h.elim
 |_::_,[],h=>by unfold gW at h;exact h.elim
theorem gW.get{K:Frag}{H:Hp}:∀{vs:List V}{ds:List Dv}{i:Nat}{v:V}{d:Dv},gW K H vs ds->vs[i]?=some v->ds[i]?=some d->fG K H v d
 |v::vs,d::ds,0,_,_,h,e1,e2=>by
  unfold gW at h;simp at e1 e2;subst e1 e2;exact h.1
 |v::vs,d::ds,i+1,_,_,h,e1,e2=>by
  unfold gW at h;exact gW.get (i:=i) h.2 (by simpa using e1) (by simpa using e2)
 |[],_,_,_,_,_,e1,_=>by simp at e1
 |_,[],_,_,_,_,_,e2=>by simp at e2
mutual
theorem uB:∀d:Dv,mI d d=true
 |.bK=>by unfold mI;rfl
 |.bl b=>by unfold mI;simp
 |.int i=>by unfold mI;simp
 |.str l=>by unfold mI;simp
 |.tup ds=>by unfold mI;exact rA ds
 |.lst ds=>by unfold mI;exact rA ds
theorem rA:∀ds:List Dv,nJ ds ds=true
 |[]=>by unfold nJ;rfl
 |d::ds=>by unfold nJ;rw[uB d,rA ds];rfl
end
theorem mR:∀(xs ys:List Dv)(e:Nat->Bool),(∀i x y,xs[i]?=some x->ys[i]?=some y->e i=mI x y)->((cx (min xs.length ys.length)).all e&&xs.length==ys.length)=nJ xs ys
 |[],[],e,_=>by unfold nJ;simp
 |[],y::ys,e,_=>by unfold nJ;simp
 |x::xs,[],e,_=>by unfold nJ;simp
 |x::xs,y::ys,e,h=>by
  have ih:=mR xs ys (λi=>e (i+1)) λi a b h1 h2=>h (i+1) a b (by simpa using h1) (by simpa using h2)
  unfold nJ;rw[<-ih,<-h 0 x y rfl rfl]
  rw[aQ,aQ,Nat.succ_min_succ,A7,bp,r9]
  have:(xs.length+1==ys.length+1)=(xs.length==ys.length):=by simp
  rw[this,Bool.and_assoc]
  rfl
section
variable{X:Cx}{pZ:List (Addr×Obj)}{σ:St}{H:Hp}{s:ak}
mutual
theorem fG.inj(I:Inv X pZ σ H s):∀{d d':Dv}{v:V},fG X.K H v d->fG X.K H v d'->d=d'
 |.bK,d',v,h,h'=>by
  unfold fG at h;subst h;cases d'<;>unfold fG at h'<;>first|rfl| (cases h';done)| (obtain⟨_,_,z,_⟩:=h';cases z)
 |.bl b,d',v,h,h'=>by
  unfold fG at h;subst h;cases d'<;>unfold fG at h'<;>first| (cases h';rfl)| (cases h';done)| (obtain⟨_,_,z,_⟩:=h';cases z)
 |.int b,d',v,h,h'=>by
  unfold fG at h;subst h;cases d'<;>unfold fG at h'<;>first| (cases h';rfl)| (cases h';done)| (obtain⟨_,_,z,_⟩:=h';cases z)
 |.str l,d',v,h,h'=>by
  unfold fG at h;subst h;cases d'<;>unfold fG at h'<;>first| (rw[C8.mp h'])| (cases h';done)| (obtain⟨_,_,z,_⟩:=h';cases z)
 |.tup ds,d',v,h,h'=>by
  unfold fG at h;obtain⟨a,vs,rfl,hq,hd⟩:=h;cases d' with
  |tup ds'=>
   unfold fG at h';obtain⟨a',vs',e,hq',hd'⟩:=h';cases e;rw[I.wG hq' hq] at hd';rw[gW.inj I hd hd']
  |lst ds'=>
   unfold fG at h';obtain⟨a',vs',e,hq',hd'⟩:=h';cases e;exfalso;obtain⟨its,_,⟨o,e1,c1,_⟩,_⟩:=I.tuple hq;obtain⟨its',_,⟨o',n',e2,c2,_,_⟩,_⟩:=I.list hq';rw[e1] at e2;cases e2;rw[c1] at c2;injection c2 with c2
   exact absurd c2 ⋯
  |_=>unfold fG at h';cases h'
 |.lst ds,d',v,h,h'=>by
  unfold fG at h;obtain⟨a,vs,rfl,hq,hd⟩:=h;cases d' with
  |lst ds'=>
   unfold fG at h';obtain⟨a',vs',e,hq',hd'⟩:=h';cases e;rw[I.ud hq' hq] at hd';rw[gW.inj I hd hd']
  |tup ds'=>
   unfold fG at h';obtain⟨a',vs',e,hq',hd'⟩:=h';cases e;exfalso;obtain⟨its,_,⟨o,e1,c1,_⟩,_⟩:=I.tuple hq';obtain⟨its',_,⟨o',n',e2,c2,_,_⟩,_⟩:=I.list hq;rw[e1] at e2;cases e2;rw[c1] at c2;injection c2 with c2
   exact absurd c2 ⋯
  |_=>unfold fG at h';cases h'
theorem gW.inj(I:Inv X pZ σ H s):∀{ds ds':List Dv}{vs:List V},gW X.K H vs ds->gW X.K H vs ds'->ds=ds'
 |[],[],_,_,_=>rfl
 |[],_::_,[],_,h'=>by unfold gW at h';exact h'.elim
 |[],_::_,_::_,h,_=>by unfold gW at h;exact h.elim
 |_::_,[],[],h,_=>by unfold gW at h;exact h.elim
 |_::_,[],_::_,_,h'=>by unfold gW at h';exact h'.elim
 |d::ds,d'::ds',[],h,_=>by unfold gW at h;exact h.elim
 |d::ds,d'::ds',v::vs,h,h'=>by
  unfold gW at h h';rw[fG.inj I h.1 h'.1,gW.inj I h.2 h'.2]
end
theorem mn:∀{ds:List Dv}{i:Nat}{d:Dv},ds[i]?=some d->d.depth<=Dv.iB ds
 |d::ds,0,_,h=>by
  simp at h;subst h;unfold Dv.iB;exact Nat.le_max_left _ _
 |d::ds,i+1,_,h=>by
  have:=mn (ds:=ds) (i:=i) (by simpa using h);unfold Dv.iB;exact aS this (Nat.le_max_right _ _)
 |[],_,_,h=>by simp at h
theorem BU(I:Inv X pZ σ H s):∀(n:Nat){A:cA}{d d':Dv}{x y:V}{u v:Value},d.depth<=n->A.units+n<kf->fG X.K H x d->fG X.K H y d'->RelV x u->RelV y v->vL A s u v (mI d d'):=by
 intro n;induction n with
 |zero=>
  intro A d d' x y u v hn hu hx hy rx ry;cases d with
  |tup ds=>unfold Dv.depth at hn;omega
  |lst ds=>unfold Dv.depth at hn;omega
  |bK=>
   unfold fG at hx;subst hx;cases rx;cases d'<;>unfold fG at hy
   .subst hy;cases ry;exact l9 _
   .subst hy;cases ry;exact wo _
   .subst hy;obtain⟨t,rfl⟩:=ry;exact yd _ _
   .subst hy;obtain⟨t,rfl⟩:=ry;exact ye _ _
   .obtain⟨a,vs,rfl,hq,_⟩:=hy;cases ry;obtain⟨its,_,p,_⟩:=I.tuple hq;exact SeqAt.EqAt.none_tuple p ∅
   .obtain⟨a,vs,rfl,hq,_⟩:=hy;cases ry;obtain⟨its,_,p,_⟩:=I.list hq;exact SeqAt.EqAt.none_list p.isList ∅
  |bl b=>
   unfold fG at hx;subst hx;cases rx;cases d'<;>unfold fG at hy
   .subst hy;cases ry;exact wq _
   .subst hy;cases ry;exact wt _ _
   .subst hy;obtain⟨t,rfl⟩:=ry;exact yf _ _ _
   .subst hy;obtain⟨t,rfl⟩:=ry;exact yg _ _ _
   .obtain⟨a,vs,rfl,hq,_⟩:=hy;cases ry;obtain⟨its,_,p,_⟩:=I.tuple hq;exact SeqAt.EqAt.bool_tuple _ p ∅
   .obtain⟨a,vs,rfl,hq,_⟩:=hy;cases ry;obtain⟨its,_,p,_⟩:=I.list hq;exact SeqAt.EqAt.bool_list _ p.isList ∅
  |int i=>
   unfold fG at hx;subst hx;obtain⟨t0,rfl⟩:=rx;cases d'<;>unfold fG at hy
   .subst hy;cases ry;exact yh _ _
   .subst hy;cases ry;exact yi _ _ _
   .subst hy;obtain⟨t,rfl⟩:=ry;exact zE _ _ _ _
   .subst hy;obtain⟨t,rfl⟩:=ry;exact oF _ _ _ _
   .obtain⟨a,vs,rfl,hq,_⟩:=hy;cases ry;obtain⟨its,_,p,_⟩:=I.tuple hq;exact SeqAt.EqAt.int_tuple _ _ p ∅
   .obtain⟨a,vs,rfl,hq,_⟩:=hy;cases ry;obtain⟨its,_,p,_⟩:=I.list hq;exact SeqAt.EqAt.int_list _ _ p.isList ∅
  |str l=>
   unfold fG at hx;subst hx;obtain⟨t0,rfl⟩:=rx;cases d' with
   |bK=>unfold fG at hy;subst hy;cases ry;exact yj _ _
   |bl b=>unfold fG at hy;subst hy;cases ry;exact yk _ _ _
   |int i=>unfold fG at hy;subst hy;obtain⟨t,rfl⟩:=ry;exact oG _ _ _ _
   |str l'=>
    unfold fG at hy;subst hy;obtain⟨t,rfl⟩:=ry;have e:(tx l==tx l')=mI (.str l) (.str l'):=by
     unfold mI;rw[cX,beq_iff_eq,beq_iff_eq]
     exact Mz
    rw[<-e]
    exact zF _ _ _ _
   |tup ds=>unfold fG at hy;obtain⟨a,vs,rfl,hq,_⟩:=hy;cases ry;obtain⟨its,_,p,_⟩:=I.tuple hq;exact SeqAt.EqAt.str_tuple _ _ p ∅
   |lst ds=>unfold fG at hy;obtain⟨a,vs,rfl,hq,_⟩:=hy;cases ry;obtain⟨its,_,p,_⟩:=I.list hq;exact SeqAt.EqAt.str_list _ _ p.isList ∅
 |succ n ih=>
  intro A d d' x y u v hn hu hx hy rx ry;have items:∀{vs vs':List V}{ds ds':List Dv}{its its':List Value},Dv.iB ds<=n->gW X.K H vs ds->gW X.K H vs' ds'->Vals vs its->Vals vs' its' ->
    ∃e:Nat->Bool,(∀j(h1:j<its.toArray.size)(h2:j<its'.toArray.size),vL A.in1 s its.toArray[j] its'.toArray[j] (e j))/\((cx (min its.toArray.size its'.toArray.size)).all e&&its.toArray.size==its'.toArray.size)=nJ ds ds':=by
   intro vs vs' ds ds' its its' hd h1 h2 r1 r2;have l1:=h1.len;have l2:=h2.len;have m1:=r1.length;have m2:=r2.length;refine#[λj=>match ds[j]?,ds'[j]? with|some a,some b=>mI a b|_,_=>true,λj k1 k2=>?_,?_]
   .rw[aC] at k1 k2
    have j1:j<ds.length:=∅
    have j2:j<ds'.length:=∅
    have i1:j<vs.length:=∅
    have i2:j<vs'.length:=∅
    have e1:ds[j]?=some ds[j]:=aa j1;have e2:ds'[j]?=some ds'[j]:=aa j2;have f1:vs[j]?=some vs[j]:=aa i1;have f2:vs'[j]?=some vs'[j]:=aa i2;obtain⟨w1,g1,q1⟩:=r1.get f1;obtain⟨w2,g2,q2⟩:=r2.get f2;have a1:its.toArray[j]=w1:=by
     obtain⟨_,z⟩:=ae.mp g1;simpa using z
    have a2:its'.toArray[j]=w2:=by
     obtain⟨_,z⟩:=ae.mp g2;simpa using z
    rw[a1,a2]
    dsimp only;rw[e1,e2]
    exact ih (aS (mn e1) hd) (by show A.units+1+n<kf;omega) (h1.get f1 e1) (h2.get f2 e2) q1 q2
   .rw[aC,aC,<-m1,<-m2,l1,l2]
    refine mR ds ds' _ λi a b h1 h2=>?_
    rw[h1,h2]
  by_cases hz:d.depth<=n
  .exact ih hz ∅ hx hy rx ry
  .cases d with
   |bK=>unfold Dv.depth at hz;omega
   |bl b=>unfold Dv.depth at hz;omega
   |int b=>unfold Dv.depth at hz;omega
   |str b=>unfold Dv.depth at hz;omega
   |tup ds=>
    have hx0:=hx;unfold fG at hx;obtain⟨a,vs,rfl,hq,hd⟩:=hx;cases rx;obtain⟨its,r1,p,_⟩:=I.tuple hq;unfold Dv.depth at hn;cases d' with
    |bK=>unfold fG at hy;subst hy;cases ry;exact SeqAt.EqAt.tuple_none p ∅
    |bl b=>unfold fG at hy;subst hy;cases ry;exact SeqAt.EqAt.tuple_bool _ p ∅
    |int i=>unfold fG at hy;subst hy;obtain⟨t,rfl⟩:=ry;exact SeqAt.EqAt.tuple_int _ _ p ∅
    |str l'=>unfold fG at hy;subst hy;obtain⟨t,rfl⟩:=ry;exact SeqAt.EqAt.tuple_str _ _ p ∅
    |lst ds'=>unfold fG at hy;obtain⟨a',vs',rfl,hq',_⟩:=hy;cases ry;obtain⟨its',_,p',_⟩:=I.list hq';exact SeqAt.EqAt.tuple_list p p'.isList ∅
    |tup ds'=>
     have hy0:=hy;unfold fG at hy;obtain⟨a',vs',rfl,hq',hd'⟩:=hy;cases ry;obtain⟨its',r2,p',_⟩:=I.tuple hq';by_cases e:a=a'
     .subst e
      rw[fG.inj I hx0 hy0,uB]
      exact l9 _
     .obtain⟨f,hf,ef⟩:=items ∅ hd hd' r1 r2
      unfold mI;rw[<-ef]
      exact zG e (zP p p' ∅ hf)
   |lst ds=>
    have hx0:=hx;unfold fG at hx;obtain⟨a,vs,rfl,hq,hd⟩:=hx;cases rx;obtain⟨its,r1,p,_⟩:=I.list hq;unfold Dv.depth at hn;cases d' with
    |bK=>unfold fG at hy;subst hy;cases ry;exact SeqAt.EqAt.list_none p.isList ∅
    |bl b=>unfold fG at hy;subst hy;cases ry;exact SeqAt.EqAt.list_bool _ p.isList ∅
    |int i=>unfold fG at hy;subst hy;obtain⟨t,rfl⟩:=ry;exact SeqAt.EqAt.list_int _ _ p.isList ∅
    |str l'=>unfold fG at hy;subst hy;obtain⟨t,rfl⟩:=ry;exact SeqAt.EqAt.list_str _ _ p.isList ∅
    |tup ds'=>unfold fG at hy;obtain⟨a',vs',rfl,hq',_⟩:=hy;cases ry;obtain⟨its',_,p',_⟩:=I.tuple hq';exact SeqAt.EqAt.list_tuple p.isList p' ∅
    |lst ds'=>
     have hy0:=hy;unfold fG at hy;obtain⟨a',vs',rfl,hq',hd'⟩:=hy;cases ry;obtain⟨its',r2,p',_⟩:=I.list hq';by_cases e:a=a'
     .subst e
      rw[fG.inj I hx0 hy0,uB]
      exact l9 _
     .obtain⟨f,hf,ef⟩:=items ∅ hd hd' r1 r2
      unfold mI;rw[<-ef]
      refine zG e ?_;by_cases el:its.toArray.size=its'.toArray.size
      .have:((cx (min its.toArray.size its'.toArray.size)).all f&&its.toArray.size==its'.toArray.size)=(cx its.toArray.size).all f:=by
        rw[el,Bm]
        simp
       rw[this]
       exact A9 p.isList p'.isList el ∅ hf
      .have:((cx (min its.toArray.size its'.toArray.size)).all f&&its.toArray.size==its'.toArray.size)=false:=by
        have:(its.toArray.size==its'.toArray.size)=false:=by simpa using el
        rw[this,wu]
       rw[this]
       exact tj p.isList p'.isList (by simpa using el) ∅
noncomputable def Wb(K:Frag):R2:=λx y H Q=>∃ds d',fG K H x (.tup ds)/\fG K H y d'/\Dv.iB ds<=100/\Q (.bl (mI (.tup ds) d')) H
theorem GV(hu:X.A.units+200<kf):gu X (bD .Eq) (Wb X.K):=by
 intro pZ s σ H x y u v Q I rx ry h;obtain⟨ds,d',hx,hy,hz,q⟩:=h;have fin:∀b,b=mI (.tup ds) d'->EP X pZ σ Q (.bool b) s:=λb e=>by rw[e];exact#[.bl _,H,I,rfl,q]
 have hx0:=hx;unfold fG at hx;obtain⟨a,vs,rfl,hq,hd⟩:=hx;cases rx;obtain⟨its,r1,p,_⟩:=I.tuple hq;cases d' with
 |bK=>unfold fG at hy;subst hy;cases ry;exact SeqAt.RcAt.tuple_none p ∅ _ _ _ _ (fin _ (by unfold mI;rfl))
 |bl b=>unfold fG at hy;subst hy;cases ry;exact SeqAt.RcAt.tuple_bool _ p ∅ _ _ _ _ (fin _ (by unfold mI;rfl))
 |int i=>unfold fG at hy;subst hy;obtain⟨t,rfl⟩:=ry;exact SeqAt.RcAt.tuple_int _ _ p ∅ _ _ _ _ (fin _ (by unfold mI;rfl))
 |str l'=>unfold fG at hy;subst hy;obtain⟨t,rfl⟩:=ry;exact SeqAt.RcAt.tuple_str _ _ p ∅ _ _ _ _ (fin _ (by unfold mI;rfl))
 |lst ds'=>unfold fG at hy;obtain⟨a',vs',rfl,hq',_⟩:=hy;cases ry;obtain⟨its',_,p',_⟩:=I.list hq';exact SeqAt.RcAt.tuple_list p p'.isList ∅ _ _ _ _ (fin _ (by unfold mI;rfl))
 |tup ds'=>
  unfold fG at hy;obtain⟨a',vs',rfl,hq',hd'⟩:=hy;cases ry;obtain⟨its',r2,p',_⟩:=I.tuple hq';have l1:=hd.len;have l2:=hd'.len;have m1:=r1.length;have m2:=r2.length;refine zP (e:=λj=>match ds[j]?,ds'[j]? with|some a,some b=>mI a b|_,_=>true) p p' ∅ (λj k1 k2=>?_) _ _ _ _ (fin _ ?_)
  .rw[aC] at k1 k2
   have e1:ds[j]?=some (ds[j]'∅):=aa _;have e2:ds'[j]?=some (ds'[j]'∅):=aa _;have f1:vs[j]?=some (vs[j]'∅):=aa _;have f2:vs'[j]?=some (vs'[j]'∅):=aa _;obtain⟨w1,g1,q1⟩:=r1.get f1;obtain⟨w2,g2,q2⟩:=r2.get f2;have a1:its.toArray[j]=w1:=by
    obtain⟨_,z⟩:=ae.mp g1;simpa using z
   have a2:its'.toArray[j]=w2:=by
    obtain⟨_,z⟩:=ae.mp g2;simpa using z
   rw[a1,a2,e1,e2]
   exact BU I 100 (aS (mn e1) hz) (by show X.A.units+1+100<kf;omega) (hd.get f1 e1) (hd'.get f2 e2) q1 q2
  .rw[aC,aC,<-m1,<-m2,l1,l2]
   rw[show mI (.tup ds) (.tup ds')=nJ ds ds' from by unfold mI;rfl]
   refine mR ds ds' _ λi a b h1 h2=>?_
   rw[h1,h2]
end
end L2
namespace PL
theorem _root_.L2.ff{P:Prop}(h:false=true):P:=by cases h
theorem _root_.L2.nn{α:Type}{x:α}{P:Prop}(h:(none:Option α)=some x):P:=by cases h
inductive U where
 |bK|bl (b:Bool)|int (i:Int)|str (l:List Nat)|tup (us:List U)|loc (n:Nat)
 |pC (ns:List Int)|tab (kvs:List (List Nat×List Nat))|exc (c:String) (us:List U)
instance:Inhabited U:=#[.bK]
inductive SO where
 |lst (us:List U)|vG (kvs:List (U×U))|ins (c:String) (fs:List (String×U))
structure Xn where
 c:String
 us:List U
abbrev Env:=List (Option U)
abbrev bI:=List SO
abbrev KU:=U->bI->Prop
abbrev KX:=Xn->bI->Prop
abbrev Spec:=List U->bI->KU->KX->Prop
abbrev bY:=String->Spec
inductive FD where|add|sub|mul|fdiv|mod|band|bor|shl|shr
inductive Oc where|eq|ne|lt|le|gt|ge|isin|nv|Ku|Ad
inductive RZ where|len|tuple|list|sum|all|any|int|dict|uC
inductive Od where|join|index|startswith|append|extend|get|mS
inductive Ty where|int|bool|str|list|tuple|dict|Kv|own (c:String)
mutual
inductive Ex where
 |var (i:Nat)|lit (u:U)
 |bin (o:FD) (a b:Ex)|neg (a:Ex)|not (a:Ex)|and (a b:Ex)|or (a b:Ex)
 |cmp (o:Oc) (a b:Ex)|wX (c:Tx) (a b:Ex)
 |call (f:String) (as:yJ)|mk (c q:String) (as:yJ)|cu (c m q:String) (o:Ex) (as:yJ)
 |blt (f:RZ) (as:yJ)|kS (m:Od) (o:Ex) (as:yJ)
 |fld (o:Ex) (f:String)|ix (o i:Ex)|sl (o:Ex) (lo hi:Ox)
 |tup (as:yJ)|lst (as:yJ)|vG (ks vs:yJ)
 |comp (pr:Bool) (e:Ex) (it:It) (c:Tx) (ci:List Nat)
 |MA (a:Ex) (ts:List Ty)
inductive yJ where|nil|cons (e:Ex) (es:yJ)
inductive It where|val (e:Ex)|range (e:Ex)|enum (e:Ex)|rev (e:Ex)
inductive Ox where|no|e (a:Ex)
inductive Tx where|cg (e:Ex)|not (t:Tx)|and (a b:Tx)|or (a b:Tx)
end
inductive Tg where|name (i:Nat)|pair (i j:Nat)
mutual
inductive Sm where
 |set (i:Nat) (e:Ex)|iN (o:Ex) (f:String) (e:Ex)|Wc (o i e:Ex)
 |aug (i:Nat) (p:FD) (e:Ex)|vT (o:Ex) (f:String) (p:FD) (e:Ex)|EE (o i:Ex) (p:FD) (e:Ex)
 |ex (e:Ex)|ret (e:Ex)|ifs (c:Tx) (a b:dh)|Ae (c:Tx) (b:dh)|i8 (t:Tg) (it:It) (b:dh)
 |raise (c:String) (as:yJ)|Oe (b:dh) (c:String) (i:Nat) (h:dh)
inductive dh where|nil|cons (s:Sm) (ss:dh)
end
section
variable{α:Type}
def opt(o:Option α)(Q:α->Prop):Prop:=match o with|some a=>Q a|none=>False
def yK(o:Option (Option U))(Q:U->Prop):Prop:=match o with|some (some u)=>Q u|_=>False
def getL(o:Option SO)(Q:List U->Prop):Prop:=match o with|some (.lst us)=>Q us|_=>False
def getD(o:Option SO)(Q:List (U×U)->Prop):Prop:=match o with|some (.vG kvs)=>Q kvs|_=>False
def mq(o:Option SO)(Q:String->List (String×U)->Prop):Prop:=match o with|some (.ins c fs)=>Q c fs|_=>False
def MB(x:U)(Q:Bool->Prop):Prop:=match x with|.bl b=>Q b|_=>False
def kZ(x:U)(Q:Int->Prop):Prop:=match x with|.int i=>Q i|_=>False
def zH(x:U)(Q:Nat->Prop):Prop:=match x with|.loc n=>Q n|_=>False
def MC(x:U)(Q:U->U->Prop):Prop:=match x with|.tup [a,b]=>Q a b|_=>False
@[simp] theorem aP{a:α}{Q:α->Prop}:opt (some a) Q=Q a:=rfl
@[simp] theorem R7:opt none Q=False:=rfl
@[simp] theorem oM:yK (some (some u)) Q=Q u:=rfl
@[simp] theorem aG{us:List U}{Q:List U->Prop}:getL (some (.lst us)) Q=Q us:=rfl
@[simp] theorem getD_some:getD (some (.vG us)) Q=Q us:=rfl
@[simp] theorem aZ:mq (some (.ins c fs)) Q=Q c fs:=rfl
@[simp] theorem GX:MB (.bl b) Q=Q b:=rfl
@[simp] theorem Kw:kZ (.int i) Q=Q i:=rfl
@[simp] theorem Dc:zH (.loc n) Q=Q n:=rfl
@[simp] theorem U9:MC (.tup [a,b]) Q=Q a b:=rfl
theorem ig:opt o Q↔∃a,o=some a/\Q a:=by cases o<;>simp[opt]
theorem Af:yK o Q↔∃a,o=some (some a)/\Q a:=by
 rcases o with _|_|a<;>simp[yK]
theorem cD:getL o Q↔∃a,o=some (.lst a)/\Q a:=
 #[λw=>by rcases o with _|a|a|a<;>first|exact#[_,rfl,w]|exact aI w,by rintro⟨b,rfl,w⟩;exact w]
theorem Ag:getD o Q↔∃a,o=some (.vG a)/\Q a:=
 #[λw=>by rcases o with _|a|a|a<;>first|exact#[_,rfl,w]|exact aI w,by rintro⟨b,rfl,w⟩;exact w]
theorem mv{o:Option SO}{Q:String->List (String×U)->Prop}:mq o Q↔∃c fs,o=some (.ins c fs)/\Q c fs:=
 #[λw=>by rcases o with _|a|a|a<;>first|exact#[_,_,rfl,w]|exact aI w,by rintro⟨b,c,rfl,w⟩;exact w]
theorem yL:MB x Q↔∃b,x=.bl b/\Q b:=#[λw=>by cases x<;>first|exact#[_,rfl,w]|exact aI w,by rintro⟨b,rfl,w⟩;exact w]
theorem eQ:kZ x Q↔∃b,x=.int b/\Q b:=#[λw=>by cases x<;>first|exact#[_,rfl,w]|exact aI w,by rintro⟨b,rfl,w⟩;exact w]
theorem k6:zH x Q↔∃b,x=.loc b/\Q b:=#[λw=>by cases x<;>first|exact#[_,rfl,w]|exact aI w,by rintro⟨b,rfl,w⟩;exact w]
theorem Dd:MC x Q↔∃a b,x=.tup [a,b]/\Q a b:=by
 refine#[λw=>?_,by rintro⟨a,b,rfl,w⟩;exact w];cases x<;>first|exact aI w|skip
 rename_i us;rcases us with _|⟨a,_|⟨b,_|_⟩⟩<;>first|exact aI w|exact#[_,_,rfl,w]
end
noncomputable def cJ:String->List String
 |"BadRule"=>["rule","at"]
 |"TakesNothing"=>["rule"]
 |"TooMany"=>["rule"]
 |"NoToken"=>["at"]
 |_=>[]
noncomputable def oj:String->List String
 |"TokenError"=>["TokenError"]
 |"BadRule"=>["BadRule","TokenError"]
 |"TakesNothing"=>["TakesNothing","TokenError"]
 |"TooMany"=>["TooMany","TokenError"]
 |"NoToken"=>["NoToken","TokenError"]
 |_=>[]
mutual
noncomputable def vU:U->Bool
 |.bK=>true|.bl _=>true|.int _=>true|.str _=>true
 |.tup us=>jI us
 |_=>false
noncomputable def jI:List U->Bool
 |[]=>true
 |u::us=>vU u&&jI us
end
mutual
noncomputable def dep:U->Nat
 |.tup us=>jJ us+1
 |_=>0
noncomputable def jJ:List U->Nat
 |[]=>0
 |u::us=>max (dep u) (jJ us)
end
mutual
noncomputable def oN:U->U->Bool
 |.bK,.bK=>true
 |.bl a,.bl b=>a==b
 |.bl a,.int b=>(if a then 1 else 0)== b
 |.int a,.bl b=>a==(if b then 1 else 0)
 |.int a,.int b=>a==b
 |.str a,.str b=>a==b
 |.tup as,.tup bs=>qv as bs
 |_,_=>false
noncomputable def qv:List U->List U->Bool
 |[],[]=>true
 |x::xs,y::ys=>oN x y&&qv xs ys
 |_,_=>false
end
noncomputable def GY:U->U->Bool
 |.tup _,_=>true
 |.bK,.bK=>true|.bK,.int _=>true|.bK,.bl _=>true|.bK,.str _=>true
 |.int _,.bK=>true|.int _,.int _=>true|.int _,.str _=>true
 |.bl _,.bK=>true|.bl _,.bl _=>true|.bl _,.str _=>true
 |.str _,.bK=>true|.str _,.int _=>true|.str _,.bl _=>true|.str _,.str _=>true
 |_,_=>false
def tF(x y:U)(Q:Bool->Prop):Prop:=(GY x y=true/\vU x=true/\vU y=true/\dep x<=100)/\Q (oN x y)
noncomputable def GZ:U->Bool
 |.tup _=>false
 |_=>true
noncomputable def Ah:U->U->Bool
 |.tup _,.tup _=>true
 |.tup _,_=>false
 |_,_=>true
noncomputable def flat:U->Bool
 |.bK=>true|.bl _=>true|.int _=>true|.str _=>true
 |_=>false
def qw(x:U)(us:List U)(Q:Bool->Prop):Prop:=(flat x=true/\us.all flat=true)/\Q (us.any λy=>oN y x)
noncomputable def iC:List Nat->List Nat->Bool
 |a,[]=>a.isEmpty
 |a,b::bs=>a.isPrefixOf (b::bs)||iC a bs
noncomputable def pW(S:bI):U->Option Nat
 |.str l=>some l.length
 |.tup us=>some us.length
 |.pC ns=>some ns.length
 |.loc n=>match S[n]? with
  |some (.lst us)=>some us.length
  |some (.vG kvs)=>some kvs.length
  |_=>none
 |_=>none
noncomputable def rB(S:bI):U->Option Bool
 |.bK=>some false
 |.bl b=>some b
 |.int i=>some (i !=0)
 |.str _=>none
 |u=>(pW S u).map λn=>n !=0
noncomputable def Of(n:Nat)(i:Int):Option Nat:=if 0<=i then(if i<n then some i.toNat else none) else if -(n:Int)<=i then some (i+n).toNat else none
noncomputable def tG{α:Type}(xs:List α)(i:Int):Option α:=(Of xs.length i).bind λj=>xs[j]?
noncomputable def lT{α:Type}(xs:List α)(lo hi:Option Int):List α:=(xs.drop (min (lo.getD 0).toNat xs.length)).take (min (hi.getD xs.length).toNat xs.length-min (lo.getD 0).toNat xs.length)
def MD(x:U)(Q:List Nat->Prop):Prop:=match x with|.str a=>Q a|_=>False
def Va(x:U)(Q:Prop):Prop:=match x with|.bK=>Q|_=>False
def XG(x:U)(Q:List U->Prop):Prop:=match x with|.tup a=>Q a|_=>False
theorem oO:MD x Q↔∃b,x=.str b/\Q b:=#[λw=>by cases x<;>first|exact#[_,rfl,w]|exact aI w,by rintro⟨b,rfl,w⟩;exact w]
theorem Kx:XG x Q↔∃b,x=.tup b/\Q b:=#[λw=>by cases x<;>first|exact#[_,rfl,w]|exact aI w,by rintro⟨b,rfl,w⟩;exact w]
theorem ko{x y:U}{P:Int->Int->Prop}(w:kZ x λi=>kZ y (P i)):∃i j,x=.int i/\y=.int j/\P i j:=by
 obtain⟨i,e,w⟩:=eQ.mp w;obtain⟨j,e',w⟩:=eQ.mp w;exact#[i,j,e,e',w]
def jK(o:FD)(x y:U)(S:bI)(Q:KU):Prop:=
 match o with
 |.add=>match x with
  |.int i=>kZ y λj=>Q (.int (i+j)) S
  |.str a=>MD y λb=>a.length+b.length<=1000000/\Q (.str (a++b)) S
  |.tup a=>XG y λb=>a.length+b.length<=1000000/\Q (.tup (a++b)) S
  |.loc m=>zH y λn=>getL S[m]? λa=>getL S[n]? λb=>a.length+b.length<=1000000/\Q (.loc S.length) (S++[.lst (a++b)])
  |_=>False
 |.sub=>kZ x λi=>kZ y λj=>Q (.int (i-j)) S
 |.mul=>match x with
  |.int i=>kZ y λj=>((-(2^64)<i/\i<2^64)\/(-(2^64)<j/\j<2^64))/\Q (.int (i*j)) S
  |.str a=>kZ y λj=>∃c,a=[c]/\0<=j/\j<=1000/\Q (.str (dm j.toNat c)) S
  |_=>False
 |.fdiv=>kZ x λi=>kZ y λj=>(0<j/\j<1073741824)/\Q (.int (i/j)) S
 |.mod=>kZ x λi=>kZ y λj=>0<j/\Q (.int (i%j)) S
 |.band=>kZ x λi=>kZ y λj=>(0<=i/\0<=j)/\Q (.int ((i.toNat&&&j.toNat:Nat):Int)) S
 |.bor=>kZ x λi=>kZ y λj=>(0<=i/\0<=j)/\Q (.int ((i.toNat|||j.toNat:Nat):Int)) S
 |.shl=>kZ x λi=>kZ y λj=>(0<=i/\i<1000/\0<=j/\j<=1000)/\Q (.int (i*2^j.toNat)) S
 |.shr=>kZ x λi=>kZ y λj=>(0<=i/\0<=j)/\Q (.int (i/2^j.toNat)) S
def sW(o:FD)(x y:U)(S:bI)(Q:KU):Prop:=
 match x with
 |.int i=>jK o (.int i) y S Q
 |.str a=>jK o (.str a) y S Q
 |_=>False
noncomputable def uD(x:U):Bool:=match x with|.bK=>true|_=>false
def Og(x y:U)(Q:Bool->Prop):Prop:=Ah x y=true/\tF x y λb=>Q !b
def Wd(x:U)(us:List U)(Q:Bool->Prop):Prop:=match x with
 |.tup xs=>(jI xs=true/\jI us=true/\jJ us<=100)/\Q !(us.any λy=>oN y (.tup xs))
 |x=>qw x us λb=>Q !b
def Jp(S:bI)(a:U)(o:Option (List U)):Prop:=(a=.bK/\o=none)\/∃n us,a=.loc n/\S[n]?=some (.lst us)/\(jI us=true/\jJ us<=90)/\o=some us
noncomputable def Vb:Option (List U)->Option (List U)->Bool
 |none,none=>true
 |some a,some b=>qv a b
 |_,_=>false
def Ky(us:List U)(y:U)(S:bI)(Q:Bool->Prop):Prop:=∃a i b j o o',us=[a,.int i]/\y=.tup [b,.int j]/\Jp S a o/\Jp S b o'/\Q (Vb o o'&&i==j)
def iO(o:Oc)(x y:U)(S:bI)(Q:Bool->Prop):Prop:=
 match o with
 |.eq=>match x with
  |.tup us=>tF (.tup us) y Q\/Ky us y S Q
  |.loc m=>zH y λn=>getL S[m]? λus=>S[n]?=some (.lst [])/\Q us.isEmpty
  |x=>tF x y Q
 |.ne=>match x with
  |.loc m=>match y with
   |.loc n=>getL S[m]? λus=>S[n]?=some (.lst [])/\Q (!us.isEmpty)
   |y=>Og (.loc m) y Q
  |.tup us=>Og (.tup us) y Q\/Ky us y S λb=>Q !b
  |x=>Og x y Q
 |.lt=>kZ x λi=>kZ y λj=>Q (decide (i<j))
 |.le=>kZ x λi=>kZ y λj=>Q (decide (i<=j))
 |.gt=>kZ x λi=>kZ y λj=>Q (decide (j<i))
 |.ge=>kZ x λi=>kZ y λj=>Q (decide (j<=i))
 |.isin=>match y with
  |.str b=>MD x λa=>Q (iC a b)
  |.tab kvs=>MD x λa=>Q (kvs.lookup a).isSome
  |.tup us=>qw x us Q
  |.loc n=>getL S[n]? λus=>qw x us Q
  |_=>False
 |.nv=>match y with
  |.str b=>MD x λa=>Q !(iC a b)
  |.tup us=>qw x us λb=>Q !b
  |.loc n=>getL S[n]? λus=>Wd x us Q
  |_=>False
 |.Ku=>Va y (Q (uD x))
 |.Ad=>Va y (Q !(uD x))
def Jq(x y:U)(S:bI)(Q:U->Prop):Prop:=
 match x with
 |.str l=>kZ y λi=>l.length<=1000000/\opt (tG l i) λc=>Q (.str [c])
 |.tup us=>kZ y λi=>us.length<=1000000/\opt (tG us i) Q
 |.pC ns=>kZ y λi=>ns.length<=1000000/\opt (tG ns i) λn=>Q (.int n)
 |.loc n=>kZ y λi=>getL S[n]? λus=>opt (tG us i) Q
 |.tab kvs=>MD y λk=>opt (kvs.lookup k) λv=>Q (.str v)
 |_=>False
def EF(x:U)(lo hi:Option Int)(S:bI)(Q:KU):Prop:=
 ((∀i,lo=some i->0<=i)/\∀i,hi=some i->0<=i)/\match x with
 |.str l=>l.length<=1000000/\Q (.str (lT l lo hi)) S
 |.tup us=>(us.length<=1000000/\us≠[]/\0<lo.getD 0)/\Q (.tup (lT us lo hi)) S
 |.loc n=>getL S[n]? λus=>Q (.loc S.length) (S++[.lst (lT us lo hi)])
 |_=>False
noncomputable def k7(sep:List Nat):List (List Nat)->List Nat
 |[]=>[]
 |[x]=>x
 |x::r=>x++sep++k7 sep r
noncomputable def sA(n:Nat):Nat:=if n=0 then 0 else n.log2+1
def sX(f:RZ)(us:List U)(S:bI)(Q:KU):Prop:=
 match f,us with
 |.len,[x]=>opt (pW S x) λn=>n<=1000000/\Q (.int n) S
 |.tuple,[.loc n]=>getL S[n]? λus=>Q (.tup us) S
 |.list,[.loc n]=>getL S[n]? λus=>Q (.loc S.length) (S++[.lst us])
 |.list,[.tup us]=>us.length<=1000000/\Q (.loc S.length) (S++[.lst us])
 |.all,[.loc n]=>∃bs:List Bool,S[n]?=some (.lst (bs.map .bl))/\Q (.bl (bs.all id)) S
 |.any,[.loc n]=>∃bs:List Bool,S[n]?=some (.lst (bs.map .bl))/\Q (.bl (bs.any id)) S
 |.sum,[.loc n]=>∃is:List Int,S[n]?=some (.lst (is.map .int))/\Q (.int is.sum) S
 |.dict,[.loc n]=>∃ps:List (List Nat×U),S[n]?=some (.lst (ps.map λp=>.tup [.str p.1,p.2]))/\(ps.map (·.1)).Nodup/\Q (.loc S.length) (S++[.vG (ps.map λp=>(.str p.1,p.2))])
 |.uC,[.loc n]=>∃t ts,S[n]?=some (.lst ((t::ts).map .str))/\(∀u∈t::ts,u.length<=1000000)/\Q (.str (ts.foldl (λb x=>if x.length<b.length then x else b) t)) S
 |_,_=>False
def vV(m:Od)(x:U)(us:List U)(S:bI)(Q:KU):Prop:=
 match m,x,us with
 |.join,.str sep,[.loc n]=>∃ts:List (List Nat),S[n]?=some (.lst (ts.map .str))/\(ts.map cM).sum+ts.length*sep.length<=1000000/\Q (.str (k7 sep ts)) S
 |.index,.str l,[.str k]=>∃c,k=[c]/\c∈l/\Q (.int (l.idxOf c:Nat)) S
 |.startswith,.str l,[.str k]=>Q (.bl (k.isPrefixOf l)) S
 |.mS,.int i,[]=>0<=i/\Q (.int (sA i.toNat:Nat)) S
 |.get,.loc n,[.str k,d]=>getD S[n]? λkvs=>∃ps:List (List Nat×U),kvs=(ps.map λp=>(U.str p.1,p.2))/\Q ((ps.lookup k).getD d) S
 |.append,.loc n,[u]=>getL S[n]? λus=>us.length<1000000/\Q .bK (S.set n (.lst (us++[u])))
 |.extend,.loc n,[.loc m]=>getL S[n]? λus=>getL S[m]? λws=>us.length+ws.length<=1000000/\Q .bK (S.set n (.lst (us++ws)))
 |_,_,_=>False
def vW(m:Od)(x:U)(S:bI):Prop:=
 match m,x with
 |.join,.str _=>True|.index,.str _=>True|.startswith,.str _=>True
 |.append,.loc n=>getL S[n]? λ_=>True
 |.extend,.loc n=>getL S[n]? λ_=>True
 |.get,.loc n=>getD S[n]? λ_=>True
 |.mS,.int _=>True
 |_,_=>False
noncomputable def G6:Option SO->Ty->Option Bool
 |some (.lst _),.list=>some true
 |some (.vG _),.dict=>some true
 |some (.ins _ _),_=>none
 |some _,.own _=>none
 |some _,_=>some false
 |none,_=>none
noncomputable def Kz(S:bI):U->Ty->Option Bool
 |.int _,.int=>some true|.bl _,.int=>some true|.bl _,.bool=>some true
 |.bK,.own _=>none
 |.loc n,t=>G6 S[n]? t
 |.str _,.str=>some true|.tup _,.tuple=>some true
 |.exc c _,.own d=>some ((oj c).contains d)
 |.exc _ _,.Kv=>some true
 |.exc _ _,_=>none
 |.pC _,_=>none|.tab _,_=>none
 |_,.own _=>none
 |_,.Kv=>none
 |_,_=>some false
noncomputable def wY(S:bI)(u:U):List Ty->Option Bool
 |[]=>some false
 |t::ts=>match Kz S u t,wY S u ts with
  |some a,some b=>some (a||b)
  |_,_=>none
noncomputable def dZ(f:String)(v:U):List (String×U)->List (String×U)
 |[]=>[(f,v)]
 | (g,x)::r=>if g=f then(g,v)::r else(g,x)::dZ f v r
def jA(x:U)(f:String)(S:bI)(Q:U->Prop):Prop:=
 match x with
 |.loc n=>mq S[n]? λ_ fs=>opt (fs.lookup f) Q
 |.exc c us=>opt (((cJ c).zip us).lookup f) Q
 |_=>False
def uE(g:bI->Prop)(turn:U->Env->bI->(Env->bI->Prop)->Prop)(fin:Env->bI->Prop):List U->Env->bI->Prop
 |[],env,S=>g S/\fin env S
 |u::us,env,S=>g S/\turn u env S (uE g turn fin us)
def nA(g:bI->Prop)(c:U->bI->(Bool->bI->Prop)->Prop)(e:U->bI->KU->Prop)(Q:List U->bI->Prop):List U->List U->bI->Prop
 |[],acc,S=>g S/\acc.length<1000000/\Q acc S
 |u::us,acc,S=>g S/\acc.length<1000000/\c u S λb S1=>if b=true then e u S1 λv S2=>nA g c e Q us (acc++[v]) S2 else nA g c e Q us acc S1
def yM(c:Env->bI->(Bool->bI->Prop)->Prop)(b:Env->bI->(Env->bI->Prop)->Prop)(fin:Env->bI->Prop):Nat->Env->bI->Prop
 |0,_,_=>False
 |n+1,env,S=>c env S λt S1=>if t=true then b env S1 (yM c b fin n) else fin env S1
def G7(x:U)(S:bI)(R:List U->(bI->Prop)->Prop):Prop:=
 match x with
 |.str l=>R (l.map λc=>.str [c]) (λ_=>True)
 |.tup us=>us.length<=1000000/\R us (λ_=>True)
 |.loc n=>getL S[n]? λus=>R us (λS'=>S'[n]?=some (.lst us))
 |_=>False
noncomputable def k8(env:Env)(ci:List Nat):Env:=ci.map λj=>(env[j]?).join
def pG(pr:Bool)(u:U)(caps:Env)(k:Env->Prop):Prop:=
 match pr with
 |false=>k (some u::caps)
 |true=>MC u λa b=>k (some a::some b::caps)
mutual
noncomputable def WE(Γ:bY):Ex->Env->bI->KU->KX->Prop
 |.var i,env,S,Q,_=>yK env[i]? λu=>Q u S
 |.lit u,_,S,Q,_=>Q u S
 |.bin o a b,env,S,Q,E=>WE Γ a env S (λx S1=>WE Γ b env S1 (λy S2=>jK o x y S2 Q) E) E
 |.neg a,env,S,Q,E=>WE Γ a env S (λx S1=>kZ x λi=>Q (.int (-i)) S1) E
 |.not a,env,S,Q,E=>WE Γ a env S (λx S1=>MB x λb=>Q (.bl !b) S1) E
 |.and a b,env,S,Q,E=>WE Γ a env S (λx S1=>MB x λc=>if c=true then WE Γ b env S1 Q E else Q (.bl false) S1) E
 |.or a b,env,S,Q,E=>WE Γ a env S (λx S1=>MB x λc=>if c=true then Q (.bl true) S1 else WE Γ b env S1 Q E) E
 |.cmp o a b,env,S,Q,E=>WE Γ a env S (λx S1=>WE Γ b env S1 (λy S2=>iO o x y S2 λr=>Q (.bl r) S2) E) E
 |.wX c a b,env,S,Q,E=>WT Γ c env S (λt S1=>if t=true then WE Γ a env S1 Q E else WE Γ b env S1 Q E) E
 |.call f as,env,S,Q,E=>uG Γ as env S (λus S1=>Γ f us S1 Q E) E
 |.mk c q as,env,S,Q,E=>uG Γ as env S (λus S1=>Γ q (.loc S1.length::us) (S1++[.ins c []]) (λv S2=>v=.bK/\Q (.loc S1.length) S2) E) E
 |.cu c m q o as,env,S,Q,E=>WE Γ o env S (λx S1=>zH x λn=>mq S1[n]? λc' fs=>(c'=c/\fs.lookup m=none)/\uG Γ as env S1 (λus S2=>Γ q (x::us) S2 Q E) E) E
 |.blt f as,env,S,Q,E=>uG Γ as env S (λus S1=>sX f us S1 Q) E
 |.kS m o as,env,S,Q,E=>WE Γ o env S (λx S1=>vW m x S1/\uG Γ as env S1 (λus S2=>vV m x us S2 Q) E) E
 |.fld o f,env,S,Q,E=>WE Γ o env S (λx S1=>jA x f S1 λv=>Q v S1) E
 |.ix o i,env,S,Q,E=>WE Γ o env S (λx S1=>WE Γ i env S1 (λy S2=>Jq x y S2 λv=>Q v S2) E) E
 |.sl o lo hi,env,S,Q,E=>WE Γ o env S (λx S1=>WO Γ lo env S1 (λl S2=>WO Γ hi env S2 (λh S3=>EF x l h S3 Q) E) E) E
 |.tup as,env,S,Q,E=>uG Γ as env S (λus S1=>us.length<=1000000/\Q (.tup us) S1) E
 |.lst as,env,S,Q,E=>uG Γ as env S (λus S1=>us.length<=1000000/\Q (.loc S1.length) (S1++[.lst us])) E
 |.vG ks vs,env,S,Q,E=>uG Γ ks env S (λus S1=>uG Γ vs env S1 (λws S2=>us.length<=100/\Q (.loc S2.length) (S2++[.vG (us.zip ws)])) E) E
 |.comp pr e it c ci,env,S,Q,E=>WI Γ it env S (λus g S1=>nA g (λu S2 k=>pG pr u (k8 env ci) λen=>WT Γ c en S2 k λ_ _=>False)
   (λu S2 k=>pG pr u (k8 env ci) λen=>WE Γ e en S2 k λ_ _=>False) (λacc S3=>Q (.loc S3.length) (S3++[.lst acc])) us [] S1) E
 |.MA a ts,env,S,Q,E=>WE Γ a env S (λx S1=>opt (wY S1 x ts) λb=>Q (.bl b) S1) E
noncomputable def uG(Γ:bY):yJ->Env->bI->(List U->bI->Prop)->KX->Prop
 |.nil,_,S,Q,_=>Q [] S
 |.cons e es,env,S,Q,E=>WE Γ e env S (λx S1=>uG Γ es env S1 (λxs S2=>Q (x::xs) S2) E) E
noncomputable def WO(Γ:bY):Ox->Env->bI->(Option Int->bI->Prop)->KX->Prop
 |.no,_,S,Q,_=>Q none S
 |.e a,env,S,Q,E=>WE Γ a env S (λx S1=>kZ x λj=>Q (some j) S1) E
noncomputable def WI(Γ:bY):It->Env->bI->(List U->(bI->Prop)->bI->Prop)->KX->Prop
 |.val e,env,S,R,E=>WE Γ e env S (λx S1=>G7 x S1 λus g=>R us g S1) E
 |.range e,env,S,R,E=>WE Γ e env S (λx S1=>kZ x λn=>n<=1000000/\-(1000000:Int)<=n/\R ((cx n.toNat).map λk=>.int (k:Nat)) (λ_=>True) S1) E
 |.enum e,env,S,R,E=>WE Γ e env S (λx S1=>zH x λn=>getL S1[n]? λus=>R (us.mapIdx λi u=>.tup [.int (i:Nat),u]) (λS'=>S'[n]?=some (.lst us)) S1) E
 |.rev e,env,S,R,E=>WE Γ e env S (λx S1=>zH x λn=>getL S1[n]? λus=>R us.reverse (λS'=>S'[n]?=some (.lst us)) S1) E
noncomputable def WT(Γ:bY):Tx->Env->bI->(Bool->bI->Prop)->KX->Prop
 |.cg e,env,S,Q,E=>WE Γ e env S (λx S1=>opt (rB S1 x) λb=>Q b S1) E
 |.not t,env,S,Q,E=>WT Γ t env S (λb S1=>Q (!b) S1) E
 |.and a b,env,S,Q,E=>WT Γ a env S (λc S1=>if c=true then WT Γ b env S1 Q E else Q false S1) E
 |.or a b,env,S,Q,E=>WT Γ a env S (λc S1=>if c=true then Q true S1 else WT Γ b env S1 Q E) E
end
structure Ends where
 nx:Env->bI->Prop
 rt:KU
 ex:Env->KX
mutual
noncomputable def WS(Γ:bY):Sm->Ends->Env->bI->Prop
 |.set i e,D,env,S=>WE Γ e env S (λu S1=>D.nx (env.set i (some u)) S1) (D.ex env)
 |.iN o f e,D,env,S=>WE Γ e env S (λu S1=>WE Γ o env S1 (λx S2=>zH x λn=>mq S2[n]? λc fs=>fs.length<100/\D.nx env (S2.set n (.ins c (dZ f u fs)))) (D.ex env)) (D.ex env)
 |.Wc o i e,D,env,S=>WE Γ e env S (λu S1=>WE Γ o env S1 (λx S2=>WE Γ i env S2 (λy S3=>zH x λn=>kZ y λk=>getL S3[n]? λus=>opt (Of us.length k) λj=>D.nx env (S3.set n (.lst (us.set j u)))) (D.ex env)) (D.ex env)) (D.ex env)
 |.aug i p e,D,env,S=>yK env[i]? λx=>WE Γ e env S (λy S1=>sW p x y S1 λz S2=>D.nx (env.set i (some z)) S2) (D.ex env)
 |.vT o f p e,D,env,S=>WE Γ o env S (λx S1=>zH x λn=>mq S1[n]? λc fs=>opt (fs.lookup f) λv=>
   WE Γ e env S1 (λy S2=>sW p v y S2 λz S3=>mq S3[n]? λc' fs'=>c'=c/\fs'.length<100/\D.nx env (S3.set n (.ins c (dZ f z fs')))) (D.ex env)) (D.ex env)
 |.EE o i p e,D,env,S=>WE Γ o env S (λx S1=>WE Γ i env S1 (λy S2=>zH x λn=>kZ y λk=>getL S2[n]? λus=>0<=k/\opt (us[k.toNat]?) λv=>
   WE Γ e env S2 (λz S3=>sW p v z S3 λr S4=>getL S4[n]? λus'=>k.toNat<us'.length/\D.nx env (S4.set n (.lst (us'.set k.toNat r)))) (D.ex env)) (D.ex env)) (D.ex env)
 |.ex e,D,env,S=>WE Γ e env S (λ_ S1=>D.nx env S1) (D.ex env)
 |.ret e,D,env,S=>WE Γ e env S D.rt (D.ex env)
 |.ifs c a b,D,env,S=>WT Γ c env S (λt S1=>if t=true then rC Γ a D env S1 else rC Γ b D env S1) (D.ex env)
 |.Ae c b,D,env,S=>∃n,yM (λen S1 k=>WT Γ c en S1 k (D.ex en)) (λen S1 k=>rC Γ b {D with nx:=k} en S1) D.nx n env S
 |.i8 t it b,D,env,S=>WI Γ it env S (λus g S1=>uE g (λu en S2 k=>match t with
   |.name i=>rC Γ b {D with nx:=k} (en.set i (some u)) S2
   |.pair i j=>MC u λx y=>rC Γ b {D with nx:=k} ((en.set i (some x)).set j (some y)) S2) D.nx us env S1) (D.ex env)
 |.raise c as,D,env,S=>uG Γ as env S (λus S1=>us.length=(cJ c).length/\D.ex env #[c,us] S1) (D.ex env)
 |.Oe b c i h,D,env,S=>rC Γ b {D with ex:=λen x S1=>(oj x.c).contains c=true/\rC Γ h {nx:=λen2 S2=>D.nx (en2.set i none) S2,rt:=D.rt,ex:=λ_ _ _=>False} (en.set i (some (.exc x.c x.us))) S1} env S
noncomputable def rC(Γ:bY):dh->Ends->Env->bI->Prop
 |.nil,D,env,S=>D.nx env S
 |.cons s ss,D,env,S=>WS Γ s {D with nx:=λen S1=>rC Γ ss D en S1} env S
end
end PL
namespace L2
open PySem PySem.Spec PyProof.Rows PySem.W
open Builtin Builtin.Str
theorem De{a:List Nat}:∀{b:List Nat},PL.iC a b=true↔∃i,i+a.length<=b.length/\(b.drop i).take a.length=a
 |[]=>by
  unfold PL.iC;rw[List.isEmpty_iff]
  constructor
  .rintro rfl;exact#[0,ax _,rfl]
  .rintro⟨i,h,_⟩
   exact fK (by have h:i+a.length<=0:=h;omega)
 |x::b=>by
  unfold PL.iC;rw[aO,De (b:=b),wz]
  constructor
  .rintro(h|⟨i,h1,h2⟩)
   .refine#[0,by have:=h.length_le;omega,?_]
    rw[kX];exact(nq.mp h).symm
   .exact#[i+1,by simp;omega,by rw[Eb];exact h2]
  .rintro⟨i,h1,h2⟩
   cases i with
   |zero=>rw[kX] at h2;exact .inl (nq.mpr h2.symm)
   |succ i=>rw[Eb] at h2;exact .inr #[i,by simp at h1;omega,h2]
theorem Ai(a b:List Nat):(!(occurrences (tx b) (tx a) 0 (tx b).length 1).isEmpty)=PL.iC a b:=by
 rw[cX,StrLaws.found_iff,De]
 refine exists_congr λi=>?_
 rw[cU,cU]
 refine and_congr_right λh=>?_
 rw[StrLaws.subAt_eq,beq_iff_eq]
 simp[cU]
section
variable{X:Cx}
theorem EG:gu X (bD .In) (λx y H Q=>∃a b,x=.str (tx a)/\y=.str (tx b)/\Q (.bl (PL.iC a b)) H):=by
 intro pZ s σ H x y v u Q I rx ry h;obtain⟨a,b,rfl,rfl,q⟩:=h;refine Ep pZ s σ H _ _ v u Q I rx ry #[tx a,tx b,rfl,rfl,?_];rw[Ai]
 exact q
theorem yN:gu X (bD .NotIn) (λx y H Q=>∃a b,x=.str (tx a)/\y=.str (tx b)/\Q (.bl (!PL.iC a b)) H):=by
 intro pZ s σ H x y v u Q I rx ry h;obtain⟨a,b,rfl,rfl,q⟩:=h;refine yC pZ s σ H _ _ v u Q I rx ry #[tx a,tx b,rfl,rfl,?_];rw[Ai]
 exact q
theorem wZ:FC X "str.startswith" (λx xs H Q=>∃a b,x=.str (tx a)/\xs=[.str (tx b)]/\Q (.bl (b.isPrefixOf a)) H):=by
 intro pZ s σ H x xs v us Q I rx rs h;obtain⟨a,b,rfl,rfl,q⟩:=h;obtain⟨t,rfl⟩:=rx;obtain⟨u,rfl,t',rfl⟩:=vals1 rs;refine SC.startswith #[.bl _,H,I,?_,q];show iG (Txt.startswith (tx a) (tx b))=iG (b.isPrefixOf a)
 congr 1
 unfold Txt.startswith;rw[cX,af,decide_eq_true_eq,StrLaws.subAt_eq,beq_iff_eq,wz,nq,cU,cU]
 simp only[kX,cU,Nat.zero_add];constructor
 .rintro⟨_,h⟩;exact h.symm
 .intro h
  refine#[?_,h.symm];have:=congrArg cM h;simp at this;omega
theorem uH:∀{bs:List Bool}{us:List Value},Vals (bs.map V.bl) us->us=bs.map iG
 |[],_,.nil=>rfl
 |b::bs,_,.cons r h=>by
  cases r;rw[uH h];rfl
theorem BV(hc:X.calm=true):i5 X (.builtin "all") (λxs H Q=>∃p,∃bs:List Bool,xs=[.ref p]/\gF X.K H p (bs.map V.bl)/\Q (.bl (bs.all id)) H):=by
 intro pZ s σ H xs us Q I r h;obtain⟨p,bs,rfl,hl,q⟩:=h;obtain⟨u,rfl,ru⟩:=vals1 r;cases ru;obtain⟨its,r,pl,_⟩:=I.list hl;have hl:=pl.isList;have hits:=uH r;have hlt:p<s.heap.objs.size:=by obtain⟨_,e,_⟩:=hl;exact aL e
 refine call_all_walk (nW hl ?_);refine#[s.heap.objs.size,[s.heap.objs.size,p],[s.heap.objs.size],its.toArray.size,_,_,λi=>(bs[i]?).getD true,rfl,Walks.list (A:=X.A.in1) (I.ok.hd hc) _ p (b7 hlt) its.toArray,
  #[#[_,bz _ rfl,rfl,rfl],hl.push _],λi v s' Q' E' hP hQ=>?_,λh' tk hk=>?_]
 .have hP:its[i]?=some v:=by simpa using hP
  rw[hits,ar] at hP;cases e:bs[i]? with
  |none=>rw[e] at hP;cases hP
  |some b=>
   rw[e] at hP;have hQ:Q' ((bs[i]?).getD true) s':=hQ;rw[e] at hQ;cases hP;exact fk hQ
 .have e:((cx its.toArray.size).all λi=>(bs[i]?).getD true)=bs.all id:=by
   rw[aC,hits,aq];exact LSm.range_all bs
  rw[e]
  exact#[.bl _,H,I.kept (LSm.kept_iter hk),rfl,q]
theorem Dg:∀{is:List Int}{us:List Value},Vals (is.map V.int) us->∃ps:List (Int×Tok),us=ps.map (λp=>mJ p.1 p.2)/\ps.map (·.1)=is
 |[],_,.nil=>#[[],rfl,rfl]
 |i::is,_,.cons (b:=u) r h=>by
  obtain⟨t,e⟩:=(show ∃t,u=mJ i t from r)
  subst e;obtain⟨ps,e1,e2⟩:=Dg h;exact#[(i,t)::ps,by rw[e1];rfl,by rw[aF,e2]]
theorem BW(hc:X.calm=true):i5 X (.builtin "sum") (λxs H Q=>∃p,∃is:List Int,xs=[.ref p]/\gF X.K H p (is.map V.int)/\Q (.int is.sum) H):=by
 intro pZ s σ H xs us Q I r h;obtain⟨p,is,rfl,hl,q⟩:=h;obtain⟨u,rfl,ru⟩:=vals1 r;cases ru;obtain⟨its,r,pl,_⟩:=I.list hl;obtain⟨ps,e1,e2⟩:=Dg r;have hl:s.heap.IsList p (intItems ps.toArray):=by
  have:=pl.isList;rw[e1] at this;simpa[intItems] using this
 refine sum_intListG (I.ok.hd hc) hl λh' tk t' hk=>#[.int is.sum,H,I.kept hk,#[t',?_],q]
 rw[preSum_eq,bN (by simp)]
 simp[e2]
theorem G8(hu:X.A.units+200<kf):gu X (bD .NotEq) (λx y H Q=>∃ds ds',fG X.K H x (.tup ds)/\fG X.K H y (.tup ds')/\Dv.iB ds<=100/\Q (.bl (!nJ ds ds')) H):=by
 intro pZ s σ H x y u v Q I rx ry h;obtain⟨ds,ds',hx,hy,hz,q⟩:=h;unfold fG at hx hy;obtain⟨a,vs,rfl,hq,hd⟩:=hx;obtain⟨a',vs',rfl,hq',hd'⟩:=hy;cases rx;cases ry;obtain⟨its,r1,p,_⟩:=I.tuple hq;obtain⟨its',r2,p',_⟩:=I.tuple hq';have l1:=hd.len;have l2:=hd'.len;have m1:=r1.length;have m2:=r2.length;refine SeqAt.RcNeAt.tuples (e:=λj=>match ds[j]?,ds'[j]? with|some a,some b=>mI a b|_,_=>true) p p' ∅ (λj k1 k2=>?_) _ _ _ _ #[.bl _,H,I,?_,q]
 .rw[aC] at k1 k2
  have e1:ds[j]?=some (ds[j]'∅):=aa _;have e2:ds'[j]?=some (ds'[j]'∅):=aa _;have f1:vs[j]?=some (vs[j]'∅):=aa _;have f2:vs'[j]?=some (vs'[j]'∅):=aa _;obtain⟨w1,g1,q1⟩:=r1.get f1;obtain⟨w2,g2,q2⟩:=r2.get f2;have a1:its.toArray[j]=w1:=by
   obtain⟨_,z⟩:=ae.mp g1;simpa using z
  have a2:its'.toArray[j]=w2:=by
   obtain⟨_,z⟩:=ae.mp g2;simpa using z
  rw[a1,a2,e1,e2]
  exact BU I 100 (aS (mn e1) hz) (by show X.A.units+1+100<kf;omega) (hd.get f1 e1) (hd'.get f2 e2) q1 q2
 .show iG _=iG _
  congr 2
  rw[aC,aC,<-m1,<-m2,l1,l2]
  refine mR ds ds' _ λi a b h1 h2=>?_
  rw[h1,h2]
theorem G9:gu X (bD .In) (λx y H Q=>∃a k r,x=.str k/\y=.ref a/\(∃es n,X.K.lookup a=some #[.type "dict",none,.dict es n,#[]]/\A8 X.w.params es.toList)/\(a==dE)=false/\nsIn X.K a k=some r/\Q (.bl r.isSome) H):=by
 intro pZ s σ H x y v u Q I rx ry h;obtain⟨a,k,r,rfl,rfl,⟨es,n,lk,kl⟩,lo,e,q⟩:=h;obtain⟨t,rfl⟩:=rx;cases ry;exact wpAny_in_of (strKind_is X.prog X.w k t) lo (mapOf_K (prog:=X.prog) (w:=X.w) I.kY lk kl) (by rw[find_K lk e];exact#[.bl _,H,I.tok _,rfl,q])
end
section
variable{X:Cx}{pZ:List (Addr×Obj)}{σ:List (Option V)}{H:Hp}{s:ak}{h':Heap}
theorem Inv.Oh{t':Nat}{m:Str->Option Value}(I:Inv X pZ σ H s)(k:∀b o,b≠X.env.locals->s.heap.get? b=some o->h'.get? b=some o)(h1:s.heap.Ns X.env.locals m)(h2:h'.Ns X.env.locals m):Inv X pZ σ H {s with heap:=h',toks:=t'}:=by
 have nL:∀b u,H b=some u->b≠X.env.locals:=λb u e z=>by rw[z,I.free] at e;cases e
 refine I.step (g':=s.gens) (d':=s.drawn) (ch:=[]) (λ_ z=>nomatch z) (λb o hL _ _ e _=>k b o hL e) (λb o hL _ _ e _=>#[o.slots,k b o hL e]) (λ_ _ _ _ n=>n)
  (λb o _ e=>?_) (λ_ _ e=>e) (λ_ _ _ e=>e) (λb ps e=>#[#[],by rw[e];simp]) (λm' hm=>?_) (λb u e=>?_) I.bare
 .by_cases z:b=X.env.locals
  .obtain⟨o',_,_,ho,_⟩:=h2
   exact#[o',by rw[z];exact ho]
  .exact#[o,k b o z e]
 .rw[hm.eq_nsMap,<-h1.eq_nsMap];exact h2
 .refine(I.dg b u e).jH (λc v hc q=>k c v ?_ q) (λ_ q=>q) λ_ _ q=>q
  rcases hc with z|z
  .rw[z];exact nL b u e
  .exact nL c _ z
end
section
variable{X:Cx}
noncomputable def Aj(t:List Nat)(ts:List (List Nat)):List Nat:=ts.foldl (λb x=>if x.length<b.length then x else b) t
theorem Dh:∀{ts:List (List Nat)}{us:List Value},Vals (ts.map λt=>V.str (tx t)) us->us.length=ts.length/\∀(i:Nat)v,us[i]?=some v->∃t k,ts[i]?=some t/\v=jw (tx t) k
 |[],_,.nil=>#[rfl,λi v h=>by simp at h]
 |t::ts,_,.cons (b:=u) r h=>by
  obtain⟨k,e⟩:=(show ∃k,u=jw (tx t) k from r)
  subst e;obtain⟨e1,e2⟩:=Dh h;refine#[by simp[e1],λi v q=>?_];cases i with
  |zero=>simp at q;exact#[t,k,rfl,q.symm]
  |succ i=>exact e2 i v (by simpa using q)
theorem tH(b:List Nat):∀(ts:List (List Nat))(i:Nat)(t:List Nat),(b::ts)[i]?=some t->(∀j u,(b::ts)[j]?=some u->t.length<=u.length/\(j<i->t.length<u.length))->Aj b ts=t
 |[],i,t,h,_=>by
  cases i with
  |zero=>simp at h;exact h
  |succ i=>simp at h
 |x::ts,i,t,h,m=>by
  show Aj (if x.length<b.length then x else b) ts=t
  have mb:=m 0 b rfl;have mx:=m 1 x rfl;by_cases z:x.length<b.length
  .rw[if_pos z]
   cases i with
   |zero=>simp at h;subst h;omega
   |succ i=>
    refine tH x ts i t (by simpa using h) λj u hj=>?_
    have:=m (j+1) u (by simpa using hj);exact#[this.1,λq=>this.2 ∅]
  .rw[if_neg z]
   cases i with
   |zero=>
    simp at h;subst h;refine tH b ts 0 b rfl λj u hj=>#[?_,λq=>∅]
    cases j with
    |zero=>simp at hj;subst hj;exact ax _
    |succ j=>exact(m (j+2) u (by simpa using hj)).1
   |succ i=>
    cases i with
    |zero=>simp at h;subst h;have:=mb.2 ∅;omega
    |succ i=>
     refine tH b ts (i+1) t (by simpa using h) λj u hj=>?_
     cases j with
     |zero=>simp at hj;subst hj;exact#[mb.1,λ_=>mb.2 ∅]
     |succ j=>
      have:=m (j+2) u (by simpa using hj);exact#[this.1,λq=>this.2 ∅]
theorem Ak{pZ:List (Addr×Obj)}{s:ak}{σ:St}{H:Hp}{Q:VK}{p:Addr}{t:List Nat}{ts:List (List Nat)}(hc:X.calm=true)(I:Inv X pZ σ H s)(hl:gF X.K H p ((t::ts).map λt=>V.str (tx t)))
  (hz:∀u∈t::ts,u.length<=1000000) (q:Q (.str (tx (Aj t ts))) H){E:Value->ak->Prop}:
  wpAny (aR X.prog X.w) X.A (call (.builtin "min") [.ref p] [(b8 "key",.builtin "len")]) (EP X pZ σ Q) E s:=by
 obtain⟨its,r,pl,_⟩:=I.list hl;obtain⟨e1,e2⟩:=Dh r;obtain⟨m,F⟩:=I.fr;have kp:∀h,Fr X.base X.env.locals h m->News X.base X.env.locals h (oJ X.base s.heap X.env.locals)->∀b o,b≠X.env.locals->s.heap.get? b=some o->h.get? b=some o:=λh F' N' b o hb e=>by
  cases z:X.base.get? b with
  |some o'=>have:=I.bk b o' z;rw[e] at this;cases this;exact F'.keep b _ z
  |none=>exact(N' (b,o) (zT hb z e)).1
 obtain⟨ol,hol,hc1,n1,hd1⟩:=pl.isList;have pL:p≠X.env.locals:=λe=>by
  obtain⟨o',es,ep,ho',hd',_⟩:=F.ns;rw[<-e,hol] at ho';cases ho';rw[hd1] at hd';cases hd'
 refine kmb_min (kid:="len") (vs:=its) (news:=oJ X.base s.heap X.env.locals) (λi=>(((t::ts)[i]?).getD []).length) (I.ok.hd hc) F F4 (λh F' N'=>?_) (by rw[e1];simp) (λi v hv h tk own F' N'=>?_) (λi v h' tk' hv hb F' N'=>?_)
 .exact#[ol,kp h F' N' p ol pL hol,hc1,n1,hd1]
 .obtain⟨u,k,hu,rfl⟩:=e2 i v hv
  have hn:=n8;have hu':=hz u (aw hu);refine len_str (by rw[cU];omega) ?_;rw[hu,cC,cU]
  exact KskEnd.intro F' N' λp hp=>hp
 .obtain⟨u,k,hu,rfl⟩:=e2 i v hv
  have eb:Aj t ts=u:=tH t ts i u hu λj w hj=>by
   have hj':j<its.length:=by rw[e1];exact(ae.mp hj).1
   have:=hb j hj';rw[hu,hj] at this;simp only[cC] at this;exact#[∅,λq=>by have:=this.2 q;omega]
  rw[eb] at q;refine#[.str (tx u),H,?_,#[k,rfl],q];refine I.Oh (λb o hb e=>?_) F.ns F'.ns;exact kp h' F' N' b o hb e
theorem EH{e:Expr}{p pl kp pos:Pos}{te:TE}(hc:X.calm=true)(hg:Gl X "min")(hm:X.mg "min"=none)(hg2:Gl X "len")(hm2:X.mg "len"=none)(ha:PE X e te)(hs:bS [e] X.env=[(false,eval e X.env)]:=by rfl):
  PE X (.Call (.Name "min" p) [e] [#[some "key",.Name "len" pl,kp]] pos) (λσ H Q=>te σ H λv H1=>∃a t ts,v=.ref a/\gF X.K H1 a ((t::ts).map λt=>V.str (tx t))/\(∀u∈t::ts,u.length<=1000000)/\Q (.str (tx (Aj t ts))) H1):=by
 intro pZ s σ H Q I h;refine dw (pR I hg hm boot_min ?_);refine callWith_kw (e:=e) (rest:=[]) ?_ (by rw[hs];rfl) (by rw[hs];rfl);rw[hs]
 refine kK (fh (ha pZ s σ H _ I h) λu s1 h9=>?_);obtain⟨x,H1,I1,r1,a,t,ts,e2,hl,hz,q⟩:=h9;refine qV ?_;subst e2;cases r1;refine kws_cons (pR I1 hg2 hm2 JH (kws_nil ?_));exact Ak hc I1 hl hz q
end
section
variable{X:Cx}{pZ:List (Addr×Obj)}{σ:St}{H:Hp}{s:ak}
theorem Inv.KA{ch:List Addr}{h':Heap}{t':Nat}{a:Addr}{o:HO}(I:Inv X pZ σ H s)(k:∀b u,b∉ch->s.heap.get? b=some u->h'.get? b=some u)(hf:∀b∈ch,pS X pZ H b)(hp:s.heap.objs.size<=a)
  (new:eL X.prog X.w (upd H a o) h' a o):Inv X pZ σ (upd H a o) {s with heap:=h',toks:=t'}:=by
 have hn:=I.dg.fresh hp;have na:∀b u,s.heap.get? b=some u->b≠a:=λb u e z=>absurd (aM (aL e) hp) (by rw[z];exact dI _)
 have nt:∀b u,H b=some u->b∉ch:=λb u e z=>by rw[(hf b z).1] at e;cases e
 have tr:∀b u,H b=some u->upd H a o b=some u:=λb u e=>by rw[bw (fw e hn)];exact e
 refine I.step (g':=s.gens) (d':=s.drawn) (ch:=ch) (λb hb=>?_) (λb u _ _ hc e _=>k b u hc e) (λb u _ _ hc e _=>#[u.slots,k b u hc e]) (λb u _ e n=>by rw[bw (na b u e)];exact n)
  (λb u hc e=>#[u,k b u hc e]) (λb _ e=>tr b _ e) (λb _ _ e=>tr b _ e) (λb ps e=>#[#[],by rw[tr b _ e];simp]) (λm hm=>?_) (λb u e=>?_) I.bare
 .obtain⟨f0,f1,f2,f3,f4,f5⟩:=hf b hb
  exact#[f3,f1,f4,f5]
 .obtain⟨q,es,ep,ho,r⟩:=hm
  exact#[q,es,ep,k _ q (λz=>(hf _ z).2.1 rfl) ho,r]
 .by_cases hb:b=a
  .subst hb;rw[bJ] at e;cases e;exact new
  .rw[bw hb] at e
   refine(I.dg b u e).jH (λc v hc q=>k c v ?_ q) (λc q=>tr c _ q) λc xs q=>tr c _ q
   rcases hc with z|z
   .rw[z];exact nt b u e
   .exact nt c _ z
def Vc(K:aE)(a:Addr):It:=
 #[λi H=>∃xs x,gF K H a xs/\xs[i]?=some x,λi H y H'=>∃p x,H p=none/\y=.ref p/\H'=upd H p (.tup [.int i,x])/\∀xs,gF K H a xs->xs[i]?=some x,λi H=>∃xs,gF K H a xs/\xs.length<=i]
theorem EI{P:bC}{w:bZ}{K:aE}{es:List Expr}{k:Nat}{pos:Pos}(a e it:Addr)(hne:e≠it):
  Turn P w K (.Tuple es k pos) (Vc K a) [e,it] e (λi h=>(∃old,IsEnum h e it i old)/\h.IsListIter it a i) where
 mem:=by simp
 obj:=λi h st b hb=>by
  obtain⟨⟨old,h1⟩,o,h2,c,d⟩:=st;rcases bg.mp hb with rfl|hb
  .exact#[_,h1,λv z=>by cases z]
  .have e:b=it:=by simpa using hb
   subst e;exact#[o,h2,λv z=>by rw[d] at z;cases z]
 keep:=λi h h' st k=>by
  obtain⟨⟨old,h1⟩,h2⟩:=st;exact#[#[old,k e (by simp) _ h1],h2.at λo q=>k it (by simp) o q]
 item:=by
  intro X hP hw hK hc i pZ s σ H E I hf st hg;subst hP hw hK;obtain⟨xs,x,hq,hx⟩:=hg;obtain⟨its,rv,p,hz⟩:=I.list hq;obtain⟨u,hu,ru⟩:=rv.get hx;obtain⟨⟨old,h1⟩,h2⟩:=st;refine wpAny_pyNext_enum_item h1 h2 p.isList (x:=u) (by simpa using hu) hne λh' ho hit' hT hsz hk=>?_
  refine#[_,rfl,wpAny_letOwnedTupleGo_enum ho λh'' he'' sb=>?_];have hel:e<s.heap.objs.size:=aL h1;have nT:s.heap.objs.size≠e:=kJ hel;have k2:∀b v,b∉[e,it]->s.heap.get? b=some v->h''.get? b=some v:=λb v hb q=>by
   simp only[bg,bP,or_false,not_or] at hb;exact(sb.2 b hb.1).trans (hk b v hb.1 hb.2 q)
  have hfr:=I.fresh;refine#[.ref s.heap.objs.size,upd H s.heap.objs.size (.tup [.int i,x]),I.KA (t':=s.toks+1) (h':=h'') k2 hf (ax _) ?_,rfl,#[_,x,hfr,rfl,rfl,λys hy=>by rw[I.ud hy hq];exact hx],?_,λb hb=>?_]
  .exact#[show 2<=sizeLine by decide,[.int i s.toks,u],.cons #[_,rfl] (.cons ru .nil),_,(sb.2 _ nT).trans hT,rfl,_,rfl]
  .exact#[#[u,by simpa using he''],hit'.at λo q=>(sb.2 it hne.symm).trans q]
  .rw[bw]
   .exact(hf b hb).1
   .intro z
    obtain⟨f0,_⟩:=hf b hb;rcases bg.mp hb with q|hb
    .exact nT (z▸q.symm▸rfl)
    .have q:b=it:=by simpa using hb
     obtain⟨o,h3,_⟩:=h2;have:=aL h3;rw[<-q,z] at this;exact dI _ this
 done:=by
  intro X hP hw hK hc i pZ s σ H E I hf st hg;subst hP hw hK;obtain⟨xs,hq,hx⟩:=hg;obtain⟨its,rv,p,hz⟩:=I.list hq;obtain⟨⟨old,h1⟩,h2⟩:=st;have hl:=rv.length;obtain⟨f0,f1,f2,f3,f4,f5⟩:=hf it (by simp);exact wpAny_pyNext_enum_end (I.ok.hd hc) h1 h2 p.isList (by simp;omega) λh' eb=>#[rfl,I.turned (t':=s.toks) (λb o hb e=>eb b o hb e) f0 f1 f3 f4 f5]
 self:=λ_ _ _ _ _ st h=>by
  obtain⟨⟨old,h1⟩,h2⟩:=st;exact wpAny_pyIter_enum h1 h
noncomputable def R8(K:aE)(ta:TA):TI:=λσ H R=>ta σ H λvs H1=>∃a,vs=[.ref a]/\(∃xs,gF K H1 a xs)/\R (Vc K a) H1
theorem KC{X:Cx}{a:Expr}{ta:TA}{p pos:Pos}{es:List Expr}{k:Nat}{tp:Pos}(hg:Gl X "enumerate")(hm:X.mg "enumerate"=none)(ha:PA X [a] ta)(hs:bS [a] X.env=[(false,eval a X.env)]:=by rfl):
  PI X (.Tuple es k tp) (.Call (.Name "enumerate" p) [a] [] pos) (R8 X.K ta):=by
 intro pZ s σ H R I h;refine Call_ (pR I hg hm boot_enumerate (ja (fh (ha pos pZ s σ H _ I h) λus s1 h9=>?_) hs rfl));obtain⟨vs,H1,I1,r1,q1⟩:=h9;obtain⟨l,e,⟨xs,hq⟩,q⟩:=q1;subst e;cases r1 with
 |cons r rr=>
  cases rr;cases r;obtain⟨its,rv,p,hz⟩:=I1.list hq;refine call_enumerate_list p.isList λh' hE hI hsz hk=>wpAny_pyIter_enum hE ?_
  have I2:Inv X pZ σ H1 {s1 with heap:=h'}:=I1.kept (t':=s1.toks) λb o e=>hk b o e
  refine#[_,[s1.heap.objs.size+1,s1.heap.objs.size],_,Vc X.K l,H1,rfl,I2,EI l _ _ (Nat.succ_ne_self _),#[#[_,hE],hI],λb hb=>?_,q];rcases bg.mp hb with e|hb
  .subst e
   exact I1.Ej (gS _) (I1.dg.fresh (gS _))
  .have e:b=s1.heap.objs.size:=by simpa using hb
   subst e;exact I1.Ej (ax _) (I1.dg.fresh (ax _))
end
theorem yO:t4 (.type "list") "keys"=pure none:=by rw[typeLookup_type,builtinLookup_eq_fast];kernel_rfl
theorem oQ:plainId "dict.update.loop"=true:=by decide +kernel
theorem xj:entryFor table "dict.update.loop"=some Builtin.«dict.update.loop»:=entryFor_of_tree (by kernel_rfl)
section
variable{prog:bC}{w:bZ}{A:cA}{E:Value->ak->Prop}{s:ak}{a l it D:Addr}{its:Array Value}{n:Nat}{K:Type}[DecidableEq K]{knd:KeyKind prog w K}
theorem EJ{Q:Option Value->ak->Prop}(hx:s.heap.get? a=some {cls:=.type "list",data:=.seq its n})(hA:A.handled=none)
  (hq:∀h' t',(∀b o,s.heap.get? b=some o->h'.get? b=some o)->Q none {s with heap:=h',toks:=t'}):wpAny (aR prog w) A (JG (.ref a) "keys") Q E s:=by
 obtain⟨h,g,d,t,os⟩:=s;have hT:(#[h,g,d,t,os]:ak).TypeIs (.ref a) "list":=#[_,hx,rfl]
 have f1:=sub_AttributeError;have f3:=nH.lookup;have f4:=nH.bind (.ref a);have f5:=am_list_getattr_none;unfold JG getAttrBy? getAttrBy
 repeat (any_goals (first|assumption| ((with_reducible show wpAny _ _ (call (qd "list.__getattribute__") _ _) _ _ _);refine call_meets nH (show Shared.TypeIs _ _ "list" from #[_,hx,rfl]) am_entry_list_getattribute (F.args_list_getattribute_2 _ _) (meets_getattribute_miss_list a its n #[] "keys" _ yO (by decide +kernel)) #[hx,hA,λh' tk' e hx'=>?_])|wp_step))
 obtain⟨t',u',he⟩:=hx'.there;show wpAny _ _ (getattributeRaised _ _ _ _ _ _ _) _ _ _;unfold getattributeRaised
 repeat (any_goals (first|assumption|wp_step))
 exact hq _ _ hx'.keeps
theorem rD{h:Heap}{a b:Addr}{o u:Obj}(ha:h.get? a=some o)(hb:h.get? b=some u)(n:o.cls≠u.cls):a≠b:=λe=>by
 rw[e,hb] at ha;cases ha;exact n rfl
theorem EK{R:Result->ak->Prop}{more:List (K×Value)}{res:Value}(hh:A.handled=none)(hz:its.size=more.length):∀(k i:Nat)(s:ak)(acc:List (K×Value)),more.length-i=k->i<=more.length->s.heap.IsListIter it l i->s.heap.IsList l its ->
  (∀(j:Nat)(kk:K)(v:Value),more[j]?=some (kk,v)->∃T key,its[j]?=some (.ref T)/\s.heap.IsTuple T (List.toArray [key,v])/\knd.is kk key=true)->s.heap.DictOf knd D acc->acc.length+k<=sizeLine ->
  (∀h' t',h'.DictOf knd D (merged acc (more.drop i))->(∀b o,b≠D->b≠it->s.heap.get? b=some o->h'.get? b=some o)->R (.ok (.ret res)) {s with heap:=h',toks:=t'}) ->
  nU (aR prog w) A (.builtin "dict.update.loop" #[[aV D,aV it,pM i,res],[]]) R s:=by
 intro k;induction k with
 |zero=>
  intro i s acc hk hi hit hl hp hd hs hR;have hin:i=more.length:=∅
  refine codeAny_builtin xj ?_;rw[Ba oQ _]
  show wpAny _ A.in1 (pyNext (.ref it)>>=_) _ _ s
  obtain⟨oi,hoi,ci,di⟩:=id hit;obtain⟨od,es,ep,hod,hcd,r⟩:=id hd;have nd:D≠it:=rD hod hoi (by rw[hcd.1,ci];decide);refine aj (Jc hh hit hl (by rw[hin,<-hz];simp) λh' eb=>?_);refine aj (aK (aK ?_));refine hR h' s.toks ?_ λb o _ hb e=>eb b o hb e
  rw[hin,tm]
  exact#[od,es,ep,eb D od nd hod,hcd,r]
 |succ k ih=>
  intro i s acc hk hi hit hl hp hd hs hR;have lt:i<more.length:=∅
  obtain⟨⟨kk,v⟩,hkv⟩:∃p,more[i]?=some p:=#[_,aa lt]
  obtain⟨T,key,hT,ht,hk'⟩:=hp i kk v hkv;refine codeAny_builtin xj ?_;rw[Ba oQ _]
  show wpAny _ A.in1 (pyNext (.ref it)>>=_) _ _ s
  obtain⟨oi,hoi,ci,di⟩:=id hit;obtain⟨od,es,ep,hod,hcd,r⟩:=id hd;obtain⟨ol,hol,cl,dl⟩:=id hl;have nd:D≠it:=rD hod hoi (by rw[hcd.1,ci];decide);have nl:l≠it:=rD hol hoi (by rw[cl,ci];decide);have nld:l≠D:=rD hol hod (by rw[cl,hcd.1];decide);have nt:∀{T:Addr}{vs:Array Value},s.heap.IsTuple T vs->T≠it/\T≠D:=λ⟨ot,hot,ct,_⟩=>#[rD hot hoi (by rw[ct,ci];decide),rD hot hod (by rw[ct,hcd.1];decide)]
  refine aj (FH hit hl hT λh1 hit1 sb1=>?_);obtain⟨ot,hot,ct,nn,dt⟩:=id ht;have hot1:h1.get? T=some ot:=(sb1.2 T (nt ht).1).trans hot;refine aj (gQ (aj (wpAny_tryCatch ?_)));unfold Builtin.Dict.pairItems;refine aj (FL (T:="tuple") #[ot,hot1,ct] ?_);rw[if_pos ⋯]
  refine aj (wpAny_seqItems hot1 dt (aK ?_));show wpAny _ A.in1 (holding [key,v] (dictSet D key v)) _ _ _;refine gQ (gQ (aj (knd.pyHash hk' ?_)));have hd1:h1.DictOf knd D acc:=#[od,es,ep,(sb1.2 D nd).trans hod,hcd,r]
  refine wpAny_dictSetHashed_pairs hk' hd1 (λh2 hd2 sb2=>aK #[plainId_quiet oQ _,?_]) ∅;have kp:∀b o,b≠D->b≠it->s.heap.get? b=some o->h2.get? b=some o:=λb o n1 n2 e=>(sb2.2 b n1).trans ((sb1.2 b n2).trans e)
  have e1:(pM ((i:Int)+1))=pM ((i+1:Nat):Int):=by push_cast;rfl
  rw[e1]
  refine ih (i+1) _ (stored acc kk v) ∅ lt (hit1.at λo e=>(sb2.2 it nd.symm).trans e) #[ol,kp l ol nld nl hol,cl,dl] (λj kk v e=>?_) hd2 ?_ λh' t' hd' kp'=>?_
  .obtain⟨T,key,q1,⟨ot,hot,r⟩,q3⟩:=hp j kk v e
   exact#[T,key,q1,#[ot,kp T ot (nt #[ot,hot,r]).2 (nt #[ot,hot,r]).1 hot,r],q3]
  .have:(stored acc kk v).length<=acc.length+1:=by
    unfold stored;split
    .rw[aq];omega
    .rw[aB];simp
   omega
  .refine hR h' t' ?_ λb o n1 n2 e=>kp' b o n1 n2 (kp b o n1 n2 e)
   rw[eF lt]
   have:more[i]=(kk,v):=by rw[aa lt] at hkv;exact aH hkv
   rw[this]
   exact hd'
theorem BX{more:List (K×Value)}{Q:Value->ak->Prop}(hh:A.handled=none)(hl:s.heap.get? l=some {cls:=.type "list",data:=.seq its n})(hz:its.size=more.length)(hm:more.length<=sizeLine)
  (hp:∀(j:Nat)(kk:K)(v:Value),more[j]?=some (kk,v)->∃T key,its[j]?=some (.ref T)/\s.heap.IsTuple T (List.toArray [key,v])/\knd.is kk key=true)
  (h:∀h' t',h'.DictOf knd s.heap.objs.size (merged [] more)->(∀b o,s.heap.get? b=some o->h'.get? b=some o)->Q (.ref s.heap.objs.size) {s with heap:=h',toks:=t'}):
  wpAny (aR prog w) A (call (.type "dict") [.ref l]) Q E s:=by
 refine callType_codes (Q₁:=λobj s₁=>obj=.ref s.heap.objs.size/\s₁={s with heap:=s.heap.push {cls:=.type "dict",data:=.dict #[]} }) F.kt_called_dict (F.kt_typeCall_dict_1 _) F.entry_dict_init (kt_code_dict_new _ #[rfl,rfl]) ?_;rintro obj s₁ ⟨rfl,rfl⟩;have hnew:(s.heap.push {cls:=.type "dict",data:=.dict #[]}).DictOf knd s.heap.objs.size []:=Heap.DictOf.new s.heap;have kp:∀b o,s.heap.get? b=some o->(s.heap.push {cls:=.type "dict",data:=.dict #[]}).get? b=some o:=λb o e=>aA _ e
 generalize s.heap.push {cls:=.type "dict",data:=.dict #[]}= h1 at hnew kp;refine#[hnew.typeIs,F.args_dict_init_2 _ _,?_];unfold Builtin.«dict.__init__»;refine aj ?_;unfold Builtin.Dict.selfAndRest;refine aj (wpAny_notOrdered_dict hnew.typeIs ?_);show wpAny _ _ (pure (s.heap.objs.size,[aV l])) _ _ _;refine aK ?_;show wpAny _ _ (Builtin.Dict.updateFrom "dict.__init__" s.heap.objs.size (.ref l) [] .none) _ _ _;unfold Builtin.Dict.updateFrom;refine aj (FL (T:="list") #[_,kp l _ hl,rfl] ?_);rw[if_pos ⋯]
 refine aj (EJ (kp l _ hl) hh λh2 t2 k2=>?_);rw[if_pos (by rfl)]
 refine aj (wpAny_rule ?_);have hl2:=k2 l _ (kp l _ hl);refine aj (nW #[_,hl2,rfl,_,rfl] (aK #[plainId_quiet oQ _,?_]));have nD:s.heap.objs.size<h2.objs.size:=by
  obtain⟨od,_,_,hod,_⟩:=hnew;exact aL (k2 _ _ hod)
 have kp3:∀b o,s.heap.get? b=some o->(h2.push {cls:=.type "list_iterator",data:=.fields (List.toArray [.ref l,.int 0 0])}).get? b=some o:=λb o e=>aA _ (k2 b o (kp b o e))
 refine EK (A:=A.in1) (knd:=knd) (its:=its) (l:=l) hh hz more.length 0 _ [] ∅ (dv _) ?_ ?_ (λj kk v e=>?_) ?_ (by simpa using hm) λh' t' hd' kp'=>?_
 .exact#[_,bz _ rfl,rfl,rfl]
 .exact#[{cls:=.type "list",data:=.seq its n},aA _ hl2,rfl,n,rfl]
 .obtain⟨T,key,q1,⟨ot,hot,r⟩,q3⟩:=hp j kk v e
  exact#[T,key,q1,#[ot,kp3 T ot hot,r],q3]
 .obtain⟨od,es,ep,hod,r⟩:=hnew
  exact#[od,es,ep,aA _ (k2 _ _ hod),r]
 .refine#[rfl,h h' t' hd' λb o e=>kp' b o ?_ ?_ (kp3 b o e)]
  .exact b7 (aL e)
  .exact b7 (aL (k2 b o (kp b o e)))
end
section
variable{X:Cx}{pZ:List (Addr×Obj)}{σ:St}{H:Hp}{s:ak}
abbrev Oi(H:Hp)(v:V)(kv:Key×V):Prop:=∃T,v=.ref T/\H T=some (.tup [kV kv.1,kv.2])
theorem KD(I:Inv X pZ σ H s):∀{vs:List V}{kvs:List (Key×V)}{its:List Value},Paired (Oi H) vs kvs->Vals vs its->∃more,KV kvs more/\its.length=more.length /\
  ∀(j:Nat)(kk:Key)(v:Value),more[j]?=some (kk,v)->∃T key,its[j]?=some (.ref T)/\s.heap.IsTuple T (List.toArray [key,v])/\(eP X.prog X.w).is kk key=true
 := by
 intro vs kvs its hp hv;induction hp generalizing its with
 |nil=>cases hv;exact#[[],.nil,rfl,λj kk v e=>by cases e]
 |cons ha hr ih=>
  rename_i b _ _;obtain⟨k,x⟩:=b;obtain⟨T,e,hT⟩:=ha;cases hv with|cons r rr=>?_
  subst e;cases r;obtain⟨more,h1,h2,h3⟩:=ih rr;obtain⟨z,its',rv,p⟩:=I.dg T _ hT;cases rv with
  |cons r1 rr1=>
   rename_i ku us';cases rr1 with
   |cons r2 rr2=>
    rename_i xu _;cases rr2;refine#[(k,xu)::more,.cons #[rfl,r2] h1,by simp[h2],λj kk v e=>?_];cases j with
    |zero=>
     simp at e;obtain⟨rfl,rfl⟩:=e;exact#[T,ku,rfl,p,Gv r1]
    |succ j=>simpa using h3 j kk v (by simpa using e)
theorem BY(hA:X.A.handled=none):i5 X (.type "dict") (λxs H Q=>∃a vs kvs,xs=[.ref a]/\H a=some (.lst vs)/\Paired (Oi H) vs kvs/\(kvs.map (·.1)).Nodup/\∀p,H p=none->Q (.ref p) (upd H p (.dK kvs))):=by
 intro pZ s σ H xs us Q I rv h;obtain⟨a,vs,kvs,rfl,hH,hp,hn,q⟩:=h;obtain⟨u,rfl,ru⟩:=rv.one;cases ru;obtain⟨z,its,n,r,hl,e⟩:=I.Eu hH;obtain⟨more,h1,h2,h3⟩:=KD I hp r;have hk:=h1.keys;refine BX (knd:=eP X.prog X.w) (more:=more) hA e (by simpa using h2) (by rw[<-h2,<-hl];exact z) (λj kk v ej=>?_) λh' t' hd kp=>?_
 .obtain⟨T,key,q1,q2,q3⟩:=h3 j kk v ej
  exact#[T,key,by simpa using q1,q2,q3]
 .rw[merged_nil_of_nodup more (by rw[<-hk];exact hn)] at hd
  have hf:=I.fresh;refine#[.ref s.heap.objs.size,_,I.laid (t':=t') kp (ax _) (N3 (kvs:=kvs) (by rw[h1.length,<-h2,<-hl];exact z) ?_ h1 hd),rfl,q _ hf];have:=I.big;exact beq_eq_false_iff_ne.mpr (kJ this)
end
section
variable{X:Cx}
theorem yP{i j:Int}(hi:0<=i)(hj:0<=j):Builtin.bitAnd i j=((i.toNat&&&j.toNat:Nat):Int):=by
 unfold Builtin.bitAnd;rw[decide_eq_true hi,decide_eq_true hj]
theorem BZ{i j:Int}(hi:0<=i)(hj:0<=j):Builtin.bitOr i j=((i.toNat|||j.toNat:Nat):Int):=by
 unfold Builtin.bitOr Builtin.bitAnd Builtin.bitNot;rw[decide_eq_false ∅,decide_eq_false ∅,show -(-i-1)-1=i by omega,show -(-j-1)-1=j by omega]
 dsimp only;omega
theorem EL:FC X "int.bit_length" (λx xs H Q=>∃i:Nat,x=.int i/\xs=[]/\Q (.int (if i=0 then 0 else i.log2+1:Nat)) H):=by
 intro pZ s σ H x xs v us Q I rx rs h;obtain⟨i,rfl,rfl,q⟩:=h;obtain⟨t,rfl⟩:=rx;cases rs;refine call_int_bit_length #[.int _,H,I.tok _,#[_,rfl],?_];have:Builtin.Int.intBits i=if i=0 then 0 else i.log2+1:=by
  unfold Builtin.Int.intBits;by_cases e:i=0
  .subst e;rfl
  .rw[if_neg e,if_neg (by simpa using e)];rfl
 rw[this]
 exact q
theorem Ha:gu X (cy .Add) (λx y H Q=>∃a b ys,x=.ref a/\y=.ref b/\lS X.K H a []/\lS X.K H b ys/\Q (.ref b) H):=by
 intro pZ s σ H x y v u Q I rx ry h;obtain⟨a,b,ys,rfl,rfl,ha,hb,q⟩:=h;cases rx;cases ry;obtain⟨its,r1,p1,_⟩:=I.tuple ha;obtain⟨its2,r2,p2,_⟩:=I.tuple hb;cases r1;obtain⟨⟨cls,dd,data,sl⟩,ho,hc,n,hd⟩:=id p1;obtain⟨⟨cls2,dd2,data2,sl2⟩,ho2,hc2,n2,hd2⟩:=id p2;simp only at hc hd hc2 hd2;subst hc hd hc2 hd2;exact FK #[_,ho,rfl] #[_,ho2,rfl] yb DZ mL l7 (lQ _ _)
  (tuple_addW0 a b _ _ n n2 dd dd2 sl sl2 (by simp)) #[ho,ho2,#[.ref b,H,I,rfl,q]]
theorem Hb(hu:X.A.units+200<kf):gu X (bD .NotEq) (λx y H Q=>∃a b xs,x=.ref a/\y=.ref b/\gF X.K H a xs/\gF X.K H b []/\Q (.bl (!xs.isEmpty)) H):=by
 intro pZ s σ H x y v u Q I rx ry h;obtain⟨a,b,xs,rfl,rfl,ha,hb,q⟩:=h;cases rx;cases ry;obtain⟨its,r1,p1,_⟩:=I.list ha;obtain⟨its2,r2,p2,_⟩:=I.list hb;cases r2;cases r1 with
 |nil=>exact SeqAt.RcNeAt.lists (e:=λ_=>true) p1.isList p2.isList rfl ∅ (λj h1 _=>by simp at h1) _ _ _ _ #[.bl _,H,I,rfl,by simpa using q]
 |cons r rr=>exact SeqAt.RcNeAt.lists_lengths p1.isList p2.isList (by simp) ∅ _ _ _ _ #[.bl _,H,I,rfl,by simpa using q]
theorem Hc(hu:X.A.units+200<kf):gu X (bD .Eq) (λx y H Q=>∃a b xs,x=.ref a/\y=.ref b/\gF X.K H a xs/\gF X.K H b []/\Q (.bl xs.isEmpty) H):=by
 intro pZ s σ H x y v u Q I rx ry h;obtain⟨a,b,xs,rfl,rfl,ha,hb,q⟩:=h;cases rx;cases ry;obtain⟨its,r1,p1,_⟩:=I.list ha;obtain⟨its2,r2,p2,_⟩:=I.list hb;cases r2;cases r1 with
 |nil=>exact A9 (e:=λ_=>true) p1.isList p2.isList rfl ∅ (λj h1 _=>by simp at h1) _ _ _ _ #[.bl _,H,I,rfl,by simpa using q]
 |cons r rr=>exact tj p1.isList p2.isList (by simp) ∅ _ _ _ _ #[.bl _,H,I,rfl,by simpa using q]
theorem B0(hc:X.calm=true):i5 X (.builtin "any") (λxs H Q=>∃p,∃bs:List Bool,xs=[.ref p]/\gF X.K H p (bs.map V.bl)/\Q (.bl (bs.any id)) H):=by
 intro pZ s σ H xs us Q I r h;obtain⟨p,bs,rfl,hl,q⟩:=h;obtain⟨u,rfl,ru⟩:=vals1 r;cases ru;obtain⟨its,r,pl,_⟩:=I.list hl;have hl:=pl.isList;have hits:=uH r;have hlt:p<s.heap.objs.size:=by obtain⟨_,e,_⟩:=hl;exact aL e
 refine call_any_walk (nW hl ?_);refine#[s.heap.objs.size,[s.heap.objs.size,p],[s.heap.objs.size],its.toArray.size,_,_,λi=>(bs[i]?).getD false,rfl,Walks.list (A:=X.A.in1) (I.ok.hd hc) _ p (b7 hlt) its.toArray,
  #[#[_,bz _ rfl,rfl,rfl],hl.push _],λi v s' Q' E' hP hQ=>?_,λh' tk hk=>?_]
 .have hP:its[i]?=some v:=by simpa using hP
  rw[hits,ar] at hP;cases e:bs[i]? with
  |none=>rw[e] at hP;cases hP
  |some b=>
   rw[e] at hP;have hQ:Q' ((bs[i]?).getD false) s':=hQ;rw[e] at hQ;cases hP;exact fk hQ
 .have e:((cx its.toArray.size).any λi=>(bs[i]?).getD false)=bs.any id:=by
   rw[aC,hits,aq];exact LSm.range_any bs
  rw[e]
  exact#[.bl _,H,I.kept (LSm.kept_iter hk),rfl,q]
theorem EM(hu:X.A.units+200<kf):gu X (bD .NotIn) (λx y H Q=>∃p xs ds d,y=.ref p/\gF X.K H p xs/\gW X.K H xs ds/\fG X.K H x d/\Dv.iB ds<=100/\Q (.bl (!ds.any λe=>mI e d)) H):=by
 intro pZ s σ H x y v u Q I rx ry h;obtain⟨p,xs,ds,d,rfl,hq,hd,hx,hz,q⟩:=h;cases ry;obtain⟨its,r,pl,_⟩:=I.list hq
 classical
 have l1:=hd.len;have m1:=r.length
 let e:Value->Bool:=λu=>decide (∃(j:Nat)(d':Dv),its[j]?=some u/\ds[j]?=some d'/\mI d' d=true)
 have key:∀(j:Nat)(w:Value)(d':Dv),its[j]?=some w->ds[j]?=some d'->e w=mI d' d:=λj w d' h1 h2=>by
  have f:∃z,xs[j]?=some z:=#[_,aa (by have:=(ae.mp h2).1;omega)]
  obtain⟨z,hz'⟩:=f;obtain⟨w',g1,q1⟩:=r.get hz';rw[h1] at g1;cases g1;cases q:mI d' d with
  |true=>exact decide_eq_true #[j,d',h1,h2,q]
  |false=>
   refine decide_eq_false ?_;rintro⟨j2,d2,k1,k2,k3⟩;have f2:∃z,xs[j2]?=some z:=#[_,aa (by have:=(ae.mp k2).1;omega)]
   obtain⟨z2,hz2⟩:=f2;obtain⟨w2,g2,q2⟩:=r.get hz2;rw[k1] at g2;cases g2;have ez:=RelV.inj q1 q2;subst ez;have:=fG.inj I (hd.get hz' h2) (hd.get hz2 k2);rw[this,k3] at q;cases q
 refine D1 e pl.isList (λw hw=>?_) #[.bl _,H,I,rfl,?_]
 .obtain⟨j,hj⟩:=bA (show w∈its by simpa using hw)
  have hjl:=(ae.mp hj).1;have e1:ds[j]?=some (ds[j]'∅):=aa _;have e2:xs[j]?=some (xs[j]'∅):=aa _;obtain⟨w',g1,q1⟩:=r.get e2;rw[hj] at g1;cases g1;rw[key j w _ hj e1]
  exact BU I 100 (aS (mn e1) hz) (by show X.A.units+1+100<kf;omega) (hd.get e2 e1) hx q1 rx
 .have:its.toArray.any e=ds.any λe=>mI e d:=by
   rw[List.any_toArray,cX,gV,gV]
   constructor
   .rintro⟨w,hw,h1⟩
    obtain⟨j,d',_,k2,k3⟩:=of_decide_eq_true h1;exact#[d',aw k2,k3]
   .rintro⟨d',hd',h1⟩
    obtain⟨j,hj⟩:=bA hd';have hjl:=(ae.mp hj).1;have e1:its[j]?=some (its[j]'∅):=aa _;exact#[_,aw e1,by rw[key j _ d' e1 hj];exact h1]
  rw[this]
  exact q
end
end L2
namespace PL
section
variable{S:bI}{Q:KU}{q:Bool->Prop}{r:U->Prop}{i j:Int}{a b:List Nat}{x y:U}{us vs:List U}{m n:Nat}
theorem Hd:jK .add (.int i) (.int j) S Q=Q (.int (i+j)) S:=rfl
theorem He:jK .add (.str a) (.str b) S Q=(a.length+b.length<=1000000/\Q (.str (a++b)) S):=rfl
theorem Oj:jK .add (.tup us) (.tup vs) S Q=(us.length+vs.length<=1000000/\Q (.tup (us++vs)) S):=rfl
theorem We:jK .add (.loc m) (.loc n) S Q=getL S[m]? λa=>getL S[n]? λb=>a.length+b.length<=1000000/\Q (.loc S.length) (S++[.lst (a++b)]):=rfl
theorem Ol:jK .sub (.int i) (.int j) S Q=Q (.int (i-j)) S:=rfl
theorem Wf:jK .mul (.int i) (.int j) S Q=(((-(2^64)<i/\i<2^64)\/(-(2^64)<j/\j<2^64))/\Q (.int (i*j)) S):=rfl
theorem Wg:jK .mul (.str a) (.int j) S Q=(∃c,a=[c]/\0<=j/\j<=1000/\Q (.str (dm j.toNat c)) S):=rfl
theorem Vd:jK .fdiv (.int i) (.int j) S Q=((0<j/\j<1073741824)/\Q (.int (i/j)) S):=rfl
theorem Wh:jK .mod (.int i) (.int j) S Q=(0<j/\Q (.int (i%j)) S):=rfl
theorem KG:jK .band (.int i) (.int j) S Q=((0<=i/\0<=j)/\Q (.int ((i.toNat&&&j.toNat:Nat):Int)) S):=rfl
theorem Om:jK .bor (.int i) (.int j) S Q=((0<=i/\0<=j)/\Q (.int ((i.toNat|||j.toNat:Nat):Int)) S):=rfl
theorem Oo:jK .shl (.int i) (.int j) S Q=((0<=i/\i<1000/\0<=j/\j<=1000)/\Q (.int (i*2^j.toNat)) S):=rfl
theorem Oq:jK .shr (.int i) (.int j) S Q=((0<=i/\0<=j)/\Q (.int (i/2^j.toNat)) S):=rfl
theorem R9:sW o (.int i) y S Q=jK o (.int i) y S Q:=rfl
theorem Sa:sW o (.str a) y S Q=jK o (.str a) y S Q:=rfl
theorem XH:iO .eq (.int i) y S q=tF (.int i) y q:=rfl
theorem ME:iO .eq (.str a) y S q=tF (.str a) y q:=rfl
theorem XI:iO .eq .bK y S q=tF .bK y q:=rfl
theorem XJ:iO .eq (.tup us) y S q=(tF (.tup us) y q\/Ky us y S q):=rfl
theorem XM:iO .eq (.loc m) (.loc n) S q=getL S[m]? λus=>S[n]?=some (.lst [])/\q us.isEmpty:=rfl
theorem XO:iO .ne (.int i) y S q=(Ah (.int i) y=true/\tF (.int i) y λb=>q !b):=rfl
theorem XQ:iO .ne (.str a) y S q=(Ah (.str a) y=true/\tF (.str a) y λb=>q !b):=rfl
theorem XR:iO .ne .bK y S q=(Ah .bK y=true/\tF .bK y λb=>q !b):=rfl
theorem XS:iO .ne (.tup us) y S q=(Og (.tup us) y q\/Ky us y S λb=>q !b):=rfl
theorem XT:iO .ne (.loc m) (.loc n) S q=getL S[m]? λus=>S[n]?=some (.lst [])/\q (!us.isEmpty):=rfl
theorem YU:(Ah (.int i) y=true)=True:=eq_true rfl
theorem YV:(Ah (.str a) y=true)=True:=eq_true rfl
theorem YW:(Ah .bK y=true)=True:=eq_true rfl
theorem YX:iO .lt (.int i) (.int j) S q=q (decide (i<j)):=rfl
theorem YY:iO .le (.int i) (.int j) S q=q (decide (i<=j)):=rfl
theorem YZ:iO .gt (.int i) (.int j) S q=q (decide (j<i)):=rfl
theorem Y0:iO .ge (.int i) (.int j) S q=q (decide (j<=i)):=rfl
theorem Ot:∀{b:List Nat},iC [c] b=b.contains c
 |[]=>rfl
 |x::xs=>by
  rw[iC,Ot (b:=xs),kW]
  simp[List.isPrefixOf]
theorem KH:iO .isin (.str [k]) (.str b) S q=q (b.contains k):=by
 rw[<-Ot];rfl
theorem KJ:iO .nv (.str [k]) (.str b) S q=q !(b.contains k):=by
 rw[<-Ot];rfl
theorem Al:iO .isin (.str a) (.tab kvs) S q=q (kvs.lookup a).isSome:=rfl
theorem Ou:iO .isin x (.tup us) S q=qw x us q:=rfl
theorem Ow:iO .nv x (.tup us) S q=qw x us λb=>q !b:=rfl
theorem Oy:iO .isin x (.loc n) S q=getL S[n]? λus=>qw x us q:=rfl
theorem Wi:iO .nv (.str a) (.loc n) S q=getL S[n]? λus=>qw (.str a) us λb=>q !b:=rfl
theorem KL:iO .nv (.tup vs) (.loc n) S q=getL S[n]? λus=>(jI vs=true/\jI us=true/\jJ us<=100)/\q !(us.any λy=>oN y (.tup vs)):=rfl
theorem Wj:iO .Ku x .bK S q=q (uD x):=rfl
theorem Oz:iO .Ad x .bK S q=q (!uD x):=rfl
theorem ew(h1:GY x y=true)(h2:vU x=true)(h3:vU y=true)(h4:dep x<=100)(h:oN x y=v):tF x y q=q v:=by
 rw[<-h];exact propext #[λz=>z.2,λz=>#[#[h1,h2,h3,h4],z]]
theorem Y1:tF (.int i) (.int j) q=q (i==j):=ew rfl rfl rfl (dv _) rfl
theorem Sb:tF (.str a) (.str b) q=q (a==b):=ew rfl rfl rfl (dv _) rfl
theorem Y2:tF .bK .bK q=q true:=ew rfl rfl rfl (dv _) rfl
theorem Y3{a b:Bool}:tF (.bl a) (.bl b) q=q (a==b):=ew rfl rfl rfl (dv _) rfl
theorem Y4:tF (.int i) .bK q=q false:=ew rfl rfl rfl (dv _) rfl
theorem Y5:tF .bK (.int i) q=q false:=ew rfl rfl rfl (dv _) rfl
theorem Y6:tF (.int i) (.str a) q=q false:=ew rfl rfl rfl (dv _) rfl
theorem Y7:tF (.str a) (.int i) q=q false:=ew rfl rfl rfl (dv _) rfl
theorem Sd(l:List (List Nat)):(l.map U.str).all flat=true:=by simp[flat]
theorem anyS{l:List (List Nat)}:qw (.str a) (l.map .str) q=q (l.any (·==a)):=by
 refine propext #[λz=>?_,λz=>#[#[rfl,Sd l],?_]]
 .have:=z.2;rw[sd] at this;exact this
 .rw[sd];exact z
theorem Se:Jq (.str a) (.int i) S r=(a.length<=1000000/\opt (tG a i) λc=>r (.str [c])):=rfl
theorem Di:Jq (.tup us) (.int i) S r=(us.length<=1000000/\opt (tG us i) r):=rfl
theorem XU:Jq (.pC ns) (.int i) S r=(ns.length<=1000000/\opt (tG ns i) λn=>r (.int n)):=rfl
theorem XW:Jq (.loc n) (.int i) S r=getL S[n]? λus=>opt (tG us i) r:=rfl
theorem yI:Jq (.tab kvs) (.str a) S r=opt (kvs.lookup a) λv=>r (.str v):=rfl
theorem d6{f:String}:jA (.loc n) f S r=mq S[n]? λ_ fs=>opt (fs.lookup f) r:=rfl
theorem XX:jA (.exc c us) f S r=opt (((cJ c).zip us).lookup f) r:=rfl
theorem XY:pW S (.str a)=some a.length:=rfl
theorem XZ:pW S (.tup us)=some us.length:=rfl
theorem X0:pW S (.pC ns)=some ns.length:=rfl
theorem uI(h:S[n]?=some (.lst us)):pW S (.loc n)=some us.length:=by simp only[pW,h]
theorem Sf:rB S (.bl c)=some c:=rfl
theorem X1:rB S .bK=some false:=rfl
theorem X2:rB S (.int i)=some (i !=0):=rfl
theorem X3:rB S (.pC ns)=some (ns.length !=0):=rfl
theorem Am(h:S[n]?=some (.lst us)):rB S (.loc n)=some (us.length !=0):=by simp only[rB,uI h,jN]
theorem X4:sX .len [x] S Q=opt (pW S x) λn=>n<=1000000/\Q (.int n) S:=rfl
theorem Ve:sX .tuple [.loc n] S Q=getL S[n]? λus=>Q (.tup us) S:=rfl
theorem Wk:sX .list [.loc n] S Q=getL S[n]? λus=>Q (.loc S.length) (S++[.lst us]):=rfl
theorem Vf:sX .list [.tup us] S Q=(us.length<=1000000/\Q (.loc S.length) (S++[.lst us])):=rfl
theorem X5:sX .all [.loc n] S Q=(∃bs:List Bool,S[n]?=some (.lst (bs.map .bl))/\Q (.bl (bs.all id)) S):=rfl
theorem Sg:sX .any [.loc n] S Q=(∃bs:List Bool,S[n]?=some (.lst (bs.map .bl))/\Q (.bl (bs.any id)) S):=rfl
theorem Wl:sX .dict [.loc n] S Q=(∃ps:List (List Nat×U),S[n]?=some (.lst (ps.map λp=>.tup [.str p.1,p.2]))/\(ps.map (·.1)).Nodup/\Q (.loc S.length) (S++[.vG (ps.map λp=>(.str p.1,p.2))])):=rfl
theorem Wm:vV .mS (.int i) [] S Q=(0<=i/\Q (.int (sA i.toNat:Nat)) S):=rfl
theorem X6:vV .get (.loc n) [.str a,x] S Q=getD S[n]? λkvs=>∃ps:List (List Nat×U),kvs=(ps.map λp=>(U.str p.1,p.2))/\Q ((ps.lookup a).getD x) S:=rfl
theorem Vg:vW .mS (.int i) S=True:=rfl
theorem Wn:vW .get (.loc n) S=getD S[n]? λ_=>True:=rfl
theorem C9:vW .join (.str a) S=True:=rfl
theorem Ac:vW .index (.str a) S=True:=rfl
theorem wZ:vW .startswith (.str a) S=True:=rfl
theorem rk:vW .append (.loc n) S=getL S[n]? λ_=>True:=rfl
theorem wR:vW .extend (.loc n) S=getL S[n]? λ_=>True:=rfl
theorem Wo:vV .join (.str a) [.loc n] S Q=(∃ts:List (List Nat),S[n]?=some (.lst (ts.map .str))/\(ts.map cM).sum+ts.length*a.length<=1000000/\Q (.str (k7 a ts)) S):=rfl
theorem Vh:vV .index (.str a) [.str b] S Q=(∃c,b=[c]/\c∈a/\Q (.int (a.idxOf c:Nat)) S):=rfl
theorem Sh:vV .startswith (.str a) [.str b] S Q=Q (.bl (b.isPrefixOf a)) S:=rfl
theorem Si:vV .append (.loc n) [x] S Q=getL S[n]? λus=>us.length<1000000/\Q .bK (S.set n (.lst (us++[x]))):=rfl
theorem Sj:vV .extend (.loc n) [.loc m] S Q=getL S[n]? λus=>getL S[m]? λws=>us.length+ws.length<=1000000/\Q .bK (S.set n (.lst (us++ws))):=rfl
theorem Zu:G7 (.str a) S R=R (a.map λc=>.str [c]) (λ_=>True):=rfl
theorem Y8:G7 (.tup us) S R=(us.length<=1000000/\R us (λ_=>True)):=rfl
theorem Y9:G7 (.loc n) S R=getL S[n]? λus=>R us (λS'=>S'[n]?=some (.lst us)):=rfl
theorem bind_f:pG false x caps k=k (some x::caps):=rfl
theorem Wq:pG true x caps k=MC x λa b=>k (some a::some b::caps):=rfl
theorem ij{α:Type}{xs:List α}{k:Nat}:tG xs (k:Int)=xs[k]?:=by
 unfold tG Of;rw[if_pos ∅]
 split
 .simp
 .rename_i h
  rw[oI ∅]
  rfl
theorem jB{α:Type}{x:α}{xs:List α}:tG (x::xs) 0=some x:=by
 have:=ij (xs:=x::xs) (k:=0);simpa using this
theorem iD{α:Type}{x y:α}{xs:List α}:tG (x::y::xs) 1=some y:=by
 have:=ij (xs:=x::y::xs) (k:=1);simpa using this
end
theorem uJ{α:Type}{o:Option α}{Q Q':α->Prop}(h:∀a,Q a->Q' a)(w:opt o Q):opt o Q':=by
 cases o with
 |none=>exact w
 |some a=>exact h a w
theorem mw{o:Option SO}{Q Q':List U->Prop}(h:∀a,Q a->Q' a)(w:getL o Q):getL o Q':=by
 obtain⟨a,e,z⟩:=cD.mp w;exact cD.mpr #[a,e,h a z]
theorem uK(h:∀b,Q b->Q' b)(w:tF x y Q):tF x y Q':=#[w.1,h _ w.2]
theorem oR(h:∀b,Q b->Q' b)(w:qw x us Q):qw x us Q':=#[w.1,h _ w.2]
theorem qy{x:U}{Q Q':Int->Prop}(h:∀b,Q b->Q' b)(w:kZ x Q):kZ x Q':=by
 cases x<;>first|exact h _ w|exact w
theorem uL{x:U}{Q Q':List Nat->Prop}(h:∀b,Q b->Q' b)(w:MD x Q):MD x Q':=by
 cases x<;>first|exact h _ w|exact w
theorem An(h:Q->Q')(w:Va x Q):Va x Q':=by
 cases x<;>first|exact h w|exact w
theorem uM(h:∀b,Q b->Q' b)(w:Og x y Q):Og x y Q':=#[w.1,uK (λb z=>h _ z) w.2]
theorem Hf(h:∀b,Q b->Q' b)(w:Wd x us Q):Wd x us Q':=by
 cases x<;>first|exact#[w.1,h _ w.2]|exact oR (λb z=>h _ z) w
theorem Hg(h:∀b,Q b->Q' b)(w:zH x Q):zH x Q':=by
 cases x<;>first|exact h _ w|exact w
theorem Ao(h:∀b,Q b->Q' b)(w:Ky us y S Q):Ky us y S Q':=by
 obtain⟨a,i,b,j,o,o',e1,e2,l1,l2,w⟩:=w;exact#[a,i,b,j,o,o',e1,e2,l1,l2,h _ w]
theorem xk(h:∀b,Q b->Q' b)(w:iO o x y S Q):iO o x y S Q':=by
 cases o with
 |eq=>cases x<;>first|exact uK h w|exact w.imp (uK h) (Ao h)|exact Hg (λ_ z=>mw (λ_ z=>#[z.1,h _ z.2]) z) w
 |ne=>
  cases x with
  |tup us=>exact w.imp (uM h) (Ao λb z=>h _ z)
  |loc m=>cases y<;>first|exact mw (λ_ z=>#[z.1,h _ z.2]) w|exact uM h w
  |_=>exact uM h w
 |isin=>cases y<;>first|exact uL (λ_ z=>h _ z) w|exact oR h w|exact mw (λ_ z=>oR h z) w|exact w
 |nv=>cases y<;>first|exact uL (λ_ z=>h _ z) w|exact oR (λb z=>h _ z) w|exact mw (λ_ z=>Hf h z) w|exact w
 |Ku=>exact An (h _) w
 |Ad=>exact An (h _) w
 |_=>exact qy (λ_ z=>qy (λ_ z=>h _ z) z) w
theorem Hh{x y:U}{S:bI}{Q Q':U->Prop}(h:∀b,Q b->Q' b)(w:Jq x y S Q):Jq x y S Q':=by
 cases x<;>first|exact qy (λ_ z=>#[z.1,uJ (λ_ z=>h _ z) z.2]) w|exact qy (λ_ z=>mw (λ_ z=>uJ (λ_ z=>h _ z) z) z) w|exact uL (λ_ z=>uJ (λ_ z=>h _ z) z) w|exact w
def Keeps(Γ:bY)(b:dh)(k:Nat)(sp:Spec):Prop:=∀us S Q E,sp us S Q E->rC Γ b #[λ_ S1=>Q .bK S1,Q,λ_=>E] (us.map some++dm k none) S
section
variable{Γ:bY}{D:Ends}{env:Env}{S:bI}{i:Nat}{e o:Ex}{c:Tx}{a b ss:dh}{s:Sm}{f:String}
def Rest(Γ:bY)(ss:dh)(D:Ends)(env:Env)(S:bI):Prop:=rC Γ ss D env S
theorem Rest.go(h:rC Γ ss D env S):Rest Γ ss D env S:=h
theorem X7:rC Γ .nil D env S=D.nx env S:=rfl
theorem Wr:rC Γ (.cons s ss) D env S=WS Γ s #[λen S1=>rC Γ ss D en S1,D.rt,D.ex] env S:=rfl
theorem X8:WS Γ (.ifs c a b) D env S=WT Γ c env S (λt S1=>if t=true then rC Γ a D env S1 else rC Γ b D env S1) (D.ex env):=rfl
theorem X9:WS Γ (.Ae c b) D env S=∃n,yM (λen S1 k=>WT Γ c en S1 k (D.ex en)) (λen S1 k=>rC Γ b #[k,D.rt,D.ex] en S1) D.nx n env S:=rfl
theorem Ya:WS Γ (.Oe a f i b) D env S=rC Γ a #[D.nx,D.rt,λen x S1=>(oj x.c).contains f=true/\rC Γ b #[λen2 S2=>D.nx (en2.set i none) S2,D.rt,λ_ _ _=>False] (en.set i (some (.exc x.c x.us))) S1] env S:=rfl
variable{Q:KU}{E:KX}{e1 e2:Ex}{es ks:yJ}{P:List U->bI->Prop}{B:Bool->bI->Prop}{q m:String}{t1 t2:Tx}{O:Option Int->bI->Prop}{R:List U->(bI->Prop)->bI->Prop}
theorem w_var:WE Γ (.var i) env S Q E=yK env[i]? λu=>Q u S:=rfl
theorem w_lit:WE Γ (.lit u) env S Q E=Q u S:=rfl
theorem Yb{o:FD}:WE Γ (.bin o e1 e2) env S Q E=WE Γ e1 env S (λx S1=>WE Γ e2 env S1 (λy S2=>jK o x y S2 Q) E) E:=rfl
theorem Yc:WE Γ (.neg e1) env S Q E=WE Γ e1 env S (λx S1=>kZ x λi=>Q (.int (-i)) S1) E:=rfl
theorem w_not:WE Γ (.not e1) env S Q E=WE Γ e1 env S (λx S1=>MB x λb=>Q (.bl !b) S1) E:=rfl
theorem w_and:WE Γ (.and e1 e2) env S Q E=WE Γ e1 env S (λx S1=>MB x λc=>if c=true then WE Γ e2 env S1 Q E else Q (.bl false) S1) E:=rfl
theorem w_or:WE Γ (.or e1 e2) env S Q E=WE Γ e1 env S (λx S1=>MB x λc=>if c=true then Q (.bl true) S1 else WE Γ e2 env S1 Q E) E:=rfl
theorem Yd{o:Oc}:WE Γ (.cmp o e1 e2) env S Q E=WE Γ e1 env S (λx S1=>WE Γ e2 env S1 (λy S2=>iO o x y S2 λr=>Q (.bl r) S2) E) E:=rfl
theorem Ye:WE Γ (.wX c e1 e2) env S Q E=WT Γ c env S (λt S1=>if t=true then WE Γ e1 env S1 Q E else WE Γ e2 env S1 Q E) E:=rfl
theorem OA:WE Γ (.call f es) env S Q E=uG Γ es env S (λus S1=>Γ f us S1 Q E) E:=rfl
theorem w_mk:WE Γ (.mk f q es) env S Q E=uG Γ es env S (λus S1=>Γ q (.loc S1.length::us) (S1++[.ins f []]) (λv S2=>v=.bK/\Q (.loc S1.length) S2) E) E:=rfl
theorem Ws:WE Γ (.cu f m q o es) env S Q E=WE Γ o env S (λx S1=>zH x λn=>mq S1[n]? λc' fs=>(c'=f/\fs.lookup m=none)/\uG Γ es env S1 (λus S2=>Γ q (x::us) S2 Q E) E) E:=rfl
theorem Sk{b:RZ}:WE Γ (.blt b es) env S Q E=uG Γ es env S (λus S1=>sX b us S1 Q) E:=rfl
theorem Yf{b:Od}:WE Γ (.kS b o es) env S Q E=WE Γ o env S (λx S1=>vW b x S1/\uG Γ es env S1 (λus S2=>vV b x us S2 Q) E) E:=rfl
theorem w_fld:WE Γ (.fld o f) env S Q E=WE Γ o env S (λx S1=>jA x f S1 λv=>Q v S1) E:=rfl
theorem Zc:WE Γ (.ix e1 e2) env S Q E=WE Γ e1 env S (λx S1=>WE Γ e2 env S1 (λy S2=>Jq x y S2 λv=>Q v S2) E) E:=rfl
theorem Zd:WE Γ (.sl o lo hi) env S Q E=WE Γ o env S (λx S1=>WO Γ lo env S1 (λl S2=>WO Γ hi env S2 (λh S3=>EF x l h S3 Q) E) E) E:=rfl
theorem Yg:WE Γ (.tup es) env S Q E=uG Γ es env S (λus S1=>us.length<=1000000/\Q (.tup us) S1) E:=rfl
theorem Yh:WE Γ (.lst es) env S Q E=uG Γ es env S (λus S1=>us.length<=1000000/\Q (.loc S1.length) (S1++[.lst us])) E:=rfl
theorem OB:WE Γ (.comp pr e it c ci) env S Q E=WI Γ it env S (λus g S1=>nA g (λu S2 k=>pG pr u (k8 env ci) λen=>WT Γ c en S2 k λ_ _=>False)
   (λu S2 k=>pG pr u (k8 env ci) λen=>WE Γ e en S2 k λ_ _=>False) (λacc S3=>Q (.loc S3.length) (S3++[.lst acc])) us [] S1) E:=rfl
theorem Yi:WE Γ (.MA e1 ts) env S Q E=WE Γ e1 env S (λx S1=>opt (wY S1 x ts) λb=>Q (.bl b) S1) E:=rfl
theorem MF:uG Γ .nil env S P E=P [] S:=rfl
theorem Hi:uG Γ (.cons e es) env S P E=WE Γ e env S (λx S1=>uG Γ es env S1 (λxs S2=>P (x::xs) S2) E) E:=rfl
theorem Ze:WO Γ .no env S O E=O none S:=rfl
theorem Zf:WO Γ (.e e1) env S O E=WE Γ e1 env S (λx S1=>kZ x λj=>O (some j) S1) E:=rfl
theorem Sl:WI Γ (.val e) env S R E=WE Γ e env S (λx S1=>G7 x S1 λus g=>R us g S1) E:=rfl
theorem Yj:WI Γ (.range e) env S R E=WE Γ e env S (λx S1=>kZ x λn=>n<=1000000/\-(1000000:Int)<=n/\R ((cx n.toNat).map λk=>.int (k:Nat)) (λ_=>True) S1) E:=rfl
theorem Wt:WI Γ (.enum e) env S R E=WE Γ e env S (λx S1=>zH x λn=>getL S1[n]? λus=>R (us.mapIdx λi u=>.tup [.int (i:Nat),u]) (λS'=>S'[n]?=some (.lst us)) S1) E:=rfl
theorem Sn:WT Γ (.cg e) env S B E=WE Γ e env S (λx S1=>opt (rB S1 x) λb=>B b S1) E:=rfl
theorem Wu:WT Γ (.not t1) env S B E=WT Γ t1 env S (λb S1=>B (!b) S1) E:=rfl
theorem Wv:WT Γ (.and t1 t2) env S B E=WT Γ t1 env S (λc S1=>if c=true then WT Γ t2 env S1 B E else B false S1) E:=rfl
theorem Yk:WT Γ (.or t1 t2) env S B E=WT Γ t1 env S (λc S1=>if c=true then B true S1 else WT Γ t2 env S1 B E) E:=rfl
theorem Ww:rC Γ (.cons s ss) D env S=WS Γ s #[λen S1=>Rest Γ ss D en S1,D.rt,D.ex] env S:=rfl
theorem Yl:rC Γ .nil D env S=D.nx env S:=rfl
theorem Ym:WS Γ (.set i e) D env S=WE Γ e env S (λu S1=>D.nx (env.set i (some u)) S1) (D.ex env):=rfl
theorem Yn:WS Γ (.aug i p e) D env S=yK env[i]? λx=>WE Γ e env S (λy S1=>sW p x y S1 λz S2=>D.nx (env.set i (some z)) S2) (D.ex env):=rfl
theorem Zg:WS Γ (.ex e) D env S=WE Γ e env S (λ_ S1=>D.nx env S1) (D.ex env):=rfl
theorem Yo:WS Γ (.ret e) D env S=WE Γ e env S D.rt (D.ex env):=rfl
theorem Yp:WS Γ (.ifs c a b) D env S=WT Γ c env S (λt S1=>if t=true then Rest Γ a D env S1 else Rest Γ b D env S1) (D.ex env):=rfl
theorem Yq:WS Γ (.Ae c b) D env S=∃n,yM (λen S1 k=>WT Γ c en S1 k (D.ex en)) (λen S1 k=>Rest Γ b #[k,D.rt,D.ex] en S1) D.nx n env S:=rfl
theorem Yr:WS Γ (.i8 (.name i) it b) D env S=WI Γ it env S (λus g S1=>uE g (λu en S2 k=>Rest Γ b #[k,D.rt,D.ex] (en.set i (some u)) S2) D.nx us env S1) (D.ex env):=rfl
theorem Vi:WS Γ (.raise f as) D env S=uG Γ as env S (λus S1=>us.length=(cJ f).length/\D.ex env #[f,us] S1) (D.ex env):=rfl
theorem Ys:WS Γ (.Oe a f i b) D env S=Rest Γ a #[D.nx,D.rt,λen x S1=>(oj x.c).contains f=true/\Rest Γ b #[λen2 S2=>D.nx (en2.set i none) S2,D.rt,λ_ _ _=>False] (en.set i (some (.exc x.c x.us))) S1] env S:=rfl
theorem Wx:WS Γ (.iN o f e) D env S=WE Γ e env S (λu S1=>WE Γ o env S1 (λx S2=>zH x λn=>mq S2[n]? λc fs=>fs.length<100/\D.nx env (S2.set n (.ins c (dZ f u fs)))) (D.ex env)) (D.ex env):=rfl
theorem Wy:WS Γ (.vT o f p e) D env S=WE Γ o env S (λx S1=>zH x λn=>mq S1[n]? λc fs=>opt (fs.lookup f) λv=>
   WE Γ e env S1 (λy S2=>sW p v y S2 λz S3=>mq S3[n]? λc' fs'=>c'=c/\fs'.length<100/\D.nx env (S3.set n (.ins c (dZ f z fs')))) (D.ex env)) (D.ex env):=rfl
theorem Wz:WS Γ (.EE o j p e) D env S=WE Γ o env S (λx S1=>WE Γ j env S1 (λy S2=>zH x λn=>kZ y λk=>getL S2[n]? λus=>0<=k/\opt (us[k.toNat]?) λv=>
   WE Γ e env S2 (λz S3=>sW p v z S3 λr S4=>getL S4[n]? λus'=>k.toNat<us'.length/\D.nx env (S4.set n (.lst (us'.set k.toNat r)))) (D.ex env)) (D.ex env)) (D.ex env):=rfl
theorem Yt:WS Γ (.i8 (.pair i j) it b) D env S=WI Γ it env S (λus g S1=>uE g (λu en S2 k=>MC u λx y=>Rest Γ b #[k,D.rt,D.ex] ((en.set i (some x)).set j (some y)) S2) D.nx us env S1) (D.ex env):=rfl
theorem ca{sp:Spec}{us:List U}{Q:KU}{E:KX}(h:Γ f=sp)(k:sp us S Q E):Γ f us S Q E:=by rw[h];exact k
end
noncomputable abbrev SG:List Nat:=[10,32,33,34,35,36,38,39,40,41,42,43,44,45,46,47,48,49,50,51,52,53,54,55,56,57,58,59,60,61,62,63,64,65,66,67,68,69,70,71,72,73,74,75,76,77,78,79,80,81,82,83,84,85,86,87,88,89,90,91,92,93,94,95,96,97,98,99,100,101,102,103,104,105,106,107,108,109,110,111,112,113,114,115,116,117,118,119,120,121,122,123,124,125,126]
noncomputable abbrev Zh:List Nat:=[32,33,34,35,36,38,39,40,41,42,43,44,45,46,47,48,49,50,51,52,53,54,55,56,57,58,59,60,61,62,63,64,65,66,67,68,69,70,71,72,73,74,75,76,77,78,79,80,81,82,83,84,85,86,87,88,89,90,91,92,93,94,95,96,97,98,99,100,101,102,103,104,105,106,107,108,109,110,111,112,113,114,115,116,117,118,119,120,121,122,123,124,125,126]
noncomputable def mT:dh:=#v[.ret (.kS .join (.lit (.str [])) #v[.comp false @0 (.val (.lit (.str SG))) (.cg (.cmp .isin @0 @1)) [0]])]
noncomputable def oS:dh:=#v[.ret (.kS .join (.lit (.str [])) #v[.comp false @0 (.val (.lit (.str SG))) (.cg (.cmp .nv @0 @1)) [0]])]
noncomputable def mU:dh:=#v[.ret (.cmp .lt (.kS .index (.lit (.str SG)) #v[@0]) (.kS .index (.lit (.str SG)) #v[@1]))]
noncomputable def oU:dh:=#v[.ret (.sl (.lit (.str SG)) (.e (.kS .index (.lit (.str SG)) #v[@0])) (.e (.bin .add (.kS .index (.lit (.str SG)) #v[@1]) ↑1)))]
noncomputable def yQ:dh:=#v[.set 1 (.mk "Reader" "Reader.__init__" #v[@0]),.set 2 (.cu "Reader" "choice" "Reader.choice" @1 .nil),.ifs (.cg (.cmp .lt (.fld @1 "at") (.blt .len #v[@0]))) #v[.raise "BadRule" #v[↑0,.fld @1 "at"]] .nil,.ret @2]
noncomputable def qz:dh:=#v[.ret (.wX (.cg (.cmp .eq (.blt .len #v[@1]) ↑1)) (.ix @1 ↑0) (.tup #v[@0,.blt .tuple #v[@1]]))]
noncomputable def jd:dh:=#v[.iN @0 "text" @1,.iN @0 "at" ↑0,.iN @0 "depth" ↑0]
noncomputable def je:dh:=#v[.ret (.and (.cmp .lt (.fld @0 "at") (.blt .len #v[.fld @0 "text"])) (.cmp .isin (.ix (.fld @0 "text") (.fld @0 "at")) @1))]
noncomputable def ik:dh:=#v[.ifs (.not (.cg (.cu "Reader" "sees" "Reader.sees" @0 #v[@1]))) #v[.raise "BadRule" #v[↑0,.fld @0 "at"]] .nil,.vT @0 "at" .add ↑1,.ret (.ix (.fld @0 "text") (.bin .sub (.fld @0 "at") ↑1))]
noncomputable def iq:dh:=#v[.set 1 (.lst #v[.cu "Reader" "row" "Reader.row" @0 .nil]),.Ae (.cg (.cu "Reader" "sees" "Reader.sees" @0 #v[↑[124]])) #v[.ex (.cu "Reader" "passes" "Reader.passes" @0 #v[↑[124]]),.ex (.kS .append @1 #v[.cu "Reader" "row" "Reader.row" @0 .nil])],.ret (.call "joined" #v[↑[111,114],@1])]
noncomputable def jV:dh:=#v[.set 1 (.lst #v[.cu "Reader" "repeat" "Reader.repeat" @0 .nil]),.Ae (.and (.cg (.cmp .lt (.fld @0 "at") (.blt .len #v[.fld @0 "text"]))) (.not (.cg (.cu "Reader" "sees" "Reader.sees" @0 #v[↑[124,41]])))) #v[.ex (.kS .append @1 #v[.cu "Reader" "repeat" "Reader.repeat" @0 .nil])],.ret (.call "joined" #v[↑[114,111,119],@1])]
noncomputable def ir:dh:=#v[.set 1 (.cu "Reader" "atom" "Reader.atom" @0 .nil),.Ae (.cg (.cu "Reader" "sees" "Reader.sees" @0 #v[↑[42,43,63]])) #v[.set 1 (.tup #v[.ix (.lit (.tab [([42],[115,116,97,114]),([43],[112,108,117,115]),([63],[109,97,121,98,101])])) (.cu "Reader" "passes" "Reader.passes" @0 #v[↑[42,43,63]]),@1])],.ret @1]
noncomputable def jf:dh:=#v[.ifs (.cg (.cu "Reader" "sees" "Reader.sees" @0 #v[↑[40]])) #v[.ret (.cu "Reader" "bracket" "Reader.bracket" @0 .nil)] .nil,.ifs (.cg (.cu "Reader" "sees" "Reader.sees" @0 #v[↑[91]])) #v[.ret (.tup #v[↑[111,110,101],.cu "Reader" "sign_class" "Reader.sign_class" @0 .nil])] .nil,.ifs (.cg (.cu "Reader" "sees" "Reader.sees" @0 #v[↑[46]])) #v[.ex (.cu "Reader" "passes" "Reader.passes" @0 #v[↑[46]]),.ret (.tup #v[↑[111,110,101],.call "all_but" #v[↑[10]]])] .nil,.ret (.tup #v[↑[111,110,101],.cu "Reader" "written_sign" "Reader.written_sign" @0 #v[↑[46,124,40,41,91,93,42,43,63,92]]])]
noncomputable def gG:dh:=#v[.ifs (.cg (.cmp .eq (.fld @0 "depth") ↑6)) #v[.raise "BadRule" #v[↑0,.fld @0 "at"]] .nil,.ex (.cu "Reader" "passes" "Reader.passes" @0 #v[↑[40]]),.vT @0 "depth" .add ↑1,.set 1 (.cu "Reader" "choice" "Reader.choice" @0 .nil),.ex (.cu "Reader" "passes" "Reader.passes" @0 #v[↑[41]]),.vT @0 "depth" .sub ↑1,.ret @1]
noncomputable def eR:dh:=#v[.ex (.cu "Reader" "passes" "Reader.passes" @0 #v[↑[91]]),.set 1 (.cu "Reader" "sees" "Reader.sees" @0 #v[↑[94]]),.ifs (.cg @1) #v[.ex (.cu "Reader" "passes" "Reader.passes" @0 #v[↑[94]])] .nil,.set 2 (.cu "Reader" "item" "Reader.item" @0 .nil),.Ae (.not (.cg (.cu "Reader" "sees" "Reader.sees" @0 #v[↑[93]]))) #v[.aug 2 .add (.cu "Reader" "item" "Reader.item" @0 .nil)],.ex (.cu "Reader" "passes" "Reader.passes" @0 #v[↑[93]]),.ret (.wX (.cg @1) (.call "all_but" #v[@2]) (.call "in_order" #v[@2]))]
noncomputable def jh:dh:=#v[.set 1 (.cu "Reader" "written_sign" "Reader.written_sign" @0 #v[↑[93,45,92]]),.ifs (.not (.cg (.cu "Reader" "sees" "Reader.sees" @0 #v[↑[45]]))) #v[.ret @1] .nil,.ex (.cu "Reader" "passes" "Reader.passes" @0 #v[↑[45]]),.set 2 (.fld @0 "at"),.set 3 (.cu "Reader" "written_sign" "Reader.written_sign" @0 #v[↑[93,45,92]]),.ifs (.cg (.call "is_ahead" #v[@3,@1])) #v[.raise "BadRule" #v[↑0,@2]] .nil,.ret (.call "stretch" #v[@1,@3])]
noncomputable def dN:dh:=#v[.ifs (.not (.cg (.cu "Reader" "sees" "Reader.sees" @0 #v[↑[92]]))) #v[.ret (.cu "Reader" "passes" "Reader.passes" @0 #v[.call "all_but" #v[@1]])] .nil,.ex (.cu "Reader" "passes" "Reader.passes" @0 #v[↑[92]]),.set 2 (.cu "Reader" "passes" "Reader.passes" @0 #v[↑[46,124,40,41,91,93,42,43,63,92,45,94,110]]),.ret (.wX (.cg (.cmp .eq @2 ↑[110])) ↑[10] @2)]
noncomputable def oV:dh:=#v[.ifs (.cg (.cmp .eq (.ix @0 ↑0) ↑[111,114])) #v[.ret (.kS .join ↑[124] #v[.comp false (.call "row_text" #v[@0]) (.val (.ix @0 ↑1)) (.cg (.lit (.bl true))) []])] .nil,.ret (.call "row_text" #v[@0])]
noncomputable def mV:dh:=#v[.ifs (.cg (.cmp .eq (.ix @0 ↑0) ↑[114,111,119])) #v[.ret (.kS .join (.lit (.str [])) #v[.comp false (.call "repeat_text" #v[@0]) (.val (.ix @0 ↑1)) (.cg (.lit (.bl true))) []])] .nil,.ret (.call "repeat_text" #v[@0])]
noncomputable def ji:dh:=#v[.set 1 (.lit (.str [])),.set 2 @0,.Ae (.cg (.cmp .isin (.ix @2 ↑0) (.lit (.tab [([115,116,97,114],[42]),([112,108,117,115],[43]),([109,97,121,98,101],[63])])))) #v[.set 1 (.bin .add (.ix (.lit (.tab [([115,116,97,114],[42]),([112,108,117,115],[43]),([109,97,121,98,101],[63])])) (.ix @2 ↑0)) @1),.set 2 (.ix @2 ↑1)],.ret (.bin .add (.call "atom_text" #v[@2]) @1)]
noncomputable def k9:dh:=#v[.ifs (.cg (.cmp .eq (.ix @0 ↑0) ↑[111,110,101])) #v[.ret (.call "place_text" #v[.ix @0 ↑1])] .nil,.ret (.bin .add (.bin .add ↑[40] (.call "written" #v[@0])) ↑[41])]
noncomputable def jW:dh:=#v[.ifs (.cg (.cmp .eq (.blt .len #v[@0]) ↑1)) #v[.ret (.call "sign_text" #v[@0,↑[46,124,40,41,91,93,42,43,63,92]])] .nil,.ifs (.cg (.cmp .eq @0 (.call "all_but" #v[↑[10]]))) #v[.ret ↑[46]] .nil,.ret (.blt .uC #v[.call "class_texts" #v[@0]])]
noncomputable def lg:dh:=#v[.ret (.wX (.cg (.cmp .isin @0 @1)) (.bin .add ↑[92] @0) @0)]
noncomputable def jj:dh:=#v[.set 1 (.lst .nil),.ifs (.cg (.cmp .ne @0 (.lit (.str [])))) #v[.ex (.kS .append @1 #v[.bin .add (.bin .add ↑[91] (.call "guarded" #v[.call "class_items" #v[@0]])) ↑[93]])] .nil,.ifs (.cg (.cmp .ne @0 (.lit (.str SG)))) #v[.ex (.kS .append @1 #v[.bin .add (.bin .add ↑[91,94] (.kS .join (.lit (.str [])) #v[.call "class_items" #v[.call "all_but" #v[@0]]])) ↑[93]])] .nil,.ret @1]
noncomputable def oW:dh:=#v[.ifs (.not (.cg (.kS .startswith (.ix @0 ↑0) #v[↑[94]]))) #v[.ret (.kS .join (.lit (.str [])) #v[@0])] .nil,.ifs (.cg (.cmp .eq (.blt .len #v[@0]) ↑1)) #v[.ret (.bin .add ↑[92] (.ix @0 ↑0))] .nil,.ret (.bin .add (.kS .join (.lit (.str [])) #v[.sl @0 (.e ↑1) .no]) (.ix @0 ↑0))]
noncomputable def jk:dh:=#v[.set 1 (.lst .nil),.i8 (.name 2) (.val (.call "runs" #v[@0])) #v[.ex (.kS .extend @1 #v[.call "run_items" #v[@2]])],.ret @1]
noncomputable def yR:dh:=#v[.set 1 (.lst .nil),.set 2 (.lit (.str [])),.i8 (.name 3) (.val @0) #v[.ifs (.cg (.cmp .nv (.bin .add @2 @3) (.lit (.str SG)))) #v[.ex (.kS .append @1 #v[@2]),.set 2 (.lit (.str []))] .nil,.aug 2 .add @3],.ex (.kS .append @1 #v[@2]),.ret @1]
noncomputable def lh:dh:=#v[.set 1 (.comp false (.call "sign_text" #v[@0,↑[93,45,92]]) (.val @0) (.cg (.lit (.bl true))) []),.set 2 (.bin .add (.bin .add (.call "sign_text" #v[.ix @0 ↑0,↑[93,45,92]]) ↑[45]) (.call "sign_text" #v[.ix @0 (.neg ↑1),↑[93,45,92]])),.ret (.wX (.cg (.cmp .le (.blt .len #v[.kS .join (.lit (.str [])) #v[@1]]) (.blt .len #v[@2]))) @1 (.lst #v[@2]))]
end PL
namespace PL.tI
noncomputable def lj:dh:=#v[.ifs (.cg @0) #v[.ret (.ix @0 (.bin .mod @1 (.blt .len #v[@0])))] .nil,.ret ↑0]
noncomputable def mW:dh:=#v[.set 2 (.bin .mod (.bin .add (.call "_law_cell" #v[@0,@1]) (.bin .mul ↑104729 (.bin .add @1 ↑1))) ↑4294967291),.set 2 (.bin .mod (.bin .mul @2 ↑48271) ↑4294967279),.ret (.bin .mod (.bin .add (.bin .mul (.bin .fdiv @2 ↑64) ↑69621) @2) ↑4294967231)]
noncomputable def mX:dh:=#v[.set 0 (.lit (.str Zh)),.ret (.bin .add ↑[10] @0)]
end PL.tI
namespace PL.jL
noncomputable def lu:dh:=#v[.set 2 (.mk "Layout" "Layout.__init__" .nil),.i8 (.pair 3 4) (.enum (.sl @0 .no (.e ↑6))) #v[.set 5 (.cu "Layout" "lay" "Layout.lay" @2 #v[.call "tree_of" #v[@4,@3]]),.ifs (.cg (.fld @5 "empty")) #v[.raise "TakesNothing" #v[@3]] .nil,.ifs (.cg (.cmp .gt (.cu "Layout" "how_many" "Layout.how_many" @2 .nil) @1)) #v[.raise "TooMany" #v[@3]] .nil,.ex (.cu "Layout" "close_rule" "Layout.close_rule" @2 #v[@5])],.ifs (.cg (.cmp .gt (.blt .len #v[@0]) ↑6)) #v[.raise "TooMany" #v[↑6]] .nil,.ret (.mk "Places" "Places.__init__" #v[@2])]
noncomputable def oX:dh:=#v[.Oe #v[.ret (.call "read" #v[@0])] "BadRule" 2 #v[.ex (.ix (.lit .bK) (.lit .bK))]]
noncomputable def oY:dh:=#v[.ret (.comp false @0 (.range (.kS .mS @0 .nil)) (.cg (.bin .band (.bin .shr @1 @0) ↑1)) [0])]
noncomputable def ly:dh:=#v[.iN @0 "empty" @1,.iN @0 "firsts" @2,.iN @0 "lasts" @3]
noncomputable def fB:dh:=#v[.set 2 (.wX (.cg (.fld @0 "empty")) (.bin .bor (.fld @0 "firsts") (.fld @1 "firsts")) (.fld @0 "firsts")),.set 3 (.wX (.cg (.fld @1 "empty")) (.bin .bor (.fld @0 "lasts") (.fld @1 "lasts")) (.fld @1 "lasts")),.ret (.mk "Part" "Part.__init__" #v[.and (.fld @0 "empty") (.fld @1 "empty"),@2,@3])]
noncomputable def iP:dh:=#v[.ret (.mk "Part" "Part.__init__" #v[.or (.fld @0 "empty") (.fld @1 "empty"),.bin .bor (.fld @0 "firsts") (.fld @1 "firsts"),.bin .bor (.fld @0 "lasts") (.fld @1 "lasts")])]
noncomputable def jm:dh:=#v[.iN @0 "signs" (.lst #v[.lit (.str [])]),.iN @0 "behind" (.lst #v[↑0]),.iN @0 "ends" (.lst .nil)]
noncomputable def fW:dh:=#v[.ret (.bin .sub (.blt .len #v[.fld @0 "signs"]) ↑1)]
noncomputable def eS:dh:=#v[.EE (.fld @0 "behind") ↑0 .bor (.fld @1 "firsts"),.ex (.kS .append (.fld @0 "ends") #v[.fld @1 "lasts"])]
noncomputable def jo:dh:=#v[.i8 (.name 3) (.val (.call "members" #v[@1])) #v[.EE (.fld @0 "behind") @3 .bor @2]]
noncomputable def jX:dh:=#v[.ifs (.cg (.cmp .eq (.ix @1 ↑0) ↑[111,110,101])) #v[.ret (.cu "Layout" "lay_place" "Layout.lay_place" @0 #v[.ix @1 ↑1])] .nil,.ifs (.cg (.cmp .eq (.ix @1 ↑0) ↑[114,111,119])) #v[.ret (.cu "Layout" "lay_row" "Layout.lay_row" @0 #v[.ix @1 ↑1])] .nil,.ifs (.cg (.cmp .eq (.ix @1 ↑0) ↑[111,114])) #v[.ret (.cu "Layout" "lay_choice" "Layout.lay_choice" @0 #v[.ix @1 ↑1])] .nil,.ret (.cu "Layout" "lay_repeat" "Layout.lay_repeat" @0 #v[@1])]
noncomputable def fD:dh:=#v[.set 2 (.bin .shl ↑1 (.blt .len #v[.fld @0 "signs"])),.ex (.kS .append (.fld @0 "signs") #v[@1]),.ex (.kS .append (.fld @0 "behind") #v[↑0]),.ret (.mk "Part" "Part.__init__" #v[.lit (.bl false),@2,@2])]
noncomputable def gH:dh:=#v[.set 2 (.mk "Part" "Part.__init__" #v[.lit (.bl true),↑0,↑0]),.i8 (.name 3) (.val @1) #v[.set 4 (.cu "Layout" "lay" "Layout.lay" @0 #v[@3]),.ex (.cu "Layout" "link" "Layout.link" @0 #v[.fld @2 "lasts",.fld @4 "firsts"]),.set 2 (.call "one_behind_other" #v[@2,@4])],.ret @2]
noncomputable def eT:dh:=#v[.set 2 (.mk "Part" "Part.__init__" #v[.lit (.bl false),↑0,↑0]),.i8 (.name 3) (.val @1) #v[.set 2 (.call "one_or_other" #v[@2,.cu "Layout" "lay" "Layout.lay" @0 #v[@3]])],.ret @2]
noncomputable def eU:dh:=#v[.set 2 (.lst .nil),.set 3 @1,.Ae (.cg (.cmp .isin (.ix @3 ↑0) (.tup #v[↑[115,116,97,114],↑[112,108,117,115],↑[109,97,121,98,101]]))) #v[.ex (.kS .append @2 #v[.ix @3 ↑0]),.set 3 (.ix @3 ↑1)],.set 4 (.cu "Layout" "lay" "Layout.lay" @0 #v[@3]),.ifs (.or (.cg (.cmp .isin ↑[115,116,97,114] @2)) (.cg (.cmp .isin ↑[112,108,117,115] @2))) #v[.ex (.cu "Layout" "link" "Layout.link" @0 #v[.fld @4 "lasts",.fld @4 "firsts"])] .nil,.set 5 (.or (.fld @4 "empty") (.or (.cmp .isin ↑[115,116,97,114] @2) (.cmp .isin ↑[109,97,121,98,101] @2))),.ret (.mk "Part" "Part.__init__" #v[@5,.fld @4 "firsts",.fld @4 "lasts"])]
noncomputable def iu:dh:=#v[.set 1 (.blt .sum #v[.comp true (.bin .shl ↑1 @0) (.enum (.fld @0 "signs")) (.cg (.cmp .ne @1 (.lit (.str [])))) []]),.set 2 ↑0,.i8 (.name 3) (.val (.fld @0 "ends")) #v[.aug 2 .bor (.bin .band @3 @1)],.set 4 ↑0,.Ae (.cg (.cmp .ne @2 @4)) #v[.set 4 @2,.i8 (.name 5) (.val (.call "members" #v[@1])) #v[.ifs (.cg (.bin .band (.ix (.fld @0 "behind") @5) @4)) #v[.aug 2 .bor (.bin .shl ↑1 @5)] .nil]],.ret @4]
noncomputable def fE:dh:=#v[.ret (.blt .sum #v[.comp true (.bin .shl ↑1 @0) (.enum (.fld @0 "signs")) (.cg (.cmp .isin @2 @1)) [1]])]
noncomputable def jq:dh:=#v[.set 2 (.call "useful_places" #v[@1]),.iN @0 "behind" (.comp false (.bin .band @0 @1) (.val (.fld @1 "behind")) (.cg (.lit (.bl true))) [2]),.iN @0 "ends" (.blt .list #v[.fld @1 "ends"]),.iN @0 "takers" (.blt .dict #v[.comp false (.tup #v[@0,.call "places_that_take" #v[@1,@0]]) (.val (.lit (.str SG))) (.cg (.lit (.bl true))) [1]])]
noncomputable def iw:dh:=#v[.set 2 ↑0,.i8 (.name 3) (.val (.call "members" #v[@1])) #v[.aug 2 .bor (.ix (.fld @0 "behind") @3)],.ret @2]
noncomputable def eV:dh:=#v[.i8 (.pair 2 3) (.enum (.fld @0 "ends")) #v[.ifs (.cg (.bin .band @1 @3)) #v[.ret @2] .nil],.ret (.lit .bK)]
noncomputable def lz:dh:=#v[.iN @0 "places" @1,.iN @0 "reach" (.cu "Places" "beyond" "Places.beyond" @1 #v[↑1]),.iN @0 "passed" ↑0,.iN @0 "found" (.lit .bK)]
noncomputable def gI:dh:=#v[.ret (.cmp .ne (.fld @0 "reach") ↑0)]
noncomputable def jY:dh:=#v[.Ae (.and (.cg (.cu "Walk" "may_go_on" "Walk.may_go_on" @0 .nil)) (.cg (.cmp .lt (.fld @0 "passed") (.blt .len #v[@1])))) #v[.ex (.cu "Walk" "step" "Walk.step" @0 #v[.ix @1 (.fld @0 "passed")])]]
noncomputable def lA:dh:=#v[.set 2 (.bin .band (.fld @0 "reach") (.kS .get (.fld (.fld @0 "places") "takers") #v[@1,↑0])),.iN @0 "reach" (.cu "Places" "beyond" "Places.beyond" (.fld @0 "places") #v[@2]),.vT @0 "passed" .add ↑1,.set 3 (.cu "Places" "first_rule" "Places.first_rule" (.fld @0 "places") #v[@2]),.ifs (.cg (.cmp .Ad @3 (.lit .bK))) #v[.iN @0 "found" (.tup #v[@3,.fld @0 "passed"])] .nil]
noncomputable def jZ:dh:=#v[.iN @0 "places" (.call "places_of" #v[@1,↑24])]
noncomputable def iQ:dh:=#v[.ifs (.cg (.cmp .eq (.ix @0 ↑0) ↑[111,110,101])) #v[.ret (.lit (.bl false))] .nil,.ifs (.cg (.cmp .eq (.ix @0 ↑0) ↑[114,111,119])) #v[.ret (.blt .all #v[.comp false (.call "_law_nothing" #v[@0]) (.val (.ix @0 ↑1)) (.cg (.lit (.bl true))) []])] .nil,.ifs (.cg (.cmp .eq (.ix @0 ↑0) ↑[111,114])) #v[.ret (.blt .any #v[.comp false (.call "_law_nothing" #v[@0]) (.val (.ix @0 ↑1)) (.cg (.lit (.bl true))) []])] .nil,.ret (.or (.cmp .isin (.ix @0 ↑0) (.tup #v[↑[115,116,97,114],↑[109,97,121,98,101]])) (.call "_law_nothing" #v[.ix @0 ↑1]))]
noncomputable def jr:dh:=#v[.ifs (.cg (.cmp .eq (.ix @0 ↑0) ↑[111,110,101])) #v[.ret (.wX (.cg (.cmp .isin @1 (.ix @0 ↑1))) (.lst #v[.tup .nil]) (.lst .nil))] .nil,.ifs (.cg (.cmp .eq (.ix @0 ↑0) ↑[111,114])) #v[.set 2 (.lst .nil),.i8 (.name 3) (.val (.ix @0 ↑1)) #v[.set 2 (.bin .add @2 (.call "_law_behind" #v[@3,@1]))],.ret @2] .nil,.ifs (.cg (.cmp .eq (.ix @0 ↑0) ↑[114,111,119])) #v[.set 2 (.lst .nil),.i8 (.name 4) (.range (.blt .len #v[.ix @0 ↑1])) #v[.set 2 (.bin .add @2 (.comp false (.bin .add @0 (.sl (.ix @1 ↑1) (.e (.bin .add @2 ↑1)) .no)) (.val (.call "_law_behind" #v[.ix (.ix @0 ↑1) @4,@1])) (.cg (.lit (.bl true))) [0,4])),.ifs (.not (.cg (.call "_law_nothing" #v[.ix (.ix @0 ↑1) @4]))) #v[.ret @2] .nil],.ret @2] .nil,.set 5 (.wX (.cg (.cmp .eq (.ix @0 ↑0) ↑[109,97,121,98,101])) (.tup .nil) (.tup #v[.tup #v[↑[115,116,97,114],.ix @0 ↑1]])),.ret (.comp false (.bin .add @0 @1) (.val (.call "_law_behind" #v[.ix @0 ↑1,@1])) (.cg (.lit (.bl true))) [5])]
noncomputable def j0:dh:=#v[.set 2 (.lst .nil),.i8 (.name 3) (.val @0) #v[.i8 (.name 4) (.val (.call "_law_behind" #v[.tup #v[↑[114,111,119],@3],@1])) #v[.ifs (.cg (.cmp .nv @4 @2)) #v[.ex (.kS .append @2 #v[@4])] .nil]],.ret @2]
noncomputable def om:dh:=#v[.ret (.blt .any #v[.comp false (.call "_law_nothing" #v[.tup #v[↑[114,111,119],@0]]) (.val @0) (.cg (.lit (.bl true))) []])]
noncomputable def j6:dh:=#v[.set 3 (.lit .bK),.set 4 (.comp false (.lst #v[.tup #v[@0]]) (.val @0) (.cg (.lit (.bl true))) []),.set 5 ↑0,.Ae (.and (.cg (.cmp .lt (.bin .add @2 @5) (.blt .len #v[@1]))) (.cg (.blt .any #v[.comp false (.cmp .ne @0 (.lst .nil)) (.val @4) (.cg (.lit (.bl true))) []]))) #v[.set 4 (.comp false (.call "_law_rests" #v[@0,.ix @1 (.bin .add @2 @3)]) (.val @4) (.cg (.lit (.bl true))) [1,2,5]),.set 5 (.bin .add @5 ↑1),.set 6 (.comp false @0 (.range (.blt .len #v[@4])) (.cg (.call "_law_ends" #v[.ix @1 @0])) [4]),.ifs (.cg @6) #v[.set 3 (.tup #v[.ix @6 ↑0,@5])] .nil],.ret @3]
noncomputable def j7:dh:=#v[.set 3 (.call "_law_mix" #v[@0,@1]),.set 4 (.bin .mod @3 ↑9),.ifs (.or (.cg (.cmp .eq @2 ↑0)) (.cg (.cmp .lt @4 ↑4))) #v[.ret (.tup #v[↑[111,110,101],.ix (.lst #v[↑[97],↑[98],↑[99],↑[97,98],↑[98,99],.call "_law_all" .nil,↑[97],↑[98],↑[48],.lit (.str [])]) (.bin .mod (.bin .fdiv @3 ↑9) ↑10)])] .nil,.ifs (.cg (.cmp .lt @4 ↑7)) #v[.set 5 (.comp false (.call "_law_small" #v[@1,.bin .add (.bin .add (.bin .mul ↑2 @2) ↑1) @0,.bin .sub @3 ↑1]) (.range ↑2) (.cg (.lit (.bl true))) [0,1,2]),.ret (.tup #v[.ix (.lst #v[↑[114,111,119],↑[111,114],↑[114,111,119]]) (.bin .sub @4 ↑4),.blt .tuple #v[@5]])] .nil,.ret (.tup #v[.ix (.lst #v[↑[115,116,97,114],↑[112,108,117,115],↑[109,97,121,98,101]]) (.bin .mod (.bin .fdiv @3 ↑9) ↑3),.call "_law_small" #v[@0,.bin .add (.bin .mul ↑2 @1) ↑1,.bin .sub @2 ↑1]])]
noncomputable def j8:dh:=#v[.set 4 (.lst .nil),.i8 (.name 5) (.range @2) #v[.set 6 (.call "_law_small" #v[@0,.bin .add @1 (.bin .mul ↑9 @5),@3]),.ifs (.cg (.call "_law_nothing" #v[@6])) #v[.set 6 (.tup #v[↑[114,111,119],.tup #v[.tup #v[↑[111,110,101],.ix ↑[97,98,99] (.bin .mod @5 ↑3)],@6]])] .nil,.ex (.kS .append @4 #v[@6])],.ret @4]
noncomputable def lB:dh:=#v[.ret (.kS .join (.lit (.str [])) #v[.comp false (.ix ↑[97,97,98,98,99,48,97,10,98,97,98] (.bin .mod (.call "_law_mix" #v[@1,.bin .add @2 @0]) ↑11)) (.range @2) (.cg (.lit (.bl true))) [0,1]])]
end PL.jL
namespace PL.qT
open PL
noncomputable def js:dh:=#v[.iN @0 "places" (.fld @1 "places"),.iN @0 "at" ↑0,.iN @0 "rest" (.lit (.str [])),.iN @0 "walk" (.mk "Walk" "Walk.__init__" #v[.fld @0 "places"])]
noncomputable def jt:dh:=#v[.vT @0 "rest" .add @1,.ret (.cu "Cutter" "sure_tokens" "Cutter.sure_tokens" @0 #v[.lit (.bl false)])]
noncomputable def j9:dh:=#v[.ret (.cu "Cutter" "sure_tokens" "Cutter.sure_tokens" @0 #v[.lit (.bl true)])]
noncomputable def d7:dh:=#v[.set 2 (.lst .nil),.Ae (.and (.cg (.cu "Cutter" "next_is_sure" "Cutter.next_is_sure" @0 #v[@1])) (.cg (.cmp .Ad (.fld (.fld @0 "walk") "found") (.lit .bK)))) #v[.set 3 (.ix (.fld (.fld @0 "walk") "found") ↑1),.ex (.kS .append @2 #v[.tup #v[.ix (.fld (.fld @0 "walk") "found") ↑0,.sl (.fld @0 "rest") .no (.e @3)]]),.ex (.cu "Cutter" "pass_over" "Cutter.pass_over" @0 #v[@3])],.ifs (.and (.cg (.cmp .eq @2 (.lst .nil))) (.cg (.cu "Cutter" "next_is_sure" "Cutter.next_is_sure" @0 #v[@1]))) #v[.raise "NoToken" #v[.fld @0 "at"]] .nil,.ret @2]
noncomputable def dP:dh:=#v[.ex (.cu "Walk" "along" "Walk.along" (.fld @0 "walk") #v[.fld @0 "rest"]),.ret (.and (.cmp .ne (.fld @0 "rest") (.lit (.str []))) (.or @1 (.not (.cu "Walk" "may_go_on" "Walk.may_go_on" (.fld @0 "walk") .nil))))]
noncomputable def fF:dh:=#v[.vT @0 "at" .add @1,.iN @0 "rest" (.sl (.fld @0 "rest") (.e @1) .no),.iN @0 "walk" (.mk "Walk" "Walk.__init__" #v[.fld @0 "places"])]
noncomputable def kb:dh:=#v[.ifs (.cg (.cmp .eq (.ix @0 ↑0) ↑[111,110,101])) #v[.ret (.cmp .ne (.ix @0 ↑1) (.lit (.str [])))] .nil,.ifs (.cg (.cmp .eq (.ix @0 ↑0) ↑[114,111,119])) #v[.ret (.blt .all #v[.comp false (.call "_law_lives" #v[@0]) (.val (.ix @0 ↑1)) (.cg (.lit (.bl true))) []])] .nil,.ifs (.cg (.cmp .eq (.ix @0 ↑0) ↑[111,114])) #v[.ret (.blt .any #v[.comp false (.call "_law_lives" #v[@0]) (.val (.ix @0 ↑1)) (.cg (.lit (.bl true))) []])] .nil,.ret (.or (.cmp .ne (.ix @0 ↑0) ↑[112,108,117,115]) (.call "_law_lives" #v[.ix @0 ↑1]))]
noncomputable def lC:dh:=#v[.ifs (.cg (.cmp .eq (.ix @0 ↑0) ↑[114,111,119])) #v[.ret (.and (.call "_law_lives" #v[@0]) (.blt .any #v[.comp false (.call "_law_more" #v[@0]) (.val (.ix @0 ↑1)) (.cg (.lit (.bl true))) []]))] .nil,.ifs (.cg (.cmp .eq (.ix @0 ↑0) ↑[111,114])) #v[.ret (.blt .any #v[.comp false (.call "_law_more" #v[@0]) (.val (.ix @0 ↑1)) (.cg (.lit (.bl true))) []])] .nil,.ret (.wX (.cg (.cmp .eq (.ix @0 ↑0) ↑[111,110,101])) (.cmp .ne (.ix @0 ↑1) (.lit (.str []))) (.call "_law_more" #v[.ix @0 ↑1]))]
noncomputable def lD:dh:=#v[.set 2 (.comp false (.lst #v[.tup #v[@0]]) (.val @0) (.cg (.lit (.bl true))) []),.i8 (.name 3) (.val @1) #v[.set 2 (.comp false (.call "_law_rests" #v[@0,@1]) (.val @2) (.cg (.lit (.bl true))) [3])],.ret (.blt .any #v[.comp false (.blt .any #v[.comp false (.call "_law_more" #v[.tup #v[↑[114,111,119],@0]]) (.val @0) (.cg (.lit (.bl true))) []]) (.val @2) (.cg (.lit (.bl true))) []])]
noncomputable def ke:dh:=#v[.set 2 (.lit .bK),.set 3 (.neg ↑1),.Oe #v[.set 2 (.wX (.cg (.cmp .Ku @1 (.lit .bK))) (.cu "Cutter" "end" "Cutter.end" @0 .nil) (.cu "Cutter" "take" "Cutter.take" @0 #v[@1]))] "TokenError" 4 #v[.set 3 (.wX (.cg (.MA @4 [.own "NoToken"])) (.fld @4 "at") (.neg ↑2))],.ret (.tup #v[@2,@3])]
noncomputable def lE:dh:=#v[.set 4 (.lst .nil),.Ae (.and (.cg (.cmp .lt @2 (.blt .len #v[@1]))) (.or (.cg @3) (.not (.cg (.call "_law_open" #v[@0,.sl @1 (.e @2) .no]))))) #v[.set 5 (.call "_law_token" #v[@0,@1,@2]),.ifs (.cg (.cmp .Ku @5 (.lit .bK))) #v[.ret (.tup #v[@4,@2,.lit (.bl true)])] .nil,.ex (.kS .append @4 #v[.tup #v[.ix @5 ↑0,.sl @1 (.e @2) (.e (.bin .add @2 (.ix @5 ↑1)))]]),.set 2 (.bin .add @2 (.ix @5 ↑1))],.ret (.tup #v[@4,@2,.lit (.bl false)])]
noncomputable def Dj:dh:=#v[.set 1 (.call "_law_trees" #v[@0,↑0,.bin .add ↑1 (.bin .mod (.call "_law_mix" #v[@0,↑50]) ↑3),↑2]),.set 2 (.call "_law_text" #v[@0,↑51,.bin .mod (.call "_law_mix" #v[@0,↑61]) ↑13]),.set 3 (.mk "Cutter" "Cutter.__init__" #v[.mk "Lexer" "Lexer.__init__" #v[.comp false (.call "written" #v[@0]) (.val @1) (.cg (.lit (.bl true))) []]]),.set 4 ↑0,.set 5 ↑0,.set 6 (.lit (.bl false)),.i8 (.name 7) (.range (.bin .add ↑1 (.bin .mod (.call "_law_mix" #v[@0,↑60]) ↑8))) #v[.set 8 (.bin .mod (.call "_law_mix" #v[@0,.bin .add ↑40 @7]) ↑5),.set 9 (.sl @2 (.e @5) (.e (.bin .add @5 @8))),.set 5 (.bin .add @5 (.blt .len #v[@9])),.set 10 (.call "_law_sure" #v[@1,.sl @2 .no (.e @5),@4,.lit (.bl false)]),.set 11 (.call "_law_asked" #v[@3,@9]),.ifs (.or (.cg @6) (.and (.cg (.ix @10 ↑2)) (.not (.cg (.ix @10 ↑0))))) #v[.ifs (.cg (.cmp .ne @11 (.tup #v[.lit .bK,.ix @10 ↑1]))) #v[.ret (.lit (.bl false))] .nil] #v[.ifs (.cg (.cmp .ne @11 (.tup #v[.ix @10 ↑0,.neg ↑1]))) #v[.ret (.lit (.bl false))] .nil],.set 6 (.or @6 (.ix @10 ↑2)),.set 4 (.ix @10 ↑1)],.set 10 (.call "_law_sure" #v[@1,.sl @2 .no (.e @5),@4,.lit (.bl true)]),.set 11 (.call "_law_asked" #v[@3,.lit .bK]),.ifs (.or (.cg @6) (.and (.cg (.ix @10 ↑2)) (.not (.cg (.ix @10 ↑0))))) #v[.ret (.cmp .eq @11 (.tup #v[.lit .bK,.ix @10 ↑1]))] .nil,.ifs (.or (.cg (.cmp .ne @11 (.tup #v[.ix @10 ↑0,.neg ↑1]))) (.not (.cg (.MA (.ix @11 ↑0) [.list])))) #v[.ret (.lit (.bl false))] .nil,.ret (.cmp .eq (.call "_law_asked" #v[@3,.lit .bK]) (.wX (.cg (.ix @10 ↑2)) (.tup #v[.lit .bK,.ix @10 ↑1]) (.tup #v[.lst .nil,.neg ↑1])))]
end PL.qT
namespace L2
open PySem
open PL (U SO bI Xn KU KX Spec bY)
structure Tab where
 const:List (String×U)
 fns:List String
 pX:List String
 pY:List (String×String)
 uO:List String
 yS:List String
 fL:List String
structure Inf where
 names:List (Str×NameKind)
 N:List Str
 calm:Bool
noncomputable def pick(l:List String)(x:Str):Option String:=l.find? λs=>b8 s==x
noncomputable def Ap{α:Type}(l:List (String×α))(x:Str):Option (String×α):=l.find? λs=>b8 s.1==x
noncomputable def dy(x:Str):List Str->Option Nat
 |[]=>none
 |y::ys=>if y=x then some 0 else(dy x ys).map (·+1)
noncomputable def KN:Option NameKind->Bool
 |some .local=>true
 |some .cell=>true
 |some .free=>true
 |_=>false
noncomputable def Inf.gl(I:Inf)(x:Str):Bool:=I.names.lookup x==some .globalImplicit
noncomputable def So:mK->Option PL.FD
 |.Add=>some .add|.Sub=>some .sub|.Mult=>some .mul|.FloorDiv=>some .fdiv|.Mod=>some .mod|.BitAnd=>some .band|.BitOr=>some .bor|.LShift=>some .shl|.RShift=>some .shr|_=>none
noncomputable def KO:CmpOp->Option PL.Oc
 |.Eq=>some .eq|.NotEq=>some .ne|.Lt=>some .lt|.LtE=>some .le|.Gt=>some .gt|.GtE=>some .ge|.In=>some .isin|.NotIn=>some .nv|.Is=>some .Ku|.IsNot=>some .Ad
noncomputable def QH:Expr->Option Str
 |.Name x _=>some x
 |_=>none
theorem Sq:∀e,(∃x p,e=Je x p)\/QH e=none:=by
 intro e;cases e<;>first|exact .inr rfl|exact .inl #[_,_,rfl]
theorem Dk(h:QH e=some x):∃p,e=.Name x p:=by
 rcases Sq e with⟨y,p,rfl⟩|e
 .exact#[p,congrArg (Je · p) (aH h)]
 .exact nn (e.symm.trans h)
noncomputable def Vj:Expr->Option (Str×Expr)
 |.Call f [a] [] _=>(QH f).map λx=>(x,a)
 |_=>none
theorem Sr:∀e,(∃f as ks p,e=Expr.Call f as ks p)\/Vj e=none:=by
 intro e;cases e<;>first|exact .inr rfl|exact .inl #[_,_,_,_,rfl]
theorem MG(h:Vj e=some (x,a)):∃p q,e=.Call (.Name x p) [a] [] q:=by
 rcases Sr e with⟨f,as,ks,q,rfl⟩|e
 .cases as with
  |nil=>exact nn h
  |cons a as=>cases as with
   |cons=>exact nn h
   |nil=>cases ks with
    |cons=>exact nn h
    |nil=>
     obtain⟨y,h1,h2⟩:=ag.mp h;cases h2;obtain⟨p,rfl⟩:=Dk h1;exact#[p,q,rfl]
 .exact nn (e.symm.trans h)
noncomputable def WA(T:Tab)(I:Inf)(e:Expr):Option PL.Ty:=(QH e).bind λx=>
  if I.gl x&&x !=("__debug__":Str) then
   if x==("int":Str)&&T.fL.contains "int" then some .int else if x==("bool":Str)&&T.fL.contains "bool" then some .bool else if x==("str":Str)&&T.fL.contains "str" then some .str
   else if x==("list":Str)&&T.fL.contains "list" then some .list else if x==("tuple":Str)&&T.fL.contains "tuple" then some .tuple else if x==("dict":Str)&&T.fL.contains "dict" then some .dict
   else if x==("ValueError":Str)&&T.fL.contains "ValueError" then some .Kv else(pick T.yS x).map .own
  else none
noncomputable def qA(I : Inf)(names : List (Str×NameKind)) : List (Str×NameKind) := names.map λ(n, k) => if k==bQ&&I.names.lookup n==some .cell then (n, .cell) else (n, k)
noncomputable def uP(I:Inf)(sc:kI)(xs:List Str):Bool:=
 sc.kind==.function&&sc.names.all (λy=>y.2 !=.cell)&&sc.names.all (λy=>y.2 !=.local||sc.names.lookup y.1==some .local)&&sc.names.all (λy=>y.2 !=.free||I.names.lookup y.1==some .cell)
  && xs.all (λx=>sc.names.lookup x==some .local)&&decide xs.Nodup
noncomputable def gZ(I:Inf)(sc:kI):List Str:=I.N.filter λy=>sc.names.lookup y==some .free
noncomputable def KP:Expr->Option (List Str)
 |.Name x _=>some [x]
 |.Tuple [a,b] _ _=>(QH a).bind λx=>(QH b).map λy=>[x,y]
 |_=>none
noncomputable def noStar:Expr->Bool
 |.Starred ..=>false
 |_=>true
noncomputable def yT:Expr->Bool
 |.ListComp ..=>false
 |.SetComp ..=>false
 |.DictComp ..=>false
 |_=>true
noncomputable def oZ:Expr->Bool
 |.Slice ..=>false
 |_=>true
noncomputable def iy:Expr->Bool
 |.Call (.Name _ _) [] [] _=>false
 |_=>true
noncomputable def OC:Str->Option PL.RZ:=λx=>
 if x==("len":Str) then some .len else if x==("tuple":Str) then some .tuple else if x==("list":Str) then some .list
 else if x==("all":Str) then some .all else if x==("sum":Str) then some .sum else if x==("any":Str) then some .any else if x==("dict":Str) then some .dict else none
noncomputable def OD:Str->Option PL.Od:=λx=>
 if x==("join":Str) then some .join else if x==("index":Str) then some .index else if x==("append":Str) then some .append else if x==("extend":Str) then some .extend else if x==("startswith":Str) then some .startswith else none
noncomputable def WB:Const->Option U
 |.none=>some .bK
 |.bool b=>some (.bl b)
 |.int i=>some (.int i)
 |.str x=>some (.str x.cps.toList)
 |_=>none
noncomputable def Hj(I:Inf)(k:r8):Bool:=match k with
 |⟨kw,v,_⟩=>kw==some ("key":Str)&&(match v with
  |.Name l _=>l==("len":Str)&&I.gl l
  |_=>false)
structure CF where
 e:Inf->Expr->Option PL.Ex
 es:Inf->List Expr->Option PL.yJ
 bo:Inf->BoolOp->List Expr->Option PL.Ex
 o:Inf->Option Expr->Option PL.Ox
 i:Inf->Expr->Option PL.It
 n:Inf->Expr->Option PL.It
 t:Inf->Expr->Option PL.Tx
 tb:Inf->BoolOp->List Expr->Option PL.Tx
noncomputable def QJ(T:Tab)(F:CF)(I:Inf)(e:Expr):Option PL.Ex:=match e with
  |.Name x _=>match dy x I.N with
   |some i=>if KN (I.names.lookup x)&&x !=("__debug__":Str)&&x !=("__classdict__":Str) then some (.var i) else none
   |none=>if I.gl x&&x !=("__debug__":Str) then(Ap T.const x).map λp=>.lit p.2 else none
  |.Constant c _ _=>(WB c).map .lit
  |.BinOp a op b _=>do
   let o <-So op
   let x <-F.e I a
   let y <-F.e I b
   some (.bin o x y)
  |.UnaryOp op a _=>(match op with
   |.USub=>(F.e I a).map .neg
   |.Not=>(F.e I a).map .not
   |_=>none)
  |.BoolOp op vs _=>F.bo I op vs
  |.Compare a ops bs _=>(match ops with
   |[op]=>(match bs with
    |[b]=>do
     let o <-KO op
     let x <-F.e I a
     let y <-F.e I b
     some (.cmp o x y)
    |_=>none)
   |_=>none)
  |.IfExp t a b _=>do
   let c <-F.t I t
   let x <-F.e I a
   let y <-F.e I b
   some (.wX c x y)
  |.Call f args kws cp=>(match f with
   |.Name f _=>(match kws with
    |[]=>if I.gl f&&f !=("__debug__":Str) then
      if f==("isinstance":Str)&&T.fL.contains "isinstance" then(match args with
       |[a,t]=>if !noStar a then none else do
        let x <-F.e I a
        (match WA T I t with
         |some y=>some (.MA x [y])
         |none=>none)
       |_=>none)
      else match OC f with
      |some b=>if (pick T.fL f).isSome && !args.isEmpty&&I.calm then(F.es I args).map (.blt b) else none
      |none=>if !I.calm then none else match pick T.fns f with
       |some q=>(F.es I args).map (.call q)
       |none=>match pick T.pX f with
        |some q=>(F.es I args).map (.mk q (q++".__init__"))
        |none=>none
     else none
    |kw::ks=>(match args with
     |[a]=>if ks.isEmpty&&f==("min":Str)&&Hj I kw&&I.gl f&&T.fL.contains "min"&&T.fL.contains "len"&&I.calm&&noStar a then(F.e I a).map λx=>.blt .uC (.cons x .nil) else none
     |_=>none))
   |.Attribute o m ap=>if !(kws.isEmpty&&iy o&&ap.endLine==cp.line&&decide (args.length<20)&&I.calm) then none else
    match Ap T.pY m with
    |some (q,k)=>do
     let x <-F.e I o
     let as <-F.es I args
     some (.cu k q (k++"."++q) x as)
    |none=>(match args with
     |[]=>if m==("bit_length":Str) then(F.e I o).map λx=>.kS .mS x .nil else none
     |a::as=>if m==("get":Str) then(match as with
       |[d]=>if noStar a&&noStar d then do
         let x <-F.e I o
         let y <-F.e I a
         let z <-F.e I d
         some (.kS .get x (.cons y (.cons z .nil)))
        else none
       |_=>none)
      else match OD m with
      |some b=>do
       let x <-F.e I o
       let as <-F.es I (a::as)
       some (.kS b x as)
      |none=>none)
   |_=>none)
  |.Attribute o f _=>if !iy o then none else do
   let q <-pick T.uO f
   let x <-F.e I o
   some (.fld x q)
  |.Subscript o i _=>if oZ i then do
    let x <-F.e I o
    let y <-F.e I i
    some (.ix x y)
   else(match i with
   |.Slice lo hi st _=>(match st with
    |none=>do
     let x <-F.e I o
     let a <-F.o I lo
     let b <-F.o I hi
     some (.sl x a b)
    |some _=>none)
   |_=>none)
  |.List es _=>(F.es I es).map .lst
  |.Tuple es _ _=>(F.es I es).map .tup
  |.ListComp elt gs sc _=>(match gs with
   |[g]=>(match g with
    |⟨tg,iter,ifs,as⟩=>match KP tg with
     |some xs=>if uP I sc xs&&I.calm&&as==0 then do
       let it <-(match xs with
        |[_]=>F.i I iter
        |_=>F.n I iter)
       let cn:=gZ I sc
       let J:Inf:=#[qA I sc.names,xs++cn,true]
       let c <-(match ifs with
        |[]=>some (PL.Tx.cg (.lit (.bl true)))
        |[c]=>F.t J c
        |_=>none)
       let e <-F.e J elt
       let ci <-cn.mapM λy=>dy y I.N
       some (.comp (xs.length==2) e it c ci)
      else none
     |none=>none)
   |_=>none)
  |_=>none
noncomputable def Hk(F:CF)(I:Inf):List Expr->Option PL.yJ
 |[]=>some .nil
 |e::es=>if !noStar e then none else do
  let x <-F.e I e
  let xs <-F.es I es
  some (.cons x xs)
noncomputable def Hl(F:CF)(I:Inf)(op:BoolOp):List Expr->Option PL.Ex
 |[]=>none
 |[a]=>F.e I a
 |a::b::r=>do
  let x <-F.e I a
  let y <-F.bo I op (b::r)
  some (match op with|.And=>.and x y|.Or=>.or x y)
noncomputable def Vk(F:CF)(I:Inf):Option Expr->Option PL.Ox
 |none=>some .no
 |some e=>(F.e I e).map .e
noncomputable def stI(T:Tab)(F:CF)(I:Inf)(e:Expr):Option PL.It:=match Vj e with
  |some (f,a)=>if f==("range":Str) then(if I.gl f&&T.fL.contains "range" then(F.e I a).map .range else none) else(F.e I e).map .val
  |none=>(F.e I e).map .val
noncomputable def stN(T:Tab)(F:CF)(I:Inf)(e:Expr):Option PL.It:=match Vj e with
  |some (f,a)=>if f==("enumerate":Str)&&I.gl f&&T.fL.contains "enumerate"&&noStar a then(F.e I a).map .enum else none
  |none=>none
noncomputable def Yu(F:CF)(I:Inf)(e:Expr):Option PL.Tx:=match e with
  |.UnaryOp .Not a _=>(F.t I a).map .not
  |.BoolOp op vs _=>F.tb I op vs
  |.IfExp ..=>none
  |.Compare a [op] [b] _=>do
   let o <-KO op
   let x <-F.e I a
   let y <-F.e I b
   some (.cg (.cmp o x y))
  |.Compare ..=>none
  |_=>(F.e I e).map .cg
noncomputable def Hm(F:CF)(I:Inf)(op:BoolOp):List Expr->Option PL.Tx
 |[]=>none
 |[a]=>F.t I a
 |a::b::r=>do
  let x <-F.t I a
  let y <-F.tb I op (b::r)
  some (match op with|.And=>.and x y|.Or=>.or x y)
noncomputable def qB(T:Tab):Nat->CF
 |0=>#[λ_ _=>none,λ_ _=>none,λ_ _ _=>none,λ_ _=>none,λ_ _=>none,λ_ _=>none,λ_ _=>none,λ_ _ _=>none]
 |n+1=>#[QJ T (qB T n),Hk (qB T n),Hl (qB T n),Vk (qB T n),stI T (qB T n),stN T (qB T n),Yu (qB T n),Hm (qB T n)]
noncomputable abbrev cE(T:Tab)(n:Nat):Inf->Expr->Option PL.Ex:=(qB T n).e
noncomputable abbrev QK(T:Tab)(n:Nat):Inf->List Expr->Option PL.yJ:=(qB T n).es
noncomputable abbrev Vl(T:Tab)(n:Nat):Inf->BoolOp->List Expr->Option PL.Ex:=(qB T n).bo
noncomputable abbrev cO(T:Tab)(n:Nat):Inf->Option Expr->Option PL.Ox:=(qB T n).o
noncomputable abbrev cI(T:Tab)(n:Nat):Inf->Expr->Option PL.It:=(qB T n).i
noncomputable abbrev cN(T:Tab)(n:Nat):Inf->Expr->Option PL.It:=(qB T n).n
noncomputable abbrev cT(T:Tab)(n:Nat):Inf->Expr->Option PL.Tx:=(qB T n).t
noncomputable abbrev Vm(T:Tab)(n:Nat):Inf->BoolOp->List Expr->Option PL.Tx:=(qB T n).tb
section
variable{T:Tab}{n:Nat}{I:Inf}{x:Expr}{xs:List Expr}{p:BoolOp}{y:Option Expr}
theorem Ss:cE T 0 I x=none:=rfl
theorem KQ:cE T (n+1) I x=QJ T (qB T n) I x:=rfl
theorem MH:QK T 0 I xs=none:=rfl
theorem Hn:QK T (n+1) I xs=Hk (qB T n) I xs:=rfl
theorem Su:Vl T 0 I p xs=none:=rfl
theorem Ho:Vl T (n+1) I p xs=Hl (qB T n) I p xs:=rfl
theorem WC:cO T 0 I y=none:=rfl
theorem Sv:cO T (n+1) I y=Vk (qB T n) I y:=rfl
theorem WD:cI T 0 I x=none:=rfl
theorem WG:cI T (n+1) I x=stI T (qB T n) I x:=rfl
theorem WH:cN T 0 I x=none:=rfl
theorem WJ:cN T (n+1) I x=stN T (qB T n) I x:=rfl
theorem WK:cT T 0 I x=none:=rfl
theorem WL:cT T (n+1) I x=Yu (qB T n) I x:=rfl
theorem Sw:Vm T 0 I p xs=none:=rfl
theorem Hq:Vm T (n+1) I p xs=Hm (qB T n) I p xs:=rfl
end
noncomputable def WM(T:Tab)(n:Nat)(J:Inf)(ifs:List Expr):Option PL.Tx:=match ifs with
 |[]=>some (PL.Tx.cg (.lit (.bl true)))
 |[c]=>cT T n J c
 |_=>none
theorem uQ(h:cE T (n+1) I (.ListComp elt gs sc pos)=some x):
  ∃tg iter ifs xs it c ee ci,gs=[#[tg,iter,ifs,0]]/\KP tg=some xs/\(uP I sc xs=true/\I.calm=true)/\((∃y,xs=[y])/\cI T n I iter=some it\/(¬ ∃y,xs=[y])/\cN T n I iter=some it)/\WM T n #[qA I sc.names,xs++gZ I sc,true] ifs=some c /\
   cE T n #[qA I sc.names,xs++gZ I sc,true] elt=some ee/\(gZ I sc).mapM (λy=>dy y I.N)=some ci/\x=.comp (xs.length==2) ee it c ci:=by
 rw[KQ] at h
 delta QJ at h
 dsimp only at h;split at h
 .rename_i g
  obtain⟨tg,iter,ifs,as⟩:=g;dsimp only at h;split at h
  .rename_i xs ht
   split at h
   .rename_i hc
    simp only[af] at hc;simp only[aJ,au] at h;obtain⟨it,h1,c,h2,ee,h3,ci,h4,h5⟩:=h;injection h5 with h5
    have e0:as=0:=eq_of_beq hc.2;subst e0;refine#[tg,iter,ifs,xs,it,c,ee,ci,rfl,ht,hc.1,?_,h2,h3,h4,h5.symm];split at h1
    .exact .inl #[#[_,rfl],h1]
    .rename_i hn
     exact .inr #[λ⟨y,e⟩=>hn y e,h1]
   .exact nn h
  .exact nn h
 .exact nn h
theorem Sx:∀e,(∃x p,e=Je x p)\/(∃es k q,e=Expr.Tuple es k q)\/KP e=none:=by
 intro e;cases e<;>first|exact .inr (.inr rfl)|exact .inl #[_,_,rfl]|exact .inr (.inl #[_,_,_,rfl])
theorem B1(h:KP tg=some xs):(∃x p,tg=.Name x p/\xs=[x])\/∃x y p p' k q,tg=.Tuple [.Name x p,.Name y p'] k q/\xs=[x,y]:=by
 rcases Sx tg with⟨x,p,rfl⟩|⟨es,k,q,rfl⟩|e
 .exact .inl #[x,p,rfl,(aH h).symm]
 .cases es with
  |nil=>exact nn h
  |cons a es=>cases es with
   |nil=>exact nn h
   |cons b es=>cases es with
    |cons=>exact nn h
    |nil=>
     obtain⟨x,h1,h⟩:=au.mp h;obtain⟨y,h2,h3⟩:=ag.mp h;obtain⟨p,rfl⟩:=Dk h1;obtain⟨p',rfl⟩:=Dk h2;exact .inr #[x,y,p,p',k,q,rfl,h3.symm]
 .exact nn (e.symm.trans h)
open PL (U SO bI Xn KU KX Spec bY)
noncomputable def sY:Option NameKind->Bool
 |some .local=>true
 |some .cell=>true
 |_=>false
noncomputable def B3:mK->Option PL.FD
 |.Add=>some .add|.Sub=>some .sub|.BitOr=>some .bor|_=>none
structure CG where
 s:Inf->Stmt->Option PL.Sm
 ss:Inf->List Stmt->Option PL.dh
noncomputable def WN(T:Tab)(F:CF)(G:CG)(I:Inf)(s:Stmt):Option PL.Sm:=match s with
  |.Assign ts e _=>(match ts with
   |[t]=>(match t with
    |.Name x _=>(match dy x I.N with
     |some i=>if sY (I.names.lookup x) then(F.e I e).map (.set i) else none
     |none=>none)
    |.Attribute o f _=>do
     let q <-pick T.uO f
     let x <-F.e I o
     let y <-F.e I e
     some (.iN x q y)
    |_=>none)
   |_=>none)
  |.AugAssign t op e _=>(match t with
   |.Name x _=>(match dy x I.N with
    |some i=>if sY (I.names.lookup x) then do
      let p <-B3 op
      let y <-F.e I e
      some (.aug i p y)
     else none
    |none=>none)
   |.Attribute o f _=>do
    let q <-pick T.uO f
    let p <-B3 op
    let x <-F.e I o
    let y <-F.e I e
    some (.vT x q p y)
   |.Subscript o i _=>if oZ i then do
     let p <-B3 op
     let x <-F.e I o
     let j <-F.e I i
     let y <-F.e I e
     some (.EE x j p y)
    else none
   |_=>none)
  |.Expr e _=>if yT e then(F.e I e).map .ex else none
  |.Return e _=>(match e with
   |some e=>(F.e I e).map .ret
   |none=>none)
  |.If c a b _=>do
   let c <-F.t I c
   let a <-G.ss I a
   let b <-G.ss I b
   some (.ifs c a b)
  |.While c b el _=>if el.isEmpty then do
    let c <-F.t I c
    let b <-G.ss I b
    some (.Ae c b)
   else none
  |.For tg it b el _=>if !(I.calm&&el.isEmpty) then none else(match KP tg with
   |some xs=>(match xs with
    |[x]=>(match dy x I.N with
     |some i=>if sY (I.names.lookup x) then do
       let it <-F.i I it
       let b <-G.ss I b
       some (.i8 (.name i) it b)
      else none
     |none=>none)
    |[x,y]=>(match dy x I.N with
     |some i=>(match dy y I.N with
      |some j=>if sY (I.names.lookup x)&&sY (I.names.lookup y) then do
        let it <-F.n I it
        let b <-G.ss I b
        some (.i8 (.pair i j) it b)
       else none
      |none=>none)
     |none=>none)
    |_=>none)
   |none=>none)
  |.Raise ex ca _=>(match ca with
   |some _=>some (.ex (.ix (.lit .bK) (.lit .bK)))
   |none=>(match ex with
    |some c=>(match c with
     |.Call f args kws _=>(match f with
      |.Name x _=>if kws.isEmpty&&I.gl x&&x !=("__debug__":Str)&&I.calm && !args.isEmpty then do
        let q <-pick T.yS x
        let as <-F.es I args
        if (PL.cJ q).isEmpty then none else some (.raise q as)
       else none
      |_=>none)
     |_=>none)
    |none=>none))
  |.Try b hs el fi _=>(match hs with
   |[h]=>(match h with
    |.ExceptHandler ty nm bd _=>(match ty with
     |some c=>(match c with
      |.Name x _=>(match nm with
       |some y=>(match bd with
        |h0::h=>if el.isEmpty&&fi.isEmpty&&I.gl x&&x !=("__debug__":Str)&&I.calm&&I.names.lookup y==some .local then
          (match dy y I.N with
          |some i=>do
           let q <-pick T.yS x
           let b <-G.ss I b
           let h <-G.ss {I with calm:=false} (h0::h)
           some (.Oe b q i h)
          |none=>none)
         else none
        |[]=>none)
       |none=>none)
      |_=>none)
     |none=>none))
   |_=>none)
  |_=>none
noncomputable def KR(G:CG)(I:Inf):List Stmt->Option PL.dh
 |[]=>some .nil
 |s::ss=>do
  let x <-G.s I s
  let xs <-G.ss I ss
  some (.cons x xs)
noncomputable def EN(T:Tab):Nat->CG
 |0=>#[λ_ _=>none,λ_ _=>none]
 |n+1=>#[WN T (qB T n) (EN T n),KR (EN T n)]
noncomputable abbrev cS(T:Tab)(n:Nat):Inf->Stmt->Option PL.Sm:=(EN T n).s
noncomputable abbrev Jr(T:Tab)(n:Nat):Inf->List Stmt->Option PL.dh:=(EN T n).ss
theorem WQ:cS T 0 I x=none:=rfl
theorem WR:cS T (n+1) I x=WN T (qB T n) (EN T n) I x:=rfl
theorem Sy:Jr T 0 I x=none:=rfl
theorem MI:Jr T (n+1) I x=KR (EN T n) I x:=rfl
open PySem.Spec PyProof.Rows PySem.W
open PL (U SO bI Xn KU KX Spec bY)
structure Ctx where
 P:bC
 w:bZ
 K:Frag
 mg:Str->Option Value
 base:Heap
 cls:String->Option Addr
 exc:String->Option Addr
noncomputable abbrev nm(s:String):Str:=b8 s
def xm(K:Frag)(H:Hp)(a:Addr)(vs:List V):Prop:=
 (∃o,H a=some (.Bt o (.lst vs))) \/
  ∃(o:Obj)(its:Array Value)(n:Nat),K.lookup a=some o/\o.cls=.type "list"/\o.dict=none/\o.data=.seq its n/\its.size<=sizeLine/\Vals vs its.toList
theorem xm.sq{K:Frag}{H:Hp}{a:Addr}{vs:List V}(h:xm K H a vs):gF K H a vs:=by
 rcases h with⟨o,h⟩|h
 .exact .inl (.inr #[o,h])
 .exact .inr h
section
variable(c:Ctx)(ρ:List Addr)(H:Hp)
mutual
noncomputable def Rep:U->V->Prop
 |.bK,v=>v=.bK
 |.bl b,v=>v=.bl b
 |.int i,v=>v=.int i
 |.str l,v=>v=.str (tx l)
 |.tup us,v=>∃a vs,v=.ref a/\H a=some (.tup vs)/\aT us vs
 |.loc n,v=>∃a,v=.ref a/\ρ[n]?=some a
 |.pC ns,v=>∃a,v=.ref a/\xm c.K H a (ns.map .int)
 |.tab kvs,v=>∃a,v=.ref a/\Ob c.K c.w.params a (kvs.map λp=>(tx p.1,V.str (tx p.2)))
 |.exc x us,v=>∃a d C fs,v=.ref a/\c.exc x=some C/\H a=some (.xc a (.ref C) (some d))/\H d=some (.xf d fs)/\fs.map (·.1)=(PL.cJ x).map nm/\aT us (fs.map (·.2))
noncomputable def aT:List U->List V->Prop
 |[],vs=>vs=[]
 |u::us,vs=>∃v r,vs=v::r/\Rep u v/\aT us r
end
def vX(a:Addr):SO->Prop
 |.lst us=>∃vs,H a=some (.lst vs)/\aT c ρ H us vs
 |.ins x fs=>∃C dx vs,c.cls x=some C/\H a=some (.ins C dx vs)/\vs.map (·.1)=(fs.map (·.1)).map nm/\aT c ρ H (fs.map (·.2)) (vs.map (·.2))
 |.vG kvs=>∃vs,H a=some (.dK vs)/\vs.length=kvs.length/\aT c ρ H (kvs.map (·.1)) (vs.map λp=>kV p.1)/\aT c ρ H (kvs.map (·.2)) (vs.map (·.2))
structure cj(S:bI):Prop where
 len:ρ.length=S.length
 nd:ρ.Nodup
 at_:∀(n:Nat)(a:Addr)(o:SO),ρ[n]?=some a->S[n]?=some o->vX c ρ H a o
end
structure iz(ρ:List Addr)(H:Hp)(ρ':List Addr)(H':Hp):Prop where
 pre:∃more,ρ'=ρ++more
 new:∀b∈ρ',b∉ρ->H b=none
 fr:∀b o,H b=some o->b∉ρ->H' b=some o
section
variable{c:Ctx}{ρ ρ' ρ'':List Addr}{H H' H'':Hp}{S S':bI}
theorem iz.refl:iz ρ H ρ H:=#[#[[],by simp],λ_ h n=>absurd h n,λ_ _ h _=>h]
theorem iz.trans(a:iz ρ H ρ' H')(b:iz ρ' H' ρ'' H''):iz ρ H ρ'' H'':=by
 obtain⟨m1,e1⟩:=a.pre;obtain⟨m2,e2⟩:=b.pre;refine#[#[m1++m2,by rw[e2,e1,bj]],λx hx nx=>?_,λx o h nx=>?_]
 .by_cases z:x∈ρ'
  .exact a.new x z nx
  .cases q:H x with
   |none=>rfl
   |some o=>exact absurd (a.fr x o q nx) (by rw[b.new x hx z];simp)
 .have q:=a.fr x o h nx
  by_cases z:x∈ρ'
  .exact absurd (a.new x z nx) (by rw[h];simp)
  .exact b.fr x o q z
theorem iz.get(a:iz ρ H ρ' H'){n:Nat}{b:Addr}(h:ρ[n]?=some b):ρ'[n]?=some b:=by
 obtain⟨m,e⟩:=a.pre;rw[e,ao (by obtain⟨h,_⟩:=ae.mp h;exact h)]
 exact h
noncomputable def yU:HO->Bool
 |.lst _=>true
 |.ins _ _ _=>true
 |.dK _=>true
 |_=>false
theorem cj.obj(R:cj c ρ H S)(h:b∈ρ):∃o,H b=some o/\yU o=true:=by
 obtain⟨n,hn,e⟩:=D7 h;have hn':n<S.length:=R.len▸hn;have q:=R.at_ n b S[n] (by rw[aa hn,e]) (aa hn');cases o:S[n] with
 |lst us=>rw[o] at q;obtain⟨vs,h,_⟩:=q;exact#[_,h,rfl]
 |ins x fs=>rw[o] at q;obtain⟨C,dx,vs,_,h,_⟩:=q;exact#[_,h,rfl]
 |vG kvs=>rw[o] at q;obtain⟨vs,h,_⟩:=q;exact#[_,h,rfl]
theorem cj.not(R:cj c ρ H S)(h:H b=some o)(q:yU o=false):b∉ρ:=λz=>by
 obtain⟨o',h',q'⟩:=R.obj z;rw[h] at h';injection h' with e;subst e
 rw[q] at q';exact Jf q'
theorem cj.KS(R:cj c ρ H S)(h:H b=none):b∉ρ:=λz=>by
 obtain⟨o',h',_⟩:=R.obj z;rw[h] at h';cases h'
mutual
theorem Rep.jC(p:∃more,ρ'=ρ++more)(k:∀b o,H b=some o->yU o=false->H' b=some o):∀{u:U}{v:V},Rep c ρ H u v->Rep c ρ' H' u v
 |.bK,_,h=>by unfold Rep at h ⊢;exact h
 |.bl _,_,h=>by unfold Rep at h ⊢;exact h
 |.int _,_,h=>by unfold Rep at h ⊢;exact h
 |.str _,_,h=>by unfold Rep at h ⊢;exact h
 |.tup us,_,h=>by
  unfold Rep at h ⊢;obtain⟨x,vs,e,hx,hs⟩:=h;exact#[x,vs,e,k x _ hx rfl,aT.jC p k hs]
 |.loc n,_,h=>by
  unfold Rep at h ⊢;obtain⟨x,e,hx⟩:=h;obtain⟨m,rfl⟩:=p;exact#[x,e,by rw[ao (by obtain⟨h,_⟩:=ae.mp hx;exact h)];exact hx]
 |.pC ns,_,h=>by
  unfold Rep at h ⊢;obtain⟨x,e,hx⟩:=h;rcases hx with⟨o,hx⟩|hx
  .exact#[x,e,.inl #[o,k x _ hx rfl]]
  .exact#[x,e,.inr hx]
 |.tab _,_,h=>by unfold Rep at h ⊢;exact h
 |.exc x us,_,h=>by
  unfold Rep at h ⊢;obtain⟨b,d,C,fs,e,hC,hb,hd,hk,hs⟩:=h;exact#[b,d,C,fs,e,hC,k b _ hb rfl,k d _ hd rfl,hk,aT.jC p k hs]
theorem aT.jC(p:∃more,ρ'=ρ++more)(k:∀b o,H b=some o->yU o=false->H' b=some o):∀{us:List U}{vs:List V},aT c ρ H us vs->aT c ρ' H' us vs
 |[],_,h=>by unfold aT at h ⊢;exact h
 |u::us,_,h=>by
  unfold aT at h ⊢;obtain⟨v,r,e,h1,h2⟩:=h;exact#[v,r,e,Rep.jC p k h1,aT.jC p k h2]
end
theorem vX.jC(p:∃more,ρ'=ρ++more)(m:∀b o,H b=some o->yU o=false->H' b=some o)(h:vX c ρ H b o)(k:H' b=H b):vX c ρ' H' b o:=by
 cases o with
 |lst us=>obtain⟨vs,h1,h2⟩:=h;exact#[vs,k.trans h1,h2.jC p m]
 |ins x fs=>obtain⟨C,dx,vs,h0,h1,h2,h3⟩:=h;exact#[C,dx,vs,h0,k.trans h1,h2,h3.jC p m]
 |vG kvs=>obtain⟨vs,h1,h2,h3,h4⟩:=h;exact#[vs,k.trans h1,h2,h3.jC p m,h4.jC p m]
theorem iz.WU(R:cj c ρ H S)(a:iz ρ H ρ' H'):∀b o,H b=some o->yU o=false->H' b=some o:=λb o h q=>a.fr b o h (R.not h q)
theorem Rep.mono(R:cj c ρ H S)(a:iz ρ H ρ' H')(h:Rep c ρ H u v):Rep c ρ' H' u v:=h.jC a.pre (a.WU R)
theorem aT.mono(R:cj c ρ H S)(a:iz ρ H ρ' H')(h:aT c ρ H us vs):aT c ρ' H' us vs:=h.jC a.pre (a.WU R)
theorem vX.mono(R:cj c ρ H S)(a:iz ρ H ρ' H')(h:vX c ρ H b o)(k:H' b=H b):vX c ρ' H' b o:=h.jC a.pre (a.WU R) k
theorem Dl(hD:H D=some o)(q:yU o=true):∀b o,H b=some o->yU o=false->upd H D ho b=some o:=λb o' h z=>by
 rw[bw]
 .exact h
 .intro e;subst e;rw[hD] at h;injection h with h;subst h;rw[q] at z;exact Jf z
theorem cj.Hr(R:cj c ρ H S)(ho:HO)(hD:H D=some o)(q:yU o=true)(n:D∉ρ):cj c ρ (upd H D ho) S:=
 #[R.len,R.nd,λm b o' h1 h2=>(R.at_ m b o' h1 h2).jC #[[],by simp] (Dl hD q) (bw λe=>n (e▸aw h1))]
theorem cj.join(R:cj c ρ H S)(n:D∉ρ)(h:vX c ρ H D o):cj c (ρ++[D]) H (S++[o]):=by
 have p:∃more,ρ++[D]=ρ++more:=#[[D],rfl]
 refine#[by simp[R.len],?_,λm a o' h1 h2=>?_]
 .rw[me]
  exact#[R.nd,by simp,λx hx y hy=>by rw[fP.mp hy];exact λe=>n (e▸hx)]
 .by_cases z:m<ρ.length
  .rw[ao z] at h1
   rw[ao (R.len▸z)] at h2;exact(R.at_ m a o' h1 h2).jC p (λ_ _ h _=>h) rfl
  .have hz:m=ρ.length:=by
    obtain⟨q,_⟩:=ae.mp h1;simp at q;omega
   subst hz;rw[ay (ax _),cq] at h1;rw[R.len,ay (ax _),cq] at h2;simp at h1 h2;rw[<-h1,<-h2];exact h.jC p (λ_ _ h _=>h) rfl
theorem iz.alloc(R:cj c ρ H S)(hp:H p=none)(o:HO):iz ρ H (ρ++[p]) (upd H p o):=by
 refine#[#[[p],rfl],λb hb nb=>?_,λb o h nb=>?_]
 .rcases aD.mp hb with h|h
  .exact absurd h nb
  .rw[fP.mp h];exact hp
 .rw[bw (fw h hp)];exact h
theorem cj.alloc(R:cj c ρ H S)(hp:H p=none)(h:vX c (ρ++[p]) (upd H p ho) p o):cj c (ρ++[p]) (upd H p ho) (S++[o]):=by
 have st:=iz.alloc R hp ho;refine#[by simp[R.len],?_,λn a o' h1 h2=>?_]
 .rw[me]
  exact#[R.nd,by simp,λx hx y hy=>by rw[fP.mp hy];exact λe=>R.KS hp (e▸hx)]
 .by_cases z:n<ρ.length
  .rw[ao z] at h1
   rw[ao (R.len▸z)] at h2;refine(R.at_ n a o' h1 h2).mono R st (bw λe=>?_);exact R.KS hp (e▸aw h1)
  .have hz:n=ρ.length:=by
    obtain⟨q,_⟩:=ae.mp h1;simp at q;omega
   subst hz;rw[ay (ax _),cq] at h1;rw[R.len,ay (ax _),cq] at h2;simp at h1 h2;rw[<-h1,<-h2];exact h
theorem iz.lay(R:cj c ρ H S)(hp:H p=none)(o:HO):iz ρ H ρ (upd H p o):=
 #[#[[],by simp],λ_ h n=>absurd h n,λb _ h _=>by rw[bw (fw h hp)];exact h]
theorem cj.lay(R:cj c ρ H S)(hp:H p=none)(o:HO):cj c ρ (upd H p o) S:=
 #[R.len,R.nd,λn a o' h1 h2=>(R.at_ n a o' h1 h2).mono R (iz.lay R hp o) (bw λe=>R.KS hp (e▸aw h1))]
theorem iz.put(h:a∈ρ)(o:HO):iz ρ H ρ (upd H a o):=
 #[#[[],by simp],λ_ h n=>absurd h n,λb _ q nb=>by rw[bw (show b≠a from λe=>nb (by rw[e];exact h))];exact q]
theorem cj.put(R:cj c ρ H S)(ha:ρ[n]?=some a)(h:vX c ρ (upd H a ho) a o):cj c ρ (upd H a ho) (S.set n o):=by
 have hm:=aw ha;refine#[by simp[R.len],R.nd,λm b o' h1 h2=>?_];by_cases z:m=n
 .subst z
  rw[ha] at h1;injection h1 with h1;subst h1
  have hl:m<S.length:=R.len▸(ae.mp ha).1;rw[bU hl] at h2;injection h2 with h2;subst h2;exact h
 .rw[av (dJ z)] at h2
  refine(R.at_ m b o' h1 h2).mono R (iz.put hm ho) (bw λe=>z ?_);subst e;obtain⟨l1,e1⟩:=ae.mp h1;obtain⟨l2,e2⟩:=ae.mp ha;exact(Jb R.nd).mp (e1.trans e2.symm)
theorem aT.len:∀{us:List U}{vs:List V},aT c ρ H us vs->us.length=vs.length
 |[],_,h=>by unfold aT at h;subst h;rfl
 |_::us,_,h=>by
  unfold aT at h;obtain⟨v,r,e,_,h2⟩:=h;subst e;rw[aQ,aQ,aT.len h2]
theorem aT.nil:aT c ρ H [] []:=by unfold aT;rfl
theorem aT.cons(h:Rep c ρ H u v)(t:aT c ρ H us vs):aT c ρ H (u::us) (v::vs):=by unfold aT;exact#[v,vs,rfl,h,t]
theorem aT.app:∀{us ws:List U}{vs xs:List V},aT c ρ H us vs->aT c ρ H ws xs->aT c ρ H (us++ws) (vs++xs)
 |[],_,_,_,h,k=>by unfold aT at h;subst h;exact k
 |u::us,_,_,_,h,k=>by
  unfold aT at h;obtain⟨v,r,e,h1,h2⟩:=h;subst e;exact aT.cons h1 (aT.app h2 k)
theorem aT.get:∀{us:List U}{vs:List V}{n:Nat}{u:U},aT c ρ H us vs->us[n]?=some u->∃v,vs[n]?=some v/\Rep c ρ H u v
 |[],_,_,_,_,e=>by simp at e
 |u::us,_,n,_,h,e=>by
  unfold aT at h;obtain⟨v,r,e',h1,h2⟩:=h;subst e';cases n with
  |zero=>simp at e;subst e;exact#[v,rfl,h1]
  |succ n=>simp at e ⊢;exact aT.get h2 e
theorem aT.take:∀{us:List U}{vs:List V}(n:Nat),aT c ρ H us vs->aT c ρ H (us.take n) (vs.take n)
 |_,_,0,_=>by simp only[List.take_zero];exact aT.nil
 |[],_,_+1,h=>by unfold aT at h;subst h;simp only[List.take_nil];exact aT.nil
 |u::us,_,n+1,h=>by
  unfold aT at h;obtain⟨v,r,e,h1,h2⟩:=h;subst e;exact aT.cons h1 (aT.take n h2)
theorem aT.drop:∀{us:List U}{vs:List V}(n:Nat),aT c ρ H us vs->aT c ρ H (us.drop n) (vs.drop n)
 |_,_,0,h=>h
 |[],_,_+1,h=>by unfold aT at h;subst h;simp only[List.drop_nil];exact aT.nil
 |u::us,_,n+1,h=>by
  unfold aT at h;obtain⟨v,r,e,h1,h2⟩:=h;subst e;exact aT.drop n h2
end
open PL (U SO bI Xn KU KX Spec bY)
noncomputable abbrev Cx.at_(X:Cx)(pZ:List (Addr×Obj))(E:St->XK):Cx:={X with pn:=X.pn++pZ,xe:=RP X pZ E}
section
variable{X:Cx}{pZ pins':List (Addr×Obj)}{E:St->XK}{σ:St}{H:Hp}{s:ak}
theorem Cx.Ok.at_(ok:X.Ok):(X.at_ pZ E).Ok:=
 #[ok.mod,ok.kind,ok.glob,ok.blt,ok.above,ok.inj,ok.has,ok.Mr,ok.hd,ok.frames,ok.Ei,ok.Q2,ok.bs,ok.FA,ok.zU,ok.Bu,ok.pP,ok.Jo]
theorem Cx.Ok.oq(ok:(X.at_ pZ E).Ok):X.Ok:=
 #[ok.mod,ok.kind,ok.glob,ok.blt,ok.above,ok.inj,ok.has,ok.Mr,ok.hd,ok.frames,ok.Ei,ok.Q2,ok.bs,ok.FA,ok.zU,ok.Bu,ok.pP,ok.Jo]
theorem Inv.at_(I:Inv X pZ σ H s):Inv (X.at_ pZ E) [] σ H s:=
 #[I.ok.at_,I.os,I.bare,I.base,I.loc,I.cell,I.free,I.km,λp hp=>I.pin p (by simpa using hp),I.dg,I.len]
theorem Inv.oq(I:Inv (X.at_ pZ E) pins' σ H s):Inv X pZ σ H s:=
 #[I.ok.oq,I.os,I.bare,I.base,I.loc,I.cell,I.free,I.km,λp hp=>I.pin p (aD.mpr (.inl hp)),I.dg,I.len]
theorem BM.oq(h:BM (X.at_ pZ E) pins' H b):BM X pZ H b:=
 #[h.1,h.2.1,h.2.2.1,h.2.2.2.1,λp hp=>h.2.2.2.2 p (aD.mpr (.inl hp))]
theorem XE.oq(h:XE (X.at_ pZ E) pins' σ (E σ) e s):RP X pZ E e s:=by
 obtain⟨a,tb,cl,dx,H',e1,I,x,f,q⟩:=h;exact#[σ,a,tb,cl,dx,H',e1,I.oq,x,λb hb=>(f b hb).oq,q]
abbrev atS(σ:St)(E:XK):St->XK:=λσ' cl dx H=>σ'=σ/\E cl dx H
theorem uS(σ:St)(E:XK):atS σ E σ=E:=by
 funext cl dx H
 exact propext #[λh=>h.2,λh=>#[rfl,h]]
theorem RP.one{e:Value}{E:XK}(h:RP X pZ (atS σ E) e s):XE X pZ σ E e s:=by
 obtain⟨σ',a,tb,cl,dx,H',e1,I,x,f,q,w⟩:=h;subst q;exact#[a,tb,cl,dx,H',e1,I,x,f,w]
theorem EP.oq(h:EP (X.at_ pZ E) pins' σ Q u s):EP X pZ σ Q u s:=by
 obtain⟨v,H',I,r,q⟩:=h;exact#[v,H',I.oq,r,q]
end
def B4(X:Cx)(e:Expr)(t:XK->TT):Prop:=
 ∀(pZ:List (Addr×Obj))(s:ak)(σ:St)(H:Hp)(Q:Bool->Hp->Prop)(E:XK),Inv X pZ σ H s->t E σ H Q->wpAny (aR X.prog X.w) X.A (isTrue e X.env (eval e X.env)) (TP X pZ σ Q) (XE X pZ σ E) s
def Aq(X:Cx)(es:List Expr)(t:XK->TA):Prop:=
 ∀(pos:Pos)(pZ:List (Addr×Obj))(s:ak)(σ:St)(H:Hp)(Q:List V->Hp->Prop)(E:XK),Inv X pZ σ H s->t E σ H Q->wpAny (aR X.prog X.w) X.A (spliced (iL pos (bS es X.env))) (AP X pZ σ Q) (XE X pZ σ E) s
section
variable{X:Cx}{pZ:List (Addr×Obj)}{e:Expr}{es:List Expr}
theorem PE.imp(h:PE X e t)(q:∀σ H Q,t' σ H Q->t σ H Q):PE X e t':=λpZ s σ H Q I z=>h pZ s σ H Q I (q σ H Q z)
theorem PT.imp(h:PT X e t)(q:∀σ H Q,t' σ H Q->t σ H Q):PT X e t':=λpZ s σ H Q I z=>h pZ s σ H Q I (q σ H Q z)
theorem up(h:∀pZ E,PE (X.at_ pZ E) e (λσ H Q=>t (E σ) σ H Q)):eM X e t:=by
 intro pZ s σ H Q E I z;refine bL (h pZ (atS σ E) [] s σ H Q I.at_ (by show t (atS σ E σ) σ H Q;rw[uS];exact z)) (λu s' q=>q.oq) λu s' q=>q.one
theorem dn(h:eM (X.at_ pZ E) e t):PE (X.at_ pZ E) e (λσ H Q=>t (E σ) σ H Q):=by
 intro pins' s σ H Q I z;exact bL (h pins' s σ H Q (E σ) I z) (λu s' q=>q) λu s' q=>q.oq
theorem Vn(h:∀pZ E,PT (X.at_ pZ E) e (λσ H Q=>t (E σ) σ H Q)):B4 X e t:=by
 intro pZ s σ H Q E I z;refine bL (h pZ (atS σ E) [] s σ H Q I.at_ (by show t (atS σ E σ) σ H Q;rw[uS];exact z)) (λu s' #[H',I',q]=>#[H',I'.oq,q]) λu s' q=>q.one
theorem QL(h:B4 (X.at_ pZ E) e t):PT (X.at_ pZ E) e (λσ H Q=>t (E σ) σ H Q):=by
 intro pins' s σ H Q I z;exact bL (h pins' s σ H Q (E σ) I z) (λu s' q=>q) λu s' q=>q.oq
theorem Yv(h:∀pZ E,PA (X.at_ pZ E) es (λσ H Q=>t (E σ) σ H Q)):Aq X es t:=by
 intro pos pZ s σ H Q E I z;refine bL (h pZ (atS σ E) pos [] s σ H Q I.at_ (by show t (atS σ E σ) σ H Q;rw[uS];exact z)) (λu s' #[vs,H',I',r,q]=>#[vs,H',I'.oq,r,q]) λu s' q=>q.one
theorem B5(h:Aq (X.at_ pZ E) es t):PA (X.at_ pZ E) es (λσ H Q=>t (E σ) σ H Q):=by
 intro pos pins' s σ H Q I z;exact bL (h pos pins' s σ H Q (E σ) I z) (λu s' q=>q) λu s' q=>q.oq
end
structure iJ(c:Ctx)(ρ:List Addr)(H:Hp)(env:PL.Env)(σ:St):Prop where
 len:env.length=σ.length
 at_:∀(i:Nat)u,env[i]?=some (some u)->∃v,σ[i]?=some (some v)/\Rep c ρ H u v
def ExcAt(c:Ctx)(ρ:List Addr)(H:Hp)(x:Xn)(C d:Addr):Prop:=c.exc x.c=some C/\∃fs,H d=some (.xf d fs)/\fs.map (·.1)=(PL.cJ x.c).map nm/\aT c ρ H x.us (fs.map (·.2))
section
variable(c:Ctx)(ρ:List Addr)(H:Hp)
def QV(QU:KU)(Q:VK):Prop:=∀u S' v H' ρ',QU u S'->iz ρ H ρ' H'->cj c ρ' H' S'->Rep c ρ' H' u v->Q v H'
def QB(QU:Bool->bI->Prop)(Q:Bool->Hp->Prop):Prop:=∀b S' H' ρ',QU b S'->iz ρ H ρ' H'->cj c ρ' H' S'->Q b H'
def QA(QU:List U->bI->Prop)(Q:List V->Hp->Prop):Prop:=∀us S' vs H' ρ',QU us S'->iz ρ H ρ' H'->cj c ρ' H' S'->aT c ρ' H' us vs->Q vs H'
def QX(EU:KX)(E:XK):Prop:=∀x S' H' ρ' C d,EU x S'->iz ρ H ρ' H'->cj c ρ' H' S'->ExcAt c ρ' H' x C d->E (.ref C) (some d) H'
end
section
variable{c:Ctx}{ρ ρ':List Addr}{H H':Hp}{S:bI}
theorem QV.later(q:QV c ρ H QU Q)(a:iz ρ H ρ' H'):QV c ρ' H' QU Q:=λu S' v H2 ρ2 h b R r=>q u S' v H2 ρ2 h (a.trans b) R r
theorem QB.later(q:QB c ρ H QU Q)(a:iz ρ H ρ' H'):QB c ρ' H' QU Q:=λu S' H2 ρ2 h b R=>q u S' H2 ρ2 h (a.trans b) R
theorem QX.later(q:QX c ρ H EU E)(a:iz ρ H ρ' H'):QX c ρ' H' EU E:=λx S' H2 ρ2 C d h b R r=>q x S' H2 ρ2 C d h (a.trans b) R r
theorem QV.now(q:QV c ρ H QU Q)(R:cj c ρ H S)(h:QU u S)(r:Rep c ρ H u v):Q v H:=q u S v H ρ h .refl R r
theorem iJ.later(h:iJ c ρ H env σ)(R:cj c ρ H S)(a:iz ρ H ρ' H'):iJ c ρ' H' env σ:=
 #[h.len,λi u e=>by obtain⟨v,h1,h2⟩:=h.at_ i u e;exact#[v,h1,h2.mono R a]]
end
section
variable(c:Ctx)(Γ:bY)
def tE(x:PL.Ex):XK->TE:=λE σ H Q=>∃env ρ S QU EU,iJ c ρ H env σ/\cj c ρ H S/\PL.WE Γ x env S QU EU/\QV c ρ H QU Q/\QX c ρ H EU E
def tT(x:PL.Tx):XK->TT:=λE σ H Q=>∃env ρ S QU EU,iJ c ρ H env σ/\cj c ρ H S/\PL.WT Γ x env S QU EU/\QB c ρ H QU Q/\QX c ρ H EU E
def EO(x:PL.yJ):XK->TA:=λE σ H Q=>∃env ρ S QU EU,iJ c ρ H env σ/\cj c ρ H S/\PL.uG Γ x env S QU EU/\QA c ρ H QU Q/\QX c ρ H EU E
end
open PL (U SO bI Xn KU KX Spec bY)
theorem pH(h:n<=1000000):n<=sizeLine:=aS h ⋯
section
variable{c:Ctx}{ρ:List Addr}{H:Hp}{S:bI}
theorem d8:Rep c ρ H .bK v↔v=.bK:=by unfold Rep;exact jO
theorem dG:Rep c ρ H (.bl b) v↔v=.bl b:=by unfold Rep;exact jO
theorem aN:Rep c ρ H (.int b) v↔v=.int b:=by unfold Rep;exact jO
theorem bq:Rep c ρ H (.str b) v↔v=.str (tx b):=by unfold Rep;exact jO
theorem dz:Rep c ρ H (.tup us) v↔∃a vs,v=.ref a/\H a=some (.tup vs)/\aT c ρ H us vs:=by unfold Rep;exact jO
theorem iR:Rep c ρ H (.loc n) v↔∃a,v=.ref a/\ρ[n]?=some a:=by unfold Rep;exact jO
theorem qC:Rep c ρ H (.pC ns) v↔∃a,v=.ref a/\xm c.K H a (ns.map .int):=by unfold Rep;exact jO
theorem tJ:Rep c ρ H (.tab kvs) v↔∃a,v=.ref a/\Ob c.K c.w.params a (kvs.map λp=>(tx p.1,V.str (tx p.2))):=by unfold Rep;exact jO
theorem cj.lst(R:cj c ρ H S)(h:S[n]?=some (.lst us))(r:Rep c ρ H (.loc n) v):∃a vs,v=.ref a/\ρ[n]?=some a/\H a=some (.lst vs)/\aT c ρ H us vs:=by
 obtain⟨a,e,ha⟩:=iR.mp r;obtain⟨vs,h1,h2⟩:=R.at_ n a _ ha h;exact#[a,vs,e,ha,h1,h2]
theorem cj.ins(R:cj c ρ H S)(h:S[n]?=some (.ins x fs))(r:Rep c ρ H (.loc n) v):∃a C dx vs,v=.ref a/\ρ[n]?=some a/\c.cls x=some C/\H a=some (.ins C dx vs)/\vs.map (·.1)=(fs.map (·.1)).map nm/\aT c ρ H (fs.map (·.2)) (vs.map (·.2)):=by
 obtain⟨a,e,ha⟩:=iR.mp r;obtain⟨C,dx,vs,h0,h1,h2,h3⟩:=R.at_ n a _ ha h;exact#[a,C,dx,vs,e,ha,h0,h1,h2,h3]
theorem QV.Hs(q:QV c ρ H QU Q)(R:cj c ρ H S)(r:aT c ρ H us vs)(h:QU (.loc S.length) (S++[.lst us]))(hp:H p=none):Q (.ref p) (upd H p (.lst vs)):=by
 have st:=iz.alloc R hp (.lst vs);have R':cj c (ρ++[p]) (upd H p (.lst vs)) (S++[.lst us]):=R.alloc hp #[vs,bJ,r.mono R st];refine q _ _ _ _ _ h st R' (iR.mpr #[p,rfl,?_]);rw[<-R.len,ay (ax _),cq];rfl
theorem QV.KW(q:QV c ρ H QU Q)(R:cj c ρ H S)(r:aT c ρ H us vs)(h:QU (.tup us) S)(hp:H p=none):Q (.ref p) (upd H p (.tup vs)):=by
 have st:=iz.lay R hp (.tup vs);exact q _ _ _ _ _ h st (R.lay hp _) (dz.mpr #[p,vs,rfl,bJ,r.mono R st])
end
noncomputable def vY(c:Ctx)(o:PL.FD):R2:=λx y H Q=>∃ux uy ρ S QU,Rep c ρ H ux x/\Rep c ρ H uy y/\cj c ρ H S/\PL.jK o ux uy S QU/\QV c ρ H QU Q
noncomputable def KY:PL.FD->mK
 |.add=>.Add|.sub=>.Sub|.mul=>.Mult|.fdiv=>.FloorDiv|.mod=>.Mod|.band=>.BitAnd|.bor=>.BitOr|.shl=>.LShift|.shr=>.RShift
section
variable{X:Cx}{c:Ctx}
theorem KZ:gu X (cy .Add) (vY c .add):=by
 intro pZ s σ H x y v u Q I rx ry h;obtain⟨ux,uy,ρ,S,QU,hx,hy,R,w,q⟩:=h;cases ux<;>first|exact aI w|skip
 .rename_i i
  obtain⟨j,rfl,w⟩:=PL.eQ.mp w;exact Ny pZ s σ H x y v u Q I rx ry #[i,j,aN.mp hx,aN.mp hy,q.now R w (aN.mpr rfl)]
 .rename_i a
  obtain⟨b,rfl,w⟩:=PL.oO.mp w;exact EC pZ s σ H x y v u Q I rx ry #[a,b,bq.mp hx,bq.mp hy,pH w.1,q.now R w.2 (bq.mpr rfl)]
 .rename_i us
  obtain⟨ws,rfl,w⟩:=PL.Kx.mp w;obtain⟨a,vs,e1,h1,r1⟩:=dz.mp hx;obtain⟨b,zs,e2,h2,r2⟩:=dz.mp hy;obtain⟨w1,w2⟩:=w;by_cases w0:us=[]
  .subst w0
   have ev:vs=[]:=fK (by rw[<-r1.len];rfl);subst ev;exact Ha pZ s σ H x y v u Q I rx ry #[a,b,zs,e1,e2,lS.of h1,lS.of h2,by rw[<-e2];exact q.now R w2 hy]
  refine Kc pZ s σ H x y v u Q I rx ry #[a,b,vs,zs,e1,e2,lS.of h1,lS.of h2,λe=>w0 ?_,pH (by rw[<-r1.len,<-r2.len];exact w1),λe=>?_,λ_ p hp=>?_]
  .exact fK (by rw[r1.len,e];rfl)
  .have e3:ws=[]:=fK (by rw[r2.len,e];rfl)
   subst e3;rw[bb] at w2;rw[<-e1]
   exact q.now R w2 hx
  .exact q.KW R (r1.app r2) w2 hp
 .rename_i m
  obtain⟨n,rfl,w⟩:=PL.k6.mp w;obtain⟨us,h1,w1⟩:=PL.cD.mp w;obtain⟨ws,h2,w2,w3⟩:=PL.cD.mp w1;obtain⟨a,vs,e1,_,g1,r1⟩:=R.lst h1 hx;obtain⟨b,zs,e2,_,g2,r2⟩:=R.lst h2 hy;exact N1 pZ s σ H x y v u Q I rx ry #[a,b,vs,zs,e1,e2,g1,g2,pH (by rw[<-r1.len,<-r2.len];exact w2),λp hp=>q.Hs R (r1.app r2) w3 hp]
theorem K0:gu X (cy .Sub) (vY c .sub):=by
 intro pZ s σ H x y v u Q I rx ry h;obtain⟨ux,uy,ρ,S,QU,hx,hy,R,w,q⟩:=h;obtain⟨i,j,rfl,rfl,w⟩:=PL.ko w;exact Nz pZ s σ H x y v u Q I rx ry #[i,j,aN.mp hx,aN.mp hy,q.now R w (aN.mpr rfl)]
theorem K1:gu X (cy .Mult) (vY c .mul):=by
 intro pZ s σ H x y v u Q I rx ry h;obtain⟨ux,uy,ρ,S,QU,hx,hy,R,w,q⟩:=h;cases ux<;>first|exact aI w|skip
 .rename_i i
  obtain⟨j,rfl,w⟩:=PL.eQ.mp w;exact NA pZ s σ H x y v u Q I rx ry #[i,j,aN.mp hx,aN.mp hy,w.1,q.now R w.2 (aN.mpr rfl)]
 .rename_i a
  obtain⟨j,rfl,w⟩:=PL.eQ.mp w;obtain⟨k,e,w0,w1,w2⟩:=w;subst e;obtain⟨n,rfl⟩:=Int.eq_ofNat_of_zero_le w0;exact ED pZ s σ H x y v u Q I rx ry #[k,n,bq.mp hx,aN.mp hy,∅,q.now R (by simpa using w2) (bq.mpr rfl)]
theorem Ht:gu X (cy .FloorDiv) (vY c .fdiv):=by
 intro pZ s σ H x y v u Q I rx ry h;obtain⟨ux,uy,ρ,S,QU,hx,hy,R,w,q⟩:=h;obtain⟨i,j,rfl,rfl,w⟩:=PL.ko w;exact JT pZ s σ H x y v u Q I rx ry #[i,j,aN.mp hx,aN.mp hy,w.1,q.now R w.2 (aN.mpr rfl)]
theorem K2:gu X (cy .Mod) (vY c .mod):=by
 intro pZ s σ H x y v u Q I rx ry h;obtain⟨ux,uy,ρ,S,QU,hx,hy,R,w,q⟩:=h;obtain⟨i,j,rfl,rfl,w⟩:=PL.ko w;exact NB pZ s σ H x y v u Q I rx ry #[i,j,aN.mp hx,aN.mp hy,w.1,q.now R w.2 (aN.mpr rfl)]
theorem Hu:gu X (cy .BitAnd) (vY c .band):=by
 intro pZ s σ H x y v u Q I rx ry h;obtain⟨ux,uy,ρ,S,QU,hx,hy,R,w,q⟩:=h;obtain⟨i,j,rfl,rfl,w⟩:=PL.ko w;exact NF pZ s σ H x y v u Q I rx ry #[i,j,aN.mp hx,aN.mp hy,by dsimp only;rw[yP w.1.1 w.1.2];exact q.now R w.2 (aN.mpr rfl)]
theorem K3:gu X (cy .BitOr) (vY c .bor):=by
 intro pZ s σ H x y v u Q I rx ry h;obtain⟨ux,uy,ρ,S,QU,hx,hy,R,w,q⟩:=h;obtain⟨i,j,rfl,rfl,w⟩:=PL.ko w;exact Ro pZ s σ H x y v u Q I rx ry #[i,j,aN.mp hx,aN.mp hy,by dsimp only;rw[BZ w.1.1 w.1.2];exact q.now R w.2 (aN.mpr rfl)]
theorem K4:gu X (cy .LShift) (vY c .shl):=by
 intro pZ s σ H x y v u Q I rx ry h;obtain⟨ux,uy,ρ,S,QU,hx,hy,R,w,q⟩:=h;obtain⟨i,j,rfl,rfl,w⟩:=PL.ko w;obtain⟨⟨w1,w2,w3,w4⟩,w5⟩:=w;exact NC pZ s σ H x y v u Q I rx ry #[i,j,aN.mp hx,aN.mp hy,#[w3,∅,∅],q.now R w5 (aN.mpr rfl)]
theorem K5:gu X (cy .RShift) (vY c .shr):=by
 intro pZ s σ H x y v u Q I rx ry h;obtain⟨ux,uy,ρ,S,QU,hx,hy,R,w,q⟩:=h;obtain⟨i,j,rfl,rfl,w⟩:=PL.ko w;exact ND pZ s σ H x y v u Q I rx ry #[i,j,aN.mp hx,aN.mp hy,w.1.2,q.now R w.2 (aN.mpr rfl)]
noncomputable def ER(c:Ctx)(o:PL.FD):R2:=λx y H Q=>∃ux uy ρ S QU,Rep c ρ H ux x/\Rep c ρ H uy y/\cj c ρ H S/\PL.sW o ux uy S QU/\QV c ρ H QU Q
theorem Hv:gu X (gO .Add) (ER c .add):=by
 intro pZ s σ H x y v u Q I rx ry h;obtain⟨ux,uy,ρ,S,QU,hx,hy,R,w,q⟩:=h;cases ux<;>first|exact aI w|skip
 .rename_i i
  obtain⟨j,rfl,w⟩:=PL.eQ.mp w;exact JU pZ s σ H x y v u Q I rx ry #[i,j,aN.mp hx,aN.mp hy,q.now R w (aN.mpr rfl)]
 .rename_i a
  obtain⟨b,rfl,w⟩:=PL.oO.mp w;exact BR pZ s σ H x y v u Q I rx ry #[a,b,bq.mp hx,bq.mp hy,pH w.1,q.now R w.2 (bq.mpr rfl)]
theorem Hw:gu X (gO .Sub) (ER c .sub):=by
 intro pZ s σ H x y v u Q I rx ry h;obtain⟨ux,uy,ρ,S,QU,hx,hy,R,w,q⟩:=h;cases ux<;>first|exact aI w|skip
 rename_i i;obtain⟨j,rfl,w⟩:=PL.eQ.mp w;exact JV pZ s σ H x y v u Q I rx ry #[i,j,aN.mp hx,aN.mp hy,q.now R w (aN.mpr rfl)]
theorem Hx:gu X (gO .BitOr) (ER c .bor):=by
 intro pZ s σ H x y v u Q I rx ry h;obtain⟨ux,uy,ρ,S,QU,hx,hy,R,w,q⟩:=h;cases ux<;>first|exact aI w|skip
 rename_i i;obtain⟨j,rfl,w⟩:=PL.eQ.mp w;exact NG pZ s σ H x y v u Q I rx ry #[i,j,aN.mp hx,aN.mp hy,by dsimp only;rw[BZ w.1.1 w.1.2];exact q.now R w.2 (aN.mpr rfl)]
theorem K6:gu X (cy (KY o)) (vY c o):=by
 cases o
 .exact KZ
 .exact K0
 .exact K1
 .exact Ht
 .exact K2
 .exact Hu
 .exact K3
 .exact K4
 .exact K5
theorem yV(h:o=.add\/o=.sub\/o=.bor):gu X (gO (KY o)) (ER c o):=by
 rcases h with rfl|rfl|rfl
 .exact Hv
 .exact Hw
 .exact Hx
noncomputable def uT(c:Ctx)(o:PL.Oc):R2:=λx y H Q=>∃ux uy ρ S,Rep c ρ H ux x/\Rep c ρ H uy y/\cj c ρ H S/\PL.iO o ux uy S λb=>Q (.bl b) H
end
mutual
noncomputable def i0:U->Dv
 |.bK=>.bK
 |.bl b=>.bl b
 |.int i=>.int i
 |.str l=>.str l
 |.tup us=>.tup (eO us)
 |_=>.bK
noncomputable def eO:List U->List Dv
 |[]=>[]
 |u::us=>i0 u::eO us
end
section
variable{c:Ctx}{ρ:List Addr}{H:Hp}{S:bI}
mutual
theorem o7:∀{u:U}{v:V},PL.vU u=true->Rep c ρ H u v->fG c.K H v (i0 u)
 |.bK,_,_,h=>by unfold i0 fG;exact d8.mp h
 |.bl _,_,_,h=>by unfold i0 fG;exact dG.mp h
 |.int _,_,_,h=>by unfold i0 fG;exact aN.mp h
 |.str _,_,_,h=>by unfold i0 fG;exact bq.mp h
 |.tup us,_,d,h=>by
  unfold i0 fG;obtain⟨a,vs,e,h1,h2⟩:=dz.mp h;exact#[a,vs,e,lS.of h1,qD (by unfold PL.vU at d;exact d) h2]
 |.loc _,_,d,_=>by cases d
 |.pC _,_,d,_=>by cases d
 |.tab _,_,d,_=>by cases d
 |.exc _ _,_,d,_=>by cases d
theorem qD:∀{us:List U}{vs:List V},PL.jI us=true->aT c ρ H us vs->gW c.K H vs (eO us)
 |[],_,_,h=>by unfold aT at h;subst h;unfold eO gW;trivial
 |u::us,_,d,h=>by
  unfold aT at h;obtain⟨v,r,e,h1,h2⟩:=h;subst e;unfold PL.jI at d;rw[af] at d;unfold eO gW;exact#[o7 d.1 h1,qD d.2 h2]
end
end
mutual
theorem OE:∀u:U,PL.vU u=true->(i0 u).depth=PL.dep u
 |.bK,_=>by simp[i0,Dv.depth,PL.dep]
 |.bl _,_=>by simp[i0,Dv.depth,PL.dep]
 |.int _,_=>by simp[i0,Dv.depth,PL.dep]
 |.str _,_=>by simp[i0,Dv.depth,PL.dep]
 |.tup us,d=>by
  unfold i0 Dv.depth PL.dep;rw[o9 us (by unfold PL.vU at d;exact d)]
 |.loc _,d=>by cases d
 |.pC _,d=>by cases d
 |.tab _,d=>by cases d
 |.exc _ _,d=>by cases d
theorem o9:∀us:List U,PL.jI us=true->Dv.iB (eO us)=PL.jJ us
 |[],_=>by simp[eO,Dv.iB,PL.jJ]
 |u::us,d=>by
  unfold PL.jI at d;rw[af] at d;unfold eO Dv.iB PL.jJ;rw[OE u d.1,o9 us d.2]
end
mutual
theorem Dm:∀x y:U,PL.vU x=true->PL.vU y=true->PL.oN x y=mI (i0 x) (i0 y)
 |.tup us,y,d,d'=>by
  cases y with
  |tup ws=>exact B6 us ws d d'
  |_=>first|rfl|cases d'
 |.loc _,_,d,_|.pC _,_,d,_|.tab _,_,d,_|.exc _ _,_,d,_=>by cases d
 |.bK,y,_,d|.bl _,y,_,d|.int _,y,_,d|.str _,y,_,d=>by cases y<;>first|rfl|cases d
theorem B6:∀xs ys:List U,PL.jI xs=true->PL.jI ys=true->PL.qv xs ys=nJ (eO xs) (eO ys)
 |[],y,_,_=>by cases y<;>rfl
 |_::_,[],_,_=>rfl
 |x::xs,y::ys,d,d'=>by
  have d:=(af _ _).mp d;have d':=(af _ _).mp d'
  change (PL.oN x y&&PL.qv xs ys)=(mI (i0 x) (i0 y)&&nJ (eO xs) (eO ys))
  rw[Dm x y d.1 d'.1,B6 xs ys d.2 d'.2]
end
theorem OF:decide (V.str (tx a)=V.str (tx b))=(a==b):=by
 rw[cX]
 simp[C8]
theorem Dn(t:PL.GY x y=true)(nt:PL.GZ x=true)(hx:Rep c ρ H x v)(hy:Rep c ρ H y w):NI v w=true/\decide (v=w)=PL.oN x y:=by
 cases x<;>first|exact ff nt|exact ff t| (cases y<;>first|exact ff t| ((first|rw[d8.mp hx]|rw[dG.mp hx]|rw[aN.mp hx]|rw[bq.mp hx]);(first|rw[d8.mp hy]|rw[dG.mp hy]|rw[aN.mp hy]|rw[bq.mp hy]);first|exact#[rfl,rfl]|exact#[rfl,By]|exact#[rfl,yx]|exact#[rfl,OF]))
section
variable{X:Cx}{c:Ctx}
noncomputable def dO:Option (List U)->Dv
 |none=>.bK
 |some us=>.lst (eO us)
theorem OG(R:cj c ρ H S)(h:PL.Jp S a o)(r:Rep c ρ H a v):fG c.K H v (dO o)/\(dO o).depth<=91:=by
 rcases h with⟨rfl,rfl⟩|⟨n,us,rfl,g,⟨d1,d2⟩,rfl⟩
 .exact#[by unfold dO fG;exact d8.mp r,dv _]
 .obtain⟨p,vs,e,_,h1,h2⟩:=R.lst g r
  exact#[by unfold dO fG;exact#[p,vs,e,gF.of h1,qD d1 h2],by show Dv.iB (eO us)+1<=91;rw[o9 us d1];omega]
theorem MJ(h:PL.Jp S a o)(h':PL.Jp S b o'):mI (dO o) (dO o')=PL.Vb o o':=by
 rcases h with⟨rfl,rfl⟩|⟨n,us,rfl,g,⟨d1,d2⟩,rfl⟩<;>rcases h' with⟨rfl,rfl⟩|⟨n',us',rfl,g',⟨d1',d2'⟩,rfl⟩<;>first|rfl|exact(B6 us us' d1 d1').symm
theorem yW(R:cj c ρ H S)(h:PL.Jp S a o)(r:Rep c ρ H (.tup [a,.int i]) v):fG c.K H v (.tup [dO o,.int i])/\Dv.iB [dO o,.int i]<=100:=by
 obtain⟨p,vs,e,h1,h2⟩:=dz.mp r;unfold aT at h2;obtain⟨v1,t,rfl,r1,h2⟩:=h2;unfold aT at h2;obtain⟨v2,t,rfl,r2,h2⟩:=h2;unfold aT at h2;subst h2;obtain⟨g1,g2⟩:=OG R h r1;refine#[by unfold fG;exact#[p,_,e,lS.of h1,#[g1,by show v2=_;exact aN.mp r2,trivial]],?_];show max (dO o).depth (max 0 0)<=100;omega
theorem OH(hK:X.K=c.K)(hu:X.A.units+200<kf):gu X (bD .Eq) (uT c .eq):=by
 intro pZ s σ H x y v u Q I rx ry h;obtain⟨ux,uy,ρ,S,hx,hy,R,w0⟩:=h;have go:(PL.tF ux uy λb=>Q (.bl b) H)->wpAny (aR X.prog X.w) X.A (bD .Eq v u) (EP X pZ σ Q) X.xe s:=by
  intro hh;obtain⟨⟨t,d,d',z⟩,w⟩:=hh;by_cases nt:PL.GZ ux=true
  .obtain⟨e1,e2⟩:=Dn t nt hx hy
   exact Rp pZ s σ H x y v u Q I rx ry #[e1,by rw[e2];exact w]
  .cases ux<;>first|exact absurd rfl nt|skip
   rename_i us;have g:=o7 d hx;unfold i0 at g;refine GV hu pZ s σ H x y v u Q I rx ry #[eO us,i0 uy,hK▸g,hK▸o7 d' hy,?_,?_]
   .rw[o9 us (by unfold PL.vU at d;exact d)];unfold PL.dep at z;omega
   .have:=Dm (.tup us) uy d d'
    rw[show i0 (.tup us)= .tup (eO us) from by simp[i0]] at this;rw[<-this];exact w
 cases ux with
 |tup us=>
  rcases w0 with w|⟨a,i,b,j,o,o',rfl,rfl,l1,l2,w⟩
  .exact go w
  .obtain⟨g1,g2⟩:=yW R l1 hx
   refine GV hu pZ s σ H x y v u Q I rx ry #[_,_,hK▸g1,hK▸(yW R l2 hy).1,g2,?_];rw[show mI (.tup [dO o,.int i]) (.tup [dO o',.int j])=(mI (dO o) (dO o')&&((i==j)&&true)) from rfl,MJ l1 l2,mG]
   exact w
 |loc m=>
  obtain⟨n,rfl,w⟩:=PL.k6.mp w0;obtain⟨us,g1,g2,w⟩:=PL.cD.mp w;obtain⟨a,vs,e1,_,h1,h2⟩:=R.lst g1 hx;obtain⟨b,ws,e2,_,h3,h4⟩:=R.lst g2 hy;unfold aT at h4;subst h4;refine Hc hu pZ s σ H x y v u Q I rx ry #[a,b,vs,e1,e2,gF.of h1,gF.of h3,?_];have:vs.isEmpty=us.isEmpty:=by have:=h2.len;cases us<;>cases vs<;>simp at this ⊢
  rw[this];exact w
 |_=>exact go w0
theorem OI(hK:X.K=c.K)(hu:X.A.units+200<kf):gu X (bD .NotEq) (uT c .ne):=by
 intro pZ s σ H x y v u Q I rx ry h;obtain⟨ux,uy,ρ,S,hx,hy,R,w0⟩:=h;by_cases hl:∃m n,ux=.loc m/\uy=.loc n
 .obtain⟨m,n,rfl,rfl⟩:=hl
  obtain⟨us,g1,g2,w⟩:=PL.cD.mp (show PL.getL _ _ from w0);obtain⟨a,vs,e1,_,h1,h2⟩:=R.lst g1 hx;obtain⟨b,ws,e2,_,h3,h4⟩:=R.lst g2 hy;unfold aT at h4;subst h4;refine Hb hu pZ s σ H x y v u Q I rx ry #[a,b,vs,e1,e2,gF.of h1,gF.of h3,?_];have:vs.isEmpty=us.isEmpty:=by have:=h2.len;cases us<;>cases vs<;>simp at this ⊢
  rw[this];exact w
 by_cases hp:∃us,ux=.tup us/\PL.Ky us uy S λb=>Q (.bl !b) H
 .obtain⟨_,rfl,a,i,b,j,o,o',rfl,rfl,l1,l2,w⟩:=hp
  obtain⟨g1,g2⟩:=yW R l1 hx;refine G8 hu pZ s σ H x y v u Q I rx ry #[_,_,hK▸g1,hK▸(yW R l2 hy).1,g2,?_];rw[show nJ [dO o,.int i] [dO o',.int j]=(mI (dO o) (dO o')&&((i==j)&&true)) from rfl,MJ l1 l2,mG]
  exact w
 have w1:PL.Ah ux uy=true/\PL.tF ux uy λb=>Q (.bl !b) H:=by
  cases ux with
  |loc=>cases uy<;>first|exact w0|exact absurd #[_,_,rfl,rfl] hl
  |tup us=>exact w0.resolve_right λz=>hp #[us,rfl,z]
  |_=>exact w0
 obtain⟨nt,⟨t,d,d',z⟩,w⟩:=w1;by_cases nt1:PL.GZ ux=true
 .obtain⟨e1,e2⟩:=Dn t nt1 hx hy
  exact Rr pZ s σ H x y v u Q I rx ry #[e1,by rw[e2];exact w]
 .cases ux<;>first|exact absurd rfl nt1|skip
  cases uy<;>first|exact ff nt|skip
  rename_i us us';have g:=o7 d hx;have g':=o7 d' hy;unfold i0 at g g';refine G8 hu pZ s σ H x y v u Q I rx ry #[eO us,eO us',hK▸g,hK▸g',?_,?_]
  .rw[o9 us (by unfold PL.vU at d;exact d)];unfold PL.dep at z;omega
  .have:=Dm (.tup us) (.tup us') d d'
   rw[show i0 (.tup us)= .tup (eO us) from by simp[i0],show i0 (.tup us')= .tup (eO us') from by simp[i0]] at this;rw[show nJ (eO us) (eO us')=mI (.tup (eO us)) (.tup (eO us')) from by unfold mI;rfl,<-this];exact w
end
open PL (U SO bI Xn KU KX Spec bY)
section
variable{X:Cx}{c:Ctx}
theorem OJ:gu X (bD .Lt) (uT c .lt):=by
 intro pZ s σ H x y v u Q I rx ry h;obtain⟨ux,uy,ρ,S,hx,hy,R,w⟩:=h;obtain⟨i,j,rfl,rfl,w⟩:=PL.ko w;exact Rt pZ s σ H x y v u Q I rx ry #[_,_,aN.mp hx,aN.mp hy,w]
theorem OK:gu X (bD .LtE) (uT c .le):=by
 intro pZ s σ H x y v u Q I rx ry h;obtain⟨ux,uy,ρ,S,hx,hy,R,w⟩:=h;obtain⟨i,j,rfl,rfl,w⟩:=PL.ko w;exact Ru pZ s σ H x y v u Q I rx ry #[_,_,aN.mp hx,aN.mp hy,w]
theorem OL:gu X (bD .Gt) (uT c .gt):=by
 intro pZ s σ H x y v u Q I rx ry h;obtain⟨ux,uy,ρ,S,hx,hy,R,w⟩:=h;obtain⟨i,j,rfl,rfl,w⟩:=PL.ko w;exact Rv pZ s σ H x y v u Q I rx ry #[_,_,aN.mp hx,aN.mp hy,w]
theorem OM:gu X (bD .GtE) (uT c .ge):=by
 intro pZ s σ H x y v u Q I rx ry h;obtain⟨ux,uy,ρ,S,hx,hy,R,w⟩:=h;obtain⟨i,j,rfl,rfl,w⟩:=PL.ko w;exact Rw pZ s σ H x y v u Q I rx ry #[_,_,aN.mp hx,aN.mp hy,w]
theorem xn(h:Rep c ρ H u v):decide (v=V.bK)=PL.uD u:=by
 cases u with
 |bK=>rw[d8.mp h];rfl
 |bl b=>rw[dG.mp h];rfl
 |int i=>rw[aN.mp h];rfl
 |str l=>rw[bq.mp h];rfl
 |tup us=>obtain⟨a,vs,e,_⟩:=dz.mp h;rw[e];rfl
 |loc n=>obtain⟨a,e,_⟩:=iR.mp h;rw[e];rfl
 |pC ns=>obtain⟨a,e,_⟩:=qC.mp h;rw[e];rfl
 |tab kvs=>obtain⟨a,e,_⟩:=tJ.mp h;rw[e];rfl
 |exc x us=>unfold Rep at h;obtain⟨a,d,C,fs,e,_⟩:=h;rw[e];rfl
theorem ON:gu X (bD .Is) (uT c .Ku):=by
 intro pZ s σ H x y v u Q I rx ry h;obtain⟨ux,uy,ρ,S,hx,hy,R,w⟩:=h;have e:uy=.bK:=by cases uy<;>first|rfl|exact aI w
 subst e;rw[PL.Wj] at w;exact NJ pZ s σ H x y v u Q I rx ry #[d8.mp hy,by rw[xn hx];exact w]
theorem Hy:gu X (bD .IsNot) (uT c .Ad):=by
 intro pZ s σ H x y v u Q I rx ry h;obtain⟨ux,uy,ρ,S,hx,hy,R,w⟩:=h;have e:uy=.bK:=by cases uy<;>first|rfl|exact aI w
 subst e;rw[PL.Oz] at w;exact JW pZ s σ H x y v u Q I rx ry #[d8.mp hy,by rw[xn hx];exact w]
theorem ou(f:PL.flat u=true)(h:Rep c ρ H u v):pF v=true:=by
 cases u<;>first|exact ff f| (rw[d8.mp h];rfl)| (rw[dG.mp h];rfl)| (rw[aN.mp h];rfl)| (rw[bq.mp h];rfl)
theorem K7(f:PL.flat u=true)(f':PL.flat u'=true)(h:Rep c ρ H u v)(h':Rep c ρ H u' v'):Ke v v'=PL.oN u u':=by
 cases u<;>first|exact ff f| (cases u'<;>first|exact ff f'| ((first|rw[d8.mp h]|rw[dG.mp h]|rw[aN.mp h]|rw[bq.mp h]);(first|rw[d8.mp h']|rw[dG.mp h']|rw[aN.mp h']|rw[bq.mp h']);first|rfl|exact cX.mpr (by rename_i a b;show(tx a==tx b)=true↔(a==b)=true;simp[Mz])))
theorem qE(f:PL.flat u=true)(h:Rep c ρ H u v):∀{us:List U}{vs:List V},us.all PL.flat=true->aT c ρ H us vs->vs.all pF=true/\U6 v vs=us.any λy=>PL.oN y u
 |[],_,_,r=>by unfold aT at r;subst r;exact#[rfl,rfl]
 |w::us,_,a,r=>by
  unfold aT at r;obtain⟨x,t,e,h1,h2⟩:=r;subst e;rw[bp,af] at a;obtain⟨z1,z2⟩:=qE f h a.2 h2;refine#[by rw[bp,ou a.1 h1,z1];rfl,?_];unfold U6 at z2 ⊢;rw[cR,cR,z2,K7 a.1 f h1 h]
theorem lookup_tab{kvs:List (List Nat×List Nat)}{k v:List Nat}(h:kvs.lookup k=some v):(kvs.map λp=>(tx p.1,V.str (tx p.2))).lookup (tx k)=some (V.str (tx v)):=by
 induction kvs with
 |nil=>cases h
 |cons p r ih=>
  obtain⟨a,b⟩:=p;rw[aF,ba]
  rw[ba] at h;by_cases e:k=a
  .subst e
   simp at h ⊢;exact h
  .have e2:(k==a)=false:=by simp[e]
   have e3:(tx k==tx a)=false:=by
    rw[beq_eq_false_iff_ne];exact λz=>e (rq z)
   rw[e2] at h;simp only[e3];exact ih h
theorem Ar{kvs:List (List Nat×List Nat)}{k:List Nat}(h:kvs.lookup k=none):(kvs.map λp=>(tx p.1,V.str (tx p.2))).lookup (tx k)=none:=by
 induction kvs with
 |nil=>rfl
 |cons p r ih=>
  rw[ba] at h;rw[aF,ba]
  cases z:k==p.1 with
  |true=>rw[z] at h;cases h
  |false=>
   rw[z] at h;have:(tx k==tx p.1)=false:=by
    rw[beq_eq_false_iff_ne] at z ⊢;exact λe=>z (rq e)
   rw[this]
   exact ih h
theorem Hz(hu:PL.vU u=true):∀{us:List U},PL.jI us=true->((eO us).any λe=>mI e (i0 u))=us.any λy=>PL.oN y u
 |[],_=>by unfold eO;rfl
 |w::us,d=>by
  unfold PL.jI at d;rw[af] at d;unfold eO;rw[cR,cR,Hz hu d.2,Dm w u d.1 hu]
theorem OO(hK:X.K=c.K)(hP:X.w.params=c.w.params):gu X (bD .In) (uT c .isin):=by
 intro pZ s σ H x y v u Q I rx ry h;obtain⟨ux,uy,ρ,S,hx,hy,R,w⟩:=h;cases uy with
 |str b=>
  obtain⟨a,rfl,w⟩:=PL.oO.mp w;exact EG pZ s σ H x y v u Q I rx ry #[a,b,bq.mp hx,bq.mp hy,w]
 |tab kvs=>
  obtain⟨k,rfl,w⟩:=PL.oO.mp w;obtain⟨a,e,h1⟩:=tJ.mp hy;have w:Q (.bl (kvs.lookup k).isSome) H:=w;have ex:=h1.ex;rw[<-hK,<-hP] at ex;cases z:kvs.lookup k with
  |some t=>
   obtain⟨u',_,e2⟩:=h1.at_ _ _ (lookup_tab z);exact G9 pZ s σ H x y v u Q I rx ry #[a,_,some u',bq.mp hx,e,ex,h1.ns,hK▸e2,by rw[z] at w;exact w]
  |none=>
   have e2:=h1.no _ (Ar z);exact G9 pZ s σ H x y v u Q I rx ry #[a,_,none,bq.mp hx,e,ex,h1.ns,hK▸e2,by rw[z] at w;exact w]
 |tup us=>
  rw[PL.Ou] at w;obtain⟨⟨f,a⟩,w⟩:=w;obtain⟨p,vs,e,h1,h2⟩:=dz.mp hy;obtain⟨z1,z2⟩:=qE f hx a h2;exact wQ pZ s σ H x y v u Q I rx ry #[p,vs,e,.inr (lS.of h1),ou f hx,z1,by rw[z2];exact w]
 |loc n=>
  rw[PL.Oy] at w;obtain⟨us,g,⟨f,a⟩,w⟩:=PL.cD.mp w;obtain⟨p,vs,e,_,h1,h2⟩:=R.lst g hy;obtain⟨z1,z2⟩:=qE f hx a h2;exact wQ pZ s σ H x y v u Q I rx ry #[p,vs,e,.inl (gF.of h1),ou f hx,z1,by rw[z2];exact w]
 |_=>exact aI w
theorem ES(hK:X.K=c.K)(hu:X.A.units+200<kf):gu X (bD .NotIn) (uT c .nv):=by
 intro pZ s σ H x y v u Q I rx ry h;obtain⟨ux,uy,ρ,S,hx,hy,R,w⟩:=h;cases uy with
 |str b=>
  obtain⟨a,rfl,w⟩:=PL.oO.mp w;exact yN pZ s σ H x y v u Q I rx ry #[a,b,bq.mp hx,bq.mp hy,w]
 |tup us=>
  rw[PL.Ow] at w;obtain⟨⟨f,a⟩,w⟩:=w;obtain⟨p,vs,e,h1,h2⟩:=dz.mp hy;obtain⟨z1,z2⟩:=qE f hx a h2;exact qr pZ s σ H x y v u Q I rx ry #[p,vs,e,.inr (lS.of h1),ou f hx,z1,by rw[z2];exact w]
 |loc n=>
  by_cases ht:∃ts,ux=.tup ts
  .obtain⟨ts,rfl⟩:=ht
   rw[PL.KL] at w;obtain⟨us,g,⟨d1,d2,d3⟩,w⟩:=PL.cD.mp w;obtain⟨p,vs,e,_,h1,h2⟩:=R.lst g hy;have dt:PL.vU (.tup ts)=true:=by unfold PL.vU;exact d1
   refine EM hu pZ s σ H x y v u Q I rx ry #[p,vs,eO us,i0 (.tup ts),e,gF.of h1,hK▸qD d2 h2,hK▸o7 dt hx,by rw[o9 us d2];exact d3,?_];rw[Hz dt d2]
   exact w
  have w:PL.getL S[n]? λus=>PL.qw ux us λb=>Q (.bl !b) H:=by
   cases ux<;>first|exact w|exact absurd #[_,rfl] ht
  obtain⟨us,g,⟨f,a⟩,w⟩:=PL.cD.mp w;obtain⟨p,vs,e,_,h1,h2⟩:=R.lst g hy;obtain⟨z1,z2⟩:=qE f hx a h2;exact qr pZ s σ H x y v u Q I rx ry #[p,vs,e,.inl (gF.of h1),ou f hx,z1,by rw[z2];exact w]
 |_=>exact aI w
noncomputable def HA:PL.Oc->CmpOp
 |.eq=>.Eq|.ne=>.NotEq|.lt=>.Lt|.le=>.LtE|.gt=>.Gt|.ge=>.GtE|.isin=>.In|.nv=>.NotIn|.Ku=>.Is|.Ad=>.IsNot
theorem Dp(hK:X.K=c.K)(hP:X.w.params=c.w.params)(hu:X.A.units+200<kf)(o:PL.Oc):gu X (bD (HA o)) (uT c o):=by
 cases o
 .exact OH hK hu
 .exact OI hK hu
 .exact OJ
 .exact OK
 .exact OL
 .exact OM
 .exact OO hK hP
 .exact ES hK hu
 .exact ON
 .exact Hy
noncomputable def WV(c:Ctx):R2:=λx y H Q=>∃ux uy ρ S,Rep c ρ H ux x/\Rep c ρ H uy y/\cj c ρ H S/\PL.Jq ux uy S λu=>∀v,Rep c ρ H u v->Q v H
theorem B7(r:aT c ρ H us vs)(h:PL.tG us i=some u):∃v,NV vs i=some v/\Rep c ρ H u v:=by
 unfold PL.tG at h;unfold NV;have e:NU vs.length i=PL.Of us.length i:=by rw[r.len];rfl
 rw[e]
 cases q:PL.Of us.length i with
 |none=>rw[q] at h;cases h
 |some j=>
  rw[q] at h;exact r.get h
theorem xp:∀{ns:List Int},aT c ρ H (ns.map .int) (ns.map V.int)
 |[]=>aT.nil
 |n::ns=>aT.cons (aN.mpr rfl) xp
theorem OP(hK:X.K=c.K)(hP:X.w.params=c.w.params):QE X (WV c):=by
 intro value slice pZ s σ H x y v u Q I rx ry h hs;obtain⟨ux,uy,ρ,S,hx,hy,R,w⟩:=h;cases ux<;>first|exact aI w|skip
 .rename_i l
  obtain⟨i,rfl,w⟩:=PL.eQ.mp w;obtain⟨w1,w2⟩:=w;obtain⟨k,g,w3⟩:=PL.ig.mp w2;exact NX value slice pZ s σ H x y v u Q I rx ry #[_,i,k,bq.mp hx,aN.mp hy,pH (by rw[cU];exact w1),g,w3 _ (bq.mpr rfl)] hs
 .rename_i us
  obtain⟨i,rfl,w⟩:=PL.eQ.mp w;obtain⟨w1,w2⟩:=w;obtain⟨k,g,w3⟩:=PL.ig.mp w2;obtain⟨p,vs,e,h1,h2⟩:=dz.mp hx;obtain⟨z,e2,r2⟩:=B7 h2 g;exact NW value slice pZ s σ H x y v u Q I rx ry #[p,vs,i,z,e,aN.mp hy,lS.of h1,e2,w3 _ r2] hs
 .rename_i n
  obtain⟨i,rfl,w⟩:=PL.eQ.mp w;obtain⟨us,g0,w1⟩:=PL.cD.mp w;obtain⟨k,g,w3⟩:=PL.ig.mp w1;obtain⟨p,vs,e,_,h1,h2⟩:=R.lst g0 hx;obtain⟨z,e2,r2⟩:=B7 h2 g;exact C5 value slice pZ s σ H x y v u Q I rx ry #[p,vs,i,z,e,aN.mp hy,gF.of h1,e2,w3 _ r2] hs
 .rename_i ns
  obtain⟨i,rfl,w⟩:=PL.eQ.mp w;obtain⟨w1,w2⟩:=w;obtain⟨k,g,w3⟩:=PL.ig.mp w2;obtain⟨p,e,h1⟩:=qC.mp hx;have g':PL.tG (ns.map U.int) i=some (.int k):=by
   unfold PL.tG at g ⊢;rw[aq]
   cases q:PL.Of ns.length i with
   |none=>rw[q] at g;exact nn g
   |some j=>rw[q] at g;simp at g ⊢;exact g
  obtain⟨z,e2,r2⟩:=B7 (c:=c) (ρ:=ρ) (H:=H) xp g';exact C5 value slice pZ s σ H x y v u Q I rx ry #[p,_,i,z,e,aN.mp hy,hK▸h1.sq,e2,w3 _ r2] hs
 .rename_i kvs
  obtain⟨k,rfl,w⟩:=PL.oO.mp w;obtain⟨z,g,w3⟩:=PL.ig.mp w;obtain⟨a,e,h1⟩:=tJ.mp hx;exact yI value slice pZ s σ H x y v u Q I rx ry #[a,_,_,_,e,bq.mp hy,by rw[hK,hP];exact h1,lookup_tab g,w3 _ (bq.mpr rfl)] hs
def WW(c:Ctx):V->Option Int->Option Int->Hp->VK->Prop:=λx lo hi H Q=>∃ux ρ S QU,Rep c ρ H ux x/\cj c ρ H S/\PL.EF ux lo hi S QU/\QV c ρ H QU Q
theorem HB{lo:Option Int}{n:Nat}(h:∀i,lo=some i->0<=i):HT.iZ n 0 lo=min (lo.getD 0).toNat n:=by
 cases lo with
 |none=>simp[HT.iZ]
 |some i=>have:=h i rfl;simp only[HT.iZ,cC];rw[if_neg ∅]
theorem OQ(h:∀i,hi=some i->0<=i):HT.iZ n n hi=min (hi.getD n).toNat n:=by
 cases hi with
 |none=>simp[HT.iZ]
 |some i=>have:=h i rfl;simp only[HT.iZ,cC];rw[if_neg ∅]
theorem Dq{ρ:List Addr}{H:Hp}{us:List U}{vs:List V}{lo hi:Option Int}(h1:∀i,lo=some i->0<=i)(h2:∀i,hi=some i->0<=i)(r:aT c ρ H us vs):aT c ρ H (PL.lT us lo hi) (zZ vs lo hi):=by
 unfold PL.lT zZ;rw[HB h1,OQ h2,<-r.len]
 exact(r.drop _).take _
theorem OR(hK:X.K=c.K):RC X (WW c):=by
 intro pZ s σ H x v vl vu lo hi sl Q I rx hs pl pu h;obtain⟨ux,ρ,S,QU,hx,R,⟨⟨b1,b2⟩,w⟩,q⟩:=h;cases ux<;>try exact aI w
 .rename_i l
  obtain⟨w1,w2⟩:=w;refine RX pZ s σ H x v vl vu lo hi sl Q I rx hs pl pu #[l,min (lo.getD 0).toNat l.length,min (hi.getD l.length).toNat l.length,bq.mp hx,pH w1,?_,?_,q.now R w2 (bq.mpr rfl)]
  .cases lo with
   |none=>exact .inl #[rfl,by simp]
   |some a=>exact .inr #[a,rfl,b1 a rfl,rfl]
  .cases hi with
   |none=>exact .inl #[rfl,by simp]
   |some a=>exact .inr #[a,rfl,b2 a rfl,rfl]
 .rename_i us
  obtain⟨⟨w1,w0,w3⟩,w2⟩:=w;obtain⟨a,vs,e,g1,g2⟩:=dz.mp hx;refine NT pZ s σ H x v vl vu lo hi sl Q I rx hs pl pu #[a,vs,e,lS.of g1,λz=>?_,λp hp=>q.KW R (Dq b1 b2 g2) w2 hp];have z1:=z.1;rw[HB b1,<-g2.len] at z1;have:0<us.length:=Ec.mpr w0;omega
 .rename_i n
  obtain⟨us,g0,w1⟩:=PL.cD.mp w;obtain⟨a,vs,e,_,g1,g2⟩:=R.lst g0 hx;exact Kd pZ s σ H x v vl vu lo hi sl Q I rx hs pl pu #[a,vs,e,gF.of g1,λp hp=>q.Hs R (Dq b1 b2 g2) w1 hp]
end
open PL (U SO bI Xn KU KX Spec bY)
def sC(c:Ctx)(b:PL.RZ):List V->Hp->VK->Prop:=λxs H Q=>∃us ρ S QU,aT c ρ H us xs/\cj c ρ H S/\PL.sX b us S QU/\QV c ρ H QU Q
def uU(c:Ctx)(m:PL.Od):V->List V->Hp->VK->Prop:=λx xs H Q=>∃u us ρ S QU,Rep c ρ H u x/\aT c ρ H us xs/\cj c ρ H S/\PL.vV m u us S QU/\QV c ρ H QU Q
section
variable{X:Cx}{c:Ctx}{ρ:List Addr}{H:Hp}{S:bI}
theorem lF(h:aT c ρ H [u] vs):∃v,vs=[v]/\Rep c ρ H u v:=by
 unfold aT at h;obtain⟨v,r,e,h1,h2⟩:=h;unfold aT at h2;subst h2;exact#[v,e,h1]
theorem MK(h:aT c ρ H [u,w] vs):∃v z,vs=[v,z]/\Rep c ρ H u v/\Rep c ρ H w z:=by
 unfold aT at h;obtain⟨v,r,e,h1,h2⟩:=h;obtain⟨z,e2,h3⟩:=lF h2;subst e2;exact#[v,z,e,h1,h3]
theorem HC(hK:X.K=c.K)(R:cj c ρ H S)(r:Rep c ρ H u v)(h:PL.pW S u=some n)(hn:n<=1000000):Ry X.K v H n\/∃a kvs,v=.ref a/\H a=some (.dK kvs)/\n=kvs.length:=by
 cases u with
 |str l=>rw[bq.mp r];obtain rfl:=aH h;exact .inl #[pH (by rw[cU];exact hn),(cU l).symm]
 |tup us=>
  obtain⟨a,vs,e,h1,h2⟩:=dz.mp r;obtain rfl:=aH h;rw[e]
  exact .inl (.inr #[vs,lS.of h1,h2.len])
 |pC ns=>
  obtain⟨a,e,h1⟩:=qC.mp r;obtain rfl:=aH h;rw[e]
  exact .inl (.inl #[_,hK▸h1.sq,by simp])
 |loc m=>
  unfold PL.pW at h;cases q:S[m]? with
  |none=>simp only[q] at h;exact nn h
  |some o=>
   simp only[q] at h;cases o with
   |lst us=>
    obtain⟨a,vs,e,_,h1,h2⟩:=R.lst q r;simp at h;subst h;rw[e]
    exact .inl (.inl #[vs,gF.of h1,h2.len])
   |vG kvs=>
    obtain⟨a,e,ha⟩:=iR.mp r;obtain⟨vs,h1,h2,_⟩:=R.at_ m a _ ha q;simp at h;subst h;exact .inr #[a,vs,e,h1,h2.symm]
   |ins x fs=>exact nn h
 |_=>exact nn h
theorem K8(hK:X.K=c.K):i5 X (.builtin "len") (sC c .len):=by
 intro pZ s σ H xs us Q I r h;obtain⟨ux,ρ,S,QU,hx,R,w,q⟩:=h
 match ux,w with
 |[u],w=>
  obtain⟨n,e,w1,w2⟩:=PL.ig.mp (show PL.opt _ _ from w);obtain⟨v,e1,r1⟩:=lF hx;rcases HC hK R r1 e w1 with l|⟨a,kvs,e2,g,e3⟩
  .exact Gb pZ s σ H xs us Q I r #[v,n,e1,l,q.now R w2 (aN.mpr rfl)]
  .exact Ez pZ s σ H xs us Q I r #[a,kvs,by rw[e1,e2],g,by rw[<-e3];exact q.now R w2 (aN.mpr rfl)]
theorem ET(hK:X.K=c.K):i5 X (.type "tuple") (sC c .tuple):=by
 intro pZ s σ H xs us Q I r h;obtain⟨ux,ρ,S,QU,hx,R,w,q⟩:=h
 match ux,w with
 |[.loc n],w=>
  obtain⟨us',e,w1⟩:=PL.cD.mp (show PL.getL _ _ from w);obtain⟨v,e1,r1⟩:=lF hx;obtain⟨a,vs,e2,_,g1,g2⟩:=R.lst e r1;exact vR pZ s σ H xs us Q I r #[a,vs,by rw[e1,e2],.inl #[gF.of g1,λl hl=>q.KW R g2 w1 hl]]
theorem HD(hK:X.K=c.K):i5 X (.type "list") (sC c .list):=by
 intro pZ s σ H xs us Q I r h;obtain⟨ux,ρ,S,QU,hx,R,w,q⟩:=h
 match ux,w with
 |[.loc n],w=>
  obtain⟨us',e,w1⟩:=PL.cD.mp (show PL.getL _ _ from w);obtain⟨v,e1,r1⟩:=lF hx;obtain⟨a,vs,e2,_,g1,g2⟩:=R.lst e r1;exact qt pZ s σ H xs us Q I r #[a,vs,by rw[e1,e2],.inl (gF.of g1),λl hl=>q.Hs R g2 w1 hl]
 |[.tup us'],w=>
  obtain⟨v,e1,r1⟩:=lF hx;obtain⟨a,vs,e2,g1,g2⟩:=dz.mp r1;exact qt pZ s σ H xs us Q I r #[a,vs,by rw[e1,e2],.inr (lS.of g1),λl hl=>q.Hs R g2 w.2 hl]
theorem p9:∀{bs:List Bool}{vs:List V},aT c ρ H (bs.map .bl) vs->vs=bs.map V.bl
 |[],_,h=>by unfold aT at h;exact h
 |t::ts,_,h=>by
  rw[aF] at h;unfold aT at h;obtain⟨v,r,e,h1,h2⟩:=h;rw[e,dG.mp h1,p9 h2];rfl
theorem uV:∀{bs:List Int}{vs:List V},aT c ρ H (bs.map .int) vs->vs=bs.map V.int
 |[],_,h=>by unfold aT at h;exact h
 |t::ts,_,h=>by
  rw[aF] at h;unfold aT at h;obtain⟨v,r,e,h1,h2⟩:=h;rw[e,aN.mp h1,uV h2];rfl
theorem HE(hc:X.calm=true):i5 X (.builtin "all") (sC c .all):=by
 intro pZ s σ H xs us Q I r h;obtain⟨ux,ρ,S,QU,hx,R,w,q⟩:=h
 match ux,w with
 |[.loc n],w=>
  obtain⟨bs,e,w1⟩:=w;obtain⟨v,e1,r1⟩:=lF hx;obtain⟨a,vs,e2,_,g1,g2⟩:=R.lst e r1;rw[p9 g2] at g1;exact BV hc pZ s σ H xs us Q I r #[a,bs,by rw[e1,e2],gF.of g1,q.now R w1 (dG.mpr rfl)]
theorem K9(hc:X.calm=true):i5 X (.builtin "sum") (sC c .sum):=by
 intro pZ s σ H xs us Q I r h;obtain⟨ux,ρ,S,QU,hx,R,w,q⟩:=h
 match ux,w with
 |[.loc n],w=>
  obtain⟨bs,e,w1⟩:=w;obtain⟨v,e1,r1⟩:=lF hx;obtain⟨a,vs,e2,_,g1,g2⟩:=R.lst e r1;rw[uV g2] at g1;exact BW hc pZ s σ H xs us Q I r #[a,bs,by rw[e1,e2],gF.of g1,q.now R w1 (aN.mpr rfl)]
theorem HF(hc:X.calm=true):i5 X (.builtin "any") (sC c .any):=by
 intro pZ s σ H xs us Q I r h;obtain⟨ux,ρ,S,QU,hx,R,w,q⟩:=h
 match ux,w with
 |[.loc n],w=>
  obtain⟨bs,e,w1⟩:=w;obtain⟨v,e1,r1⟩:=lF hx;obtain⟨a,vs,e2,_,g1,g2⟩:=R.lst e r1;rw[p9 g2] at g1;exact B0 hc pZ s σ H xs us Q I r #[a,bs,by rw[e1,e2],gF.of g1,q.now R w1 (dG.mpr rfl)]
theorem uW:∀{ps:List (List Nat×U)}{vs:List V},aT c ρ H (ps.map λp=>.tup [.str p.1,p.2]) vs->∃kvs:List (Key×V),Paired (Oi H) vs kvs/\kvs.map (·.1)=ps.map (λp=>fq (tx p.1))/\aT c ρ H (ps.map (·.2)) (kvs.map (·.2))
 |[],_,h=>by
  unfold aT at h;subst h;exact#[[],.nil,rfl,aT.nil]
 | (k,u)::ps,_,h=>by
  rw[aF] at h;unfold aT at h;obtain⟨v,r,e,h1,h2⟩:=h;subst e;obtain⟨kvs,g1,g2,g3⟩:=uW h2;obtain⟨a,vs,e1,ha,hr⟩:=dz.mp h1;obtain⟨x,y,e2,r1,r2⟩:=MK hr;subst e2;rw[bq.mp r1] at ha;exact#[(fq (tx k),y)::kvs,.cons #[a,e1,ha] g1,by rw[aF,aF,g2],aT.cons r2 g3]
theorem xq:∀{ks:List (List Nat)},aT c ρ H (ks.map .str) (ks.map λk=>kV (fq (tx k)))
 |[]=>aT.nil
 |_::_=>aT.cons (bq.mpr rfl) xq
theorem HG(hA:X.A.handled=none):i5 X (.type "dict") (sC c .dict):=by
 intro pZ s σ H xs us Q I r h;obtain⟨ux,ρ,S,QU,hx,R,w,q⟩:=h
 match ux,w with
 |[.loc n],w=>
  obtain⟨ps,e,nd,w1⟩:=w;obtain⟨v,e1,r1⟩:=lF hx;obtain⟨a,vs,e2,_,g1,g2⟩:=R.lst e r1;obtain⟨kvs,k1,k2,k3⟩:=uW g2;refine BY hA pZ s σ H xs us Q I r #[a,vs,kvs,by rw[e1,e2],g1,k1,?_,λp hp=>?_]
  .rw[k2,show ps.map (λp=>(fq (tx p.1):Key))=(ps.map (·.1)).map (λk=>fq (tx k)) by rw[bM];rfl]
   exact List.Pairwise.map _ (λa b h e=>h (rq (zM e))) nd
  .have st:=iz.alloc R hp (.dK kvs)
   have e5:kvs.map (λp=>kV p.1)=(ps.map (·.1)).map λk=>kV (fq (tx k)):=by
    rw[show kvs.map (λp=>kV p.1)=(kvs.map (·.1)).map kV by rw[bM];rfl,k2,bM,bM];rfl
   have R':cj c (ρ++[p]) (upd H p (.dK kvs)) (S++[.vG (ps.map λp=>(.str p.1,p.2))]):=R.alloc hp #[kvs,bJ,by have:=congrArg cM k2;simpa using this,by
     rw[e5,bM,show(Prod.fst∘λp:List Nat×U=>(U.str p.1,p.2))=U.str∘Prod.fst from rfl,<-bM];exact xq,by
     rw[bM];exact k3.mono R st]
   refine q _ _ _ _ _ w1 st R' (iR.mpr #[p,rfl,?_]);rw[<-R.len,ay (ax _),cq];rfl
theorem B8:FC X "int.bit_length" (uU c .mS):=by
 intro pZ s σ H x xs v us Q I rx r h;obtain⟨u,ux,ρ,S,QU,hu,hx,R,w,q⟩:=h
 match u,ux,w with
 |.int i,[],w=>
  obtain⟨w0,w1⟩:=w;unfold aT at hx;refine EL pZ s σ H x xs v us Q I rx r #[i.toNat,by rw[aN.mp hu];congr 1;omega,hx,q.now R w1 (aN.mpr rfl)]
theorem Lc:∀{ps:List (List Nat×U)}{vs:List (Key×V)}{k:List Nat},vs.length=(ps.map λp=>(U.str p.1,p.2)).length->aT c ρ H ((ps.map λp=>(U.str p.1,p.2)).map (·.1)) (vs.map λp=>kV p.1)->aT c ρ H ((ps.map λp=>(U.str p.1,p.2)).map (·.2)) (vs.map (·.2)) ->
  (ps.lookup k=none/\sU vs (fq (tx k))=none)\/∃u v,ps.lookup k=some u/\sU vs (fq (tx k))=some v/\Rep c ρ H u v
 := by
 intro ps;induction ps with
 |nil=>intro vs k hl _ _;cases vs with|nil=>exact .inl #[rfl,rfl]|cons _ _=>cases hl
 |cons p ps ih=>
  intro vs k hl h1 h2;obtain⟨a,u⟩:=p;cases vs with|nil=>cases hl|cons p vs=>?_
  obtain⟨b,y⟩:=p;simp only[aF] at h1 h2;unfold aT at h1 h2;obtain⟨v1,r1,e1,p1,q1⟩:=h1;obtain⟨v2,r2,e2,p2,q2⟩:=h2;cases e1;cases e2;have eb:b=fq (tx a):=by
   have:=bq.mp p1;exact N2 (b:=fq (tx a)) this
  subst eb;by_cases ek:k=a
  .subst ek
   exact .inr #[u,y,by simp,uj rfl,p2]
  .have e3:(k==a)=false:=by simp[ek]
   rw[ba,e3,uk (λz=>ek (rq (zM z)).symm)]
   exact ih (Jd hl) q1 q2
theorem join_eq(sep:List Nat):∀ts:List (List Nat),uv sep ts=PL.k7 sep ts
 |[]=>rfl
 |[x]=>rfl
 |x::y::r=>by
  unfold uv PL.k7;rw[join_eq sep (y::r)]
theorem rE:∀{ts:List (List Nat)}{vs:List V},aT c ρ H (ts.map .str) vs->vs=ts.map λt=>V.str (tx t)
 |[],_,h=>by unfold aT at h;exact h
 |t::ts,_,h=>by
  rw[aF] at h;unfold aT at h;obtain⟨v,r,e,h1,h2⟩:=h;rw[e,bq.mp h1,rE h2];rfl
theorem HH(hK:X.K=c.K):FC X "str.join" (uU c .join):=by
 intro pZ s σ H x xs v us Q I rx r h;obtain⟨u,ux,ρ,S,QU,hu,hx,R,w,q⟩:=h
 match u,ux,w with
 |.str sep,[.loc n],w=>
  obtain⟨ts,e,w1,w2⟩:=w;obtain⟨z,e1,r1⟩:=lF hx;obtain⟨a,vs,e2,_,g1,g2⟩:=R.lst e r1;rw[rE g2] at g1;exact C9 pZ s σ H x xs v us Q I rx r #[sep,ts,a,bq.mp hu,by rw[e1,e2],gF.of g1,w1,by rw[join_eq];exact q.now R w2 (bq.mpr rfl)]
theorem B9:FC X "str.startswith" (uU c .startswith):=by
 intro pZ s σ H x xs v us Q I rx r h;obtain⟨u,ux,ρ,S,QU,hu,hx,R,w,q⟩:=h
 match u,ux,w with
 |.str l,[.str k],w=>
  obtain⟨z,e1,r1⟩:=lF hx;exact wZ pZ s σ H x xs v us Q I rx r #[l,k,bq.mp hu,by rw[e1,bq.mp r1],q.now R w (dG.mpr rfl)]
theorem EV(hA:X.A.handled=none):FC X "str.index" (uU c .index):=by
 intro pZ s σ H x xs v us Q I rx r h;obtain⟨u,ux,ρ,S,QU,hu,hx,R,w,q⟩:=h
 match u,ux,w with
 |.str l,[.str k],w=>
  obtain⟨d,e,w1,w2⟩:=w;subst e;obtain⟨z,e1,r1⟩:=lF hx;exact Ac hA pZ s σ H x xs v us Q I rx r #[l,d,bq.mp hu,by rw[e1,bq.mp r1],w1,q.now R w2 (aN.mpr rfl)]
theorem QV.putL(q:QV c ρ H QU Q)(R:cj c ρ H S)(ha:ρ[n]?=some a)(r:aT c ρ H us vs)(h:QU .bK (S.set n (.lst us))):Q .bK (upd H a (.lst vs)):=by
 have st:=iz.put (H:=H) (aw ha) (.lst vs);exact q _ _ _ _ _ h st (R.put ha #[vs,bJ,r.mono R st]) (d8.mpr rfl)
theorem Ca:FC X "list.append" (uU c .append):=by
 intro pZ s σ H x xs v us Q I rx r h;obtain⟨u,ux,ρ,S,QU,hu,hx,R,w,q⟩:=h
 match u,ux,w with
 |.loc n,[k],w=>
  obtain⟨us',e,w1,w2⟩:=PL.cD.mp (show PL.getL _ _ from w);obtain⟨z,e1,r1⟩:=lF hx;obtain⟨a,vs,e2,ha,g1,g2⟩:=R.lst e hu;refine rk pZ s σ H x xs v us Q I rx r #[a,vs,z,e2,e1,g1,?_,q.putL R ha (g2.app (aT.cons r1 aT.nil)) w2];rw[<-g2.len];exact aM w1 ⋯
theorem Cb:FC X "list.extend" (uU c .extend):=by
 intro pZ s σ H x xs v us Q I rx r h;obtain⟨u,ux,ρ,S,QU,hu,hx,R,w,q⟩:=h
 match u,ux,w with
 |.loc n,[.loc m],w=>
  obtain⟨us',e,w1⟩:=PL.cD.mp (show PL.getL _ _ from w);obtain⟨ws,e',w2,w3⟩:=PL.cD.mp w1;obtain⟨z,e1,r1⟩:=lF hx;obtain⟨a,vs,e2,ha,g1,g2⟩:=R.lst e hu;obtain⟨b,zs,e3,hb,g3,g4⟩:=R.lst e' r1;exact wR pZ s σ H x xs v us Q I rx r #[a,b,vs,zs,e2,by rw[e1,e3],g1,g3,pH (by rw[<-g2.len,<-g4.len];exact w2),q.putL R ha (g2.app g4) w3]
theorem Ld(hK:X.K=c.K)(R:cj c ρ H S)(r:Rep c ρ H u v)(h:PL.rB S u=some b):NK X.K v H b:=by
 cases u with
 |bK=>rw[d8.mp r];exact(aH h).symm
 |bl k=>rw[dG.mp r];exact(aH h).symm
 |int i=>rw[aN.mp r];exact(aH h).symm
 |str l=>exact nn h
 |tup us=>
  obtain⟨a,vs,e,h1,h2⟩:=dz.mp r;simp[PL.rB,PL.pW] at h;rw[e]
  refine .inr (.inl #[vs,lS.of h1,?_]);have:=h2.len;rw[<-h]
  cases us<;>cases vs<;>simp at this ⊢
 |pC ns=>
  obtain⟨a,e,h1⟩:=qC.mp r;simp[PL.rB,PL.pW] at h;rw[e]
  refine .inl #[_,hK▸h1.sq,?_];rw[<-h]
  cases ns<;>simp
 |loc m=>
  unfold PL.rB PL.pW at h;cases q:S[m]? with
  |none=>simp only[q] at h;exact nn h
  |some o=>
   simp only[q] at h;cases o with
   |lst us=>
    obtain⟨a,vs,e,_,h1,h2⟩:=R.lst q r;simp at h;rw[e]
    refine .inl #[vs,gF.of h1,?_];have:=h2.len;rw[<-h]
    cases us<;>cases vs<;>simp at this ⊢
   |vG kvs=>
    obtain⟨a,e,ha⟩:=iR.mp r;obtain⟨vs,h1,h2,_⟩:=R.at_ m a _ ha q;simp at h;rw[e]
    refine .inr (.inr #[vs,h1,?_]);rw[<-h]
    cases kvs<;>cases vs<;>simp at h2 ⊢
   |ins x fs=>exact nn h
 |_=>exact nn h
end
open PL (U SO bI Xn KU KX bY)
structure vZ where
 cls:String->Option Addr
 exc:String->Option Addr
noncomputable abbrev Cx.cc(X:Cx)(t:vZ):Ctx:=#[X.prog,X.w,X.K,X.mg,X.base,t.cls,t.exc]
def lift(c:Ctx)(sp:PL.Spec):Sp:=λvs H Q E=>∃us ρ S QU EU,aT c ρ H us vs/\cj c ρ H S/\sp us S QU EU/\QV c ρ H QU Q/\QX c ρ H EU E
def FnAt(c:Ctx)(k:Nat)(f:Addr)(sp:PL.Spec):Prop:=∃fd ps,iI c.P c.w c.K c.mg c.base (pU c.P c.w) k f fd ps (lift c sp)/\Binds c.K fd ps []
structure Dr(c:Ctx)(T:Tab):Prop where
 const:∀p∈T.const,∃v u,c.mg (nm p.1)=some u/\RelV v u/\∀ρ H,Rep c ρ H p.2 v
 fL:∀x∈T.fL,c.mg (nm x)=none
 cls:∀x C,c.cls x=some C->wK c.K C/\∀f∈T.uO,fA c.K C (nm f)
 exc:∀x C,c.exc x=some C->XGet c.K C/\QG c.K C/\(∃bm,oh c.K C bm)/\∀f∈T.uO,fA c.K C (nm f)
 WX:∀x C y D,c.exc x=some C->c.exc y=some D->qZ c.K (.ref C) (.ref D)=some ((PL.oj x).contains y)
 WY:∀x C,c.exc x=some C->qZ c.K (.ref C) (.type "ValueError")=some true
 WZ:∀x∈T.yS,∃C,c.exc x=some C/\c.mg (nm x)=some (.ref C)
structure fX(c:Ctx)(T:Tab)(Γ:bY)(k:Nat):Prop where
 fns:∀x∈T.fns,∃f,c.mg (nm x)=some (.ref f)/\lR c.K (.ref f)=true/\FnAt c k f (Γ x)
 QM:∀p∈T.pY,∃C f,c.cls p.2=some C/\Meth c.K C (nm p.1) f/\FnAt c k f (Γ (p.2++"."++p.1))
 cls:∀x∈T.pX,∃C f,c.cls x=some C/\c.mg (nm x)=some (.ref C)/\Mk c.K C f/\FnAt c k f (Γ (x++".__init__"))
structure Good(t:vZ)(T:Tab)(Γ:bY)(k:Nat)(I:Inf)(X:Cx):Prop where
 tab:Dr (X.cc t) T
 Js:fX (X.cc t) T Γ k
 kind:X.env.scope.kind=.function
 names:X.env.scope.names=I.names
 slots:X.N=I.N
 nd:X.N.Nodup
 calm:I.calm=true->X.calm=true/\jx (k+1) X.A
 units:X.A.units+200<kf
theorem Good.at_{t:vZ}{T:Tab}{Γ:bY}{k:Nat}{I:Inf}{X:Cx}{pZ:List (Addr×Obj)}{E:St->XK}(G:Good t T Γ k I X):Good t T Γ k I (X.at_ pZ E):=
 #[G.tab,G.Js,G.kind,G.names,G.slots,G.nd,G.calm,G.units]
def EW(c:Ctx)(ρ:List Addr)(H:Hp)(J:It)(us:List U)(g:bI->Prop):Prop:=
 ∀(i:Nat)(ρ2:List Addr)(H2:Hp)(S2:bI),iz ρ H ρ2 H2->cj c ρ2 H2 S2->g S2 ->
  (∀u,us[i]?=some u->J.go i H2/\∀y H3,J.Rj i H2 y H3->iz ρ2 H2 ρ2 H3/\cj c ρ2 H3 S2/\Rep c ρ2 H3 u y)/\(us.length<=i->J.stop i H2)
def QI(c:Ctx)(ρ:List Addr)(H:Hp)(RU:List U->(bI->Prop)->bI->Prop)(R:It->Hp->Prop):Prop:=
 ∀us g S' H' ρ' J,RU us g S'->iz ρ H ρ' H'->cj c ρ' H' S'->EW c ρ' H' J us g->R J H'
noncomputable def zI(c:Ctx)(Γ:bY)(x:PL.It):XK->TI:=λE σ H R=>∃env ρ S RU EU,iJ c ρ H env σ/\cj c ρ H S/\PL.WI Γ x env S RU EU/\QI c ρ H RU R/\QX c ρ H EU E
def QO(c:Ctx)(ρ:List Addr)(H:Hp)(QU:Option Int->bI->Prop)(Q:Option Int->Hp->Prop):Prop:=∀o S' H' ρ',QU o S'->iz ρ H ρ' H'->cj c ρ' H' S'->Q o H'
noncomputable def Vo(c:Ctx)(Γ:bY)(x:PL.Ox):XK->TO:=λE σ H Q=>∃env ρ S QU EU,iJ c ρ H env σ/\cj c ρ H S/\PL.WO Γ x env S QU EU/\QO c ρ H QU Q/\QX c ρ H EU E
structure EX(t:vZ)(T:Tab)(Γ:bY)(k n:Nat):Prop where
 fe:∀{I X e x},Good t T Γ k I X->cE T n I e=some x->eM X e (tE (X.cc t) Γ x)
 QN:∀{I X es xs},Good t T Γ k I X->QK T n I es=some xs->Aq X es (EO (X.cc t) Γ xs)
 W0:∀{I X op vs x pos},Good t T Γ k I X->Vl T n I op vs=some x->eM X (.BoolOp op vs pos) (tE (X.cc t) Γ x)
 fo:∀{I X oe x},Good t T Γ k I X->cO T n I oe=some x->∀pZ E,PO (X.at_ pZ E) oe (λσ H Q=>Vo (X.cc t) Γ x (E σ) σ H Q)
 fi:∀{I X e x tg},Good t T Γ k I X->cI T n I e=some x->∀pZ E,PI (X.at_ pZ E) tg e (λσ H R=>zI (X.cc t) Γ x (E σ) σ H R)
 fn:∀{I X e x es ek tp},Good t T Γ k I X->cN T n I e=some x->∀pZ E,PI (X.at_ pZ E) (.Tuple es ek tp) e (λσ H R=>zI (X.cc t) Γ x (E σ) σ H R)
 ft:∀{I X e x},Good t T Γ k I X->cT T n I e=some x->B4 X e (tT (X.cc t) Γ x)
 W2:∀{I X op vs x pos},Good t T Γ k I X->Vm T n I op vs=some x->∀pZ E,PW (X.at_ pZ E) (.BoolOp op vs pos) (λσ H Q=>tT (X.cc t) Γ x (E σ) σ H Q)
section
variable{t:vZ}{T:Tab}{Γ:bY}{k n:Nat}{I:Inf}{X:Cx}
theorem dH:∀{l:List Str}{i:Nat},dy x l=some i->l[i]?=some x
 |[],_,h=>nn h
 |y::ys,i,h=>by
  unfold dy at h;by_cases e:y=x
  .rw[if_pos e] at h;injection h with h;subst h;subst e;rfl
  .rw[if_neg e] at h
   cases q:dy x ys with
   |none=>rw[q] at h;cases h
   |some j=>rw[q] at h;simp at h;subst h;simpa using dH q
theorem OS(h:KN (names.lookup x)=true)(e:sc.names=names):Jn sc x:=by
 rw[<-e] at h;unfold Jn;cases q:sc.names.lookup x with
 |none=>rw[q] at h;cases h
 |some kd=>rw[q] at h;cases kd<;>simp[KN] at h<;>simp
theorem Le(G:Good t T Γ k I X)(h:dy x I.N=some i)(hv:KN (I.names.lookup x)=true)(h1:(x==("__debug__":Str))=false)(h2:(x==("__classdict__":Str))=false):eM X (.Name x pos) (tE (X.cc t) Γ (.var i)):=by
 refine up λpZ E=>(pQ (i:=i) (X:=X.at_ pZ E) (by show X.N[i]?=some x;rw[G.slots];exact dH h) (OS hv G.names) h1 h2).imp ?_
 rintro σ H Q ⟨env,ρ,S,QU,EU,he,R,w,q,qx⟩;obtain⟨u,e,w⟩:=PL.Af.mp (show PL.yK _ _ from w);obtain⟨v,e1,r⟩:=he.at_ i u e;exact#[v,e1,q.now R w r]
theorem qF{e:Expr}{u:U}{v:V}(h:∀(pZ:List (Addr×Obj)) E,PE (X.at_ pZ E) e (tC v))(r:∀ρ H,Rep (X.cc t) ρ H u v):eM X e (tE (X.cc t) Γ (.lit u)):=by
 refine up λpZ E=>(h pZ E).imp ?_
 rintro σ H Q ⟨env,ρ,S,QU,EU,he,R,w,q,qx⟩;exact q.now R w (r ρ H)
theorem iS(h:pick l x=some s):s∈l/\nm s=x:=by
 unfold pick at h;exact#[yp h,by simpa using JI h]
theorem xr{α:Type}{l:List (String×α)}{x:Str}{s:String×α}(h:Ap l x=some s):s∈l/\nm s.1=x:=by
 unfold Ap at h;exact#[yp h,by simpa using JI h]
theorem hJ(G:Good t T Γ k I X){x:Str}(h:I.gl x=true):Gl X x:=by
 unfold Inf.gl at h;show X.env.scope.names.lookup x=_;rw[G.names]
 simpa using h
theorem HI{x:Str}{pos:Pos}{p:String×U}(G:Good t T Γ k I X)(hg:I.gl x=true)(h:Ap T.const x=some p)(h1:(x==("__debug__":Str))=false):eM X (.Name x pos) (tE (X.cc t) Γ (.lit p.2)):=by
 obtain⟨hm,e⟩:=xr h;obtain⟨v,u,e1,rv,r⟩:=G.tab.const p hm;subst e;exact qF (λpZ E=>CV (X:=X.at_ pZ E) (hJ G hg) e1 rv h1) r
theorem OT(G:Good t T Γ k I X)(ho:So op=some o)(ha:∀pZ E,eM (X.at_ pZ E) a (tE (X.cc t) Γ x))(hb:∀pZ E,eM (X.at_ pZ E) b (tE (X.cc t) Γ y)):eM X (.BinOp a op b pos) (tE (X.cc t) Γ (.bin o x y)):=by
 have e:op=KY o:=by
  cases op<;>first|exact nn ho| (cases ho;rfl)
 rw[e]
 refine up λpZ E=>(Rl (X:=X.at_ pZ E) (K6 (X:=X.at_ pZ E) (c:=X.cc t)) (dn (ha pZ E)) (dn (hb pZ E))).imp ?_
 rintro σ H Q ⟨env,ρ,S,QU,EU,he,R,w,q,qx⟩;refine#[env,ρ,S,_,EU,he,R,w,λu S1 v H1 ρ1 w1 st1 R1 r1=>?_,qx];refine#[env,ρ1,S1,_,EU,he.later R st1,R1,w1,λu2 S2 v2 H2 ρ2 w2 st2 R2 r2=>?_,qx.later st1];exact#[u,u2,ρ2,S2,QU,r1.mono R1 st2,r2,R2,w2,q.later (st1.trans st2)]
theorem OU(G:Good t T Γ k I X)(ho:KO op=some o)(hm:behindInMarks op b=false)(ha:∀pZ E,eM (X.at_ pZ E) a (tE (X.cc t) Γ x))(hb:∀pZ E,eM (X.at_ pZ E) b (tE (X.cc t) Γ y)):eM X (.Compare a [op] [b] pos) (tE (X.cc t) Γ (.cmp o x y)):=by
 have e:op=HA o:=by cases op<;>first|exact nn ho| (cases ho;rfl)
 subst e;refine up λpZ E=>(JX (X:=X.at_ pZ E) (Dp (X:=X.at_ pZ E) (c:=X.cc t) rfl rfl G.units o) (dn (ha pZ E)) (dn (hb pZ E)) hm).imp ?_
 rintro σ H Q ⟨env,ρ,S,QU,EU,he,R,w,q,qx⟩;refine#[env,ρ,S,_,EU,he,R,w,λu S1 v H1 ρ1 w1 st1 R1 r1=>?_,qx];refine#[env,ρ1,S1,_,EU,he.later R st1,R1,w1,λu2 S2 v2 H2 ρ2 w2 st2 R2 r2=>?_,qx.later st1];refine#[u,u2,ρ2,S2,r1.mono R1 st2,r2,R2,PL.xk (λr h=>?_) w2];exact(q.later (st1.trans st2)).now R2 h (dG.mpr rfl)
theorem Lf(G:Good t T Γ k I X)(ho:KO op=some o)(hm:behindInMarks op b=false)(ha:∀pZ E,eM (X.at_ pZ E) a (tE (X.cc t) Γ x))(hb:∀pZ E,eM (X.at_ pZ E) b (tE (X.cc t) Γ y)):B4 X (.Compare a [op] [b] pos) (tT (X.cc t) Γ (.cg (.cmp o x y))):=by
 have e:op=HA o:=by cases op<;>first|exact nn ho| (cases ho;rfl)
 subst e;refine Vn λpZ E=>(JY (X:=X.at_ pZ E) (Dp (X:=X.at_ pZ E) (c:=X.cc t) rfl rfl G.units o) (dn (ha pZ E)) (dn (hb pZ E)) hm).imp ?_
 rintro σ H Q ⟨env,ρ,S,QU,EU,he,R,w,q,qx⟩;refine#[env,ρ,S,_,EU,he,R,w,λu S1 v H1 ρ1 w1 st1 R1 r1=>?_,qx];refine#[env,ρ1,S1,_,EU,he.later R st1,R1,w1,λu2 S2 v2 H2 ρ2 w2 st2 R2 r2=>?_,qx.later st1];refine#[u,u2,ρ2,S2,r1.mono R1 st2,r2,R2,PL.xk (λr h=>#[r,rfl,?_]) w2];exact(q.later (st1.trans st2)) _ _ _ _ h .refl R2
end
open PL (U SO bI Xn KU KX bY)
theorem cV(h:noStar e=true):bS (e::es) env=(false,eval e env)::bS es env:=by
 cases e<;>first|rfl|cases h
theorem uX:∀{es:List Expr},es.all noStar=true->bS es env=es.map λe=>(false,eval e env)
 |[],_=>rfl
 |e::es,h=>by
  rw[bp,af] at h;rw[cV h.1,uX h.2];rfl
theorem ie(h:iy o=true):iY o m env (eval o env)=eval o env:=by
 cases o with
 |Call f args kws pos=>
  cases f with
  |Name id p=>
   cases args with
   |nil=>
    cases kws with
    |nil=>cases h
    |cons k ks=>rfl
   |cons a as=>rfl
  |_=>rfl
 |_=>rfl
theorem As(h:yT e=true):iH e tg l env=pure false:=by
 cases e<;>first|rfl|cases h
theorem gB(h:es.all noStar=true):(iL pos (bS es env)).any (·.1)=false:=by
 rw[uX h]
 unfold iL;simp
theorem xt(h:es.all noStar=true)(hn:es.length<20):Bn (es.length+([]:List r8).length) (iL pos (bS es env)) (backToKw pos (kN [] env))=true:=by
 rw[uX h]
 have e:kN [] env=[]:=rfl;rw[e]
 unfold Bn iL;simp[backToKw]
 omega
theorem xv(h0:iy o=true)(hst:args.all noStar=true)(hn:args.length<20)(hl:(apos.endLine==pos.line)=true):
  eval (.Call (.Attribute o m apos) args [] pos) env=(do
   let ov <-eval o env
   standAt apos.atName
   let (f,first) <-holding [ov] (getMethod ov m (do return (<-importBound o env).getD true))
   callWith pos f first (iL pos (bS args env)) (backToKw pos (kN [] env))):=by
 change (do
  let ov <-iY o m env (eval o env)
  standAt apos.atName
  methodCall o m apos pos env ov (args.length+[].length) (iL pos (bS args env)) (backToKw pos (kN [] env)))=_
 simp only[ie h0,methodCall,xt hst hn,calleeOf,methodCallPos,hl]
 rfl
open PL (U SO bI Xn KU KX bY)
section
variable{X:Cx}{k:Nat}{f C:Addr}{fd:dQ}{ps:List Str}{sp:Sp}{x m:Str}{p pos apos:Pos}{e o:Expr}{es:List Expr}{ta:XK->TA}{to:XK->TE}
theorem W3(F:iI X.prog X.w X.K X.mg X.base (pU X.prog X.w) k f fd ps sp)(hr:jx k X.A)(hg:Gl X x)(hm:X.mg x=some (.ref f))(hk:lR X.K (.ref f)=true)(hb:Binds X.K fd ps [])(ha:Aq X (e::es) ta)
  (hdb:(x==("__debug__":Str))=false) (he:noStar e=true) (hes:es.all noStar=true):eM X (.Call (.Name x p) (e::es) [] pos) (λE σ H Q=>ta E σ H λvs H1=>sp vs H1 Q E):=by
 intro pZ s σ H Q E I h;refine dw (mO I hg hm ?_ hdb);refine Bo (h₀:=X.base) I.ok.mod.QD hk (fh (ha pos pZ s σ H _ E I h) λus s1 h9=>?_) (cV he) (gB hes);obtain⟨vs,H1,I1,r,q⟩:=h9;refine#[I1.kY,?_];exact tD F hr hb .nil I1 r (by rw[bb];exact q)
theorem Sz(F:iI X.prog X.w X.K X.mg X.base (pU X.prog X.w) k f fd ps sp)(hr:jx k X.A)(hg:Gl X x)(hm:X.mg x=some (.ref f))(hk:lR X.K (.ref f)=true)(hb:Binds X.K fd ps [])
  (hdb:(x==("__debug__":Str))=false):eM X (.Call (.Name x p) [] [] pos) (λE σ H Q=>sp [] H Q E):=by
 intro pZ s σ H Q E I h;refine dw (mO I hg hm ?_ hdb);exact JJ I.kY hk (tD (us:=[]) (vs:=[]) F hr hb .nil I .nil h)
theorem W4(he:eM X o to)(c:wK X.K C)(hm:Meth X.K C m f)(F:iI X.prog X.w X.K X.mg X.base (pU X.prog X.w) k f fd ps sp)(hr:jx k X.A)(hb:Binds X.K fd ps [])(ha:Aq X (e::es) ta)
  (h0:iy o=true) (hn:(e::es).length<20) (hl:(apos.endLine==pos.line)=true) (hse:noStar e=true) (hes:es.all noStar=true):
  eM X (.Call (.Attribute o m apos) (e::es) [] pos) (λE σ H Q=>to E σ H λx H1=>∃a dx fs,x=.ref a/\H1 a=some (.ins C dx fs)/\fs.lookup m=none/\ta E σ H1 λvs H2=>sp (x::vs) H2 Q E):=by
 intro pZ s σ H Q E I h;refine methodCall_KW (fh (he pZ s σ H _ E I h) λu s1 h9=>?_) (xv h0 (by rw[bp,hse,hes];rfl) hn hl);obtain⟨x,H1,I1,rx,a,dx,fs,ex,ea,l,q⟩:=h9;subst ex;obtain rfl:u=aV a:=rx;refine ug I1 ea c hm l ?_;refine Bo (first:=[.ref a]) (h₀:=X.base) I.ok.mod.QD hm.kp (fh (ha pos pZ s1 σ H1 _ E I1 q) λus s2 h9=>?_) (cV hse) (gB hes);obtain⟨vs,H2,I2,r,q2⟩:=h9;refine#[I2.kY,?_];exact tD (us:=.ref a::us) (vs:=.ref a::vs) F hr hb .nil I2 (.cons rfl r) (by rw[bb];exact q2)
theorem SA(he:eM X o to)(c:wK X.K C)(hm:Meth X.K C m f)(F:iI X.prog X.w X.K X.mg X.base (pU X.prog X.w) k f fd ps sp)(hr:jx k X.A)(hb:Binds X.K fd ps [])
  (h0:iy o=true) (hl:(apos.endLine==pos.line)=true):
  eM X (.Call (.Attribute o m apos) [] [] pos) (λE σ H Q=>to E σ H λx H1=>∃a dx fs,x=.ref a/\H1 a=some (.ins C dx fs)/\fs.lookup m=none/\sp [x] H1 Q E):=by
 intro pZ s σ H Q E I h;refine methodCall_KW (fh (he pZ s σ H _ E I h) λu s1 h9=>?_) (xv h0 rfl ⋯ hl);obtain⟨x,H1,I1,rx,a,dx,fs,ex,ea,l,q⟩:=h9;subst ex;obtain rfl:u=aV a:=rx;refine ug I1 ea c hm l ?_;exact JJ (first:=[.ref a]) I1.kY hm.kp (tD (us:=[.ref a]) (vs:=[.ref a]) F hr hb .nil I1 (.cons rfl .nil) q)
theorem xw(M:Mk X.K C f)(F:iI X.prog X.w X.K X.mg X.base (pU X.prog X.w) k f fd ps sp)(hr:jx (k+1) X.A)(hb:Binds X.K fd ps [])
  (I:Inv X pZ σ H s) (r:Vals vs us) (h:∀x dx,H x=none->H dx=none->dx≠x->sp (.ref x::vs) (upd (upd H dx (.own x)) x (.ins C dx [])) (λv H2=>v=.bK/\Q (.ref x) H2) E):
  wpAny (aR X.prog X.w) X.A (call (.ref C) us) (EP X pZ σ Q) (XE X pZ σ E) s:=by
 have hq:=h (s.heap.objs.size+1) s.heap.objs.size (I.dg.fresh (gS _)) (I.dg.fresh (ax _)) (b7 (tY _));have I2:=Inv.made (C:=C) I;have r2:Vals (V.ref (s.heap.objs.size+1)::vs) (aV (s.heap.objs.size+1)::us):=.cons rfl r;have hl:(aV (s.heap.objs.size+1)::us++([]:List Value)).length=ps.length:=by
  have e:=r2.length;rw[F.len _ _ _ _ hq] at e;rw[bb]
  exact e.symm
 have hb2:=hb {s with heap:=(s.heap.push cG).push (du C s.heap.objs.size)} (aV (s.heap.objs.size+1)::us) I2.kY hl;rw[bb] at hb2;refine pO (Ge (f:=f) I.kY M.makes M.init (beq_iff_eq.mp M.fn) (md (F.run _ X.stack _ _ #[aV (s.heap.objs.size+1)::us,[]] (aV (s.heap.objs.size+1)::us) _ _ E (hr.make C us [])
  (I2.NQ.make C us []) hb2 r2 hq) λr s' hq'=>?_))
 cases r with
 |error e=>
  obtain⟨a,T,c,dx,H',e1,I',x,fr,q⟩:=pU.inv I2 hq';exact#[a,some T,c,dx,H',e1,I',x,fr,q]
 |ok fl=>
  cases fl with
  |ret u=>
   obtain⟨v,H',I3,rv,ev,q3⟩:=I2.after hq';subst ev;exact#[rv,#[V.ref (s.heap.objs.size+1),H',I3,rfl,q3]]
  |next=>exact aI hq'
  |brk=>exact aI hq'
  |cont=>exact aI hq'
theorem W5(M:Mk X.K C f)(F:iI X.prog X.w X.K X.mg X.base (pU X.prog X.w) k f fd ps sp)(hr:jx (k+1) X.A)(hg:Gl X x)(hm:X.mg x=some (.ref C))(hb:Binds X.K fd ps [])(ha:Aq X (e::es) ta)
  (hdb:(x==("__debug__":Str))=false) (he:noStar e=true) (hes:es.all noStar=true):eM X (.Call (.Name x p) (e::es) [] pos) (λE σ H Q=>ta E σ H λvs H1=>∀x dx,H1 x=none->H1 dx=none->dx≠x ->
   sp (.ref x::vs) (upd (upd H1 dx (.own x)) x (.ins C dx [])) (λv H2=>v=.bK/\Q (.ref x) H2) E):=by
 intro pZ s σ H Q E I h;refine dw (mO I hg hm ?_ hdb);refine Bo (h₀:=X.base) I.ok.mod.QD M.kp (fh (ha pos pZ s σ H _ E I h) λus s1 h9=>?_) (cV he) (gB hes);obtain⟨vs,H1,I1,r,q⟩:=h9;refine#[I1.kY,?_];exact xw M F hr hb I1 r q
theorem SD(M:Mk X.K C f)(F:iI X.prog X.w X.K X.mg X.base (pU X.prog X.w) k f fd ps sp)(hr:jx (k+1) X.A)(hg:Gl X x)(hm:X.mg x=some (.ref C))(hb:Binds X.K fd ps [])
  (hdb:(x==("__debug__":Str))=false):eM X (.Call (.Name x p) [] [] pos) (λE σ H Q=>∀x dx,H x=none->H dx=none->dx≠x ->
   sp [.ref x] (upd (upd H dx (.own x)) x (.ins C dx [])) (λv H2=>v=.bK/\Q (.ref x) H2) E):=by
 intro pZ s σ H Q E I h;refine dw (mO I hg hm ?_ hdb);exact JJ I.kY M.kp (xw (us:=[]) (vs:=[]) M F hr hb I .nil h)
end
theorem eM.imp(h:eM X e t)(q:∀E σ H Q,t' E σ H Q->t E σ H Q):eM X e t':=λpZ s σ H Q E I z=>h pZ s σ H Q E I (q E σ H Q z)
section
variable{t:vZ}{T:Tab}{Γ:bY}{k n:Nat}{I:Inf}{X:Cx}
theorem lG:∀{n:Nat}{I:Inf}{es:List Expr}{xs:PL.yJ},QK T n I es=some xs->es.all noStar=true
 |0,_,_,_,h=>by rw[MH] at h;cases h
 |n+1,I,[],_,_=>rfl
 |n+1,I,e::es,_,h=>by
  rw[Hn,Hk] at h;by_cases z:noStar e=true
  .simp only[z,bO,ah,if_false,aJ,au] at h
   obtain⟨x,_,xs,h2,_⟩:=h;rw[bp,z,lG h2];rfl
  .simp[z] at h
theorem OV(IH:EX t T Γ k n)(G:Good t T Γ k I X):∀{es:List Expr}{xs:PL.yJ},QK T (n+1) I es=some xs->Aq X es (EO (X.cc t) Γ xs)
 |[],xs,h=>by
  rw[Hn,Hk] at h;injection h with h;subst h
  refine Yv λpZ E=>?_
  refine λpos pins' s σ H Q J z=>yy (X:=X.at_ pZ E) pos pins' s σ H Q J ?_
  obtain⟨env,ρ,S,QU,EU,he,R,w,q,qx⟩:=z;exact q [] S [] H ρ w .refl R aT.nil
 |e::es,xs,h=>by
  have st:=lG h;rw[bp,af] at st;rw[Hn,Hk] at h;simp only[st.1,bO,ah,if_false,aJ,au] at h;obtain⟨x,h1,ys,h2,h3⟩:=h;injection h3 with h3;subst h3
  refine Yv λpZ E=>?_
  have P:=qm (X:=X.at_ pZ E) (dn (IH.fe G.at_ h1)) (B5 (IH.QN G.at_ h2)) (cV st.1);refine λpos pins' s σ H Q J z=>P pos pins' s σ H Q J ?_
  obtain⟨env,ρ,S,QU,EU,he,R,w,q,qx⟩:=z;refine#[env,ρ,S,_,EU,he,R,w,λu S1 v H1 ρ1 w1 st1 R1 r1=>?_,qx];refine#[env,ρ1,S1,_,EU,he.later R st1,R1,w1,λus S2 vs H2 ρ2 w2 st2 R2 r2=>?_,qx.later st1];exact q _ _ _ _ _ w2 (st1.trans st2) R2 (aT.cons (r1.mono R1 st2) r2)
theorem OW(ha:∀pZ E,eM (X.at_ pZ E) a (tE (X.cc t) Γ x)):eM X (.UnaryOp .USub a pos) (tE (X.cc t) Γ (.neg x)):=by
 refine up λpZ E=>(Rm (X:=X.at_ pZ E) NH (dn (ha pZ E))).imp ?_
 rintro σ H Q ⟨env,ρ,S,QU,EU,he,R,w,q,qx⟩;refine#[env,ρ,S,_,EU,he,R,w,λu S1 v H1 ρ1 w1 st1 R1 r1=>?_,qx];obtain⟨i,e,w2⟩:=PL.eQ.mp w1;subst e;exact#[i,aN.mp r1,(q.later st1).now R1 w2 (aN.mpr rfl)]
theorem OX(ha:∀pZ E,eM (X.at_ pZ E) a (tE (X.cc t) Γ x)):eM X (.UnaryOp .Not a pos) (tE (X.cc t) Γ (.not x)):=by
 refine up λpZ E=>(Nm (X:=X.at_ pZ E) (dn (ha pZ E))).imp ?_
 rintro σ H Q ⟨env,ρ,S,QU,EU,he,R,w,q,qx⟩;refine#[env,ρ,S,_,EU,he,R,w,λu S1 v H1 ρ1 w1 st1 R1 r1=>?_,qx];obtain⟨i,e,w2⟩:=PL.yL.mp w1;subst e;exact#[i,dG.mp r1,(q.later st1).now R1 w2 (dG.mpr rfl)]
theorem OY(IH:EX t T Γ k n)(G:Good t T Γ k I X):∀{vs:List Expr}{x:PL.Ex},Vl T (n+1) I op vs=some x->eM X (.BoolOp op vs pos) (tE (X.cc t) Γ x)
 |[],x,h=>by rw[Ho,Hl] at h;cases h
 |[a],x,h=>by
  rw[Ho,Hl] at h;refine up λpZ E=>Nk (X:=X.at_ pZ E) (dn (IH.fe G.at_ h))
 |a::b::r,y,h=>by
  rw[Ho,Hl] at h;simp only[aJ,au] at h;obtain⟨x,h1,z,h2,h3⟩:=h;injection h3 with h3;subst h3
  cases op with
  |And=>
   refine up λpZ E=>(Nl (X:=X.at_ pZ E) (dn (IH.fe G.at_ h1)) (dn (IH.W0 G.at_ h2))).imp ?_
   rintro σ H Q ⟨env,ρ,S,QU,EU,he,R,w,q,qx⟩;refine#[env,ρ,S,_,EU,he,R,w,λu S1 v H1 ρ1 w1 st1 R1 r1=>?_,qx];obtain⟨i,e,w2⟩:=PL.yL.mp w1;subst e;refine#[i,dG.mp r1,?_];cases i with
   |true=>exact#[env,ρ1,S1,QU,EU,he.later R st1,R1,w2,q.later st1,qx.later st1]
   |false=>exact(q.later st1).now R1 w2 (dG.mpr rfl)
  |Or=>
   refine up λpZ E=>(Q7 (X:=X.at_ pZ E) (dn (IH.fe G.at_ h1)) (dn (IH.W0 G.at_ h2))).imp ?_
   rintro σ H Q ⟨env,ρ,S,QU,EU,he,R,w,q,qx⟩;refine#[env,ρ,S,_,EU,he,R,w,λu S1 v H1 ρ1 w1 st1 R1 r1=>?_,qx];obtain⟨i,e,w2⟩:=PL.yL.mp w1;subst e;refine#[i,dG.mp r1,?_];cases i with
   |true=>exact(q.later st1).now R1 w2 (dG.mpr rfl)
   |false=>exact#[env,ρ1,S1,QU,EU,he.later R st1,R1,w2,q.later st1,qx.later st1]
theorem SE(hc:∀pZ E,B4 (X.at_ pZ E) c (tT (X.cc t) Γ x))(ha:∀pZ E,eM (X.at_ pZ E) a (tE (X.cc t) Γ y))(hb:∀pZ E,eM (X.at_ pZ E) b (tE (X.cc t) Γ z)):eM X (.IfExp c a b pos) (tE (X.cc t) Γ (.wX x y z)):=by
 refine up λpZ E=>(F5 (X:=X.at_ pZ E) (QL (hc pZ E)) (dn (ha pZ E)) (dn (hb pZ E))).imp ?_
 rintro σ H Q ⟨env,ρ,S,QU,EU,he,R,w,q,qx⟩;refine#[env,ρ,S,_,EU,he,R,w,λb S1 H1 ρ1 w1 st1 R1=>?_,qx];cases b with
 |true=>exact#[env,ρ1,S1,QU,EU,he.later R st1,R1,w1,q.later st1,qx.later st1]
 |false=>exact#[env,ρ1,S1,QU,EU,he.later R st1,R1,w1,q.later st1,qx.later st1]
theorem OZ(ha:∀pZ E,Aq (X.at_ pZ E) es (EO (X.cc t) Γ xs)):eM X (.Tuple es j pos) (tE (X.cc t) Γ (.tup xs)):=by
 refine up λpZ E=>(NO (X:=X.at_ pZ E) (B5 (ha pZ E))).imp ?_
 rintro σ H Q ⟨env,ρ,S,QU,EU,he,R,w,q,qx⟩;refine#[env,ρ,S,_,EU,he,R,w,λus S1 vs H1 ρ1 w1 st1 R1 r1=>?_,qx];exact#[by rw[<-r1.len];exact pH w1.1,λp hp=>(q.later st1).KW R1 r1 w1.2 hp]
theorem O0(ha:∀pZ E,Aq (X.at_ pZ E) es (EO (X.cc t) Γ xs)):eM X (.List es pos) (tE (X.cc t) Γ (.lst xs)):=by
 refine up λpZ E=>(NP (X:=X.at_ pZ E) (B5 (ha pZ E))).imp ?_
 rintro σ H Q ⟨env,ρ,S,QU,EU,he,R,w,q,qx⟩;refine#[env,ρ,S,_,EU,he,R,w,λus S1 vs H1 ρ1 w1 st1 R1 r1=>?_,qx];exact#[by rw[<-r1.len];exact pH w1.1,λp hp=>(q.later st1).Hs R1 r1 w1.2 hp]
theorem mY:∀{fs:List (String×U)}{vs:List (Str×V)},vs.map (·.1)=(fs.map (·.1)).map nm->aT c ρ H (fs.map (·.2)) (vs.map (·.2))->fs.lookup f=some u->(∀a b:String,nm a=nm b->a=b)->∃v,vs.lookup (nm f)=some v/\Rep c ρ H u v
 |[],vs,_,_,h,_=>nomatch h
 | (g,w)::fs,[],e,_,_,_=>by simp at e
 | (g,w)::fs,(a,v)::vs,e,r,h,inj=>by
  simp only[aF,dW] at e;rw[aF,aF] at r;unfold aT at r;obtain⟨v',r',e',h1,h2⟩:=r;injection e' with e1 e2
  subst e1;subst e2;rw[ba] at h ⊢;by_cases z:f=g
  .subst z
   simp at h;subst h;have:(nm f==a)=true:=by rw[e.1];simp
   rw[this]
   exact#[v,rfl,h1]
  .have z1:(f==g)=false:=by simp[z]
   rw[z1] at h;have z2:(nm f==a)=false:=by
    rw[e.1]
    simp only[beq_eq_false_iff_ne,ne_eq];exact λq=>z (inj _ _ q)
   rw[z2]
   exact mY e.2 h2 h inj
theorem rF(a b:String)(h:nm a=nm b):a=b:=by
 unfold nm at h;rw[Str.ofString_eq_byList] at h;unfold Str.ofStringByList at h;injection h with h
 have h2:=congrArg zN h;simp only[] at h2;have h3:a.toList=b.toList:=by
  refine(List.map_inj_right (f:=Char.toNat) ?_).mp h2;intro x y e;exact Char.ext (UInt32.toNat_inj.mp e)
 exact String.toList_inj.mp h3
end
open PL (U SO bI Xn KU KX bY)
theorem Lg(he:PE X e ta)(hb:iY e f X.env (eval e X.env)=eval e X.env):PE X (.Attribute e f pos) (λσ H Q=>ta σ H λx H1=>
  (∃a C dx fs v,x=.ref a/\H1 a=some (.ins C dx fs)/\wK X.K C/\fA X.K C f/\fs.lookup f=some v/\Q v H1) \/
  (∃a C d fs v,x=.ref a/\H1 a=some (.xc a (.ref C) (some d))/\H1 d=some (.xf d fs)/\XGet X.K C/\fA X.K C f/\fs.lookup f=some v/\Q v H1)):=by
 intro pZ s σ H Q I h;refine J0 hb (fh (he pZ s σ H _ I h) λu s1 h9=>?_);obtain⟨x,H1,I1,rx,z⟩:=h9;rcases z with⟨a,C,dx,fs,v,ex,ea,c,n,l,q⟩|⟨a,C,d,fs,v,ex,ea,hd,G,n,l,q⟩
 .subst ex
  obtain rfl:u=aV a:=rx;exact uf I1 ea c n l λu' s2 I2 ru=>#[v,H1,I2,ru,q]
 .subst ex
  obtain rfl:u=aV a:=rx;obtain⟨⟨vs,sl,q0⟩,_⟩:=I1.dg a _ ea;obtain⟨mA,ns,r,_⟩:=C7 I1.dg hd;obtain⟨oD,es,ep,eo,c⟩:=id ns;obtain⟨w,hw,rw'⟩:=nI.some_of (v:=v) (o:=mA f) (by rw[<-l];exact r f);refine Kq (ox:=#[.ref C,some d,.fields vs,sl]) (od:=some oD) I1.kY #[q0,rfl,rfl,eo] G (findObj_own G.hd n rfl ?_) (wJ rw') #[v,H1,I1.tok _,rw',q];obtain⟨o2,e2,hl⟩:=wI ns;rw[eo] at e2;cases e2;rw[hl f,hw]
section
variable{t:vZ}{T:Tab}{Γ:bY}{k n:Nat}{I:Inf}{X:Cx}
theorem Cc{us:List U}{l:List String}(h:l.length=us.length):(l.zip us).map (·.1)=l/\(l.zip us).map (·.2)=us:=by
 constructor
 .exact Jg ∅
 .exact Jh ∅
theorem O1{o:Expr}{f:String}{x:PL.Ex}{pos:Pos}(G:Good t T Γ k I X)(hf:f∈T.uO)(h0:iy o=true)(ho:∀pZ E,eM (X.at_ pZ E) o (tE (X.cc t) Γ x)):eM X (.Attribute o (nm f) pos) (tE (X.cc t) Γ (.fld x f)):=by
 refine up λpZ E=>(Lg (X:=X.at_ pZ E) (dn (ho pZ E)) (ie h0)).imp ?_
 rintro σ H Q ⟨env,ρ,S,QU,EU,he,R,w,q,qx⟩;refine#[env,ρ,S,_,EU,he,R,w,λu S1 v H1 ρ1 w1 st1 R1 r1=>?_,qx];cases u with
 |loc m=>
  obtain⟨c,fs,e,w2⟩:=PL.mv.mp (show PL.mq _ _ from w1);obtain⟨u,e2,w3⟩:=PL.ig.mp w2;obtain⟨a,C,dx,vs,ev,_,hc,ha,hn,hr⟩:=R1.ins e r1;obtain⟨v',l,r2⟩:=mY hn hr e2 rF;obtain⟨cl,na⟩:=G.tab.cls c C hc;exact .inl #[a,C,dx,vs,v',ev,ha,cl,na f hf,l,(q.later st1).now R1 w3 r2]
 |exc c us=>
  obtain⟨u,e2,w3⟩:=PL.ig.mp (show PL.opt _ _ from w1);unfold Rep at r1;obtain⟨a,d,C,fs,ev,hc,ha,hd,hn,hr⟩:=r1;obtain⟨xg,_,_,na⟩:=G.tab.exc c C hc;have hl:(PL.cJ c).length=us.length:=by
   have h1:=congrArg cM hn;have h2:=hr.len;simp at h1 h2;omega
  obtain⟨z1,z2⟩:=Cc hl;obtain⟨v',l,r2⟩:=mY (fs:=(PL.cJ c).zip us) (vs:=fs) (by rw[z1];exact hn) (by rw[z2];exact hr) e2 rF;exact .inr #[a,C,d,fs,v',ev,ha,hd,xg,na f hf,l,(q.later st1).now R1 w3 r2]
 |_=>exact aI w1
theorem HJ(h:oZ b=true):C4 b:=by
 intro o i;cases b<;>first|rfl|cases h
theorem SH(hs:oZ b=true)(ha:∀pZ E,eM (X.at_ pZ E) a (tE (X.cc t) Γ x))(hb:∀pZ E,eM (X.at_ pZ E) b (tE (X.cc t) Γ y)):eM X (.Subscript a b pos) (tE (X.cc t) Γ (.ix x y)):=by
 refine up λpZ E=>(RE (X:=X.at_ pZ E) (OP (X:=X.at_ pZ E) (c:=X.cc t) rfl rfl) (dn (ha pZ E)) (dn (hb pZ E)) (HJ hs)).imp ?_
 rintro σ H Q ⟨env,ρ,S,QU,EU,he,R,w,q,qx⟩;refine#[env,ρ,S,_,EU,he,R,w,λu S1 v H1 ρ1 w1 st1 R1 r1=>?_,qx];refine#[env,ρ1,S1,_,EU,he.later R st1,R1,w1,λu2 S2 v2 H2 ρ2 w2 st2 R2 r2=>?_,qx.later st1];refine#[u,u2,ρ2,S2,r1.mono R1 st2,r2,R2,PL.Hh (λr h v3 r3=>?_) w2];exact(q.later (st1.trans st2)).now R2 h r3
theorem SI(IH:EX t T Γ k n)(G:Good t T Γ k I X):∀{oe:Option Expr}{x:PL.Ox},cO T (n+1) I oe=some x->∀pZ E,PO (X.at_ pZ E) oe (λσ H Q=>Vo (X.cc t) Γ x (E σ) σ H Q)
 |none,x,h,pZ,E=>by
  rw[Sv,Vk] at h;injection h with h;subst h
  refine λpins' s σ H Q J z=>Ka (X:=X.at_ pZ E) pins' s σ H Q J ?_
  obtain⟨env,ρ,S,QU,EU,he,R,w,q,qx⟩:=z;exact q none S H ρ w .refl R
 |some e,x,h,pZ,E=>by
  rw[Sv,Vk] at h;obtain⟨y,h1,h2⟩:=ag.mp h;subst h2;refine λpins' s σ H Q J z=>Kb (X:=X.at_ pZ E) (dn (IH.fe G.at_ h1)) pins' s σ H Q J ?_
  obtain⟨env,ρ,S,QU,EU,he,R,w,q,qx⟩:=z;refine#[env,ρ,S,_,EU,he,R,w,λu S1 v H1 ρ1 w1 st1 R1 r1=>?_,qx];obtain⟨i,e,w2⟩:=PL.eQ.mp w1;subst e;exact#[i,aN.mp r1,q _ _ _ _ w2 st1 R1]
theorem SJ{a:Expr}{lo hi:Option Expr}{x:PL.Ex}{y z:PL.Ox}{pos p2:Pos}(ha:∀pZ E,eM (X.at_ pZ E) a (tE (X.cc t) Γ x))(hl:∀pZ E,PO (X.at_ pZ E) lo (λσ H Q=>Vo (X.cc t) Γ y (E σ) σ H Q))(hh:∀pZ E,PO (X.at_ pZ E) hi (λσ H Q=>Vo (X.cc t) Γ z (E σ) σ H Q)):eM X (.Subscript a (.Slice lo hi none p2) pos) (tE (X.cc t) Γ (.sl x y z)):=by
 refine up λpZ E=>(Gi (X:=X.at_ pZ E) (OR (X:=X.at_ pZ E) (c:=X.cc t) rfl) (dn (ha pZ E)) (hl pZ E) (hh pZ E)).imp ?_
 rintro σ H Q ⟨env,ρ,S,QU,EU,he,R,w,q,qx⟩;refine#[env,ρ,S,_,EU,he,R,w,λu S1 v H1 ρ1 w1 st1 R1 r1=>?_,qx];refine#[env,ρ1,S1,_,EU,he.later R st1,R1,w1,λl S2 H2 ρ2 w2 st2 R2=>?_,qx.later st1];have st12:=st1.trans st2;refine#[env,ρ2,S2,_,EU,he.later R st12,R2,w2,λh S3 H3 ρ3 w3 st3 R3=>?_,qx.later st12];exact#[u,ρ3,S3,QU,r1.mono R1 (st2.trans st3),R3,w3,q.later (st12.trans st3)]
end
open PL (U SO bI Xn KU KX bY)
section
variable{t:vZ}{T:Tab}{Γ:bY}{k n:Nat}{I:Inf}{X:Cx}
theorem O2(G:Good t T Γ k I X)(hg:I.gl f=true)(hb:OC f=some b)(hp:pick T.fL f=some s)(hcalm:X.calm=true)(hA:X.A.handled=none)(h1:noStar e=true)(h2:es.all noStar=true)
  (ha:∀pZ E,Aq (X.at_ pZ E) (e::es) (EO (X.cc t) Γ xs)):eM X (.Call (.Name f p) (e::es) [] pos) (tE (X.cc t) Γ (.blt b xs)):=by
 obtain⟨hm,rfl⟩:=iS hp;have hn:=G.tab.fL s hm;have rd:∀(pZ:List (Addr×Obj))(E:St->XK)(σ:St)(H:Hp)(Q:VK),tE (X.cc t) Γ (.blt b xs) (E σ) σ H Q->VY (sC (X.cc t) b) (λσ H Q=>EO (X.cc t) Γ xs (E σ) σ H Q) σ H Q:=by
  rintro pZ E σ H Q ⟨env,ρ,S,QU,EU,he,R,w,q,qx⟩;exact#[env,ρ,S,_,EU,he,R,w,λus S1 vs H1 ρ1 w1 st1 R1 r1=>#[us,ρ1,S1,QU,r1,R1,w1,q.later st1],qx]
 have sx:∀(pZ:List (Addr×Obj))(E:St->XK),bS (e::es) (X.at_ pZ E).env=(false,eval e (X.at_ pZ E).env)::bS es (X.at_ pZ E).env:=λ_ _=>cV h1
 have sy:∀(pZ:List (Addr×Obj))(E:St->XK),(iL pos (bS es (X.at_ pZ E).env)).any (·.1)=false:=λ_ _=>gB h2
 unfold OC at hb;by_cases c1:(nm s==("len":Str))=true
 .rw[if_pos c1] at hb;injection hb with hb;subst hb
  have ef:nm s=("len":Str):=by simpa using c1
  rw[ef] at hg hn ⊢;exact up λpZ E=>(oa (X:=X.at_ pZ E) (K8 rfl) (hJ G hg) hn JH (B5 (ha pZ E)) ⋯ ⋯ (sx pZ E) (sy pZ E)).imp (rd pZ E)
 rw[if_neg c1] at hb;by_cases c2:(nm s==("tuple":Str))=true
 .rw[if_pos c2] at hb;injection hb with hb;subst hb
  have ef:nm s=("tuple":Str):=by simpa using c2
  rw[ef] at hg hn ⊢;exact up λpZ E=>(rh (X:=X.at_ pZ E) (ET rfl) (hJ G hg) hn (by decide +kernel) (B5 (ha pZ E)) ⋯ ⋯ (sx pZ E) (sy pZ E)).imp (rd pZ E)
 rw[if_neg c2] at hb;by_cases c4:(nm s==("list":Str))=true
 .rw[if_pos c4] at hb;injection hb with hb;subst hb
  have ef:nm s=("list":Str):=by simpa using c4
  rw[ef] at hg hn ⊢;exact up λpZ E=>(rh (X:=X.at_ pZ E) (HD rfl) (hJ G hg) hn (by decide +kernel) (B5 (ha pZ E)) ⋯ ⋯ (sx pZ E) (sy pZ E)).imp (rd pZ E)
 rw[if_neg c4] at hb;by_cases c7:(nm s==("all":Str))=true
 .rw[if_pos c7] at hb;injection hb with hb;subst hb
  have ef:nm s=("all":Str):=by simpa using c7
  rw[ef] at hg hn ⊢;exact up λpZ E=>(oa (X:=X.at_ pZ E) (HE hcalm) (hJ G hg) hn (by decide +kernel) (B5 (ha pZ E)) ⋯ ⋯ (sx pZ E) (sy pZ E)).imp (rd pZ E)
 rw[if_neg c7] at hb;by_cases c8:(nm s==("sum":Str))=true
 .rw[if_pos c8] at hb;injection hb with hb;subst hb
  have ef:nm s=("sum":Str):=by simpa using c8
  rw[ef] at hg hn ⊢;exact up λpZ E=>(oa (X:=X.at_ pZ E) (K9 hcalm) (hJ G hg) hn boot_sum (B5 (ha pZ E)) ⋯ ⋯ (sx pZ E) (sy pZ E)).imp (rd pZ E)
 rw[if_neg c8] at hb;by_cases c9:(nm s==("any":Str))=true
 .rw[if_pos c9] at hb;injection hb with hb;subst hb
  have ef:nm s=("any":Str):=by simpa using c9
  rw[ef] at hg hn ⊢;exact up λpZ E=>(oa (X:=X.at_ pZ E) (HF hcalm) (hJ G hg) hn (by decide +kernel) (B5 (ha pZ E)) ⋯ ⋯ (sx pZ E) (sy pZ E)).imp (rd pZ E)
 rw[if_neg c9] at hb;by_cases c10:(nm s==("dict":Str))=true
 .rw[if_pos c10] at hb;injection hb with hb;subst hb
  have ef:nm s=("dict":Str):=by simpa using c10
  rw[ef] at hg hn ⊢;exact up λpZ E=>(rh (X:=X.at_ pZ E) (HG hA) (hJ G hg) hn (by decide +kernel) (B5 (ha pZ E)) ⋯ ⋯ (sx pZ E) (sy pZ E)).imp (rd pZ E)
 rw[if_neg c10] at hb;cases hb
theorem EY(G:Good t T Γ k I X)(hg:I.gl ("min":Str)=true)(hg2:I.gl ("len":Str)=true)(hb:"min"∈T.fL)(hb2:"len"∈T.fL)(hc:X.calm=true)(h1:noStar a=true)(ha:∀pZ E,eM (X.at_ pZ E) a (tE (X.cc t) Γ x)):
  eM X (.Call (.Name ("min":Str) p) [a] [#[some "key",.Name ("len":Str) pl,kp]] pos) (tE (X.cc t) Γ (.blt .uC (.cons x .nil))):=by
 refine up λpZ E=>(EH (X:=X.at_ pZ E) hc (hJ G hg) (G.tab.fL "min" hb) (hJ G hg2) (G.tab.fL "len" hb2) (dn (ha pZ E)) (cV h1)).imp ?_
 rintro σ H Q ⟨env,ρ,S,QU,EU,he,R,w,q,qx⟩;refine#[env,ρ,S,_,EU,he,R,w,λu S1 v H1 ρ1 w1 st1 R1 r1=>?_,qx];have w1:PL.sX .uC [u] S1 QU:=w1
 match u,w1 with
 |.loc n,w1=>
  obtain⟨t0,ts,e,hz,w2⟩:=w1;obtain⟨a,vs,e2,_,g1,g2⟩:=R1.lst e r1;rw[rE g2] at g1;exact#[a,t0,ts,e2,gF.of g1,hz,(q.later st1).now R1 w2 (bq.mpr rfl)]
end
open PL (U SO bI Xn KU KX bY)
section
variable{t:vZ}{T:Tab}{Γ:bY}{k n:Nat}{I:Inf}{X:Cx}
noncomputable def SK:PL.Od->String
 |.join=>"str"|.index=>"str"|.startswith=>"str"|.append=>"list"|.extend=>"list"|.mS=>"int"|_=>"dict"
theorem HK(hb:b=.join\/b=.index\/b=.append\/b=.extend\/b=.startswith)(R:cj c ρ H S)(r:Rep c ρ H u v)(w:PL.vW b u S):U7 c.K (SK b) v H:=by
 rcases hb with rfl|rfl|rfl|rfl|rfl
 .cases u<;>first|exact aI w| (rw[bq.mp r];rfl)
 .cases u<;>first|exact aI w| (rw[bq.mp r];rfl)
 .cases u<;>first|exact aI w|skip
  obtain⟨us,e,_⟩:=PL.cD.mp (show PL.getL _ _ from w);obtain⟨a,vs,ev,_,h1,_⟩:=R.lst e r;rw[ev]
  exact .inl #[rfl,vs,gF.of h1]
 .cases u<;>first|exact aI w|skip
  obtain⟨us,e,_⟩:=PL.cD.mp (show PL.getL _ _ from w);obtain⟨a,vs,ev,_,h1,_⟩:=R.lst e r;rw[ev]
  exact .inl #[rfl,vs,gF.of h1]
 .cases u<;>first|exact aI w| (rw[bq.mp r];rfl)
theorem rG(h:es.all noStar=true)(hn:es.length<20):((iL cpos (bS es env)).all (λx=>!x.1)&&(backToKw cpos (kN [] env)).all (λx=>x.1.isSome)
   && decide (es.length+([]:List r8).length+(if ([]:List r8).isEmpty then 0 else 1)<30))=true:=by
 have:=xt (pos:=cpos) (env:=env) h hn;unfold Bn at this;exact this
theorem O3(G:Good t T Γ k I X)(hb:OD m=some b)(hA:X.A.handled=none)(h0:iy o=true)(hl:(apos.endLine==cpos.line)=true)(hn:(e::es).length<20)(h1:noStar e=true)(h2:es.all noStar=true)
  (ho:∀pZ E,eM (X.at_ pZ E) o (tE (X.cc t) Γ x)) (ha:∀pZ E,Aq (X.at_ pZ E) (e::es) (EO (X.cc t) Γ xs)):eM X (.Call (.Attribute o m apos) (e::es) [] cpos) (tE (X.cc t) Γ (.kS b x xs)):=by
 have hst:(e::es).all noStar=true:=by rw[bp,h1,h2];rfl
 have rd:∀(hb':b=.join\/b=.index\/b=.append\/b=.extend\/b=.startswith)(E:St->XK)(σ:St)(H:Hp)(Q:VK),tE (X.cc t) Γ (.kS b x xs) (E σ) σ H Q->Xy X.K (SK b) (uU (X.cc t) b) (λσ H Q=>tE (X.cc t) Γ x (E σ) σ H Q) (λσ H Q=>EO (X.cc t) Γ xs (E σ) σ H Q) σ H Q:=by
  rintro hb' E σ H Q ⟨env,ρ,S,QU,EU,he,R,w,q,qx⟩;refine#[env,ρ,S,_,EU,he,R,w,λu S1 v H1 ρ1 w1 st1 R1 r1=>#[HK (c:=X.cc t) hb' R1 r1 w1.1,?_],qx];exact#[env,ρ1,S1,_,EU,he.later R st1,R1,w1.2,λus S2 vs H2 ρ2 w2 st2 R2 r2=>#[u,us,ρ2,S2,QU,r1.mono R1 st2,r2,R2,w2,q.later (st1.trans st2)],qx.later st1]
 unfold OD at hb;by_cases c1:(m==("join":Str))=true
 .rw[if_pos c1] at hb;injection hb with hb;subst hb
  have ef:m=("join":Str):=by simpa using c1
  subst ef;exact up λpZ E=>(z6 (X:=X.at_ pZ E) mM PySem.F.slot_str_join PySem.F.type_str_join (HH rfl) (dn (ho pZ E)) (B5 (ha pZ E)) (ie h0) (rG hst hn) hl (cV h1) (gB h2)).imp (rd (by simp) E)
 rw[if_neg c1] at hb;by_cases c2:(m==("index":Str))=true
 .rw[if_pos c2] at hb;injection hb with hb;subst hb
  have ef:m=("index":Str):=by simpa using c2
  subst ef;exact up λpZ E=>(z6 (X:=X.at_ pZ E) mM PySem.F.slot_str_index PySem.F.type_str_index (EV hA) (dn (ho pZ E)) (B5 (ha pZ E)) (ie h0) (rG hst hn) hl (cV h1) (gB h2)).imp (rd (by simp) E)
 rw[if_neg c2] at hb;by_cases c3:(m==("append":Str))=true
 .rw[if_pos c3] at hb;injection hb with hb;subst hb
  have ef:m=("append":Str):=by simpa using c3
  subst ef;exact up λpZ E=>(z6 (X:=X.at_ pZ E) wA PySem.F.slot_list_append PySem.F.type_list_append Ca (dn (ho pZ E)) (B5 (ha pZ E)) (ie h0) (rG hst hn) hl (cV h1) (gB h2)).imp (rd (by simp) E)
 rw[if_neg c3] at hb;by_cases c4:(m==("extend":Str))=true
 .rw[if_pos c4] at hb;injection hb with hb;subst hb
  have ef:m=("extend":Str):=by simpa using c4
  subst ef;exact up λpZ E=>(z6 (X:=X.at_ pZ E) wA PySem.F.slot_list_extend PySem.F.type_list_extend Cb (dn (ho pZ E)) (B5 (ha pZ E)) (ie h0) (rG hst hn) hl (cV h1) (gB h2)).imp (rd (by simp) E)
 rw[if_neg c4] at hb;by_cases c5:(m==("startswith":Str))=true
 .rw[if_pos c5] at hb;injection hb with hb;subst hb
  have ef:m=("startswith":Str):=by simpa using c5
  subst ef;exact up λpZ E=>(z6 (X:=X.at_ pZ E) mM PySem.F.slot_str_startswith PySem.F.type_str_startswith B9 (dn (ho pZ E)) (B5 (ha pZ E)) (ie h0) (rG hst hn) hl (cV h1) (gB h2)).imp (rd (by simp) E)
 rw[if_neg c5] at hb;cases hb
theorem Lh(G:Good t T Γ k I X)(h0:iy o=true)(hl:(apos.endLine==cpos.line)=true)(ho:∀pZ E,eM (X.at_ pZ E) o (tE (X.cc t) Γ x)):
  eM X (.Call (.Attribute o ("bit_length":Str) apos) [] [] cpos) (tE (X.cc t) Γ (.kS .mS x .nil)):=by
 refine up λpZ E=>(N0 (X:=X.at_ pZ E) PySem.F.plainAttrs_int PySem.F.slot_int_bit_length PySem.F.type_int_bit_length (B8 (c:=X.cc t)) (dn (ho pZ E)) (ie h0) hl).imp ?_
 rintro σ H Q ⟨env,ρ,S,QU,EU,he,R,w,q,qx⟩;refine#[env,ρ,S,_,EU,he,R,w,λu S1 v H1 ρ1 w1 st1 R1 r1=>#[?_,u,[],ρ1,S1,QU,r1,aT.nil,R1,w1.2,q.later st1],qx];cases u<;>first|exact aI w1.1| (rw[aN.mp r1];rfl)
theorem O4(G:Good t T Γ k I X)(h0:iy o=true)(hl:(apos.endLine==cpos.line)=true)(h1:noStar a=true)(h2:noStar d=true)(ho:∀pZ E,eM (X.at_ pZ E) o (tE (X.cc t) Γ x))
  (ha:∀pZ E,eM (X.at_ pZ E) a (tE (X.cc t) Γ y)) (hd:∀pZ E,eM (X.at_ pZ E) d (tE (X.cc t) Γ z)):eM X (.Call (.Attribute o ("get":Str) apos) [a,d] [] cpos) (tE (X.cc t) Γ (.kS .get x (.cons y (.cons z .nil)))):=by
 have hst:[a,d].all noStar=true:=by rw[bp,bp,h1,h2];rfl
 refine up λpZ E=>(GB (X:=X.at_ pZ E) (by have:=G.units;show X.A.units+1<kf;omega) (dn (ho pZ E)) (dn (ha pZ E)) (dn (hd pZ E)) #[ie h0,rG hst (show 2<20 by decide),hl,by
  rw[cV (e:=a) (es:=[d]) h1,cV (e:=d) (es:=[]) h2];rfl]).imp ?_
 rintro σ H Q ⟨env,ρ,S,QU,EU,he,R,w,q,qx⟩;refine#[env,ρ,S,_,EU,he,R,w,λu S1 v H1 ρ1 w1 st1 R1 r1=>?_,qx];obtain⟨w1,w2⟩:=w1;cases u<;>first|exact aI w1|skip
 rename_i n;obtain⟨kvs,e,_⟩:=PL.Ag.mp (show PL.getD _ _ from w1);obtain⟨a1,e1,ha1⟩:=iR.mp r1;obtain⟨vs,g1,g2,g3,g4⟩:=R1.at_ n a1 _ ha1 e;refine#[a1,e1,.inl #[vs,.inl g1],env,ρ1,S1,_,EU,he.later R st1,R1,w2,λu2 S2 v2 H2 ρ2 w3 st2 R2 r2=>?_,qx.later st1];refine#[env,ρ2,S2,_,EU,(he.later R st1).later R1 st2,R2,w3,λu3 S3 v3 H3 ρ3 w4 st3 R3 r3=>?_,(qx.later st1).later st2];have r2':=r2.mono R2 st3;cases u2<;>first|exact aI w4|skip
 rename_i k;obtain⟨kvs',e',ps,ep,w5⟩:=PL.Ag.mp (show PL.getD _ _ from w4);obtain⟨vs',f1,f2,f3,f4⟩:=R3.at_ n a1 _ (st3.get (st2.get ha1)) e';subst ep;have g:=Gz.k (k:=fq (tx k)) f1;rw[bq.mp r2']
 rcases Lc (k:=k) f2 f3 f4 with⟨l1,l2⟩|⟨u',v',l1,l2,l3⟩
 .rw[l2] at g
  rw[l1] at w5;exact#[none,g,(q.later ((st1.trans st2).trans st3)).now R3 w5 r3]
 .rw[l2] at g
  rw[l1] at w5;exact#[some v',g,(q.later ((st1.trans st2).trans st3)).now R3 w5 l3]
theorem Li(G:Good t T Γ k I X)(hg:I.gl (nm q)=true)(hc:I.calm=true)(hq:q∈T.fns)(hd:(nm q==("__debug__":Str))=false)(h1:noStar e=true)(h2:es.all noStar=true)
  (ha:Aq X (e::es) (EO (X.cc t) Γ xs)):eM X (.Call (.Name (nm q) p) (e::es) [] pos) (tE (X.cc t) Γ (.call q xs)):=by
 obtain⟨f,hm,hk,fd,ps,F,B⟩:=G.Js.fns q hq;refine(W3 (k:=k) F ((G.calm hc).2.mono (gS k)) (hJ G hg) hm hk B ha hd h1 h2).imp ?_;rintro E σ H Q ⟨env,ρ,S,QU,EU,he,R,w,qq,qx⟩;refine#[env,ρ,S,_,EU,he,R,w,λus S1 vs H1 ρ1 w1 st1 R1 r1=>?_,qx];exact#[us,ρ1,S1,QU,EU,r1,R1,w1,qq.later st1,qx.later st1]
theorem HL(G:Good t T Γ k I X)(hg:I.gl (nm q)=true)(hc:I.calm=true)(hq:q∈T.fns)(hd:(nm q==("__debug__":Str))=false):eM X (.Call (.Name (nm q) p) [] [] pos) (tE (X.cc t) Γ (.call q .nil)):=by
 obtain⟨f,hm,hk,fd,ps,F,B⟩:=G.Js.fns q hq;refine(Sz (k:=k) F ((G.calm hc).2.mono (gS k)) (hJ G hg) hm hk B hd).imp ?_;rintro E σ H Q ⟨env,ρ,S,QU,EU,he,R,w,qq,qx⟩;exact#[[],ρ,S,QU,EU,aT.nil,R,w,qq,qx]
theorem Au(R:cj c ρ H S)(hc:c.cls cn=some C)(hx:H x=none)(hd:H dx=none)(ne:dx≠x):
  iz ρ H (ρ++[x]) (upd (upd H dx (.own x)) x (.ins C dx []))/\cj c (ρ++[x]) (upd (upd H dx (.own x)) x (.ins C dx [])) (S++[.ins cn []])/\Rep c (ρ++[x]) (upd (upd H dx (.own x)) x (.ins C dx [])) (.loc S.length) (.ref x):=by
 have R1:=R.lay hd (.own x);have s1:=iz.lay R hd (.own x);have hx1:upd H dx (.own x) x=none:=by rw[bw (dJ ne)];exact hx
 have s2:=iz.alloc R1 hx1 (.ins C dx []);refine#[s1.trans s2,R1.alloc hx1 #[C,dx,[],hc,bJ,rfl,aT.nil],iR.mpr #[x,rfl,?_]];rw[<-R.len,ay (ax _),cq];rfl
theorem SM(G:Good t T Γ k I X)(hg:I.gl (nm q)=true)(hc:I.calm=true)(hq:q∈T.pX)(hd:(nm q==("__debug__":Str))=false)(h1:noStar e=true)(h2:es.all noStar=true)
  (ha:Aq X (e::es) (EO (X.cc t) Γ xs)):eM X (.Call (.Name (nm q) p) (e::es) [] pos) (tE (X.cc t) Γ (.mk q (q++".__init__") xs)):=by
 obtain⟨C,f,hC,hm,M,fd,ps,F,B⟩:=G.Js.cls q hq;refine(W5 (k:=k) M F (G.calm hc).2 (hJ G hg) hm B ha hd h1 h2).imp ?_;rintro E σ H Q ⟨env,ρ,S,QU,EU,he,R,w,qq,qx⟩;refine#[env,ρ,S,_,EU,he,R,w,λus S1 vs H1 ρ1 w1 st1 R1 r1=>?_,qx];intro x dx hx hdx ne;obtain⟨s2,R2,r2⟩:=Au R1 hC hx hdx ne;refine#[_,ρ1++[x],_,_,EU,aT.cons r2 (r1.mono R1 s2),R2,w1,λu S3 v H3 ρ3 w3 st3 R3 r3=>?_,qx.later (st1.trans s2)];obtain⟨rfl,w4⟩:=w3;exact#[d8.mp r3,qq _ _ _ _ _ w4 ((st1.trans s2).trans st3) R3 (r2.mono R2 st3)]
theorem O5(G:Good t T Γ k I X)(hg:I.gl (nm q)=true)(hc:I.calm=true)(hq:q∈T.pX)(hd:(nm q==("__debug__":Str))=false):eM X (.Call (.Name (nm q) p) [] [] pos) (tE (X.cc t) Γ (.mk q (q++".__init__") .nil)):=by
 obtain⟨C,f,hC,hm,M,fd,ps,F,B⟩:=G.Js.cls q hq;refine(SD (k:=k) M F (G.calm hc).2 (hJ G hg) hm B hd).imp ?_;rintro E σ H Q ⟨env,ρ,S,QU,EU,he,R,w,qq,qx⟩;intro x dx hx hdx ne;obtain⟨s2,R2,r2⟩:=Au R hC hx hdx ne;refine#[_,ρ++[x],_,_,EU,aT.cons r2 aT.nil,R2,w,λu S3 v H3 ρ3 w3 st3 R3 r3=>?_,qx.later s2];obtain⟨rfl,w4⟩:=w3;exact#[d8.mp r3,qq _ _ _ _ _ w4 (s2.trans st3) R3 (r2.mono R2 st3)]
theorem lookup_none:∀{fs:List (String×U)}{vs:List (Str×V)}{m:String},vs.map (·.1)=(fs.map (·.1)).map nm->fs.lookup m=none->vs.lookup (nm m)=none
 |[],[],_,_,_=>rfl
 |[],_::_,_,e,_=>by simp at e
 |_::_,[],_,e,_=>by simp at e
 | (g,w)::fs,(a,v)::vs,m,e,h=>by
  simp only[aF,dW] at e;rw[ba] at h ⊢;by_cases z:m=g
  .subst z;simp at h
  .have z1:(m==g)=false:=by simp[z]
   rw[z1] at h;have z2:(nm m==a)=false:=by
    rw[e.1]
    simp only[beq_eq_false_iff_ne,ne_eq];exact λq=>z (rF _ _ q)
   rw[z2]
   exact lookup_none e.2 h
theorem Lj(G:Good t T Γ k I X)(hc:I.calm=true)(hq:(m,q)∈T.pY)(h0:iy o=true)(hl:(apos.endLine==pos.line)=true)(hn:(e::es).length<20)(h1:noStar e=true)(h2:es.all noStar=true)
  (ho:eM X o (tE (X.cc t) Γ x)) (ha:Aq X (e::es) (EO (X.cc t) Γ xs)):eM X (.Call (.Attribute o (nm m) apos) (e::es) [] pos) (tE (X.cc t) Γ (.cu q m (q++"."++m) x xs)):=by
 obtain⟨C,f,hC,M,fd,ps,F,B⟩:=G.Js.QM (m,q) hq;refine(W4 (k:=k) ho (G.tab.cls q C hC).1 M F ((G.calm hc).2.mono (gS k)) B ha h0 hn hl h1 h2).imp ?_;rintro E σ H Q ⟨env,ρ,S,QU,EU,he,R,w,qq,qx⟩;refine#[env,ρ,S,_,EU,he,R,w,λu S1 v H1 ρ1 w1 st1 R1 r1=>?_,qx];obtain⟨l,e1,w2⟩:=PL.k6.mp w1;subst e1;obtain⟨c',fs,e2,⟨rfl,e3⟩,w3⟩:=PL.mv.mp w2;obtain⟨a,C',dx,vs,ev,_,hC',ha',hnn,_⟩:=R1.ins e2 r1;rw[hC] at hC';injection hC' with hC';subst hC'
 refine#[a,dx,vs,ev,ha',lookup_none hnn e3,?_];refine#[env,ρ1,S1,_,EU,he.later R st1,R1,w3,λus S2 vs2 H2 ρ2 w4 st2 R2 r2=>?_,qx.later st1];exact#[_,ρ2,S2,QU,EU,aT.cons (r1.mono R1 st2) r2,R2,w4,qq.later (st1.trans st2),qx.later (st1.trans st2)]
theorem HM(G:Good t T Γ k I X)(hc:I.calm=true)(hq:(m,q)∈T.pY)(h0:iy o=true)(hl:(apos.endLine==pos.line)=true)
  (ho:eM X o (tE (X.cc t) Γ x)):eM X (.Call (.Attribute o (nm m) apos) [] [] pos) (tE (X.cc t) Γ (.cu q m (q++"."++m) x .nil)):=by
 obtain⟨C,f,hC,M,fd,ps,F,B⟩:=G.Js.QM (m,q) hq;refine(SA (k:=k) ho (G.tab.cls q C hC).1 M F ((G.calm hc).2.mono (gS k)) B h0 hl).imp ?_;rintro E σ H Q ⟨env,ρ,S,QU,EU,he,R,w,qq,qx⟩;refine#[env,ρ,S,_,EU,he,R,w,λu S1 v H1 ρ1 w1 st1 R1 r1=>?_,qx];obtain⟨l,e1,w2⟩:=PL.k6.mp w1;subst e1;obtain⟨c',fs,e2,⟨rfl,e3⟩,w3⟩:=PL.mv.mp w2;obtain⟨a,C',dx,vs,ev,_,hC',ha',hnn,_⟩:=R1.ins e2 r1;rw[hC] at hC';injection hC' with hC';subst hC'
 refine#[a,dx,vs,ev,ha',lookup_none hnn e3,?_];exact#[_,ρ1,S1,QU,EU,aT.cons r1 aT.nil,R1,w3,qq.later st1,qx.later st1]
end
open PL (U SO bI Xn KU KX bY)
section
variable{t:vZ}{T:Tab}{Γ:bY}{k n:Nat}{I:Inf}{X:Cx}
noncomputable def ML(c:Ctx):PL.Ty->Option (V×Value)
 |.int=>some (.ty "int",.type "int")|.bool=>some (.ty "bool",.type "bool")|.str=>some (.ty "str",.type "str")|.list=>some (.ty "list",.type "list")
 |.tuple=>some (.ty "tuple",.type "tuple")|.dict=>some (.ty "dict",.type "dict")|.Kv=>some (.ty "ValueError",.type "ValueError")
 |.own x=>(c.exc x).map λC=>(.ref C,.ref C)
theorem Cd{c:Ctx}{tv:Value}{q p:V×Value}{x b:Bool}(hp:some q=some p)(h:some x=some b)(e:qZ c.K tv q.2=some x):qZ c.K tv p.2=some b:=by cases hp;cases h;exact e
theorem O6(Tb:Dr c T)(R:cj c ρ H S)(r:Rep c ρ H u v)(h:PL.Kz S u ty=some b)(hp:ML c ty=some p):∃tv,U8 c.K H v tv/\qZ c.K tv p.2=some b:=by
 cases u with
 |bK=>rw[d8.mp r];refine#[_,.of .bK,?_];cases ty<;>first|exact nn h|exact Cd hp h rfl
 |bl x=>rw[dG.mp r];refine#[_,.of (.bl x),?_];cases ty<;>first|exact nn h|exact Cd hp h rfl
 |int x=>rw[aN.mp r];refine#[_,.of (.int x),?_];cases ty<;>first|exact nn h|exact Cd hp h rfl
 |str x=>rw[bq.mp r];refine#[_,.of (.str _),?_];cases ty<;>first|exact nn h|exact Cd hp h rfl
 |tup us=>
  obtain⟨a,vs,e,h1,h2⟩:=dz.mp r;rw[e];refine#[_,.of (.tup h1),?_];cases ty<;>first|exact nn h|exact Cd hp h rfl
 |loc m=>
  change PL.G6 S[m]? ty=some b at h
  cases q:S[m]? with
  |none=>rw[q] at h;exact nn h
  |some o=>
   rw[q] at h;cases o with
   |lst us=>
    obtain⟨a,vs,e,_,h1,h2⟩:=R.lst q r;rw[e];refine#[_,.of (.lst h1),?_];cases ty<;>first|exact nn h|exact Cd hp h rfl
   |vG kvs=>
    obtain⟨a,e,ha⟩:=iR.mp r;obtain⟨vs,h1,_⟩:=R.at_ m a _ ha q;rw[e];refine#[_,.of (.dK h1),?_];cases ty<;>first|exact nn h|exact Cd hp h rfl
   |ins x fs=>exact nn h
 |pC ns=>exact nn h
 |tab kvs=>exact nn h
 |exc x us=>
  unfold Rep at r;obtain⟨a,d,C,fs,e,hC,ha,hd,_,_⟩:=r;obtain⟨_,xi,_,_⟩:=Tb.exc x C hC;rw[e]
  refine#[_,.exc ha hd xi,?_];cases ty<;>first|exact nn h|skip
  .cases h;cases hp;exact Tb.WY x C hC
  .rename_i y
   cases h;obtain⟨D,hD,e9⟩:=ag.mp hp;cases e9;have:=Tb.WX x C y D hC hD;simpa using this
theorem uY{x:Str}{n:String}{pos:Pos}(G:Good t T Γ k I X)(g:I.gl x=true)(c:(x==(n:Str)&&T.fL.contains n)=true)(hv:jF (n:Str)=some (.type n))(hn:(n:Str)≠"__name__")(hd:((n:Str)== ("__debug__":Str))=false):∀pZ E,PE (X.at_ pZ E) (.Name x pos) (tC (.ty n)):=by
 rw[af] at c;obtain rfl:x=(n:Str):=eq_of_beq c.1;exact λpZ E=>JN (X:=X.at_ pZ E) (hJ G g) (G.tab.fL n (by simpa using c.2)) hv rfl hn hd
theorem O7(G:Good t T Γ k I X)(hh:WA T I e=some ty):∃p,ML (X.cc t) ty=some p/\XD p.1 p.2/\noStar e=true/\∀pZ E,PE (X.at_ pZ E) e (tC p.1):=by
 obtain⟨x,h0,h⟩:=au.mp hh;obtain⟨pos,rfl⟩:=Dk h0;by_cases g:(I.gl x&&x !=("__debug__":Str))=true
 case neg=>rw[if_neg g] at h;exact nn h
 rw[if_pos g] at h;rw[af] at g;by_cases c:(x==("int":Str)&&T.fL.contains "int")=true
 .rw[if_pos c] at h;obtain rfl:=aH h
  exact#[_,rfl,rfl,rfl,uY G g.1 c (by decide +kernel) ⋯ ⋯]
 rw[if_neg c] at h;clear c;by_cases c:(x==("bool":Str)&&T.fL.contains "bool")=true
 .rw[if_pos c] at h;obtain rfl:=aH h
  exact#[_,rfl,rfl,rfl,uY G g.1 c (by decide +kernel) ⋯ ⋯]
 rw[if_neg c] at h;clear c;by_cases c:(x==("str":Str)&&T.fL.contains "str")=true
 .rw[if_pos c] at h;obtain rfl:=aH h
  exact#[_,rfl,rfl,rfl,uY G g.1 c (by decide +kernel) ⋯ ⋯]
 rw[if_neg c] at h;clear c;by_cases c:(x==("list":Str)&&T.fL.contains "list")=true
 .rw[if_pos c] at h;obtain rfl:=aH h
  exact#[_,rfl,rfl,rfl,uY G g.1 c (by decide +kernel) ⋯ ⋯]
 rw[if_neg c] at h;clear c;by_cases c:(x==("tuple":Str)&&T.fL.contains "tuple")=true
 .rw[if_pos c] at h;obtain rfl:=aH h
  exact#[_,rfl,rfl,rfl,uY G g.1 c (by decide +kernel) ⋯ ⋯]
 rw[if_neg c] at h;clear c;by_cases c:(x==("dict":Str)&&T.fL.contains "dict")=true
 .rw[if_pos c] at h;obtain rfl:=aH h
  exact#[_,rfl,rfl,rfl,uY G g.1 c (by decide +kernel) ⋯ ⋯]
 rw[if_neg c] at h;clear c;by_cases c:(x==("ValueError":Str)&&T.fL.contains "ValueError")=true
 .rw[if_pos c] at h;obtain rfl:=aH h
  exact#[_,rfl,rfl,rfl,uY G g.1 c (by decide +kernel) ⋯ ⋯]
 rw[if_neg c] at h;clear c;obtain⟨s,h1,h2⟩:=ag.mp h;subst h2;obtain⟨hm,rfl⟩:=iS h1;obtain⟨C,hC,hmg⟩:=G.tab.WZ s hm;exact#[(.ref C,.ref C),congrArg (Option.map λC=>(V.ref C,aV C)) hC,rfl,rfl,λpZ E=>CV (X:=X.at_ pZ E) (hJ G g.1) hmg rfl (by simpa using g.2)]
theorem O8(G:Good t T Γ k I X)(hg:I.gl ("isinstance":Str)=true)(hb:"isinstance"∈T.fL)(h1:noStar a=true)(hc:WA T I c=some ty)(ha:∀pZ E,eM (X.at_ pZ E) a (tE (X.cc t) Γ x)):
  eM X (.Call (.Name ("isinstance":Str) p) [a,c] [] pos) (tE (X.cc t) Γ (.MA x [ty])):=by
 obtain⟨pv,e1,rv,h2,hp⟩:=O7 G hc;refine up λpZ E=>(oa (X:=X.at_ pZ E) GU (hJ G hg) (G.tab.fL "isinstance" hb) boot_isinstance (qm (dn (ha pZ E)) (qm (hp pZ E) yy (cV h2)) (cV h1)) ⋯ ⋯ (cV h1) (gB (by simp[h2]))).imp ?_
 rintro σ H Q ⟨env,ρ,S,QU,EU,he,R,w,q,qx⟩;refine#[env,ρ,S,_,EU,he,R,w,λu S1 v H1 ρ1 w1 st1 R1 r1=>?_,qx];obtain⟨b,e2,w2⟩:=PL.ig.mp w1;simp only[PL.wY] at e2;cases e3:PL.Kz S1 u ty with
 |none=>rw[e3] at e2;exact nn e2
 |some b'=>
  rw[e3] at e2;simp at e2;subst e2;obtain⟨tv,h3,h4⟩:=O6 G.tab R1 r1 e3 e1;exact#[v,pv.1,tv,pv.2,b',rfl,h3,rv,h4,(q.later st1).now R1 w2 (dG.mpr rfl)]
end
open PL (U SO bI Xn KU KX bY)
theorem O9(hl:PE X l tl):PI X tg l (λσ H R=>tl σ H λx H1=>(∃a,x=.ref a/\(∃xs,gF X.K H1 a xs)/\R (VM X.K a) H1)\/(∃a,x=.ref a/\(∃xs,lS X.K H1 a xs)/\R (VN X.K a) H1)\/∃z,x=.str z/\R (RV z) H1):=by
 intro pZ s σ H R I h;refine fh (hl pZ s σ H _ I h) λv s1 h9=>?_
 obtain⟨x,H1,I1,r1,q1⟩:=h9;rcases q1 with⟨a,e,⟨xs,hq⟩,q⟩|⟨a,e,⟨xs,hq⟩,q⟩|⟨z,e,q⟩
 .subst e
  cases r1;obtain⟨its,rv,p,hz⟩:=I1.list hq;refine nW p.isList ?_;refine#[s1.heap.objs.size,[s1.heap.objs.size],_,_,H1,rfl,I1.kept (t':=s1.toks) λb o e=>aA _ e,Ek a _,#[_,bz _ rfl,rfl,rfl],λb hb=>?_,q];have e:b=s1.heap.objs.size:=by simpa using hb
  subst e;exact I1.Ej (ax _) (I1.dg.fresh (ax _))
 .subst e
  cases r1;obtain⟨its,rv,p,hz⟩:=I1.tuple hq;refine wpAny_pyIter_tuple (show s1.heap.IsTuple a its.toArray from p) ?_;refine#[s1.heap.objs.size,[s1.heap.objs.size],_,_,H1,rfl,I1.kept (t':=s1.toks) λb o e=>aA _ e,Bv a _,#[_,bz _ rfl,rfl,rfl],λb hb=>?_,q];have e:b=s1.heap.objs.size:=by simpa using hb
  subst e;exact I1.Ej (ax _) (I1.dg.fresh (ax _))
 .subst e
  obtain⟨t,rfl⟩:=r1;have fin:∀(b:Bool)(o:Obj),o={cls:=.type (if b then "str_ascii_iterator" else "str_iterator"),data:=.fields (List.toArray [.str z t,.int 0 0])}->VL X pZ σ tg R (.ref s1.heap.objs.size) {s1 with heap:=s1.heap.push o}:=λb o eo=>by
   refine#[s1.heap.objs.size,[s1.heap.objs.size],_,RV z,H1,rfl,I1.kept (t':=s1.toks) λb o e=>aA _ e,GL _ z t b,#[_,bz _ (by rw[eo];rfl),by rw[eo],by rw[eo];rfl],λc hc=>?_,q];have e:c=s1.heap.objs.size:=by simpa using hc
   subst e;exact I1.Ej (ax _) (I1.dg.fresh (ax _))
  cases ha:z.cps.all (·<128)
  .exact wpAny_pyIter_wide ha (fin false _ rfl)
  .exact wpAny_pyIter_ascii ha (fin true _ rfl)
section
variable{c:Ctx}{ρ:List Addr}{H:Hp}{S:bI}
theorem Lk{n:Nat}{us:List U}{a:Addr}(ha:ρ[n]?=some a):EW c ρ H (VM c.K a) us (λS'=>S'[n]?=some (.lst us)):=by
 intro i ρ2 H2 S2 st R g;obtain⟨vs,h1,h2⟩:=R.at_ n a _ (st.get ha) g;refine#[λu hu=>?_,λhl=>#[vs,gF.of h1,by rw[<-h2.len];exact hl]];obtain⟨v,e,r⟩:=h2.get hu;refine#[#[vs,v,gF.of h1,e],λy H3 h9=>?_];obtain⟨e3,hy⟩:=h9;subst e3;have:=hy vs (gF.of h1);rw[e] at this;injection this with this;subst this
 exact#[.refl,R,r]
theorem Pa(R0:cj c ρ H S)(h1:H a=some (.tup vs))(h2:aT c ρ H us vs):EW c ρ H (VN c.K a) us (λ_=>True):=by
 intro i ρ2 H2 S2 st R g;have h1':=st.fr a _ h1 (R0.not h1 rfl);have h2':=h2.mono R0 st;refine#[λu hu=>?_,λhl=>#[vs,lS.of h1',by rw[<-h2'.len];exact hl]];obtain⟨v,e,r⟩:=h2'.get hu;refine#[#[vs,v,lS.of h1',e],λy H3 h9=>?_];obtain⟨e3,hy⟩:=h9;subst e3;have:=hy vs (lS.of h1');rw[e] at this;injection this with this;subst this
 exact#[.refl,R,r]
theorem Pb:EW c ρ H (RV (tx l)) (l.map λd=>.str [d]) (λ_=>True):=by
 intro i ρ2 H2 S2 st R g;refine#[λu hu=>?_,λhl=>?_]
 .rw[ar] at hu
  obtain⟨d,e,e2⟩:=ag.mp hu;subst e2;refine#[?_,λy H3 #[e3,d',e4,e5]=>?_]
  .show i<(tx l).cps.size
   have:=(ae.mp e).1;simpa using this
  .subst e3
   have:l[i]?=some d':=by simpa using e4
   rw[e] at this;injection this with this;subst this
   rw[e5]
   exact#[.refl,R,bq.mpr rfl]
 .show(tx l).cps.size<=i
  simpa using hl
theorem Ll{n:Nat}{us:List U}{a:Addr}(ha:ρ[n]?=some a):EW c ρ H (Vc c.K a) (us.mapIdx λi u=>.tup [.int (i:Nat),u]) (λS'=>S'[n]?=some (.lst us)):=by
 intro i ρ2 H2 S2 st R g;obtain⟨vs,h1,h2⟩:=R.at_ n a _ (st.get ha) g;refine#[λu hu=>?_,λhl=>#[vs,gF.of h1,by rw[<-h2.len];simpa using hl]];rw[jP] at hu;obtain⟨u',e0,e1⟩:=ag.mp hu;subst e1;obtain⟨v,e,r⟩:=h2.get e0;refine#[#[vs,v,gF.of h1,e],λy H3 h9=>?_];obtain⟨p,x,hp,e3,e4,hy⟩:=h9;have:=hy vs (gF.of h1);rw[e] at this;injection this with this;subst this
 subst e3 e4;have st':=iz.lay R hp (.tup [.int (i:Nat),v]);exact#[st',R.lay hp _,dz.mpr #[p,_,rfl,bJ,aT.cons (aN.mpr rfl) (aT.cons (r.mono R st') aT.nil)]]
theorem HN:EW c ρ H (U4 0 n) ((cx n).map λk=>.int (k:Nat)) (λ_=>True):=by
 intro i ρ2 H2 S2 st R g;refine#[λu hu=>?_,λhl=>?_]
 .rw[ar] at hu
  obtain⟨d,e,e2⟩:=ag.mp hu;subst e2;have hi:=(ae.mp e).1;rw[se] at hi;rw[Ed hi] at e;injection e with e;subst e
  refine#[hi,λy H3 h9=>?_];obtain⟨e3,e4⟩:=h9;subst e3;subst e4;exact#[.refl,R,aN.mpr (by simp)]
 .show n<=i
  simpa using hl
end
section
variable{t:vZ}{T:Tab}{Γ:bY}{k n:Nat}{I:Inf}{X:Cx}
theorem Pc{e tg:Expr}{x:PL.Ex}(h:∀pZ E,eM (X.at_ pZ E) e (tE (X.cc t) Γ x))(pZ:List (Addr×Obj))(E:St->XK):PI (X.at_ pZ E) tg e (λσ H R=>zI (X.cc t) Γ (.val x) (E σ) σ H R):=by
 refine λpins' s σ H Q J z=>O9 (X:=X.at_ pZ E) (dn (h pZ E)) pins' s σ H Q J ?_
 obtain⟨env,ρ,S,RU,EU,he,R,w,q,qx⟩:=z;refine#[env,ρ,S,_,EU,he,R,w,λu S1 v H1 ρ1 w1 st1 R1 r1=>?_,qx];cases u with
 |str l=>rw[bq.mp r1];exact .inr (.inr #[_,rfl,q _ _ _ _ _ _ w1 st1 R1 Pb])
 |tup us=>
  obtain⟨a,vs,e1,h1,h2⟩:=dz.mp r1;exact .inr (.inl #[a,e1,#[vs,lS.of h1],q _ _ _ _ _ _ w1.2 st1 R1 (Pa R1 h1 h2)])
 |loc m=>
  obtain⟨us,e0,w2⟩:=PL.cD.mp (show PL.getL _ _ from w1);obtain⟨a,vs,e1,ha,h1,h2⟩:=R1.lst e0 r1;exact .inl #[a,e1,#[vs,gF.of h1],q _ _ _ _ _ _ w2 st1 R1 (Lk ha)]
 |_=>exact aI w1
theorem HP(G:Good t T Γ k I X)(hg:I.gl ("range":Str)=true)(hb:"range"∈T.fL)(h1:noStar a=true)(h:∀pZ E,eM (X.at_ pZ E) a (tE (X.cc t) Γ x))(pZ:List (Addr×Obj))(E:St->XK):
  PI (X.at_ pZ E) tg (.Call (.Name ("range":Str) p) [a] [] pos) (λσ H R=>zI (X.cc t) Γ (.range x) (E σ) σ H R):=by
 refine λpins' s σ H Q J z=>El (X:=X.at_ pZ E) (hJ G hg) (G.tab.fL "range" hb) (qm (dn (h pZ E)) yy (cV h1)) (cV h1) pins' s σ H Q J ?_
 obtain⟨env,ρ,S,RU,EU,he,R,w,q,qx⟩:=z;refine#[env,ρ,S,_,EU,he,R,w,λu S1 v H1 ρ1 w1 st1 R1 r1=>?_,qx];obtain⟨j,e,w2,w3,w4⟩:=PL.eQ.mp w1;subst e;exact#[j,by rw[aN.mp r1],∅,∅,q _ _ _ _ _ _ w4 st1 R1 HN]
theorem W6{n:Nat}{e:Expr}{x:PL.It}{es:List Expr}{ek:Nat}{tp:Pos}(IH:EX t T Γ k n)(G:Good t T Γ k I X)(h:cN T (n+1) I e=some x)(pZ:List (Addr×Obj))(E:St->XK):PI (X.at_ pZ E) (.Tuple es ek tp) e (λσ H R=>zI (X.cc t) Γ x (E σ) σ H R):=by
 rw[WJ] at h;delta stN at h;split at h
 .rename_i f a hr
  obtain⟨p,cp,rfl⟩:=MG hr;split at h
  .rename_i hc
   simp only[af] at hc;obtain⟨⟨⟨c1,c2⟩,c3⟩,c4⟩:=hc;have ef:f=("enumerate":Str):=by simpa using c1
   subst ef;obtain⟨y,h1,h2⟩:=ag.mp h;subst h2;refine λpins' s σ H Q J z=>KC (X:=X.at_ pZ E) (hJ G c2) (G.tab.fL "enumerate" (by simpa using c3)) (qm (dn (IH.fe G.at_ h1)) yy (cV c4)) (cV c4) pins' s σ H Q J ?_
   obtain⟨env,ρ,S,RU,EU,he,R,w,q,qx⟩:=z;refine#[env,ρ,S,_,EU,he,R,w,λu S1 v H1 ρ1 w1 st1 R1 r1=>?_,qx];obtain⟨m,e,w2⟩:=PL.k6.mp w1;subst e;obtain⟨us,e0,w3⟩:=PL.cD.mp w2;obtain⟨b,vs,e1,hb,g1,g2⟩:=R1.lst e0 r1;subst e1;exact#[b,rfl,#[vs,gF.of g1],q _ _ _ _ _ _ w3 st1 R1 (Ll hb)]
  .exact nn h
 .exact nn h
theorem Lm:∀{n:Nat}{I:Inf}{e:Expr}{x:PL.Ex},cE T n I e=some x->noStar e=true:=by
 intro n I e x h;cases n with
 |zero=>exact nn h
 |succ n=>
  cases e<;>first|rfl|exact nn h
theorem SN(IH:EX t T Γ k n)(G:Good t T Γ k I X)(h:cI T (n+1) I e=some x)(pZ:List (Addr×Obj))(E:St->XK):PI (X.at_ pZ E) tg e (λσ H R=>zI (X.cc t) Γ x (E σ) σ H R):=by
 have gen:∀{x:PL.It},(cE T n I e).map PL.It.val=some x->PI (X.at_ pZ E) tg e (λσ H R=>zI (X.cc t) Γ x (E σ) σ H R):=λh=>by
  obtain⟨y,h1,h2⟩:=ag.mp h;subst h2;exact Pc (λpZ E=>IH.fe G.at_ h1) pZ E
 rw[WG] at h;delta stI at h;split at h
 .rename_i f a hr
  obtain⟨p,cp,rfl⟩:=MG hr;split at h
  .rename_i hf
   split at h
   .rename_i hc
    rw[af] at hc;obtain⟨y,h1,h2⟩:=ag.mp h;subst h2;have ef:f=("range":Str):=by simpa using hf
    subst ef;exact HP G hc.1 (by simpa using hc.2) (Lm h1) (λpZ E=>IH.fe G.at_ h1) pZ E
   .exact nn h
  .exact gen h
 .exact gen h
end
open PL (U SO bI Xn KU KX bY)
section
variable{c:Ctx}{ρ ρ2:List Addr}{H H2:Hp}{S:bI}
theorem iz.W7(a:iz ρ H ρ2 H2)(h:H D=none):iz ρ H (ρ2++[D]) H2:=by
 obtain⟨m,e⟩:=a.pre;refine#[#[m++[D],by rw[e,bj]],λb hb nb=>?_,a.fr];rcases aD.mp hb with z|z
 .exact a.new b z nb
 .rw[fP.mp z];exact h
theorem iz.Hr(a:iz ρ H ρ2 H2)(h:H D=none)(o:HO):iz ρ H ρ2 (upd H2 D o):=
 #[a.pre,a.new,λb o' h1 h2=>by rw[bw (fw h1 h)];exact a.fr b o' h1 h2]
theorem iz.out(a:iz ρ H ρ2 H2)(h:H D=some o)(n:D∉ρ):D∉ρ2/\H2 D=some o:=by
 refine#[λz=>?_,a.fr D o h n];have:=a.new D z n;rw[h] at this;cases this
theorem HQ(he:iJ c ρ H env σ)(r:iJ c ρ H us ys):iJ c ρ H (us++PL.k8 env ci) (ys++gy σ ci):=by
 have hl:=r.len;refine#[by simp[PL.k8,gy,hl],λi w e=>?_];by_cases lt:i<us.length
 .rw[ao lt] at e
  rw[ao ∅]
  exact r.at_ i w e
 .rw[ay ∅] at e
  rw[ay ∅,<-hl]
  generalize i-us.length=i at e ⊢;unfold PL.k8 at e;unfold gy;rw[ar] at e ⊢;cases q:ci[i]? with
  |none=>rw[q] at e;cases e
  |some j=>
   rw[q] at e;simp only[jN,pq] at e ⊢;cases z:env[j]? with
   |none=>rw[z] at e;cases e
   |some o=>
    rw[z] at e;cases o with
    |none=>cases e
    |some w'=>
     simp at e;subst e;obtain⟨v,e1,r1⟩:=he.at_ j w' z;exact#[v,by rw[e1];rfl,r1]
theorem SQ(r:Rep c ρ H u y):iJ c ρ H [some u] [some y]:=
 #[rfl,λi w e=>by cases i<;>simp at e;subst e;exact#[y,rfl,r]]
theorem SR(r:Rep c ρ H u y)(r':Rep c ρ H u' y'):iJ c ρ H [some u,some u'] [some y,some y']:=
 #[rfl,λi w e=>by
  match i with
  |0=>simp at e;subst e;exact#[y,rfl,r]
  |1=>simp at e;subst e;exact#[y',rfl,r']
  |i+2=>simp at e]
end
section
variable{t:vZ}{T:Tab}{Γ:bY}{k n:Nat}{I:Inf}{X:Cx}
theorem B4.no(h:B4 X e tt)(hx:∀e s,X.xe e s↔False):PT X e (λσ H Q=>tt (λ_ _ _=>False) σ H Q):=by
 intro pZ s σ H Q J z;refine bL (h pZ s σ H Q _ J z) (λ_ _ q=>q) λu s' q=>?_
 obtain⟨a,tb,cl,dx,H',_,_,_,_,w⟩:=q;exact aI w
theorem eM.no(h:eM X e tt)(hx:∀e s,X.xe e s↔False):PE X e (λσ H Q=>tt (λ_ _ _=>False) σ H Q):=by
 intro pZ s σ H Q J z;refine bL (h pZ s σ H Q _ J z) (λ_ _ q=>q) λu s' q=>?_
 obtain⟨a,tb,cl,dx,H',_,_,_,_,w⟩:=q;exact aI w
theorem mem_lookup:∀{l:List (Str×NameKind)}{y:Str}{k:NameKind},l.lookup y=some k->(y,k)∈l
 |[],_,_,h=>nomatch h
 | (a,b)::l,y,k,h=>by
  rw[ba] at h;by_cases e:y=a
  .subst e;simp at h;subst h;exact bf
  .have e2:(y==a)=false:=by simp[e]
   rw[e2] at h;exact aU _ (mem_lookup h)
theorem uZ(G:Good t T Γ k I X)(h:uP I sc x=true):EB X sc x:=by
 unfold uP at h;simp only[af,bR] at h;obtain⟨⟨⟨⟨⟨h1,h2⟩,h3⟩,h4⟩,h5⟩,h6⟩:=h;refine#[by simpa using h1,λy hy e=>?_,λy hy e=>?_,λy hy e=>?_,λy hy=>by simpa using h5 y hy,of_decide_eq_true h6,λy e=>?_]
 .have:=h2 y hy;rw[e] at this;simp at this
 .have:=h3 y hy;rw[e] at this;simpa using this
 .have:=h4 y hy;rw[e] at this;rw[G.names];simpa using this
 .exact mem_lookup e
theorem Ds(G:Good t T Γ k I X)(h:(gZ I sc).mapM (λy=>dy y I.N)=some ci):yG X sc (gZ I sc) ci:=by
 have key:∀(l:List Str)(ci:List Nat),l.mapM (λy=>dy y I.N)=some ci->ci.length=l.length/\∀(k:Nat)(y:Str),l[k]?=some y->∃j:Nat,ci[k]?=some j/\I.N[j]?=some y:=by
  intro l;induction l with
  |nil=>intro ci h;simp at h;subst h;exact#[rfl,λk y e=>by simp at e]
  |cons a l ih=>
   intro ci h;simp only[List.mapM_cons,aJ,au] at h;obtain⟨j,h1,r,h2,h3⟩:=h;simp at h3;subst h3;obtain⟨q1,q2⟩:=ih r h2;refine#[by simp[q1],λk y e=>?_];cases k with
   |zero=>simp at e;subst e;exact#[j,rfl,dH h1]
   |succ k=>simp at e ⊢;exact q2 k y e
 obtain⟨q1,q2⟩:=key _ _ h;refine#[q1,λk y e=>?_,λy hy=>?_]
 .rw[G.slots];exact q2 k y e
 .unfold gZ at hy
  have:=(eG.mp hy).2;simpa using this
theorem qG(G:Good t T Γ k I X)(hc:I.calm=true)(h:uP I sc x=true)(cp:yG X sc (gZ I sc) ci)(hn:(gZ I sc).Nodup):
  Good t T Γ k #[qA I sc.names,x++gZ I sc,true] (X.vS sc C (x++gZ I sc) s₀ H₀ ex):=by
 have B:=uZ G h;refine#[G.tab,G.Js,B.kind,?_,rfl,rn cp B hn,λ_=>G.calm hc,G.units];show(FV sc X.env).names=_;unfold FV qA;simp only
 congr 1
 funext p
 obtain⟨a,b⟩:=p;simp only[G.kind,Env.kindOf,G.names];simp
theorem xy(z:tE (X.cc t) Γ (.comp pr e it tc ci) E σ H Q):
  GI (RS X.K pr) (λσ H R=>zI (X.cc t) Γ it E σ H R) ci (λσ H Q=>tT (X.cc t) Γ tc (λ_ _ _=>False) σ H Q) (λσ H Q=>tE (X.cc t) Γ e (λ_ _ _=>False) σ H Q) σ H Q:=by
 obtain⟨env,ρ,S,QU,EU,he0,R,w,q,qx⟩:=z;refine#[env,ρ,S,_,EU,he0,R,w,λus g S1 H1 ρ1 J w1 st1 R1 io=>?_,qx];intro D hD;have he1:=he0.later R st1;have D0:D∉ρ1:=R1.KS hD
 let F:=PL.nA g (λu S2 k=>PL.pG pr u (PL.k8 env ci) λen=>PL.WT Γ tc en S2 k λ_ _=>False)
   (λu S2 k=>PL.pG pr u (PL.k8 env ci) λen=>PL.WE Γ e en S2 k λ_ _=>False) (λacc S3=>QU (.loc S3.length) (S3++[.lst acc]))
 refine#[λi m acc H2=>m+i=us.length/\∃ρ2 S2 accU,iz ρ1 H1 ρ2 H2/\cj (X.cc t) ρ2 H2 S2/\D∉ρ2/\H2 D=some (.lst acc)/\aT (X.cc t) ρ2 H2 accU acc/\F (us.drop i) accU S2,#[us.length,rfl,ρ1,S1,[],iz.lay R1 hD _,R1.lay hD _,D0,bJ,aT.nil,w1],?_];rintro i m acc H2 ⟨hm,ρ2,S2,accU,st2,R2,D2,hD2,ra,wc⟩;have hlen:acc.length=accU.length:=ra.len.symm;cases hd:us.drop i with
 |nil=>
  rw[hd] at wc;obtain⟨g2,hl,w2⟩:g S2/\accU.length<1000000/\QU (U.loc S2.length) (S2++[SO.lst accU]):=wc;refine#[hD2,by rw[hlen];exact aM hl ⋯,.inl #[((io i ρ2 H2 S2 st2 R2 g2).2 (CS.mp hd)),?_]];refine q _ _ _ _ _ w2 (st1.trans (st2.W7 hD)) (R2.join D2 #[acc,hD2,ra]) (iR.mpr #[D,rfl,?_]);rw[<-R2.len,ay (ax _),cq];rfl
 |cons u rest=>
  rw[hd] at wc;obtain⟨g2,hl,w0⟩:g S2/\accU.length<1000000/\PL.pG pr u (PL.k8 env ci) λen=>PL.WT Γ tc en S2 (λb S3=>if b=true then PL.pG pr u (PL.k8 env ci) (λen=>PL.WE Γ e en S3 (λv S4=>F rest (accU++[v]) S4) (λ_ _=>False)) else F rest accU S3) (λ_ _=>False):=wc
  have hu:us[i]?=some u:=by
   have:=congrArg (λl=>l[0]?) hd;simpa using this
  have hr:us.drop (i+1)=rest:=by
   have:=congrArg List.tail hd;simpa using this
  have hi:i<us.length:=(ae.mp hu).1;obtain⟨jg,jy⟩:=(io i ρ2 H2 S2 st2 R2 g2).1 u hu;refine#[hD2,by rw[hlen];exact aM hl ⋯,.inr #[jg,λy H3 hy=>?_]];obtain⟨st3,R3,ry⟩:=jy y H3 hy;obtain⟨_,hD3⟩:=st3.out hD2 D2;have ra3:=ra.mono R2 st3;obtain⟨us',τ,rτ,w2,kτ⟩:∃(us':PL.Env)(τ:St),iJ (X.cc t) ρ2 H3 us' τ/\PL.WT Γ tc (us'++PL.k8 env ci) S2 (λb S3=>if b=true then PL.WE Γ e (us'++PL.k8 env ci) S3 (λv S4=>F rest (accU++[v]) S4) (λ_ _=>False) else F rest accU S3) (λ_ _=>False)/\∀k:St->Prop,k τ->RS X.K pr y H3 k:=by
   cases pr with
   |false=>exact#[[some u],[some y],SQ ry,w0,λk z=>z]
   |true=>
    obtain⟨u1,u2,eu,w2⟩:=PL.Dd.mp w0;subst eu;obtain⟨a,vs,e1,ha,hr2⟩:=dz.mp ry;obtain⟨v1,v2,ev,r1,r2⟩:=MK hr2;subst ev;exact#[[some u1,some u2],[some v1,some v2],SR r1 r2,w2,λk z=>#[a,v1,v2,e1,lS.of ha,z]]
  have he3:=HQ (ci:=ci) (he1.later R1 (st2.trans st3)) rτ;refine kτ _ #[_,ρ2,S2,_,_,he3,R3,w2,λb S4 H4 ρ4 w4 st4 R4=>?_,λ_ _ _ _ _ _ z=>aI z];obtain⟨D4,hD4⟩:=st4.out hD3 D2;have ra4:=ra3.mono R3 st4;cases b with
  |false=>exact#[m-1,∅,∅,ρ4,S4,accU,(st2.trans st3).trans st4,R4,D4,hD4,ra4,by rw[hr];exact w4]
  |true=>
   refine#[_,ρ4,S4,_,_,he3.later R3 st4,R4,w4,λv S5 z H5 ρ5 w5 st5 R5 r5=>?_,λ_ _ _ _ _ _ z=>aI z];obtain⟨D5,hD5⟩:=st5.out hD4 D4;have ra5:=(ra4.mono R4 st5).app (aT.cons r5 aT.nil);refine#[hD5,m-1,∅,∅,ρ5,S5,accU++[v],(((st2.trans st3).trans st4).trans st5).Hr hD _,R5.Hr _ hD5 rfl D5,D5,bJ,ra5.jC #[[],by simp] (Dl hD5 rfl),by rw[hr];exact w5]
theorem HR(ht:KP tg=some x)(B:EB X sc x)(cp:yG X sc cn ci)(hn:cn.Nodup)(hc:X.calm=true):QF X tg sc x cn (RS X.K (x.length==2)):=by
 rcases B1 ht with⟨_,_,rfl,rfl⟩|⟨_,_,_,_,_,_,rfl,rfl⟩
 .exact GJ B cp hn
 .exact GK B cp hn hc
theorem Ln(G:Good t T Γ k I X)(hc:I.calm=true)(ht:KP tg=some x)(hb:uP I sc x=true)(hci:(gZ I sc).mapM (λy=>dy y I.N)=some ci)
  (hs:∀env v,foldedSetIterable iter env v=pure v) (hi:∀pZ E,PI (X.at_ pZ E) tg iter (λσ H R=>zI (X.cc t) Γ it (E σ) σ H R))
  (hif:∀(X':Cx),Good t T Γ k #[qA I sc.names,x++gZ I sc,true] X'->X'.cc t=X.cc t->(∀e s,X'.xe e s↔False)->Kk X' ifs (λσ H Q=>tT (X.cc t) Γ tc (λ_ _ _=>False) σ H Q))
  (he:∀(X':Cx),Good t T Γ k #[qA I sc.names,x++gZ I sc,true] X'->X'.cc t=X.cc t->eM X' elt (tE (X.cc t) Γ e)):
  eM X (.ListComp elt [#[tg,iter,ifs,0]] sc pos) (tE (X.cc t) Γ (.comp (x.length==2) e it tc ci)):=by
 have hn:(gZ I sc).Nodup:=by
  unfold gZ;have:=G.nd;rw[G.slots] at this;exact this.filter _
 refine up λpZ E=>?_
 have cp:=Ds (X:=X.at_ pZ E) G.at_ hci;refine(Kn (X:=X.at_ pZ E) (wi:=λσ H R=>zI (X.cc t) Γ it (E σ) σ H R) (tc:=λσ H Q=>tT (X.cc t) Γ tc (λ_ _ _=>False) σ H Q) (te:=λσ H Q=>tE (X.cc t) Γ e (λ_ _ _=>False) σ H Q)
  (uZ G.at_ hb) cp hn (G.calm hc).1 (HR ht (uZ G.at_ hb) cp hn (G.calm hc).1) (hi pZ E) (λC s₀ H₀ ex=>hif _ (qG G.at_ hc hb cp hn) rfl λ_ _=>jO) (λC s₀ H₀ ex=>(he _ (qG G.at_ hc hb cp hn) rfl).no λ_ _=>jO) (hs _)).imp λσ H Q z=>xy z
end
open PL (U SO bI Xn KU KX bY)
section
variable{t:vZ}{T:Tab}{Γ:bY}{k n:Nat}{I:Inf}{X:Cx}
theorem Pd(h:∀pZ E,eM (X.at_ pZ E) e (tE (X.cc t) Γ x))(he:∀env whole,isTrue e env whole=(do let v <-whole;standAt e.pos;holding [v] (truthy v))):B4 X e (tT (X.cc t) Γ (.cg x)):=by
 refine Vn λpZ E=>(Ga (X:=X.at_ pZ E) (dn (h pZ E)) (he _)).imp ?_
 rintro σ H Q ⟨env,ρ,S,QU,EU,he,R,w,q,qx⟩;refine#[env,ρ,S,_,EU,he,R,w,λu S1 v H1 ρ1 w1 st1 R1 r1=>?_,qx];obtain⟨b,e1,w2⟩:=PL.ig.mp w1;exact#[b,Ld (X:=X) rfl R1 r1 e1,q _ _ _ _ w2 st1 R1]
theorem Lo(h:∀pZ E,B4 (X.at_ pZ E) e (tT (X.cc t) Γ x)):B4 X (.UnaryOp .Not e pos) (tT (X.cc t) Γ (.not x)):=by
 refine Vn λpZ E=>(Nj (X:=X.at_ pZ E) (QL (h pZ E))).imp ?_
 rintro σ H Q ⟨env,ρ,S,QU,EU,he,R,w,q,qx⟩;exact#[env,ρ,S,_,EU,he,R,w,λb S1 H1 ρ1 w1 st1 R1=>q _ _ _ _ w1 st1 R1,qx]
theorem PW.imp{e:Expr}{t t':TT}(h:PW X e t)(q:∀σ H Q,t' σ H Q->t σ H Q):PW X e t':=λwhole pZ s σ H Q I z=>h whole pZ s σ H Q I (q σ H Q z)
theorem Pe(IH:EX t T Γ k n)(G:Good t T Γ k I X):∀{vs:List Expr}{x:PL.Tx},Vm T (n+1) I op vs=some x->∀pZ E,PW (X.at_ pZ E) (.BoolOp op vs pos) (λσ H Q=>tT (X.cc t) Γ x (E σ) σ H Q)
 |[],x,h,_,_=>by rw[Hq,Hm] at h;cases h
 |[a],x,h,pZ,E=>by
  rw[Hq,Hm] at h;cases op with
  |And=>exact JO (QL (IH.ft G.at_ h))
  |Or=>exact Nh (QL (IH.ft G.at_ h))
 |a::b::r,y,h,pZ,E=>by
  rw[Hq,Hm] at h;simp only[aJ,au] at h;obtain⟨x,h1,z,h2,h3⟩:=h;injection h3 with h3;subst h3
  cases op with
  |And=>
   refine(Ni (X:=X.at_ pZ E) (QL (IH.ft G.at_ h1)) (IH.W2 G h2 pZ E)).imp ?_;rintro σ H Q ⟨env,ρ,S,QU,EU,he,R,w,q,qx⟩;refine#[env,ρ,S,_,EU,he,R,w,λb S1 H1 ρ1 w1 st1 R1=>?_,qx];cases b with
   |true=>exact#[env,ρ1,S1,QU,EU,he.later R st1,R1,w1,q.later st1,qx.later st1]
   |false=>exact q _ _ _ _ w1 st1 R1
  |Or=>
   refine(Q4 (X:=X.at_ pZ E) (QL (IH.ft G.at_ h1)) (IH.W2 G h2 pZ E)).imp ?_;rintro σ H Q ⟨env,ρ,S,QU,EU,he,R,w,q,qx⟩;refine#[env,ρ,S,_,EU,he,R,w,λb S1 H1 ρ1 w1 st1 R1=>?_,qx];cases b with
   |true=>exact q _ _ _ _ w1 st1 R1
   |false=>exact#[env,ρ1,S1,QU,EU,he.later R st1,R1,w1,q.later st1,qx.later st1]
theorem Av(h:cE T n I b=some x):behindInMarks op b=false:=by
 cases b<;>first|rfl|skip
 cases n with
 |zero=>exact nn h
 |succ n=>exact nn h
theorem Dt(h:cI T n I e=some x):∀env v,foldedSetIterable e env v=pure v:=by
 intro env v;cases e<;>first|rfl|skip
 cases n with
 |zero=>exact nn h
 |succ n=>
  change ((qB T n).e I _).map PL.It.val=some x at h
  obtain⟨y,h1,_⟩:=ag.mp h
  change cE T n I _=some y at h1
  cases n with
  |zero=>exact nn h1
  |succ n=>exact nn h1
theorem MM(h:cN T n I e=some x):∀env v,foldedSetIterable e env v=pure v:=by
 intro env v;cases e<;>first|rfl|skip
 cases n with
 |zero=>exact nn h
 |succ n=>exact nn h
theorem HS(IH:EX t T Γ k n)(G:Good t T Γ k I X)(h:((qB T n).e I e).map .cg=some x)(he:∀env whole,isTrue e env whole=(do let v <-whole;standAt e.pos;holding [v] (truthy v))):B4 X e (tT (X.cc t) Γ x):=by
 obtain⟨y,h1,h2⟩:=ag.mp h;subst h2;exact Pd (λpZ E=>IH.fe G.at_ h1) he
theorem SS(IH:EX t T Γ k n)(G:Good t T Γ k I X)(h:cT T (n+1) I e=some x):B4 X e (tT (X.cc t) Γ x):=by
 rw[WL] at h;cases e with
 |UnaryOp op a pos=>
  cases op with
  |Not=>
   obtain⟨y,h1,h2⟩:=ag.mp h;subst h2;exact Lo λpZ E=>IH.ft G.at_ h1
  |_=>exact HS IH G h λ_ _=>rfl
 |BoolOp op vs pos=>exact Vn λpZ E=>(IH.W2 G h pZ E).pt
 |IfExp=>exact nn h
 |Compare a ops bs pos=>
  cases ops with
  |nil=>exact nn h
  |cons op ops=>cases ops with
   |cons=>exact nn h
   |nil=>cases bs with
    |nil=>exact nn h
    |cons b bs=>cases bs with
     |cons=>exact nn h
     |nil=>
      obtain⟨o,h1,hb⟩:=au.mp h;obtain⟨a,h2,hc⟩:=au.mp hb;obtain⟨b,h3,h4⟩:=au.mp hc;injection h4 with h4;subst h4
      exact Lf G h1 (Av h3) (λpZ E=>IH.fe G.at_ h2) (λpZ E=>IH.fe G.at_ h3)
 |_=>exact HS IH G h λ_ _=>rfl
end
open PL (U SO bI Xn KU KX bY)
section
variable{t:vZ}{T:Tab}{Γ:bY}{k n:Nat}{I:Inf}{X:Cx}
theorem yX:∀{n:Nat},(qB T n).es I []=some y->y=.nil
 |0,h=>by cases h
 |_+1,h=>(aH h).symm
theorem gJ{x y:Str}(h:(x !=y)=true):(x==y)=false:=by simpa using h
theorem Aw(IH:EX t T Γ k n)(G:Good t T Γ k I X)(ht:KP tg=some xs)(h:(∃y,xs=[y])/\cI T n I iter=some it\/(¬ ∃y,xs=[y])/\cN T n I iter=some it):
  (∀env v,foldedSetIterable iter env v=pure v)/\∀pZ E,PI (X.at_ pZ E) tg iter (λσ H R=>zI (X.cc t) Γ it (E σ) σ H R):=by
 rcases B1 ht with⟨x,p,rfl,rfl⟩|⟨x,y,p,p',kd,q,rfl,rfl⟩<;>rcases h with⟨z,h1⟩|⟨z,h1⟩
 .exact#[Dt h1,IH.fi G h1]
 .exact absurd #[_,rfl] z
 .obtain⟨y,e⟩:=z;simp at e
 .exact#[MM h1,IH.fn G h1]
theorem Du(IH:EX t T Γ k n)(G':Good t T Γ k J X')(ec:X'.cc t=X.cc t)(hx:∀e s,X'.xe e s↔False)(h:WM T n J ifs=some c):Kk X' ifs (λσ H Q=>tT (X.cc t) Γ c (λ_ _ _=>False) σ H Q):=by
 unfold WM at h;split at h
 .injection h with h;subst h
  intro pZ s σ H Q J z;refine Kl (X:=X') pZ s σ H Q J ?_;obtain⟨env,ρ,S,QU,EU,he,R,w,q,qx⟩:=z;have w2:QU true S:=by
   have:PL.opt (PL.rB S (.bl true)) (λb=>QU b S):=w;exact this
  exact q true S H ρ w2 .refl R
 .have:=(IH.ft G' h).no hx
  rw[ec] at this;exact Km this
 .exact nn h
theorem SU(IH:EX t T Γ k n)(G:Good t T Γ k I X){e:Expr}{x:PL.Ex}(h:cE T (n+1) I e=some x):eM X e (tE (X.cc t) Γ x):=by
 have ge:∀{e:Expr}{y:PL.Ex},cE T n I e=some y->∀pZ E,eM (X.at_ pZ E) e (tE (X.cc t) Γ y):=λh pZ E=>IH.fe G.at_ h
 have gA:∀{es:List Expr}{y:PL.yJ},QK T n I es=some y->∀pZ E,Aq (X.at_ pZ E) es (EO (X.cc t) Γ y):=λh pZ E=>IH.QN G.at_ h
 have h0:=h;rw[KQ] at h;cases e with(delta QJ at h;try dsimp only at h)
 |Name x' pos=>
  split at h
  .rename_i i hi
   split at h
   .rename_i hc
    simp only[af] at hc;injection h with h;subst h
    exact Le G hi hc.1.1 (gJ hc.1.2) (gJ hc.2)
   .exact nn h
  .split at h
   .rename_i hc
    rw[af] at hc;obtain⟨p,h1,h2⟩:=ag.mp h;subst h2;exact HI G hc.1 h1 (gJ hc.2)
   .exact nn h
 |Constant c kd pos=>
  obtain⟨u,h1,h2⟩:=ag.mp h;subst h2;cases c with
  |none=>cases h1;exact qF (v:=.bK) (λpZ E=>Nf) λ_ _=>d8.mpr rfl
  |bool b=>cases h1;exact qF (v:=.bl _) (λpZ E=>Q3) λ_ _=>dG.mpr rfl
  |int i=>cases h1;exact qF (v:=.int _) (λpZ E=>Nd) λ_ _=>aN.mpr rfl
  |str x=>cases h1;exact qF (v:=.str _) (λpZ E=>Ng) λ_ _=>bq.mpr (by rw[<-RW])
  |_=>exact nn h1
 |BinOp a op b pos=>
  simp only[aJ,au] at h;obtain⟨o,h1,a,h2,b,h3,h4⟩:=h;injection h4 with h4;subst h4
  exact OT G h1 (ge h2) (ge h3)
 |UnaryOp op a pos=>
  cases op with
  |Not=>obtain⟨y,h1,h2⟩:=ag.mp h;subst h2;exact OX (ge h1)
  |USub=>obtain⟨y,h1,h2⟩:=ag.mp h;subst h2;exact OW (ge h1)
  |_=>exact nn h
 |BoolOp op vs pos=>exact IH.W0 G h
 |Compare a ops bs pos=>
  split at h
  .split at h
   .simp only[aJ,au] at h
    obtain⟨o,h1,a,h2,b,h3,h4⟩:=h;injection h4 with h4;subst h4
    exact OU G h1 (Av h3) (ge h2) (ge h3)
   .exact nn h
  .exact nn h
 |IfExp c a b pos=>
  simp only[aJ,au] at h;obtain⟨o,h1,a,h2,b,h3,h4⟩:=h;injection h4 with h4;subst h4
  exact SE (λpZ E=>IH.ft G.at_ h1) (ge h2) (ge h3)
 |Call fn args kws cp=>
  cases fn with
  |Name f p=>
   cases kws with
   |nil=>
    dsimp only at h;split at h
    .rename_i hc
     rw[af] at hc;obtain⟨hg,hd⟩:=hc;split at h
     .rename_i hf
      rw[af] at hf;have ef:f=("isinstance":Str):=by simpa using hf.1
      subst ef;have hb:"isinstance"∈T.fL:=by simpa using hf.2
      split at h
      .split at h
       .exact nn h
       .rename_i a tt hs
        simp only[aJ,au] at h;obtain⟨y,h1,h2⟩:=h;split at h2
        .rename_i ty ht
         injection h2 with h3;subst h3
         exact O8 G hg hb (by simpa using hs) ht (ge h1)
        .exact nn h2
      .exact nn h
     .split at h
      .rename_i b hb
       split at h
       .rename_i hs
        simp only[af,wk] at hs;obtain⟨⟨⟨s,hp⟩,hs⟩,hcm⟩:=hs;obtain⟨y,h1,h2⟩:=ag.mp h;subst h2;cases args with
        |nil=>simp at hs
        |cons a as=>
         have st:=lG h1;rw[bp,af] at st;exact O2 G hg hb hp (G.calm hcm).1 (G.calm hcm).2.hd st.1 st.2 (gA h1)
       .exact nn h
      .split at h
       .exact nn h
       .rename_i hcm
        have hcm:I.calm=true:=by simpa using hcm
        split at h
        .rename_i q hq
         obtain⟨hm,rfl⟩:=iS hq;obtain⟨y,h1,h2⟩:=ag.mp h;subst h2;cases args with
         |nil=>
          cases yX h1;exact HL G hg hcm hm (gJ hd)
         |cons a as=>
          have st:=lG h1;rw[bp,af] at st;exact Li G hg hcm hm (gJ hd) st.1 st.2 (IH.QN G h1)
        .split at h
         .rename_i q hq
          obtain⟨hm,rfl⟩:=iS hq;obtain⟨y,h1,h2⟩:=ag.mp h;subst h2;cases args with
          |nil=>
           cases yX h1;exact O5 G hg hcm hm (gJ hd)
          |cons a as=>
           have st:=lG h1;rw[bp,af] at st;exact SM G hg hcm hm (gJ hd) st.1 st.2 (IH.QN G h1)
         .exact nn h
    .exact nn h
   |cons kw ks=>
    dsimp only at h;split at h
    .split at h
     .rename_i hc
      simp only[af] at hc;obtain⟨⟨⟨⟨⟨⟨⟨q0,q1⟩,q2⟩,q4⟩,q6⟩,q7⟩,q8⟩,q9⟩:=hc;have q1:=eq_of_beq q1;subst q1;have q0:ks=[]:=by simpa using q0
      subst q0;obtain⟨y,h1,h2⟩:=ag.mp h;subst h2;obtain⟨ka,kv,kp⟩:=kw;unfold Hj at q2;rw[af] at q2;have e1:=eq_of_beq q2.1;subst e1;have q3:=q2.2;cases kv with
      |Name l lp=>
       have q3:(l==("len":Str)&&I.gl l)=true:=q3;rw[af] at q3;have e2:=eq_of_beq q3.1;subst e2;exact EY G q4 q3.2 (by simpa using q6) (by simpa using q7) (G.calm q8).1 q9 (ge h1)
      |_=>cases q3
     .exact nn h
    .exact nn h
  |Attribute o m ap=>
   dsimp only at h;split at h
   .exact nn h
   .rename_i hc
    simp only[gq,FW,af] at hc;obtain⟨⟨⟨⟨hk,hc0⟩,hl⟩,hn⟩,hcm⟩:=hc;have hk:kws=[]:=by simpa using hk
    subst hk;have hn:=of_decide_eq_true hn;split at h
    .rename_i q kk hq
     obtain⟨hm,hq2⟩:=xr hq;dsimp only at hq2;subst hq2;simp only[aJ,au] at h;obtain⟨y,h1,as,h2,h3⟩:=h;injection h3 with h3;subst h3
     cases args with
     |nil=>
      cases yX h2;exact HM G hcm hm hc0 hl (IH.fe G h1)
     |cons a as'=>
      have st:=lG h2;rw[bp,af] at st;exact Lj G hcm hm hc0 hl hn st.1 st.2 (IH.fe G h1) (IH.QN G h2)
    .split at h
     .split at h
      .rename_i em
       obtain⟨y,h1,h2⟩:=ag.mp h;subst h2;have em:=eq_of_beq em;subst em;exact Lh G hc0 hl (ge h1)
      .exact nn h
     .rename_i a as
      split at h
      .rename_i em
       have em:=eq_of_beq em;subst em;split at h
       .rename_i d
        split at h
        .rename_i st
         rw[af] at st;simp only[aJ,au] at h;obtain⟨y,h1,z,h2,w,h3,h4⟩:=h;injection h4 with h4;subst h4
         exact O4 G hc0 hl st.1 st.2 (ge h1) (ge h2) (ge h3)
        .exact nn h
       .exact nn h
      .split at h
       .rename_i b hb
        simp only[aJ,au] at h;obtain⟨y,h1,as',h2,h3⟩:=h;injection h3 with h3;subst h3
        have st:=lG h2;rw[bp,af] at st;exact O3 G hb (G.calm hcm).2.hd hc0 hl hn st.1 st.2 (ge h1) (gA h2)
       .exact nn h
  |_=>exact nn h
 |Attribute o f pos=>
  split at h
  .exact nn h
  .rename_i hc0
   simp only[aJ,au] at h;obtain⟨q,h1,y,h2,h3⟩:=h;injection h3 with h3;subst h3
   obtain⟨hm,rfl⟩:=iS h1;exact O1 G hm (by simpa using hc0) (ge h2)
 |Subscript o i pos=>
  split at h
  .rename_i hs
   simp only[aJ,au] at h;obtain⟨y,h1,a,h2,h3⟩:=h;injection h3 with h3;subst h3
   exact SH hs (ge h1) (ge h2)
  .split at h
   .split at h
    .simp only[aJ,au] at h
     obtain⟨y,h1,a,h2,b,h3,h4⟩:=h;injection h4 with h4;subst h4
     exact SJ (ge h1) (IH.fo G h2) (IH.fo G h3)
    .exact nn h
   .exact nn h
 |List es pos=>
  obtain⟨y,h1,h2⟩:=ag.mp h;subst h2;exact O0 (gA h1)
 |Tuple es kd pos=>
  obtain⟨y,h1,h2⟩:=ag.mp h;subst h2;exact OZ (gA h1)
 |ListComp elt gs sc pos=>
  obtain⟨tg,iter,ifs,xs,it,c,ee,ci,rfl,ht,hc,h1,h2,h3,h4,h5⟩:=uQ h0;subst h5;have hi:=Aw IH G ht h1;refine Ln G hc.2 ht hc.1 h4 hi.1 hi.2 (λX' G' ec hx=>?_) (λX' G' ec=>?_)
  .exact Du IH G' ec hx h2
  .have:=IH.fe G' h3
   rw[ec] at this;exact this
 |_=>exact nn h
theorem HU:EX t T Γ k 0:=by
 constructor
 .intro I X e x _ h;rw[Ss] at h;exact nn h
 .intro I X e x _ h;rw[MH] at h;exact nn h
 .intro I X op vs x pos _ h;rw[Su] at h;exact nn h
 .intro I X e x _ h;rw[WC] at h;exact nn h
 .intro I X e x tg _ h;rw[WD] at h;exact nn h
 .intro I X e x es ek tp _ h;rw[WH] at h;exact nn h
 .intro I X e x _ h;rw[WK] at h;exact nn h
 .intro I X op vs x pos _ h;rw[Sw] at h;exact nn h
theorem yY:∀n,EX t T Γ k n
 |0=>HU
 |n+1=>
  have IH:=yY n
  #[λG h=>SU IH G h,λG h=>OV IH G h,λG h=>OY IH G h,λG h=>SI IH G h,λG h=>SN IH G h,λG h=>W6 IH G h,λG h=>SS IH G h,λG h=>Pe IH G h]
end
open PL (U SO bI Xn KU KX bY)
structure MN(X:Cx):Prop where
 Ei:X.stack=X.env::X.outer
 W8:X.env.frame=some X.env.locals
def XN(X:Cx)(pZ:List (Addr×Obj))(E:St->XK)(e:Value)(s:ak):Prop:=
 ∃(σ:St)(a T:Addr)(cl:Value)(dx:Option Addr)(H:Hp),e=.ref a/\Inv X pZ σ H s/\vF s.heap a cl dx (some (T,pM X.env.locals))/\BM X pZ H a/\BM X pZ H T/\E σ cl dx H
def XL(X:Cx)(pZ:List (Addr×Obj))(E:St->XK)(e:Value)(s:ak):Prop:=
 wpAny (aR X.prog X.w) X.A (Ft e X.env) (λ_ s'=>XN X pZ E e s') (λ_ _=>False) s
noncomputable abbrev Cx.al(X:Cx)(pZ:List (Addr×Obj))(E:St->XK):Cx:={X with pn:=X.pn++pZ,xe:=XL X pZ E}
section
variable{X:Cx}{pZ pins':List (Addr×Obj)}{E:St->XK}{σ:St}{H:Hp}{s:ak}
theorem Cx.Ok.al(ok:X.Ok):(X.al pZ E).Ok:=
 #[ok.mod,ok.kind,ok.glob,ok.blt,ok.above,ok.inj,ok.has,ok.Mr,ok.hd,ok.frames,ok.Ei,ok.Q2,ok.bs,ok.FA,ok.zU,ok.Bu,ok.pP,ok.Jo]
theorem Cx.Ok.rH(ok:(X.al pZ E).Ok):X.Ok:=
 #[ok.mod,ok.kind,ok.glob,ok.blt,ok.above,ok.inj,ok.has,ok.Mr,ok.hd,ok.frames,ok.Ei,ok.Q2,ok.bs,ok.FA,ok.zU,ok.Bu,ok.pP,ok.Jo]
theorem Inv.al(I:Inv X pZ σ H s):Inv (X.al pZ E) [] σ H s:=
 #[I.ok.al,I.os,I.bare,I.base,I.loc,I.cell,I.free,I.km,λp hp=>I.pin p (by simpa using hp),I.dg,I.len]
theorem Inv.rH(I:Inv (X.al pZ E) pins' σ H s):Inv X pZ σ H s:=
 #[I.ok.rH,I.os,I.bare,I.base,I.loc,I.cell,I.free,I.km,λp hp=>I.pin p (aD.mpr (.inl hp)),I.dg,I.len]
theorem BM.rH(h:BM (X.al pZ E) pins' H b):BM X pZ H b:=
 #[h.1,h.2.1,h.2.2.1,h.2.2.2.1,λp hp=>h.2.2.2.2 p (aD.mpr (.inl hp))]
theorem MN.al(f:MN X):MN (X.al pZ E):=#[f.Ei,f.W8]
theorem XE.toXL(f:MN X)(h:XE X pZ σ (E σ) e s):XL X pZ E e s:=by
 obtain⟨a,tb,cl,dx,H',rfl,I,xa,fr,q⟩:=h;have fr1:X.A.frames=some (X.env::X.outer):=by rw[I.ok.frames,f.Ei]
 have fs1:s.heap.FunFrames X.base (X.env::X.outer):=by have:=I.stack;rw[f.Ei] at this;exact this
 refine Mv (base:=X.base) (outer:=X.outer) (L:=X.env.locals) fr1 fs1 f.W8 xa λh2 T2 k2 n2 x2=>?_
 exact#[σ,a,T2,cl,dx,H',rfl,I.rm (by rw[f.Ei];exact k2) fr,x2,fr a bf,I.RJ n2,q]
theorem XE.rH(f:MN X)(h:XE (X.al pZ E) pins' σ (E σ) e s):XL X pZ E e s:=by
 obtain⟨a,tb,cl,dx,H',e1,I,x,fr,q⟩:=h;exact XE.toXL f #[a,tb,cl,dx,H',e1,I.rH,x,λb hb=>(fr b hb).rH,q]
theorem Lp:Fo (aR (X.al pZ E).prog (X.al pZ E).w) (X.al pZ E).A (X.al pZ E).env (X.al pZ E).xe:=PassesOwn.looking
end
theorem SP.rH(q:SP (X.al pZ E) pins' D f s):SP X pZ D f s:=by
 cases f with
 |next=>obtain⟨σ',H',I',q⟩:=q;exact#[σ',H',I'.rH,q]
 |brk=>obtain⟨σ',H',I',q⟩:=q;exact#[σ',H',I'.rH,q]
 |cont=>obtain⟨σ',H',I',q⟩:=q;exact#[σ',H',I'.rH,q]
 |ret u=>obtain⟨v,σ',H',I',r,q⟩:=q;exact#[v,σ',H',I'.rH,r,q]
structure Tk(X:Cx)(E:St->XK):Prop where
 tk:∀(pZ:List (Addr×Obj))(σ:St)(s:ak)(e:Value),XE X pZ σ (E σ) e s->X.xe e s
 ps:Fo (aR X.prog X.w) X.A X.env X.xe
theorem SV(f:MN X):Tk (X.al pZ E) E:=#[λ_ _ _ _ h=>h.rH f,Lp]
theorem SW(h:X.xe=λ_ _=>False):Tk X (λ_ _ _ _=>False):=by
 refine#[λpZ σ s e z=>?_,?_]
 .obtain⟨a,tb,cl,dx,H',_,_,_,_,w⟩:=z
  exact aI w
 .rw[h];exact PassesOwn.never
section
variable{X:Cx}{e:Expr}{E:St->XK}
theorem FE(k:Tk X E)(h:eM X e t):PE X e (λσ H Q=>t (E σ) σ H Q):=by
 intro pins' s σ H Q I z;exact bL (h pins' s σ H Q (E σ) I z) (λu s' q=>q) λu s' q=>k.tk _ _ _ _ q
theorem SX(k:Tk X E)(h:B4 X e t):PT X e (λσ H Q=>t (E σ) σ H Q):=by
 intro pins' s σ H Q I z;exact bL (h pins' s σ H Q (E σ) I z) (λu s' q=>q) λu s' q=>k.tk _ _ _ _ q
theorem PS.imp{st:Stmt}{t t':TS}(h:PS X st t)(q:∀D σ H,t' D σ H->t D σ H):PS X st t':=λpZ s σ H D I z=>h pZ s σ H D I (q D σ H z)
theorem sS.imp{st:List Stmt}{t t':TS}(h:sS X st t)(q:∀D σ H,t' D σ H->t D σ H):sS X st t':=λpZ s σ H D I z=>h pZ s σ H D I (q D σ H z)
end
theorem Good.al(G:Good t T Γ k I X):Good t T Γ k I (X.al pZ E):=
 #[G.tab,G.Js,G.kind,G.names,G.slots,G.nd,G.calm,G.units]
structure DR(c:Ctx)(ρ:List Addr)(H:Hp)(DU:PL.Ends)(D:Ends)(E:St->XK):Prop where
 nx:∀env' S' σ' H' ρ',DU.nx env' S'->iz ρ H ρ' H'->cj c ρ' H' S'->iJ c ρ' H' env' σ'->D.nx σ' H'
 rt:QV c ρ H DU.rt D.rt
 ex:∀env' σ' x S' H' ρ' C d,DU.ex env' x S'->iz ρ H ρ' H'->cj c ρ' H' S'->iJ c ρ' H' env' σ'->ExcAt c ρ' H' x C d->E σ' (.ref C) (some d) H'
def tS(c:Ctx)(Γ:bY)(x:PL.Sm):(St->XK)->TS:=λE D σ H=>∃env ρ S DU,iJ c ρ H env σ/\cj c ρ H S/\PL.WS Γ x DU env S/\DR c ρ H DU D E
def HV(c:Ctx)(Γ:bY)(x:PL.dh):(St->XK)->TS:=λE D σ H=>∃env ρ S DU,iJ c ρ H env σ/\cj c ρ H S/\PL.rC Γ x DU env S/\DR c ρ H DU D E
section
variable{c:Ctx}{ρ ρ':List Addr}{H H':Hp}{S:bI}{DU:PL.Ends}{D:Ends}{E:St->XK}
theorem DR.later(q:DR c ρ H DU D E)(a:iz ρ H ρ' H'):DR c ρ' H' DU D E:=
 #[λenv' S' σ' H2 ρ2 h b R e=>q.nx env' S' σ' H2 ρ2 h (a.trans b) R e,q.rt.later a,λenv' σ' x S' H2 ρ2 C d h b R e z=>q.ex env' σ' x S' H2 ρ2 C d h (a.trans b) R e z]
theorem DR.qx(q:DR c ρ H DU D E)(R:cj c ρ H S)(he:iJ c ρ H env σ):QX c ρ H (DU.ex env) (E σ):=
 λx S' H2 ρ2 C d h b R2 z=>q.ex env σ x S' H2 ρ2 C d h b R2 (he.later R b) z
theorem iJ.set(he:iJ c ρ H env σ)(r:Rep c ρ H u v)(i:Nat):iJ c ρ H (env.set i (some u)) (σ.set i (some v)):=by
 refine#[by simp[he.len],λj w e=>?_];by_cases z:j=i
 .subst z
  have hj:j<env.length:=by
   have:=(ae.mp e).1;simpa using this
  rw[bU hj] at e;injection e with e;injection e with e;subst e
  exact#[v,by rw[bU (by rw[<-he.len];exact hj)],r]
 .rw[av (dJ z)] at e ⊢
  exact he.at_ j w e
theorem iJ.del(he:iJ c ρ H env σ)(i:Nat):iJ c ρ H (env.set i none) (σ.set i none):=by
 refine#[by simp[he.len],λj w e=>?_];by_cases z:j=i
 .subst z
  have hj:j<env.length:=by
   have:=(ae.mp e).1;simpa using this
  rw[bU hj] at e;cases e
 .rw[av (dJ z)] at e ⊢
  exact he.at_ j w e
end
open PL (U SO bI Xn KU KX bY)
def yZ(C:Addr)(l:List Str):Sp:=λvs H Q _=>∃a ys,vs=.ref a::ys/\ys.length=l.length/\H a=some (.xo a C none)/\∀d,H d=none->d≠a->Q .bK (upd (upd H d (.xf d (l.zip ys))) a (.xo a C (some d)))
structure pI(c:Ctx)(k:Nat)(x:String):Prop where
 ex:∃C f fd ps,c.exc x=some C/\lR c.K (.ref C)=true/\iA c.K (.ref C) "__init__"=some (some (.ref f))/\isFn c.K (.ref f)=true/\iI c.P c.w c.K c.mg c.base (pU c.P c.w) k f fd ps (yZ C ((PL.cJ x).map nm))/\Binds c.K fd ps []/\ps.length<=1000
structure fM(t:vZ)(T:Tab)(Γ:bY)(k:Nat)(I:Inf)(X:Cx):Prop where
 g:Good t T Γ k I X
 fr:MN X
 st:∀x,X.fn x=true
 xi:∀x∈T.yS,PL.cJ x≠[]->pI (X.cc t) k x
 up:∀x C bm y D,t.exc x=some C->t.exc y=some D->oh X.K C bm->(PL.oj x).contains y=true->(aV C::bm).contains (.ref D)=true
section
variable{t:vZ}{T:Tab}{Γ:bY}{k n:Nat}{I:Inf}{X:Cx}
theorem fM.al(G:fM t T Γ k I X):fM t T Γ k I (X.al pZ E):=#[G.g.al,G.fr.al,G.st,G.xi,G.up]
variable{E:St->XK}
theorem rJ(h:sY (names.lookup x)=true)(e:sc.names=names):Loc sc x:=by
 rw[<-e] at h;unfold Loc;cases q:sc.names.lookup x with
 |none=>rw[q] at h;cases h
 |some kd=>rw[q] at h;cases kd<;>simp[sY] at h<;>simp
theorem Ce(z:tS (X.cc t) Γ (.set i x) E D σ H):tE (X.cc t) Γ x (E σ) σ H λv H1=>D.nx (σ.set i (some v)) H1:=by
 obtain⟨env,ρ,S,DU,he,R,w,q⟩:=z;refine#[env,ρ,S,_,_,he,R,w,λu S1 v H1 ρ1 w1 st1 R1 r1=>?_,q.qx R he];exact q.nx _ _ _ _ _ w1 st1 R1 ((he.later R st1).set r1 i)
theorem Pf(G:fM t T Γ k I X)(K:Tk X E)(h:dy x I.N=some i)(hl:sY (I.names.lookup x)=true)(hs:∀env,iH e (some (.Name x p)) pos.line env=pure false)
  (hy:eM X e (tE (X.cc t) Γ y)):PS X (.Assign [.Name x p] e pos) (λD σ H=>tS (X.cc t) Γ (.set i y) E D σ H):=by
 refine(F7 (X:=X) (i:=i) G.g.nd (by show X.N[i]?=some x;rw[G.g.slots];exact dH h) (rJ hl G.g.names) (FE K hy) (hs _) (.inl (G.st x))).imp ?_;intro D σ H z;exact Ce z
theorem Lq(G:fM t T Γ k I X)(K:Tk X E)(hf:f∈T.uO)(hx:eM X o (tE (X.cc t) Γ x))(hy:eM X e (tE (X.cc t) Γ y)):PS X (.Assign [.Attribute o (nm f) p] e pos) (λD σ H=>tS (X.cc t) Γ (.iN x f y) E D σ H):=by
 have hs:∀env,iH e (some (.Attribute o (nm f) p)) pos.line env=pure false:=λenv=>by cases e<;>rfl
 refine(NM (X:=X) (FE K hx) (FE K hy) (hs _)).imp ?_;rintro D σ H ⟨env,ρ,S,DU,he,R,w,q⟩;refine#[env,ρ,S,_,_,he,R,w,λu S1 v H1 ρ1 w1 st1 R1 r1=>?_,q.qx R he];refine#[env,ρ1,S1,_,_,he.later R st1,R1,w1,λu2 S2 v2 H2 ρ2 w2 st2 R2 r2=>?_,(q.qx R he).later st1];obtain⟨l,e1,w3⟩:=PL.k6.mp w2;subst e1;obtain⟨c',fs,e2,hlen,w4⟩:=PL.mv.mp w3;obtain⟨a,C,dx,vs,ev,ha,hC,hH,hn,hr⟩:=R2.ins e2 r2;obtain⟨cl,na⟩:=G.g.tab.cls c' C hC;have hlv:vs.length=fs.length:=by have:=congrArg cM hn;simpa using this
 refine#[a,C,dx,vs,ev,hH,cl,na f hf,∅,?_];have st3:=iz.put (H:=H2) (aw ha) (.ins C dx (gv (nm f) v vs));have tK:∀{fs:List (String×U)}{vs:List (Str×V)},vs.map (·.1)=(fs.map (·.1)).map nm->aT (X.cc t) ρ2 H2 (fs.map (·.2)) (vs.map (·.2)) ->
   (gv (nm f) v vs).map (·.1)=((PL.dZ f u fs).map (·.1)).map nm/\aT (X.cc t) ρ2 H2 ((PL.dZ f u fs).map (·.2)) ((gv (nm f) v vs).map (·.2)):=by
  intro fs;induction fs with
  |nil=>
   intro vs hn hr;cases vs with
   |nil=>exact#[rfl,aT.cons (r1.mono R1 st2) aT.nil]
   |cons a b=>simp at hn
  |cons p fs ih=>
   intro vs hn hr;obtain⟨g,w'⟩:=p;cases vs with
   |nil=>simp at hn
   |cons b vs=>
    obtain⟨b1,b2⟩:=b;simp only[aF,dW] at hn;rw[aF,aF] at hr;unfold aT at hr;obtain⟨v',r',e',k1,k2⟩:=hr;injection e' with e1' e2'
    subst e1';subst e2';unfold gv PL.dZ;by_cases z:g=f
    .have z2:b1=nm f:=by rw[hn.1,z]
     rw[if_pos z2,if_pos z]
     exact#[by simp[hn.1,hn.2],aT.cons (r1.mono R1 st2) k2]
    .have z2:¬b1=nm f:=λq=>z (rF _ _ (hn.1.symm.trans q))
     rw[if_neg z2,if_neg z]
     obtain⟨m1,m2⟩:=ih hn.2 k2;exact#[by simp only[aF,dW];exact#[hn.1,m1],aT.cons k1 m2]
 obtain⟨m1,m2⟩:=tK hn hr;refine q.nx _ _ _ _ _ w4 ((st1.trans st2).trans st3) (R2.put ha #[C,dx,_,hC,bJ,m1,m2.mono R2 st3]) ((he.later R (st1.trans st2)).later R2 st3)
theorem SY(G:fM t T Γ k I X)(K:Tk X E)(hc:yT e=true)(hy:eM X e (tE (X.cc t) Γ y)):PS X (.Expr e pos) (λD σ H=>tS (X.cc t) Γ (.ex y) E D σ H):=by
 refine(JQ (X:=X) (FE K hy) (As hc)).imp ?_;rintro D σ H ⟨env,ρ,S,DU,he,R,w,q⟩;refine#[env,ρ,S,_,_,he,R,w,λu S1 v H1 ρ1 w1 st1 R1 r1=>?_,q.qx R he];exact q.nx _ _ _ _ _ w1 st1 R1 (he.later R st1)
theorem Pg(G:fM t T Γ k I X)(K:Tk X E)(hy:eM X e (tE (X.cc t) Γ y)):PS X (.Return (some e) pos) (λD σ H=>tS (X.cc t) Γ (.ret y) E D σ H):=by
 refine(Np (X:=X) (FE K hy)).imp ?_;rintro D σ H ⟨env,ρ,S,DU,he,R,w,q⟩;exact#[env,ρ,S,_,_,he,R,w,q.rt,q.qx R he]
theorem Ph(G:fM t T Γ k I X)(K:Tk X E)(hx:B4 X c (tT (X.cc t) Γ x))(hy:sS X a (λD σ H=>HV (X.cc t) Γ y E D σ H))(hz:sS X b (λD σ H=>HV (X.cc t) Γ z E D σ H)):PS X (.If c a b pos) (λD σ H=>tS (X.cc t) Γ (.ifs x y z) E D σ H):=by
 refine(Ra (X:=X) (SX K hx) (hy) (hz)).imp ?_;rintro D σ H ⟨env,ρ,S,DU,he,R,w,q⟩;refine#[env,ρ,S,_,_,he,R,w,λb S1 H1 ρ1 w1 st1 R1=>?_,q.qx R he];cases b with
 |true=>exact#[env,ρ1,S1,DU,he.later R st1,R1,w1,q.later st1]
 |false=>exact#[env,ρ1,S1,DU,he.later R st1,R1,w1,q.later st1]
theorem Cf(hp:B3 op=some p):op=KY p/\(p=.add\/p=.sub\/p=.bor):=by cases op<;>first|exact nn hp| (cases hp;exact#[rfl,by simp])
theorem Pj(G:fM t T Γ k I X)(K:Tk X E)(h:dy x I.N=some i)(hl:sY (I.names.lookup x)=true)(hp:B3 op=some p)(hy:eM X e (tE (X.cc t) Γ y)):PS X (.AugAssign (.Name x px) op e pos) (λD σ H=>tS (X.cc t) Γ (.aug i p y) E D σ H):=by
 have eo:=Cf hp;rw[eo.1]
 refine(Nt (X:=X) (i:=i) G.g.nd (by show X.N[i]?=some x;rw[G.g.slots];exact dH h) (rJ hl G.g.names) (FE K hy) (yV (X:=X) (c:=X.cc t) eo.2) (.inl (G.st x))).imp ?_;rintro D σ H ⟨env,ρ,S,DU,he,R,w,q⟩;obtain⟨u0,e0,w0⟩:=PL.Af.mp (show PL.yK _ _ from w);obtain⟨v0,e1,r0⟩:=he.at_ i u0 e0;refine#[v0,e1,env,ρ,S,_,_,he,R,w0,λu S1 v H1 ρ1 w1 st1 R1 r1=>?_,q.qx R he];refine#[u0,u,ρ1,S1,_,r0.mono R st1,r1,R1,w1,λu2 S2 v2 H2 ρ2 w2 st2 R2 r2=>?_];exact q.nx _ _ _ _ _ w2 (st1.trans st2) R2 ((he.later R (st1.trans st2)).set r2 i)
end
open PL (U SO bI Xn KU KX bY)
section
variable{t:vZ}{T:Tab}{Γ:bY}{k n:Nat}{I:Inf}{X:Cx}{E:St->XK}
theorem tK(ru:Rep c ρ H u v):∀{fs:List (String×U)}{vs:List (Str×V)},vs.map (·.1)=(fs.map (·.1)).map nm->aT c ρ H (fs.map (·.2)) (vs.map (·.2)) ->
   (gv (nm f) v vs).map (·.1)=((PL.dZ f u fs).map (·.1)).map nm/\aT c ρ H ((PL.dZ f u fs).map (·.2)) ((gv (nm f) v vs).map (·.2))
 |[],[],_,_=>#[rfl,aT.cons ru aT.nil]
 |[],_::_,hn,_=>by simp at hn
 |_::_,[],hn,_=>by simp at hn
 | (g,w')::fs,(b1,b2)::vs,hn,hr=>by
  simp only[aF,dW] at hn;rw[aF,aF] at hr;unfold aT at hr;obtain⟨v',r',e',k1,k2⟩:=hr;injection e' with e1' e2'
  subst e1';subst e2';unfold gv PL.dZ;by_cases z:g=f
  .have z2:b1=nm f:=by rw[hn.1,z]
   rw[if_pos z2,if_pos z]
   exact#[by simp[hn.1,hn.2],aT.cons ru k2]
  .have z2:¬b1=nm f:=λq=>z (rF _ _ (hn.1.symm.trans q))
   rw[if_neg z2,if_neg z]
   obtain⟨m1,m2⟩:=tK ru hn.2 k2;exact#[by simp only[aF,dW];exact#[hn.1,m1],aT.cons k1 m2]
theorem Lr(G:fM t T Γ k I X)(K:Tk X E)(hf:f∈T.uO)(hp:B3 op=some p)(hx:eM X o (tE (X.cc t) Γ x))(hy:eM X e (tE (X.cc t) Γ y)):PS X (.AugAssign (.Attribute o (nm f) tp) op e pos) (λD σ H=>tS (X.cc t) Γ (.vT x f p y) E D σ H):=by
 have eo:=Cf hp;rw[eo.1]
 refine(Er (X:=X) (FE K hx) (FE K hy) (rd:=ER (X.cc t) p) (yV (X:=X) (c:=X.cc t) eo.2)).imp ?_;rintro D σ H ⟨env,ρ,S,DU,he,R,w,q⟩;refine#[env,ρ,S,_,_,he,R,w,λu S1 v H1 ρ1 w1 st1 R1 r1=>?_,q.qx R he];obtain⟨l,e1,w2⟩:=PL.k6.mp w1;subst e1;obtain⟨c',fs,e2,w3⟩:=PL.mv.mp w2;obtain⟨u0,e3,w4⟩:=PL.ig.mp w3;obtain⟨a,C,dx,vs,ev,ha,hC,hH,hn,hr⟩:=R1.ins e2 r1;obtain⟨cl,na⟩:=G.g.tab.cls c' C hC;obtain⟨v0,l0,r0⟩:=mY hn hr e3 rF;refine#[a,C,dx,vs,v0,ev,hH,cl,na f hf,l0,?_];refine#[env,ρ1,S1,_,_,he.later R st1,R1,w4,λu2 S2 v2 H2 ρ2 w5 st2 R2 r2=>?_,(q.qx R he).later st1];refine#[u0,u2,ρ2,S2,_,r0.mono R1 st2,r2,R2,w5,λu3 S3 v3 H3 ρ3 w6 st3 R3 r3=>?_];obtain⟨c'',fs',e4,⟨e5,hlen,w7⟩⟩:=PL.mv.mp w6;subst e5;have ha3:=(st2.trans st3).get ha;obtain⟨C',dx',vs',hC',hH',hn',hr'⟩:=R3.at_ l a _ ha3 e4;rw[hC] at hC';injection hC' with hC';subst hC'
 have hlv:vs'.length=fs'.length:=by have:=congrArg cM hn';simpa using this
 refine#[dx',vs',hH',∅,?_];have st4:=iz.put (H:=H3) (aw ha3) (.ins C dx' (gv (nm f) v3 vs'));obtain⟨m1,m2⟩:=tK r3 hn' hr';refine q.nx _ _ _ _ _ w7 (((st1.trans st2).trans st3).trans st4) (R3.put ha3 #[C,dx',_,hC,bJ,m1,m2.mono R3 st4]) ((he.later R ((st1.trans st2).trans st3)).later R3 st4)
def Ta(K:Frag):V->V->Hp->VK->Prop:=λo i H Q=>∃p xs k v,o=.ref p/\i=.int k/\H p=some (.lst xs)/\0<=k/\xs[k.toNat]?=some v/\Q v H
theorem EZ:Ri X (Ta X.K):=by
 intro pZ s σ H o i ov iv Q I ro ri h;obtain⟨p,xs,k,v,rfl,rfl,hp,h0,hk,q⟩:=h;cases ro;obtain⟨t,rfl⟩:=ri;obtain⟨its,r,pl,hz⟩:=I.list (.inl (.inl hp));obtain⟨w,ew,rw'⟩:=r.get hk;have hn:=n8;have hl:=(ae.mp hk).1;exact getItem_listL pl.isList h0 ∅ ew #[v,H,I,rw',q]
theorem W9(r:aT c ρ H us vs)(ru:Rep c ρ H u v):∀(j:Nat),aT c ρ H (us.set j u) (vs.set j v):=by
 intro j;induction us generalizing vs j with
 |nil=>cases vs with
  |nil=>exact r
  |cons a b=>exact absurd r.len (by simp)
 |cons x us ih=>cases vs with
  |nil=>exact absurd r.len (by simp)
  |cons a b=>
   unfold aT at r;obtain⟨v',r',e',k1,k2⟩:=r;injection e' with e1 e2
   subst e1;subst e2;cases j with
   |zero=>exact aT.cons ru k2
   |succ j=>exact aT.cons k1 (ih k2 j)
theorem Ls(G:fM t T Γ k I X)(K:Tk X E)(hn:oZ i=true)(hp:B3 op=some p)(hx:eM X o (tE (X.cc t) Γ x))(hi:eM X i (tE (X.cc t) Γ y))(hy:eM X e (tE (X.cc t) Γ z)):PS X (.AugAssign (.Subscript o i tp) op e pos) (λD σ H=>tS (X.cc t) Γ (.EE x y p z) E D σ H):=by
 have eo:=Cf hp;rw[eo.1]
 refine(JR (X:=X) (FE K hx) (FE K hi) EZ (FE K hy) (tip:=ER (X.cc t) p) (yV (X:=X) (c:=X.cc t) eo.2) set_list (λov iv new=>by cases i<;>first|rfl|simp[oZ] at hn)).imp ?_;rintro D σ H ⟨env,ρ,S,DU,he,R,w,q⟩;refine#[env,ρ,S,_,_,he,R,w,λu S1 v H1 ρ1 w1 st1 R1 r1=>?_,q.qx R he];refine#[env,ρ1,S1,_,_,he.later R st1,R1,w1,λu2 S2 v2 H2 ρ2 w2 st2 R2 r2=>?_,(q.qx R he).later st1];obtain⟨l,e1,w3⟩:=PL.k6.mp w2;subst e1;obtain⟨j,e2,w4⟩:=PL.eQ.mp w3;subst e2;obtain⟨us,e3,h0,w5⟩:=PL.cD.mp w4;obtain⟨u0,e4,w6⟩:=PL.ig.mp w5;obtain⟨a,vs,ev,ha,hH,hr⟩:=R2.lst e3 (r1.mono R1 st2);subst ev;obtain⟨v0,l0,r0⟩:=hr.get e4;refine#[a,vs,j,v0,rfl,aN.mp r2,hH,h0,l0,?_];refine#[env,ρ2,S2,_,_,(he.later R st1).later R1 st2,R2,w6,λu3 S3 v3 H3 ρ3 w7 st3 R3 r3=>?_,(q.qx R he).later (st1.trans st2)];refine#[u0,u3,ρ3,S3,_,r0.mono R2 st3,r3,R3,w7,λu4 S4 v4 H4 ρ4 w8 st4 R4 r4=>?_];obtain⟨us',e5,hj,w9⟩:=PL.cD.mp w8;have ha4:=(st3.trans st4).get ha;obtain⟨vs',hH',hr'⟩:=R4.at_ l a _ ha4 e5;refine#[a,vs',j,j.toNat,rfl,aN.mp r2,hH',?_,?_]
 .unfold NU
  rw[if_pos h0,if_pos (by have:=hr'.len;omega)]
 have st5:=iz.put (H:=H4) (aw ha4) (.lst (vs'.set j.toNat v4));refine q.nx _ _ _ _ _ w9 ((((st1.trans st2).trans st3).trans st4).trans st5) (R4.put ha4 #[_,bJ,(W9 hr' r4 j.toNat).mono R4 st5]) ((he.later R (((st1.trans st2).trans st3).trans st4)).later R4 st5)
theorem Pk(K:Tk X E)(hx:B4 X c (tT (X.cc t) Γ x))(hy:sS X b (λD σ H=>HV (X.cc t) Γ y E D σ H)):PS X (.While c b [] pos) (λD σ H=>tS (X.cc t) Γ (.Ae x y) E D σ H):=by
 refine(F8 (X:=X) K.ps (SX K hx) hy).imp ?_;rintro D σ H ⟨env,ρ,S,DU,he,R,w,q⟩;obtain⟨n0,w0⟩:=w
 let F:=PL.yM (λen S1 k=>PL.WT Γ x en S1 k (DU.ex en)) (λen S1 k=>PL.rC Γ y {DU with nx:=k} en S1) DU.nx
 refine#[λm σ1 H1=>∃env1 ρ1 S1,iz ρ H ρ1 H1/\cj (X.cc t) ρ1 H1 S1/\iJ (X.cc t) ρ1 H1 env1 σ1/\F m env1 S1,#[n0,env,ρ,S,.refl,R,he,w0],?_];rintro m σ1 H1 ⟨env1,ρ1,S1,st1,R1,he1,w1⟩;cases m with
 |zero=>exact aI w1
 |succ m=>
  have w1':PL.WT Γ x env1 S1 (λt S1=>if t=true then PL.rC Γ y {DU with nx:=F m} env1 S1 else DU.nx env1 S1) (DU.ex env1):=w1;have q1:=q.later st1;refine#[env1,ρ1,S1,_,_,he1,R1,w1',λb S2 H2 ρ2 w2 st2 R2=>?_,q1.qx R1 he1];cases b with
  |false=>exact q1.nx _ _ _ _ _ w2 st2 R2 (he1.later R1 st2)
  |true=>
   refine#[λσ3 H3=>∃env3 ρ3 S3,iz ρ H ρ3 H3/\cj (X.cc t) ρ3 H3 S3/\iJ (X.cc t) ρ3 H3 env3 σ3/\F m env3 S3,λσ3 H3 h3=>#[m,tY m,h3],?_];have q2:=q1.later st2;refine#[env1,ρ2,S2,_,he1.later R1 st2,R2,w2,#[λenv' S' σ' H' ρ' h b R' e=>#[env',ρ',S',(st1.trans st2).trans b,R',e,h],q2.rt,q2.ex]]
def HW(Γ:bY)(tt:PL.Tg)(z:PL.dh)(DU:PL.Ends)(u:U)(en:PL.Env)(S:bI)(k:PL.Env->bI->Prop):Prop:=match tt with
 |.name i=>PL.rC Γ z {DU with nx:=k} (en.set i (some u)) S
 |.pair i j=>PL.MC u λx y=>PL.rC Γ z {DU with nx:=k} ((en.set i (some x)).set j (some y)) S
theorem HX:PL.WS Γ (.i8 tt y z) DU env S=PL.WI Γ y env S (λus g S1=>PL.uE g (HW Γ tt z DU) DU.nx us env S1) (DU.ex env):=by
 cases tt<;>rfl
theorem HY(G:fM t T Γ k I X)(K:Tk X E)(hc:I.calm=true)(hs:∀env v,foldedSetIterable it env v=pure v)
  (hi:PI X tg it (λσ H R=>zI (X.cc t) Γ y (E σ) σ H R)) (hg:PG X tg g0) (hb:sS X b (λD σ H=>HV (X.cc t) Γ z E D σ H))
  (hr0:∀{ρ H S env σ u v DU D Q k},iJ (X.cc t) ρ H env σ->cj (X.cc t) ρ H S->Rep (X.cc t) ρ H u v->HW Γ tt z DU u env S k->DR (X.cc t) ρ H {DU with nx:=k} D E->(∀σ' H',HV (X.cc t) Γ z E D σ' H'->Q σ' H')->g0 v σ H Q):
  PS X (.For tg it b [] pos) (λD σ H=>tS (X.cc t) Γ (.i8 tt y z) E D σ H):=by
 refine(Nv (X:=X) K.ps (G.g.calm hc).1 hi hg hb (hs _)).imp ?_;rintro D σ H ⟨env,ρ,S,DU,he,R,w,q⟩;rw[HX] at w;refine#[env,ρ,S,_,_,he,R,w,λus g S1 H1 ρ1 J w1 st1 R1 io=>?_,q.qx R he]
 let F:=PL.uE g (HW Γ tt z DU) DU.nx
 refine#[λj m σ2 H2=>m+j=us.length/\∃env2 ρ2 S2,iz ρ1 H1 ρ2 H2/\cj (X.cc t) ρ2 H2 S2/\iJ (X.cc t) ρ2 H2 env2 σ2/\F (us.drop j) env2 S2,#[us.length,rfl,env,ρ1,S1,.refl,R1,he.later R st1,w1],?_];rintro j m σ2 H2 ⟨hm,env2,ρ2,S2,st2,R2,he2,wf⟩;have q2:=q.later (st1.trans st2);cases hd:us.drop j with
 |nil=>
  rw[hd] at wf;obtain⟨g2,w2⟩:g S2/\DU.nx env2 S2:=wf;exact .inl #[(io j ρ2 H2 S2 st2 R2 g2).2 (CS.mp hd),q2.nx _ _ _ _ _ w2 .refl R2 he2]
 |cons u rest=>
  rw[hd] at wf;obtain⟨g2,w2⟩:=wf;have hu:us[j]?=some u:=by
   have:=congrArg (λl=>l[0]?) hd;simpa using this
  have hr:us.drop (j+1)=rest:=by
   have:=congrArg List.tail hd;simpa using this
  have hj:j<us.length:=(ae.mp hu).1;obtain⟨jg,jy⟩:=(io j ρ2 H2 S2 st2 R2 g2).1 u hu;refine .inr #[jg,λσ3 H3=>∃env3 ρ3 S3,iz ρ1 H1 ρ3 H3/\cj (X.cc t) ρ3 H3 S3/\iJ (X.cc t) ρ3 H3 env3 σ3/\F rest env3 S3,λσ3 H3 h3=>#[m-1,∅,∅,by rw[hr];exact h3],λyv H3 hy=>?_];obtain⟨st3,R3,ry⟩:=jy yv H3 hy;have q3:=q2.later st3;refine hr0 (DU:=DU) (k:=F rest) (D:=#[_,_,_,_]) (he2.later R2 st3) R3 ry w2 ?_ λσ' H' h=>h
  exact#[λenv' S' σ' H' ρ' h b R' e=>#[env',ρ',S',(st2.trans st3).trans b,R',e,h],q3.rt,q3.ex]
theorem Lu(G:fM t T Γ k I X)(K:Tk X E)(hc:I.calm=true)(h:dy x I.N=some i)(hl:sY (I.names.lookup x)=true)(hs:∀env v,foldedSetIterable it env v=pure v)
  (hi:PI X (.Name x px) it (λσ H R=>zI (X.cc t) Γ y (E σ) σ H R)) (hb:sS X b (λD σ H=>HV (X.cc t) Γ z E D σ H)):PS X (.For (.Name x px) it b [] pos) (λD σ H=>tS (X.cc t) Γ (.i8 (.name i) y z) E D σ H):=
 HY (tt:=.name i) G K hc hs hi (qi (i:=i) G.g.nd (by rw[G.g.slots];exact dH h) (rJ hl G.g.names) (.inl (G.st x))) hb
  λhe R ru w q hq=>hq _ _ #[_,_,_,_,he.set ru i,R,w,q]
theorem Lv(G:fM t T Γ k I X)(K:Tk X E)(hc:I.calm=true)(h:dy x I.N=some i)(hl:sY (I.names.lookup x)=true)(h2:dy x2 I.N=some j)(hl2:sY (I.names.lookup x2)=true)(hs:∀env v,foldedSetIterable it env v=pure v)
  (hi:PI X (.Tuple [.Name x px,.Name x2 px2] kk pt) it (λσ H R=>zI (X.cc t) Γ y (E σ) σ H R)) (hb:sS X b (λD σ H=>HV (X.cc t) Γ z E D σ H)):PS X (.For (.Tuple [.Name x px,.Name x2 px2] kk pt) it b [] pos) (λD σ H=>tS (X.cc t) Γ (.i8 (.pair i j) y z) E D σ H):=by
 have p1:PG X (.Name x px) (wH i):=qi (i:=i) G.g.nd (by rw[G.g.slots];exact dH h) (rJ hl G.g.names) (.inl (G.st x));have p2:PG X (.Name x2 px2) (wH j):=qi (i:=j) G.g.nd (by rw[G.g.slots];exact dH h2) (rJ hl2 G.g.names) (.inl (G.st x2));refine HY (tt:=.pair i j) G K hc hs hi (F6 (n:=2) (G.g.calm hc).1 (qj p1 (qj p2 CY rfl) rfl) rfl rfl) hb ?_;intro ρ H S env σ u v DU D Q kk he R ru w q hq;obtain⟨a,b',e1,w⟩:=PL.Dd.mp (show PL.MC _ _ from w);subst e1;obtain⟨ad,vs,ev,hs',rs⟩:=dz.mp ru;subst ev;unfold aT at rs;obtain⟨v1,r1,rfl,k1,k2⟩:=rs;unfold aT at k2;obtain⟨v2,r2,rfl,k3,k4⟩:=k2;unfold aT at k4;subst k4;exact#[ad,[v1,v2],rfl,.inl (.inl hs'),rfl,v1,[v2],rfl,v2,[],rfl,rfl,hq _ _ #[_,_,_,_,(he.set k1 i).set k3 j,R,w,q]]
end
open PL (U SO bI Xn KU KX bY)
section
variable{t:vZ}{T:Tab}{Γ:bY}{k n:Nat}{I:Inf}{X:Cx}{E:St->XK}
theorem pS.oq(h:pS (X.at_ pZ E) [] H b):pS X pZ H b:=
 #[h.1,h.2.1,h.2.2.1,h.2.2.2.1,h.2.2.2.2.1,λp hp=>h.2.2.2.2.2 p (by simpa using hp)]
theorem HZ(K:Tk X E)(h:∀pZ E,PI (X.at_ pZ E) tg it (λσ H R=>zI (X.cc t) Γ y (E σ) σ H R)):PI X tg it (λσ H R=>zI (X.cc t) Γ y (E σ) σ H R):=by
 intro pZ s σ H R J z;have tk:∀e s,RP X pZ E e s->X.xe e s:=λe s #[σ',h]=>K.tk _ _ _ _ h
 refine bL (h pZ E [] s σ H R J.at_ z) (λv s1 q=>bL q (λitv s2 q2=>?_) tk) tk;obtain⟨ita,fp,tn,Jt,H',e,I',tu,t0,hf,hr⟩:=q2;exact#[ita,fp,tn,Jt,H',e,I'.oq,tu,t0,λb hb=>(hf b hb).oq,hr]
theorem Cg(G:fM t T Γ k I X)(K:Tk X E)(hc:I.calm=true)(ht:KP tg=some x)(hb:uP I sc x=true)(hci:(gZ I sc).mapM (λy=>dy y I.N)=some ci)
  (hs:∀env v,foldedSetIterable iter env v=pure v) (hi:∀pZ E,PI (X.at_ pZ E) tg iter (λσ H R=>zI (X.cc t) Γ it (E σ) σ H R))
  (hif:∀(X':Cx),Good t T Γ k #[qA I sc.names,x++gZ I sc,true] X'->X'.cc t=X.cc t->(∀e s,X'.xe e s↔False)->Kk X' ifs (λσ H Q=>tT (X.cc t) Γ tc (λ_ _ _=>False) σ H Q))
  (he:∀(X':Cx),Good t T Γ k #[qA I sc.names,x++gZ I sc,true] X'->X'.cc t=X.cc t->eM X' elt (tE (X.cc t) Γ e))
  (hy:dy y I.N=some i) (hk:I.names.lookup y=some .local) (hsw:iH (.ListComp elt [#[tg,iter,ifs,0]] sc pos) (some (.Name y py)) spos.line X.env=pure true):
  PS X (.Assign [.Name y py] (.ListComp elt [#[tg,iter,ifs,0]] sc pos) spos) (λD σ H=>tS (X.cc t) Γ (.set i (.comp (x.length==2) e it tc ci)) E D σ H):=by
 have hn:(gZ I sc).Nodup:=by
  unfold gZ;have:=G.g.nd;rw[G.g.slots] at this;exact this.filter _
 have cp:=Ds G.g hci;refine(BQ (X:=X) (i:=i) (wi:=λσ H R=>zI (X.cc t) Γ it (E σ) σ H R) (tc:=λσ H Q=>tT (X.cc t) Γ tc (λ_ _ _=>False) σ H Q) (te:=λσ H Q=>tE (X.cc t) Γ e (λ_ _ _=>False) σ H Q)
  (uZ G.g hb) cp hn (G.g.calm hc).1 (HR ht (uZ G.g hb) cp hn (G.g.calm hc).1) (HZ K hi) (λC s₀ H₀ ex=>hif _ (qG G.g hc hb cp hn) rfl λ_ _=>jO) (λC s₀ H₀ ex=>(he _ (qG G.g hc hb cp hn) rfl).no λ_ _=>jO) G.g.nd (by rw[G.g.slots];exact dH hy) (by rw[G.g.names];exact hk) hsw (hs _)).imp ?_
 intro D σ H z;exact xy (Ce z)
theorem Zi(K:Tk X E)(XC:oh X.K C bm)(kp:lR X.K (.ref C)=true)(hi:iA X.K (.ref C) "__init__"=some (some (.ref f)))(hf:isFn X.K (.ref f)=true)
  (F:iI X.prog X.w X.K X.mg X.base (pU X.prog X.w) k f fd ps sp) (hr:jx (k+1) X.A) (hg:Gl X x) (hm:X.mg x=some (.ref C)) (hb:Binds X.K fd ps []) (ha:Aq X (e::es) ta) (hps:ps.length<=1000)
  (hdb:(x==("__debug__":Str))=false) (he:noStar e=true) (hes:es.all noStar=true):
  PS X (.Raise (some (.Call (.Name x p) (e::es) [] cpos)) none pos) (λ_ σ H=>ta (E σ) σ H λvs H1=>∀a,H1 a=none ->
   sp (.ref a::vs) (upd H1 a (.xo a C none)) (λv H2=>v=.bK/\∃d,H2 a=some (.xo a C (some d))/\E σ (.ref C) (some d) (sr H2 a)) (E σ)):=by
 intro pZ s σ H D I h;obtain⟨nm,q,N,bs,sn,sub,ab,col,dd,k0,k1,k2,k3,k5,hC⟩:=XC.ob;rw[arm_exec_Raise]
 simp only[evalOpt,Option.map];refine aj (nZ (z9 (C:=C) (nm:=nm) (q:=q) (N:=N) (bs:=bs) (bm:=bm) (sn:=sn) (sub:=sub) (ab:=ab) (col:=col) (dd:=dd) (k0:=k0) (k1:=k1) (k2:=k2) (k3:=k3) (k5:=k5) (newId:="ValueError.__new__") (XC.base I.kY) hr.hd ?_));refine aj (bL (Q:=λv s₁=>∃e dx,v=.ref e/\s₁.heap.get? C=some (kO nm q C N bs bm true sn sub ab col dd k0 k1 k2 k3 k5 "ValueError.__new__")/\vF s₁.heap e (.ref C) dx none/\X.xe (.ref e) s₁) ?_ (λv s3 h3=>aj (nZ (aK h3))) λ_ _ x=>x);refine dw (mO I hg hm ?_ hdb);refine Bo (h₀:=X.base) I.ok.mod.QD kp (bL (ha cpos pZ s σ H _ (E σ) I h) (λus s1 h9=>?_) λ_ _ z=>K.tk _ _ _ _ z) (cV he) (gB hes);obtain⟨vs,H1,I1,r,q1⟩:=h9;refine#[I1.kY,?_];obtain⟨hp,gg,d0,tk,os⟩:=s1;refine x_call (fI:=f) PySem.F.excBase_ValueError (XC.tail I1.kY) (I1.kY C _ hC) (vN I1.kY hi) (λself=>bind_fn I1.kY self (beq_iff_eq.mp hf)) (λh' a hm' hs=>?_) ?_
 .obtain⟨t0,ta,tn,tt⟩:=hm'.there
  have xat:vF h' a (.ref C) none none:=#[_,_,ta,rfl]
  have I2:=I1.laid (a:=a) (o:=.xo a C none) (h':=h') (t':=tk) hm'.keeps hs (Mw xat);have na:H1 a=none:=I1.dg.fresh hs;have hsp:=q1 a na;have hl:(aV a::us++[]).length=ps.length:=by
   have el:=F.len _ _ _ _ hsp;rw[bb,<-el,aQ,aQ,r.length]
  refine pO (md (F.run _ X.stack _ _ #[aV a::us,[]] (aV a::us) (V.ref a::vs) _ (E σ) (hr.make C us []) (I2.NQ.make C us []) (by
   have b:=hb #[h',gg,d0,tk,os] (aV a::us) I2.kY hl;rw[bb] at b;exact b) (.cons rfl r) hsp) λres s' hq=>?_)
  cases res with
  |error ex=>
   obtain⟨a',T',c',dx',H',e1,I',x',fr,q'⟩:=pU.inv I2 hq;exact K.tk pZ σ s' ex #[a',some T',c',dx',H',e1,I',x',fr,q']
  |ok fl=>
   cases fl with
   |next=>exact aI hq
   |brk=>exact aI hq
   |cont=>exact aI hq
   |ret u=>
    obtain⟨v,H2,I3,rv,ev,d,hd,q2⟩:=I2.after hq;subst ev;refine#[rv,a,some d,rfl,I3.kY C _ hC,C6 I3.dg hd,?_];refine K.tk pZ σ s' _ #[a,none,.ref C,some d,sr H2 a,rfl,I3.RM hd,C6 I3.dg hd,λb m=>?_,q2];have e:b=a:=by simpa using m
    subst e;exact#[pV,(I1.RJ hs).2]
 .have el:=r.length
  have hsp:=q1 hp.objs.size (I1.dg.fresh (ax _));have h2:=F.len _ _ _ _ hsp;rw[aQ,el] at h2;show([]++us).length<=sizeLine;rw[fU,jb]
  omega
theorem H0(G:fM t T Γ k I X)(K:Tk X E)(hc:I.calm=true)(hg:I.gl (nm q)=true)(hq:q∈T.yS)(hd:(nm q==("__debug__":Str))=false)(h1:noStar e=true)(h2:es.all noStar=true)(hf:PL.cJ q≠[])
  (ha:Aq X (e::es) (EO (X.cc t) Γ xs)):PS X (.Raise (some (.Call (.Name (nm q) p) (e::es) [] cpos)) none pos) (λD σ H=>tS (X.cc t) Γ (.raise q xs) E D σ H):=by
 obtain⟨C,f,fd,ps,hC,kp,hi,hfn,F,B,hps⟩:=(G.xi q hq hf).ex;obtain⟨C',hC',hmg⟩:=G.g.tab.WZ q hq;rw[hC] at hC';injection hC' with hC';subst hC'
 obtain⟨_,_,⟨bm,XC⟩,_⟩:=G.g.tab.exc q C hC;refine(Zi (k:=k) K XC kp hi hfn F (G.g.calm hc).2 (hJ G.g hg) hmg B ha hps hd h1 h2).imp ?_;rintro D σ H ⟨env,ρ,S,DU,he,R,w,qq⟩;refine#[env,ρ,S,_,_,he,R,w,λus S1 vs H1 ρ1 w1 st1 R1 r1=>?_,qq.qx R he];intro a ha;obtain⟨hl,w2⟩:=w1;have hlv:vs.length=((PL.cJ q).map nm).length:=by rw[aq,<-hl];exact r1.len.symm
 refine#[a,vs,rfl,hlv,bJ,λd hd nd=>#[rfl,d,bJ,?_]];have hd1:H1 d=none:=by rw[bw nd] at hd;exact hd
 have hH:sr (upd (upd (upd H1 a (.xo a C none)) d (.xf d (((PL.cJ q).map nm).zip vs))) a (.xo a C (some d))) a=upd H1 d (.xf d (((PL.cJ q).map nm).zip vs)):=by
  funext b
  unfold sr;by_cases z:b=a
  .subst z;rw[if_pos rfl,bw (dJ nd),ha]
  .rw[if_neg z,bw z]
   by_cases z2:b=d
   .subst z2;rw[bJ,bJ]
   .rw[bw z2,bw z2,bw z]
 rw[hH]
 have st2:=iz.lay R1 hd1 (.xf d (((PL.cJ q).map nm).zip vs));refine qq.ex env σ #[q,us] S1 _ ρ1 C d w2 (st1.trans st2) (R1.lay hd1 _) ((he.later R st1).later R1 st2) #[hC,_,bJ,?_,?_]
 .exact Jg ∅
 .rw[Jh ∅];exact r1.mono R1 st2
theorem Zj{body suite:List Stmt}{b0:Stmt}{x n:Str}{np hpos pos:Pos}{C':Addr}{bm':List Value}{i:Nat}{tb:(St->XK)->TS}{th:TS}(fr:MN X)(hb:∀pZ E',sS (X.al pZ E') body (tb E'))(hs:∀a,sS (X.hand a) (b0::suite) th)
  (hN:X.N.Nodup) (hi:X.N[i]?=some n) (hk:X.env.scope.names.lookup n=some .local) (hg:Gl X x) (hm:X.mg x=some (.ref C')) (c':oh X.K C' bm') (hdb:(x==("__debug__":Str))=false):
  PS X (.Try body [.ExceptHandler (some (.Name x np)) (some n) (b0::suite) hpos] [] [] pos) (V8 X.K C' i tb th):=by
 intro pZ s σ H D I h;refine wpAny_Try_except (bL (hb pZ _ [] s σ H D I.al h) (λf s1 q=>?_) λex s1 q=>?_)
 .have q:=q.rH
  cases f with
  |next=>exact lP q
  |ret v=>exact q
  |brk=>exact q
  |cont=>exact q
 .refine bL q (λ_ s2 q2=>?_) λ_ _ z=>aI z
  obtain⟨σ1,a,T2,c,dx,H1,rfl,I2,x2,fa2,fT2,C,bm,rfl,xc,has,k⟩:=q2;refine GF (s:=s2) x2 λh3 k3 x3=>?_
  have I3:Inv X pZ σ1 H1 {s2 with heap:=h3}:=I2.rm (k3.mono (λb z=>absurd z (by simp)) λ_ z=>z) (λb z=>by
   have e:b=T2:=by simpa using z
   subst e;exact fT2)
  refine wpAny_handleBy_cons (codeAny_handlers_test (mO (X:=X.hand a) (I3.hand a) hg hm ?_ hdb)) (by intro z;cases z);refine yE (s:={s2 with heap:=h3}) I3.kY xc c' x3 ?_;rw[has]
  refine codeAny_handlers_suite_as (GF (s:={s2 with heap:=h3}) x3 λh4 k4 x4=>?_);have I4:Inv X pZ σ1 H1 {s2 with heap:=h4}:=I3.rm (k4.mono (λb z=>absurd z (by simp)) λ_ z=>z) (λb z=>by
   have e:b=T2:=by simpa using z
   subst e;exact fT2)
  have I5:=I4.RO fa2 x4;refine mi (v:=.ref a) I5 hN hi (.inl hk) rfl (λs6 I6=>?_) (.inr hk);refine bL (hs a pZ s6 _ _ _ (I6.hand a) (k a fa2.1)) (λf s7 q7=>?_) λ_ _ z=>aI z
  cases f with
  |next=>
   obtain⟨σ7,H7,I7,q7⟩:=q7;exact oK (I7.yF I.ok) hN hi hk λs8 I8=>#[_,H7,I8,q7]
  |brk=>
   obtain⟨σ7,H7,I7,q7⟩:=q7;exact oK (I7.yF I.ok) hN hi hk λs8 I8=>#[_,H7,I8,q7]
  |cont=>
   obtain⟨σ7,H7,I7,q7⟩:=q7;exact oK (I7.yF I.ok) hN hi hk λs8 I8=>#[_,H7,I8,q7]
  |ret u=>
   obtain⟨v7,σ7,H7,I7,r7,q7⟩:=q7;exact oK (I7.yF I.ok) hN hi hk λs8 I8=>#[v7,_,H7,I8,r7,q7]
theorem Pl{q:String}{y:Str}{i:Nat}{b h:List Stmt}{h0:Stmt}{np hpos pos:Pos}{xb xh:PL.dh}(G:fM t T Γ k I X)(hg:I.gl (nm q)=true)(hq:q∈T.yS)(hd:(nm q==("__debug__":Str))=false)(hy:dy y I.N=some i)(hk:I.names.lookup y=some .local)
  (hb:∀pZ E',sS (X.al pZ E') b (λD σ H=>HV (X.cc t) Γ xb E' D σ H)) (hh:∀a,sS (X.hand a) (h0::h) (λD σ H=>HV (X.cc t) Γ xh (λ_ _ _ _=>False) D σ H)):
  PS X (.Try b [.ExceptHandler (some (.Name (nm q) np)) (some y) (h0::h) hpos] [] [] pos) (λD σ H=>tS (X.cc t) Γ (.Oe xb q i xh) E D σ H):=by
 obtain⟨C',hC',hmg⟩:=G.g.tab.WZ q hq;obtain⟨_,_,⟨bm',XC'⟩,_⟩:=G.g.tab.exc q C' hC';refine(Zj (X:=X) (i:=i) G.fr hb hh G.g.nd (by rw[G.g.slots];exact dH hy) (by rw[G.g.names];exact hk) (hJ G.g hg) hmg XC' hd).imp ?_;rintro D σ H ⟨env,ρ,S,DU,he,R,w,qq⟩;refine#[env,ρ,S,_,he,R,w,#[qq.nx,qq.rt,?_]];rintro env' σ' ⟨xc,xus⟩ S' H' ρ' C d ⟨hx,wh⟩ st R' he' ⟨hC,fs,hd',hn,hr⟩;obtain⟨_,_,⟨bm,XC⟩,_⟩:=G.g.tab.exc xc C hC;refine#[C,bm,rfl,XC,G.up xc C bm q C' hC hC' XC hx,λa ha=>?_];have st2:=iz.lay R' ha (.xc a (.ref C) (some d));have R2:=R'.lay ha (.xc a (.ref C) (some d));have hda:d≠a:=λz=>by rw[z,ha] at hd';cases hd'
 have re:Rep (X.cc t) ρ' (upd H' a (.xc a (.ref C) (some d))) (.exc xc xus) (.ref a):=by
  unfold Rep;exact#[a,d,C,fs,rfl,hC,bJ,by rw[bw hda];exact hd',hn,hr.mono R' st2]
 refine#[_,ρ',S',_,(he'.later R' st2).set re i,R2,wh,#[λenv2 S2 σ2 H2 ρ2 h st3 R3 e3=>?_,?_,λ_ _ _ _ _ _ _ _ z=>aI z]]
 .exact qq.nx _ _ _ _ _ h ((st.trans st2).trans st3) R3 (e3.del i)
 .exact qq.rt.later (st.trans st2)
end
open PL (U SO bI Xn KU KX bY)
structure Lw(t:vZ)(T:Tab)(Γ:bY)(k n:Nat):Prop where
 fs:∀{I X st x E},fM t T Γ k I X->Tk X E->cS T n I st=some x->PS X st (λD σ H=>tS (X.cc t) Γ x E D σ H)
 Lx:∀{I X st x E},fM t T Γ k I X->Tk X E->Jr T n I st=some x->sS X st (λD σ H=>HV (X.cc t) Γ x E D σ H)
section
variable{t:vZ}{T:Tab}{Γ:bY}{k n:Nat}{I:Inf}{X:Cx}{E:St->XK}
theorem fM.hand(G:fM t T Γ k I X)(a:Addr):fM t T Γ k {I with calm:=false} (X.hand a):=
 #[#[G.g.tab,G.g.Js,G.g.kind,G.g.names,G.g.slots,G.g.nd,λh=>by simp at h,G.g.units],#[G.fr.Ei,G.fr.W8],G.st,G.xi,G.up]
theorem Pm(IH:Lw t T Γ k n)(G:fM t T Γ k I X)(K:Tk X E):∀{st:List Stmt}{x:PL.dh},Jr T (n+1) I st=some x->sS X st (λD σ H=>HV (X.cc t) Γ x E D σ H)
 |[],x,h=>by
  rw[MI,KR] at h;injection h with h;subst h
  refine(JP (X:=X)).imp ?_;rintro D σ H ⟨env,ρ,S,DU,he,R,w,q⟩;exact q.nx _ _ _ _ _ w .refl R he
 |s::ss,x,h=>by
  rw[MI,KR] at h;simp only[aJ,au] at h;obtain⟨y,h1,ys,h2,h3⟩:=h;injection h3 with h3;subst h3
  refine(zV (X:=X) (IH.fs G K h1) (IH.Lx G K h2)).imp ?_;rintro D σ H ⟨env,ρ,S,DU,he,R,w,q⟩;refine#[env,ρ,S,_,he,R,w,#[λenv' S' σ' H' ρ' h st R' e=>?_,q.rt,q.ex]];exact#[env',ρ',S',DU,e,R',h,q.later st]
theorem Tc(IH:Lw t T Γ k n)(G:fM t T Γ k I X)(K:Tk X E){st:Stmt}{x:PL.Sm}(h:cS T (n+1) I st=some x):PS X st (λD σ H=>tS (X.cc t) Γ x E D σ H):=by
 have A:=yY (t:=t) (T:=T) (Γ:=Γ) (k:=k) n;rw[WR] at h;cases st with(delta WN at h;dsimp only at h)
 |Assign ts e pos=>
  split at h
  .rename_i tg
   cases tg with
   |Name x' px=>
    dsimp only at h;split at h
    .rename_i i hi
     split at h
     .rename_i hl
      obtain⟨y,h1,h2⟩:=ag.mp h;subst h2;by_cases nc:yT e=true
      .exact Pf G K hi hl (λenv=>As nc) (A.fe G.g h1)
      .change cE T n I _=_ at h1
       cases n with
       |zero=>rw[Ss] at h1;exact nn h1
       |succ n=>
        have A':=yY (t:=t) (T:=T) (Γ:=Γ) (k:=k) n;cases e with
        |ListComp elt gs sc cpos=>
         obtain⟨tg,iter,ifs,xs,it,c,ee,ci,rfl,ht,hc,g1,g2,g3,g4,g5⟩:=uQ h1;subst g5;have hi':=Aw A' G.g ht g1;cases sw:(X.env.blockKind==.function&&X.env.kindOf x'==some .local&&px.line==cpos.line && !(sc.names.any λ(n,k)=>n==x'&&(k==.local||k==.cell))) with
         |true=>
          have hsw:iH (.ListComp elt [#[tg,iter,ifs,0]] sc cpos) (some (.Name x' px)) pos.line X.env=pure true:=by
           show(pure _:Sem Bool)=pure true
           exact congrArg pure sw
          have hkl:I.names.lookup x'=some .local:=by
           simp only[af] at sw;have:=sw.1.1.2;unfold Env.kindOf at this;rw[G.g.names] at this;simpa using this
          refine Cg G K hc.2 ht hc.1 g4 hi'.1 hi'.2 (λX' G' ec hx=>Du A' G' ec hx g2) (λX' G' ec=>?_) hi hkl hsw;have:=A'.fe G' g3;rw[ec] at this;exact this
         |false=>
          have hsw:iH (.ListComp elt [#[tg,iter,ifs,0]] sc cpos) (some (.Name x' px)) pos.line X.env=pure false:=by
           show(pure _:Sem Bool)=pure false
           exact congrArg pure sw
          refine(F7 (X:=X) (i:=i) G.g.nd (by rw[G.g.slots];exact dH hi) (rJ hl G.g.names) (FE K (A.fe G.g h1)) hsw (.inl (G.st x'))).imp ?_;intro D σ H z;exact Ce z
        |SetComp=>rw[KQ] at h1;unfold QJ at h1;exact nn h1
        |DictComp=>rw[KQ] at h1;unfold QJ at h1;exact nn h1
        |_=>exact absurd rfl nc
     .exact nn h
    .exact nn h
   |Attribute o f px=>
    simp only[aJ,au] at h;obtain⟨q,h1,a,h2,b,h3,h4⟩:=h;injection h4 with h4;subst h4
    obtain⟨hm,rfl⟩:=iS h1;exact Lq G K hm (A.fe G.g h2) (A.fe G.g h3)
   |_=>exact nn h
  .exact nn h
 |AugAssign tg op e pos=>
  cases tg with
  |Name x' px=>
   dsimp only at h;split at h
   .rename_i i hi
    split at h
    .rename_i hl
     simp only[aJ,au] at h;obtain⟨p,h1,y,h2,h3⟩:=h;injection h3 with h3;subst h3
     exact Pj G K hi hl h1 (A.fe G.g h2)
    .exact nn h
   .exact nn h
  |Attribute o f px=>
   simp only[aJ,au] at h;obtain⟨q,h1,p,h2,a,h3,b,h4,h5⟩:=h;injection h5 with h5;subst h5
   obtain⟨hm,rfl⟩:=iS h1;exact Lr G K hm h2 (A.fe G.g h3) (A.fe G.g h4)
  |Subscript o i px=>
   dsimp only at h;split at h
   .rename_i hn
    simp only[aJ,au] at h;obtain⟨p,h1,a,h2,b,h3,c,h4,h5⟩:=h;injection h5 with h5;subst h5
    exact Ls G K hn h1 (A.fe G.g h2) (A.fe G.g h3) (A.fe G.g h4)
   .exact nn h
  |_=>exact nn h
 |Expr e pos=>
  split at h
  .rename_i hc
   obtain⟨y,h1,h2⟩:=ag.mp h;subst h2;exact SY G K hc (A.fe G.g h1)
  .exact nn h
 |Return e pos=>
  cases e with
  |none=>exact nn h
  |some e=>
   obtain⟨y,h1,h2⟩:=ag.mp h;subst h2;exact Pg G K (A.fe G.g h1)
 |If c a b pos=>
  simp only[aJ,au] at h;obtain⟨c,h1,a,h2,b,h3,h4⟩:=h;injection h4 with h4;subst h4
  exact Ph G K (A.ft G.g h1) (IH.Lx G K h2) (IH.Lx G K h3)
 |While c b el pos=>
  split at h
  .rename_i he
   have he:el=[]:=by simpa using he
   subst he;simp only[aJ,au] at h;obtain⟨c,h1,a,h2,h3⟩:=h;injection h3 with h3;subst h3
   exact Pk K (A.ft G.g h1) (IH.Lx G K h2)
  .exact nn h
 |For tg it b el pos=>
  split at h
  .exact nn h
  .rename_i hc
   simp only[gq,FW,af] at hc;have he:el=[]:=by simpa using hc.2
   subst he;split at h
   .rename_i xs ht
    rcases B1 ht with⟨x,p,rfl,rfl⟩|⟨x,y,p,p',kd,q,rfl,rfl⟩
    .dsimp only at h
     split at h
     .rename_i i hi
      split at h
      .rename_i hl
       simp only[aJ,au] at h;obtain⟨it,h1,a,h2,h3⟩:=h;injection h3 with h3;subst h3
       exact Lu G K hc.1 hi hl (Dt h1) (HZ K (A.fi G.g h1)) (IH.Lx G K h2)
      .exact nn h
     .exact nn h
    .dsimp only at h
     split at h
     .rename_i i hi
      split at h
      .rename_i j hj
       split at h
       .rename_i hl
        rw[af] at hl;simp only[aJ,au] at h;obtain⟨it,h1,a,h2,h3⟩:=h;injection h3 with h3;subst h3
        exact Lv G K hc.1 hi hl.1 hj hl.2 (MM h1) (HZ K (A.fn G.g h1)) (IH.Lx G K h2)
       .exact nn h
      .exact nn h
     .exact nn h
   .exact nn h
 |Raise ex ca pos=>
  cases ca with
  |some cz=>
   injection h with h;subst h
   rintro pZ s σ H D J ⟨env,ρ,S,DU,he,R,w,q⟩;exact aI w
  |none=>
   cases ex with
   |none=>exact nn h
   |some cc=>
    cases cc with
    |Call f args kws cp=>
     cases f with
     |Name xx p1=>
      dsimp only at h;split at h
      .rename_i hc
       simp only[af] at hc;obtain⟨⟨⟨⟨hk,hg⟩,hd⟩,hcm⟩,hne⟩:=hc;have hk:kws=[]:=by simpa using hk
       subst hk;simp only[aJ,au] at h;obtain⟨q,h1,as,h2,h3⟩:=h;split at h3
       .exact nn h3
       .rename_i hfl
        injection h3 with h3;subst h3
        obtain⟨hm,rfl⟩:=iS h1;cases args with
        |nil=>simp at hne
        |cons a as'=>
         have st:=lG h2;rw[bp,af] at st;exact H0 G K hcm hg hm (gJ hd) st.1 st.2 (λz=>by rw[z] at hfl;simp at hfl) (A.QN G.g h2)
      .exact nn h
     |_=>exact nn h
    |_=>exact nn h
 |Try b hs el fi pos=>
  split at h
  .rename_i hd
   obtain⟨ty,ny,bd,hp⟩:=hd;cases ty with
   |none=>exact nn h
   |some cc=>
    cases cc with
    |Name x p=>
     cases ny with
     |none=>exact nn h
     |some y=>
      cases bd with
      |nil=>exact nn h
      |cons h0 hh0=>
       dsimp only at h;split at h
       .rename_i hc
        simp only[af] at hc;obtain⟨⟨⟨⟨⟨he,hf⟩,hg⟩,hd⟩,hcm⟩,hk⟩:=hc;have he:el=[]:=by simpa using he
        have hf:fi=[]:=by simpa using hf
        subst he;subst hf;split at h
        .rename_i i hi
         simp only[aJ,au] at h;obtain⟨q,h1,b,h2,hh,h3,h4⟩:=h;injection h4 with h4;subst h4
         obtain⟨hm,rfl⟩:=iS h1;exact Pl G hg hm (gJ hd) hi (by simpa using hk) (λpZ E'=>IH.Lx G.al (SV G.fr) h2) (λa=>IH.Lx (G.hand a) (SW rfl) h3)
        .exact nn h
       .exact nn h
    |_=>exact nn h
  .exact nn h
 |_=>exact nn h
theorem E0:Lw t T Γ k 0:=by
 constructor
 .intro I X st x E _ _ h;rw[WQ] at h;exact nn h
 .intro I X st x E _ _ h;rw[Sy] at h;exact nn h
theorem Ax:∀n,Lw t T Γ k n
 |0=>E0
 |n+1=>
  have IH:=Ax n
  #[λG K h=>Tc IH G K h,λG K h=>Pm IH G K h]
end
open PL (U SO bI Xn KU KX bY)
structure Base(c:Ctx)(T:Tab)(kx:Nat):Prop where
 tab:Dr c T
 xi:∀x∈T.yS,PL.cJ x≠[]->pI c kx x
 up:∀x C bm y D,c.exc x=some C->c.exc y=some D->oh c.K C bm->(PL.oj x).contains y=true->(aV C::bm).contains (.ref D)=true
theorem pI.mono(h:pI c j x)(l:j<=k):pI c k x:=by
 obtain⟨C,f,fd,ps,h1,h2,h3,h4,F,B,hp⟩:=h.ex;exact#[C,f,fd,ps,h1,h2,h3,h4,F.mono l,B,hp]
theorem MP{c:Ctx}{T:Tab}{Γ:bY}{k kx n m:Nat}{x qual:Str}{st:Stmt}{f:Addr}{fd:dQ}{N ps:List Str}{sp:PL.Spec}{b:PL.dh}(F:BK c.K x qual st f fd)(S:fV N ps (bc st))
  (B:Base c T kx) (hkx:kx<=k) (G:fX c T Γ k) (hc:Jr T n #[(bc st).names,N,true] (dM st)=some b) (hk:PL.Keeps Γ b m sp) (hm:N.length=ps.length+m) (hl:∀us S Q E,sp us S Q E->us.length=ps.length):
  iI c.P c.w c.K c.mg c.base (pU c.P c.w) (k+2) f fd ps (lift c sp):=by
 refine BK.V6 (k:=k+1) F S (λvs H Q E h=>?_) (λcdv A outer s H vs Q E hr h=>?_)
 .obtain⟨us,ρ,S0,QU,EU,r,R,w,q,qx⟩:=h
  rw[<-r.len];exact hl _ _ _ _ w
 obtain⟨us,ρ,S0,QU,EU,r,R,w,q,qx⟩:=h
 let t:vZ:=#[c.cls,c.exc]
 let X:=zX (pU c.P c.w) c.P c.w c.K c.mg c.base N qual (bc st) f cdv A outer s H E
 have G0:Good t T Γ k #[(bc st).names,N,true] X:=#[B.tab,G,S.kind,rfl,rfl,S.nd,λ_=>#[rfl,hr],by have:=hr.un;show(A.deeper (pN qual (bc st) s.heap.objs.size f cdv)).units+200<kf;omega]
 have GS:fM t T Γ k #[(bc st).names,N,true] X:=#[G0,#[rfl,rfl],λ_=>rfl,λx hx hf=>(B.xi x hx hf).mono hkx,B.up]
 have K:Tk X (λ_=>E):=#[λpZ σ s' e z=>by
  obtain⟨a,tb,cl,dx,H',rfl,I,x,fr,q⟩:=z;exact GG pZ σ H' s' a tb cl dx I x fr q,PassesOwn.leaving]
 refine#[_,(Ax n).Lx GS K hc,?_];have hlen:us.length=ps.length:=hl _ _ _ _ w;have hvl:vs.length=us.length:=r.len.symm;refine#[us.map some++dm m none,ρ,S0,#[λ_ S1=>QU .bK S1,QU,λ_=>EU],#[?_,λi u e=>?_],R,hk us S0 QU EU w,#[λenv' S' σ' H' ρ' h st R' e=>q _ _ _ _ _ h st R' (d8.mpr rfl),q,λenv' σ' x S' H' ρ' C d h st R' e z=>qx _ _ _ _ _ _ h st R' z]]
 .unfold start
  simp
  omega
 .unfold start
  by_cases z:i<us.length
  .rw[ao (by simpa using z),ar] at e
   obtain⟨u',e1,e2⟩:=ag.mp e;injection e2 with e2;subst e2
   obtain⟨v,e3,r3⟩:=r.get e1;exact#[v,by rw[ao (by rw[aq,hvl];exact z),ar,e3];rfl,r3]
  .rw[ay (by simpa using JB z),zO] at e
   split at e
   .cases e
   .cases e
section
variable{P:bC}{w:bZ}{K:Frag}{mg:Str->Option Value}{base:Heap}{qual:Str}{st:Stmt}{f C:Addr}{fd:dQ}{s a1 a2 f1 f2:Str}{p1 p2 p3 p4 p5 p6 p7 p8:Pos}
theorem H8(F:BK K "__init__" qual st f fd)(S:fV [s,a1] [s,a1] (bc st))(hb:dM st=[.Assign [.Attribute (.Name s p1) f1 p2] (.Name a1 p3) p4])(xg:XGet K C)(n1:fA K C f1)
  (v0:Jn (bc st) s) (v1:Jn (bc st) a1) (d0:(s==("__debug__":Str))=false) (d1:(a1==("__debug__":Str))=false) (e0:(s==("__classdict__":Str))=false) (e1:(a1==("__classdict__":Str))=false):
  iI P w K mg base (pU P w) 1 f fd [s,a1] (yZ C [f1]):=by
 refine BK.V6 (k:=0) F S (λvs H Q E h=>?_) (λcdv A outer sh H vs Q E hr h=>?_)
 .obtain⟨a,ys,rfl,hl,_⟩:=h
  simp at hl ⊢;exact hl
 obtain⟨a,ys,rfl,hl,ha,q⟩:=h;obtain⟨y1,rfl⟩:∃y1,ys=[y1]:=i3.mp (by simpa using hl);rw[hb]
 refine#[_,CW (yD (pQ (i:=0) rfl v0 d0 e0) (pQ (i:=1) rfl v1 d1 e1) rfl),?_];refine#[y1,rfl,.ref a,rfl,a,C,rfl,xg,n1,.inl #[ha,λd hd nd=>?_]];exact q d hd nd
theorem Td(F:BK K "__init__" qual st f fd)(S:fV [s,a1,a2] [s,a1,a2] (bc st))(hb:dM st=[.Assign [.Attribute (.Name s p1) f1 p2] (.Name a1 p3) p4,.Assign [.Attribute (.Name s p5) f2 p6] (.Name a2 p7) p8])(xg:XGet K C)(n1:fA K C f1)(n2:fA K C f2)(ne:f1≠f2)
  (v0:Jn (bc st) s) (v1:Jn (bc st) a1) (v2:Jn (bc st) a2) (d0:(s==("__debug__":Str))=false) (d1:(a1==("__debug__":Str))=false) (d2:(a2==("__debug__":Str))=false) (e0:(s==("__classdict__":Str))=false) (e1:(a1==("__classdict__":Str))=false) (e2:(a2==("__classdict__":Str))=false):
  iI P w K mg base (pU P w) 1 f fd [s,a1,a2] (yZ C [f1,f2]):=by
 refine BK.V6 (k:=0) F S (λvs H Q E h=>?_) (λcdv A outer sh H vs Q E hr h=>?_)
 .obtain⟨a,ys,rfl,hl,_⟩:=h
  simp at hl ⊢;exact hl
 obtain⟨a,ys,rfl,hl,ha,q⟩:=h;obtain⟨y1,y2,rfl⟩:∃y1 y2,ys=[y1,y2]:=RT hl;rw[hb]
 refine#[_,zV (yD (pQ (i:=0) rfl v0 d0 e0) (pQ (i:=1) rfl v1 d1 e1) rfl) (CW (yD (pQ (i:=0) rfl v0 d0 e0) (pQ (i:=2) rfl v2 d2 e2) rfl)),?_];refine#[y1,rfl,.ref a,rfl,a,C,rfl,xg,n1,.inl #[ha,λd hd nd=>?_]];refine#[y2,rfl,.ref a,rfl,a,C,rfl,xg,n2,.inr #[d,[(f1,y1)],bJ,by rw[bw nd];exact bJ,by show 1<1000;decide,?_]];have e:=q d hd nd;have hh:upd (upd (upd H d (.xf d [(f1,y1)])) a (.xo a C (some d))) d (.xf d (gv f2 y2 [(f1,y1)]))=upd (upd H d (.xf d ([f1,f2].zip [y1,y2]))) a (.xo a C (some d)):=by
  have ep:gv f2 y2 [(f1,y1)]=[f1,f2].zip [y1,y2]:=by
   unfold gv gv;rw[if_neg ne];rfl
  rw[ep]
  funext b
  by_cases z:b=d
  .subst z;rw[bJ,bw nd,bJ]
  .rw[bw z]
   by_cases z2:b=a
   .subst z2;rw[bJ,bJ]
   .rw[bw z2,bw z2,bw z,bw z]
 show Q .bK _
 rw[hh]
 exact e
end
def Ci:PL.Spec:=λus _ Q _=>∃ns:List Int,us=[.pC ns]/\ns.length<=63/\∀S',Q (.bl true) S'
def y0(K:Frag):Sp:=λvs H Q _=>∃(a:Addr)(ns:List Int),vs=[.ref a]/\ns.length<=63/\xm K H a (ns.map .int)/\∀H',Q (.bl true) H'
theorem Ly(F:iI c.P c.w c.K c.mg c.base (pU c.P c.w) k f fd ps (lift c Ci)):iI c.P c.w c.K c.mg c.base (pU c.P c.w) k f fd ps (y0 c.K):=by
 refine F.imp λvs H Q E h=>?_
 obtain⟨a,ns,rfl,hl,hf,q⟩:=h;refine#[[.pC ns],[],[],λu _=>u=.bl true,λ_ _=>False,aT.cons (qC.mpr #[a,rfl,hf]) aT.nil,#[rfl,List.nodup_nil,λn a o h=>by simp at h],#[ns,rfl,hl,λ_=>rfl],λu S' v H' ρ' e _ _ r=>?_,λ_ _ _ _ _ _ z=>aI z];subst e;rw[dG.mp r]
 exact q H'
theorem Ia{K:Frag}{H:Hp}{a:Addr}{xs:List V}(o:Kh H)(h:gF K H a xs):xm K H a xs:=by
 rcases h with(h|⟨ob,h⟩)|h
 .rcases o a with z|⟨ob,ys,z⟩
  .rw[h] at z;cases z
  .rw[h] at z;cases z
 .exact .inl #[ob,h]
 .exact .inr h
theorem Pn(h:pU P w [] H s (λ_ _ _=>False) e s'):False:=by
 obtain⟨a,T,c,dx,H',_,_,_,_,_,_,_,_,z⟩:=h;exact z
end L2
section
namespace PL
theorem Vp:fJ "text" [("text",a),("at",b),("depth",c)]=some a:=rfl
theorem Yw:fJ "at" [("text",a),("at",b),("depth",c)]=some b:=rfl
theorem Te:fJ "depth" [("text",a),("at",b),("depth",c)]=some c:=rfl
end PL
open PL
def wN0:="Ym Yn Zg Yo Vi Wx Wy w_var w_lit Yb Yc w_not w_and w_or Yd Ye OA w_mk Ws Sk Yf w_fld Zc Zd Yg Yh OB Yi MF Hi Ze Zf Sl Yj Wt Sn Wu Wv Yk Hd He Oj We Ol Wf Wg Vd Wh XH ME XI XJ XM XO XQ XR XS XT YX YY YZ Y0 KH KJ Ou Ow Oy Wi KL Wj Oz Y1 Sb Y2 Y3 Y4 Y5 Y6 Y7 R9 Sa Se Di XU XW yI XY XZ X0 Sf X1 X2 X3 X4 Ve Wk Vf X5 Sg C9 Ac wZ rk wR Wo Vh Sh Si Sj Zu Y8 Y9 bind_f Wq YU YV YW true_and aP oM aG aZ GX Kw Dc U9 List.getElem?_cons_zero List.getElem?_cons_succ List.map_cons List.map_nil List.replicate_zero List.replicate_succ List.cons_append List.nil_append List.append_nil List.set_cons_zero List.set_cons_succ k8 Option.join_some"
local macro_rules | `(tactic| walk_at "pl") => do let a:=((wN0++" X7 Wr X8 X9 Ya d6 XX Vp Yw Te").splitOn " ").toArray.map fun s=>Lean.mkIdent s.toName;`(tactic| simp only [$[$a:ident],*])
namespace PL
noncomputable def lU(x rest:List Nat)(d:Nat):SO:=.ins "Reader" [("text",.str x),("at",.int (x.length-rest.length:Nat)),("depth",.int d)]
def kq(r:Nat)(o:SO)(S S':bI):Prop:=S.length<=S'.length/\S'[r]?=some o/\∀n,n<S.length->n≠r->S'[n]?=S[n]?
def Old(r:Nat)(S S':bI):Prop:=S.length<=S'.length/\∀n,n<S.length->n≠r->S'[n]?=S[n]?
def Ext(S S':bI):Prop:=S.length<=S'.length/\∀n,n<S.length->S'[n]?=S[n]?
noncomputable def cv(l rest:List Nat):Bool:=match rest with|[]=>false|c::_=>l.contains c
def Cj:Spec:=λus S Q _=>∃r x rest d l,us=[.loc r,.str l]/\S[r]?=some (lU x rest d)/\rest<:+x/\x.length<=1000/\Q (.bl (cv l rest)) S
section
variable{x rest:List Nat}
theorem Ib(h:rest<:+x)(k:Nat):x[x.length-rest.length+k]?=rest[k]?:=by
 obtain⟨p,rfl⟩:=h;rw[aB,Nat.add_sub_cancel,ay ∅]
 congr 1
 omega
theorem MQ(h:rest<:+x):((x.length-rest.length:Nat):Int)<x.length↔rest≠[]:=by
 obtain⟨p,rfl⟩:=h;cases rest with
 |nil=>simp
 |cons c r=>simp;omega
end
section
variable{S:bI}{r:Nat}{x rest:List Nat}{d:Nat}{q:U->Prop}
theorem y3(h:S[r]?=some (lU x rest d)):jA (.loc r) "text" S q=q (.str x):=by rw[d6,h];rfl
theorem xA(h:S[r]?=some (lU x rest d)):jA (.loc r) "at" S q=q (.int (x.length-rest.length:Nat)):=by rw[d6,h];rfl
theorem Ic(h:S[r]?=some (lU x rest d)):jA (.loc r) "depth" S q=q (.int d):=by rw[d6,h];rfl
theorem bX{Q:String->List (String×U)->Prop}(h:S[r]?=some (lU x rest d)):mq S[r]? Q=Q "Reader" [("text",.str x),("at",.int (x.length-rest.length:Nat)),("depth",.int d)]:=by rw[h];rfl
end
theorem Lz(Γ:bY):Keeps Γ je 0 Cj:=by
 rintro us S Q E ⟨r,x,rest,d,l,rfl,hS,hx,hl,q⟩;unfold je;walk_at "pl";simp only[<-d6,y3 hS,xA hS];walk_at "pl";refine#[∅,?_];rw[ij]
 have h0:=Ib hx 0;rw[Bp] at h0;rw[h0]
 simp only[decide_eq_true_eq,MQ hx];cases rest with
 |nil=>simpa[cv] using q
 |cons c t=>simp[cv] at q ⊢;exact#[∅,q]
abbrev PR(α:Type):=Except (List Nat) (α×List Nat)
noncomputable def dB(l rest:List Nat):PR Nat:=match rest with|[]=>.error []|c::r=>if l.contains c then .ok (c,r) else .error (c::r)
noncomputable def mapR{α β:Type}(f:α->β):PR α->PR β|.ok (a,r)=>.ok (f a,r)|.error r=>.error r
noncomputable def bindR{α β:Type}(p:PR α)(f:α->List Nat->PR β):PR β:=match p with|.ok (a,r)=>f a r|.error r=>.error r
noncomputable def nK(c:Nat):U:=.str [c]
def dC(r:Nat)(x:List Nat)(d:Nat)(S:bI)(Q:KU)(E:KX):PR U->Prop
 |.ok (u,r')=>∀S',kq r (lU x r' d) S S'->Q u S'
 |.error r'=>∀S',Old r S S'->E #["BadRule",[.int 0,.int (x.length-r'.length:Nat)]] S'
def zJ(args:List U)(p:List Nat->PR U)(d:Nat):Spec:=λus S Q E=>∃r x rest,us=.loc r::args/\S[r]?=some (lU x rest d)/\rest<:+x/\x.length<=1000/\dC r x d S Q E (p rest)
def Ie:Spec:=λus S Q E=>∃l d,zJ [.str l] (λrest=>mapR nK (dB l rest)) d us S Q E
section
variable{S S1 S2:bI}{r:Nat}{o o':SO}
theorem bF{α:Type}{l:List α}{n:Nat}{a:α}(h:l[n]?=some a):n<l.length:=(ae.mp h).1
theorem kq.set(h:S[r]?=some o):kq r o' S (S.set r o'):=by
 refine#[by simp,by simp[i4,bF h],λn hn ne=>?_];rw[av (dJ ne)]
theorem kq.refl(h:S[r]?=some o):kq r o S S:=#[ax _,h,λ_ _ _=>rfl]
theorem Old.refl:Old r S S:=#[ax _,λ_ _ _=>rfl]
theorem Old.trans(a:Old r S S1)(b:Old r S1 S2):Old r S S2:=#[aS a.1 b.1,λn h ne=>(b.2 n (aM h a.1) ne).trans (a.2 n h ne)]
theorem kq.old(a:kq r o S S1):Old r S S1:=#[a.1,a.2.2]
theorem kq.trans(a:kq r o S S1)(b:kq r o' S1 S2):kq r o' S S2:=#[aS a.1 b.1,b.2.1,(a.old.trans b.old).2]
theorem Ext.old(a:Ext S S1):Old r S S1:=#[a.1,λn h _=>a.2 n h]
theorem Ext.refl:Ext S S:=#[ax _,λ_ _=>rfl]
theorem Ext.trans(a:Ext S S1)(b:Ext S1 S2):Ext S S2:=#[aS a.1 b.1,λn h=>(b.2 n (aM h a.1)).trans (a.2 n h)]
theorem Ext.get(a:Ext S S1)(h:S[r]?=some o):S1[r]?=some o:=(a.2 r (bF h)).trans h
theorem Ext.chg(a:Ext S S1)(h:S[r]?=some o):kq r o S S1:=#[a.1,a.get h,λn h _=>a.2 n h]
theorem Ext.app(l:List SO):Ext S (S++l):=#[by simp,λn h=>ao h]
theorem gs(h:S[r]?=some o):(S.set r o')[r]?=some o':=(kq.set h).2.1
end
theorem sub_len(h:(c::t)<:+x):((x.length-(c::t).length:Nat):Int)+1=(x.length-t.length:Nat):=by
 obtain⟨p,rfl⟩:=h;simp
 omega
theorem Po{x t:List Nat}{z v:U}{d:Nat}(h:z=.int (x.length-t.length:Nat)):SO.ins "Reader" (dZ "at" z [("text",.str x),("at",v),("depth",.int d)])=lU x t d:=by subst h;rfl
theorem y4{x t:List Nat}{c:Nat}(h:(c::t)<:+x):t<:+x:=mN (cP c t) h
theorem LA(Γ:bY)(h1:Γ "Reader.sees"=Cj):Keeps Γ ik 0 Ie:=by
 rintro us S Q E ⟨l,d,r,x,rest,rfl,hS,hx,hl,q⟩;unfold ik;walk_at "pl";simp only[bX hS,h1];walk_at "pl";refine#[rfl,r,x,rest,d,l,rfl,hS,hx,hl,?_];walk_at "pl";simp only[bX hS];walk_at "pl";cases rest with
 |nil=>exact#[rfl,q S .refl]
 |cons c t=>
  by_cases e:l.contains c=true
  .simp only[dB,e,if_true,mapR,dC] at q
   simp only[cv,e];have p:=Po (v:=.int ((x.length-(c::t).length:Nat):Int)) (d:=d) (congrArg U.int (sub_len hx));have g:=gs (o':=lU x t d) hS;simp only[bO,ah,if_false,Hd];simp only[bX hS,p];simp only[<-d6,y3 g,xA g,Ol,Se];refine#[trivial,by simp,∅,?_];have e2:((x.length-t.length:Nat):Int)-1=(x.length-(c::t).length:Nat):=by have:=sub_len hx;omega
   have h0:=Ib hx 0;rw[Bp] at h0;rw[e2,ij,h0]
   exact q _ (kq.set hS)
  .simp only[dB,e,mapR,dC] at q
   simp only[cv,e];exact#[rfl,q S .refl]
def Suf{α:Type}(rest:List Nat):PR α->Prop
 |.ok (_,r)=>r<:+rest
 |.error r=>r<:+rest
def lV{α:Type}(rest:List Nat):PR α->Prop
 |.ok (_,r)=>r<:+rest/\r.length<rest.length
 |.error r=>r<:+rest
theorem lV.Pp{α:Type}{rest:List Nat}{p:PR α}(h:lV rest p):Suf rest p:=by
 cases p with
 |ok v=>exact h.1
 |error r=>exact h
theorem lV.bind{α β:Type}{rest:List Nat}{p:PR α}{f:α->List Nat->PR β}(h:lV rest p)(k:∀a r,p=.ok (a,r)->Suf r (f a r)):lV rest (bindR p f):=by
 cases p with
 |error r=>exact h
 |ok v=>
  obtain⟨a,r⟩:=v;have:=k a r rfl;unfold bindR;dsimp only;cases q:f a r with
  |error r'=>rw[q] at this;exact this.trans h.1
  |ok w=>
   obtain⟨b,r'⟩:=w;rw[q] at this;exact#[this.trans h.1,Nat.lt_of_le_of_lt this.length_le h.2]
theorem Suf.bind{α β:Type}{rest:List Nat}{p:PR α}{f:α->List Nat->PR β}(h:Suf rest p)(k:∀a r,p=.ok (a,r)->Suf r (f a r)):Suf rest (bindR p f):=by
 cases p with
 |error r=>exact h
 |ok v=>
  obtain⟨a,r⟩:=v;have:=k a r rfl;unfold bindR;dsimp only;cases q:f a r with
  |error r'=>rw[q] at this;exact this.trans h
  |ok w=>
   obtain⟨b,r'⟩:=w;rw[q] at this;exact this.trans h
theorem gC(l rest:List Nat):lV rest (dB l rest):=by
 cases rest with
 |nil=>exact bE _
 |cons c t=>
  unfold dB;dsimp only;split
  .exact#[cP c t,by simp]
  .exact bE _
theorem dC.bind{α:Type}{toU:α->U}{p:PR α}{f:α->List Nat->PR U}{r d:Nat}{x rest:List Nat}{S S1:bI}{Q Q1:KU}{E:KX}(h:dC r x d S Q E (bindR p f))(st:kq r (lU x rest d) S S1)
  (k:∀a r1 S2,p=.ok (a,r1)->kq r (lU x r1 d) S S2->dC r x d S Q E (f a r1)->Q1 (toU a) S2):dC r x d S1 Q1 E (mapR toU p):=by
 cases p with
 |error r'=>exact λS' o=>h S' (st.old.trans o)
 |ok v=>
  obtain⟨a,r1⟩:=v;exact λS' c=>k a r1 S' rfl (st.trans c) h
theorem LB{p:PR U}:mapR id p=p:=by
 cases p with
 |ok v=>rfl
 |error r=>rfl
theorem xB{α β:Type}{f:α->β}{p:PR α}:mapR f p=bindR p (λa r=>.ok (f a,r)):=by
 cases p with
 |ok v=>rfl
 |error r=>rfl
theorem lH(p:Nat->Bool)(hg:g S)(hc:∀n k,k (p n) S->c (.str [n]) S k)(he:∀n k,k (.str [n]) S->e (.str [n]) S k):
  ∀(l:List Nat)(acc:List U),acc.length+l.length<1000000->Q (acc++(l.filter p).map nK) S->nA g c e Q (l.map λn=>.str [n]) acc S
 |[],acc,hl,q=>#[hg,by simpa using hl,by simpa using q]
 |n::l,acc,hl,q=>by
  simp only[aQ] at hl;refine#[hg,∅,hc n _ ?_];by_cases h:p n=true
  .rw[if_pos h]
   refine he n _ (lH p hg hc he l (acc++[.str [n]]) (by simp;omega) ?_);rw[Ji,if_pos h] at q;simpa[nK] using q
  .rw[if_neg h]
   refine lH p hg hc he l acc ∅ ?_;rw[Ji,if_neg h] at q;exact q
theorem join_ones:∀l:List Nat,k7 [] (l.map λn=>[n])=l
 |[]=>rfl
 |[n]=>rfl
 |n::m::l=>by
  have:=join_ones (m::l);simp only[aF] at this ⊢;simp only[k7,bb];rw[this];rfl
noncomputable def dA(l:List Nat):List Nat:=SG.filter λc=>!l.contains c
noncomputable def inOrder(l:List Nat):List Nat:=SG.filter λc=>l.contains c
def spT(f:List Nat->List Nat):Spec:=λus S Q _=>∃l,us=[.str l]/\∀S',Ext S S'->Q (.str (f l)) S'
theorem u5:∀l:List Nat,((l.map λn=>[n]).map cM).sum=l.length
 |[]=>rfl
 |n::l=>by rw[aF,aF,mH,u5 l];simp;omega
theorem Dw(l:List Nat):l.map nK=(l.map λn=>[n]).map U.str:=by
 rw[bM];rfl
theorem Dx(p:Nat->Bool):(SG.filter p).length<=95:=aS (Bq _ _) ⋯
theorem Ay(Γ:bY):Keeps Γ mT 0 (spT inOrder):=by
 rintro us S Q E ⟨l,rfl,q⟩;unfold mT;walk_at "pl";refine lH (λc=>l.contains c) trivial (λn k h=>by rw[KH];exact h) (λn k h=>h) SG [] ⋯ ?_;simp only[fU];try walk_at "pl"
 refine#[(inOrder l).map λn=>[n],?_,?_,?_]
 .rw[<-Dw];simp[inOrder]
 .have:=Dx λc=>l.contains c
  rw[u5];simp[inOrder] at this ⊢;omega
 .rw[join_ones];exact q _ (Ext.app _)
theorem u6(Γ:bY):Keeps Γ oS 0 (spT dA):=by
 rintro us S Q E ⟨l,rfl,q⟩;unfold oS;walk_at "pl";refine lH (λc=>!l.contains c) trivial (λn k h=>by rw[KJ];exact h) (λn k h=>h) SG [] ⋯ ?_;simp only[fU];try walk_at "pl"
 refine#[(dA l).map λn=>[n],?_,?_,?_]
 .rw[<-Dw];simp[dA]
 .have:=Dx λc=>!l.contains c
  rw[u5];simp[dA] at this ⊢;omega
 .rw[join_ones];exact q _ (Ext.app _)
def Dy:Spec:=λus S Q _=>∃a b,us=[.str [a],.str [b]]/\a∈SG/\b∈SG/\Q (.bl (decide (SG.idxOf a<SG.idxOf b))) S
theorem Az(Γ:bY):Keeps Γ mU 0 Dy:=by
 rintro us S Q E ⟨a,b,rfl,ha,hb,q⟩;unfold mU;walk_at "pl";refine#[a,rfl,ha,b,rfl,hb,?_];simpa using q
noncomputable def kr(a b:Nat):List Nat:=(SG.drop (SG.idxOf a)).take (SG.idxOf b+1-SG.idxOf a)
def xC:Spec:=λus S Q _=>∃a b,us=[.str [a],.str [b]]/\a∈SG/\b∈SG/\Q (.str (kr a b)) S
theorem Ck(h:a∈SG):SG.idxOf a<95:=by
 have:=List.idxOf_lt_length_iff.mpr h;simpa using this
theorem Cm(Γ:bY):Keeps Γ oU 0 xC:=by
 rintro us S Q E ⟨a,b,rfl,ha,hb,q⟩;unfold oU;walk_at "pl";refine#[a,rfl,ha,?_];refine#[b,rfl,hb,?_];try walk_at "pl"
 have h1:=Ck ha;have h2:=Ck hb;refine#[#[λi e=>?_,λi e=>?_],⋯,?_]
 .injection e with e;omega
 .injection e with e;omega
 .have e:lT SG (some (SG.idxOf a:Int)) (some ((SG.idxOf b:Int)+1))=kr a b:=by
   unfold lT kr;have l:SG.length=95:=⋯
   simp only[cC,l];have e1:min (((SG.idxOf a:Nat):Int).toNat) 95=SG.idxOf a:=∅
   have e2:min ((((SG.idxOf b:Nat):Int)+1).toNat) 95=SG.idxOf b+1:=∅
   rw[e1,e2]
  show Q (.str (lT SG (some (SG.idxOf a:Int)) (some ((SG.idxOf b:Int)+1)))) S
  rw[e];exact q
noncomputable abbrev BB:List Nat:=[46,124,40,41,91,93,42,43,63,92,45,94,110]
noncomputable abbrev MO:List Nat:=[46,124,40,41,91,93,42,43,63,92]
noncomputable abbrev MW:List Nat:=[93,45,92]
noncomputable def jR(m rest:List Nat):PR Nat:=
 match rest with
 |92::r=>bindR (dB BB r) λs r'=>.ok (if s=110 then 10 else s,r')
 |_=>dB (dA m) rest
theorem Ig(m r:List Nat):jR m (92::r)=bindR (dB BB r) λs r'=>.ok (if s=110 then 10 else s,r'):=rfl
theorem AA{m rest:List Nat}(h:cv [92] rest=false):jR m rest=dB (dA m) rest:=by
 unfold jR;split
 .simp[cv] at h
 .rfl
theorem Ih{c:Nat}{rest:List Nat}(h:cv [c] rest=true):∃t,rest=c::t:=by
 cases rest with
 |nil=>simp[cv] at h
 |cons a t=>simp[cv] at h;subst h;exact#[t,rfl]
theorem kh(m rest:List Nat):lV rest (jR m rest):=by
 unfold jR;split
 .rename_i r
  have h:=(gC BB r).bind (f:=λs r'=>(.ok (if s=110 then 10 else s,r'):PR Nat)) λa r' _=>bE _
  cases q:bindR (dB BB r) λs r'=>(.ok (if s=110 then 10 else s,r'):PR Nat) with
  |error r'=>rw[q] at h;exact h.trans (cP _ _)
  |ok v=>rw[q] at h;exact#[h.1.trans (cP _ _),cK h.2]
 .exact gC _ _
theorem Dz(h:dB l rest=.ok (c,r)):c∈l/\rest=c::r:=by
 cases rest with
 |nil=>simp[dB] at h
 |cons a t=>
  unfold dB at h;dsimp only at h;split at h
  .rename_i z
   injection h with h;injection h with h1 h2;subst h1;subst h2
   exact#[by simpa using z,rfl]
  .cases h
theorem u7{m rest:List Nat}{c:Nat}{r:List Nat}(h:jR m rest=.ok (c,r)):c∈SG:=by
 unfold jR at h;split at h
 .rename_i t
  cases q:dB BB t with
  |error r'=>rw[q] at h;cases h
  |ok v=>
   obtain⟨s,r'⟩:=v;rw[q] at h;simp only[bindR] at h;injection h with h;injection h with h1 h2
   have hs:=(Dz q).1;subst h1;split
   .decide
   .have:∀s∈BB,s∈SG:=⋯
    exact this s hs
 .have:=(Dz h).1
  unfold dA at this;exact(eG.mp this).1
def DA(d:Nat):Spec:=λus S Q E=>∃m,zJ [.str m] (λrest=>mapR nK (jR m rest)) d us S Q E
structure GR(Γ:bY):Prop where
 sees:Γ "Reader.sees"=Cj
 pass:Γ "Reader.passes"=Ie
 Cn:Γ "all_but"=spT dA
 Pq:Γ "in_order"=spT inOrder
 ahead:Γ "is_ahead"=Dy
 Ii:Γ "stretch"=xC
theorem Ij(Γ:bY)(G:GR Γ)(d:Nat):Keeps Γ dN 1 (DA d):=by
 rintro us S Q E ⟨m,r,x,rest,rfl,hS,hx,hl,q⟩;have q:dC r x d S Q E (mapR nK (jR m rest)):=q;unfold dN;walk_at "pl";simp only[bX hS,G.sees,G.pass];walk_at "pl";refine#[rfl,r,x,rest,d,_,rfl,hS,hx,hl,?_];walk_at "pl";by_cases e:cv [92] rest=true
 .obtain⟨t,rfl⟩:=Ih e
  simp only[e,bO,ah,if_false];simp only[bX hS];refine#[#[by first|trivial|rfl,rfl],[92],d,r,x,_,rfl,hS,hx,hl,?_];have ht:=y4 hx;show dC r x d S _ E (mapR nK (.ok (92,t)));intro S1 c1;try walk_at "pl"
  simp only[bX c1.2.1];refine#[#[by first|trivial|rfl,rfl],BB,d,r,x,t,rfl,c1.2.1,ht,hl,?_];rw[Ig] at q;have q':dC r x d S Q E (bindR (dB BB t) λs r'=>.ok (nK (if s=110 then 10 else s),r')):=by
   cases z:dB BB t with
   |error r'=>rw[z] at q;exact q
   |ok v=>rw[z] at q;exact q
  refine q'.bind c1 λa r1 S2 e1 c2 q2=>?_
  unfold nK;try walk_at "pl"
  simp only[beq_iff_eq,dW,and_true];have:=q2 S2 c2;unfold nK at this;by_cases z:a=110
  .subst z;simpa using this
  .simp only[z,if_false] at this ⊢;exact this
 .have e:cv [92] rest=false:=by simpa using e
  simp only[e,bV,if_true];simp only[bX hS,G.Cn,true_and];refine#[rfl,m,rfl,λS1 x1=>?_];refine#[dA m,d,r,x,rest,rfl,x1.get hS,hx,hl,?_];show dC r x d S1 Q E (mapR nK (dB (dA m) rest));rw[AA e] at q;cases z:dB (dA m) rest with
  |error r'=>rw[z] at q;exact λS' o=>q S' (x1.old.trans o)
  |ok v=>rw[z] at q;exact λS' c=>q S' ((x1.chg hS).trans c)
end PL
local macro_rules | `(tactic| walk_at "qpf") => do let a:=((wN0++" Ww Yl Yp Yq Yr Ys d6 XX Vp Yw Te").splitOn " ").toArray.map fun s=>Lean.mkIdent s.toName;`(tactic| simp only [$[$a:ident],*])
local macro_rules | `(tactic| walk_at "pf") => `(tactic| ((try refine Rest.go ?_); walk_at "qpf"; repeat ((refine Rest.go ?_); walk_at "qpf")))
namespace PL
noncomputable def kz(first:Nat)(r:List Nat):PR (List Nat):=
 match r with
 |45::r2=>bindR (jR MW r2) λsecond r3=>if SG.idxOf second<SG.idxOf first then .error r2 else .ok (kr first second,r3)
 |_=>.ok ([first],r)
noncomputable def item(rest:List Nat):PR (List Nat):=bindR (jR MW rest) kz
theorem AB(f:Nat)(r:List Nat):kz f (45::r)=bindR (jR MW r) λsecond r3=>if SG.idxOf second<SG.idxOf f then .error r else .ok (kr f second,r3):=rfl
theorem AD{f:Nat}{r:List Nat}(h:cv [45] r=false):kz f r=.ok ([f],r):=by
 unfold kz;split
 .simp[cv] at h
 .rfl
theorem y6(f:Nat)(r:List Nat):Suf r (kz f r):=by
 unfold kz;split
 .rename_i r2
  have h:=(kh MW r2).bind (f:=λsecond r3=>(if SG.idxOf second<SG.idxOf f then .error r2 else .ok (kr f second,r3):PR (List Nat)));cases q:jR MW r2 with
  |error r'=>have:=kh MW r2;rw[q] at this;exact this.trans (cP _ _)
  |ok v=>
   have:=kh MW r2;rw[q] at this;simp only[bindR];split
   .exact cP _ _
   .exact this.1.trans (cP _ _)
 .exact bE _
theorem qH(rest:List Nat):lV rest (item rest):=(kh MW rest).bind λa r _=>y6 a r
theorem i9{α β γ:Type}{g:β->γ}{p:PR α}{f:α->List Nat->PR β}:mapR g (bindR p f)=bindR p λa r=>mapR g (f a r):=by
 cases p with
 |ok v=>rfl
 |error r=>rfl
def Ik(d:Nat):Spec:=zJ [] (λrest=>mapR U.str (item rest)) d
structure GR2(Γ:bY)(d:Nat):Prop extends GR Γ where
 ws:Γ "Reader.written_sign"=DA d
theorem LC(Γ:bY)(d:Nat)(G:GR2 Γ d):Keeps Γ jh 3 (Ik d):=by
 rintro us S Q E ⟨r,x,rest,rfl,hS,hx,hl,q⟩;have q:dC r x d S Q E (mapR U.str (item rest)):=q;unfold item at q;rw[i9] at q;unfold jh;walk_at "pf";simp only[bX hS];refine#[#[by first|trivial|rfl,rfl],ca G.ws #[MW,r,x,rest,rfl,hS,hx,hl,?_]];refine q.bind (kq.refl hS) λa r1 S1 e1 c1 q1=>?_
 have hs:=kh MW rest;rw[e1] at hs;have hx1:=hs.1.trans hx;have g1:=c1.2.1;unfold nK;try walk_at "pf"
 simp only[bX g1,true_and];refine#[rfl,ca G.sees #[r,x,r1,d,_,rfl,g1,hx1,hl,?_]];try walk_at "pf"
 by_cases e:cv [45] r1=true
 .obtain⟨t,rfl⟩:=Ih e
  simp only[e,bO,ah,if_false];walk_at "pf";simp only[bX g1,true_and];refine#[rfl,ca G.pass #[[45],d,r,x,_,rfl,g1,hx1,hl,?_]];have ht:=y4 hx1;show dC r x d S1 _ E (mapR nK (.ok (45,t)));intro S2 c2;have g2:=c2.2.1;try walk_at "pf"
  simp only[<-d6,xA g2];walk_at "pf";simp only[bX g2,true_and];refine#[rfl,ca G.ws #[MW,r,x,t,rfl,g2,ht,hl,?_]];rw[AB,i9] at q1;refine q1.bind (c1.trans c2) λb r3 S3 e3 c3 q3=>?_
  unfold nK;try walk_at "pf"
  have ha:=u7 e1;have hb:=u7 e3;refine ca G.ahead #[b,a,rfl,hb,ha,?_];try walk_at "pf"
  by_cases z:SG.idxOf b<SG.idxOf a
  .simp only[z,decide_true,if_true]
   simp only[z,if_true] at q3;walk_at "pf";exact#[rfl,q3 S3 c3.old]
  .simp only[z,decide_false,ah,if_false]
   simp only[z,if_false] at q3;walk_at "pf";exact ca G.Ii #[a,b,rfl,ha,hb,q3 S3 c3]
 .have e:cv [45] r1=false:=by simpa using e
  simp only[e,bV,if_true];rw[AD e] at q1;walk_at "pf";exact q1 S1 c1
noncomputable def kA:Nat->List Nat->List Nat->PR (List Nat)
 |0,_,rest=>.error rest
 |n+1,taken,rest=>if cv [93] rest then .ok (taken,rest) else bindR (item rest) λt r=>kA n (taken++t) r
noncomputable def mZ(turned:Bool)(r1:List Nat):PR (List Nat):=
 bindR (item r1) λt r2=>bindR (kA (r2.length+1) t r2) λtaken r3=>bindR (dB [93] r3) λ_ r4=>.ok (if turned then dA taken else inOrder taken,r4)
noncomputable def clsIn(r0:List Nat):PR (List Nat):=
 match r0 with
 |94::r=>mZ true r
 |_=>mZ false r0
noncomputable def cls(rest:List Nat):PR (List Nat):=bindR (dB [91] rest) λ_ r0=>clsIn r0
theorem Il{r:List Nat}(h:cv [94] r=false):clsIn r=mZ false r:=by
 unfold clsIn;split
 .simp[cv] at h
 .rfl
theorem u9:∀(n:Nat)(taken rest:List Nat),Suf rest (kA n taken rest)
 |0,_,rest=>bE _
 |n+1,taken,rest=>by
  unfold kA;split
  .exact bE _
  .exact(qH rest).Pp.bind λa r _=>u9 n _ r
theorem sD(b:Bool)(r:List Nat):Suf r (mZ b r):=
 (qH r).Pp.bind λa r2 _=>(u9 _ _ _).bind λt r3 _=>(gC _ _).Pp.bind λ_ r4 _=>bE _
theorem LD(rest:List Nat):lV rest (cls rest):=by
 refine(gC _ _).bind λa r _=>?_
 unfold clsIn;split
 .rename_i r' hq
  have:=sD true r';cases q:mZ true r' with
  |ok v=>rw[q] at this;exact mN this (cP _ _)
  |error v=>rw[q] at this;exact mN this (cP _ _)
 .exact sD false r
def MR(d:Nat):Spec:=zJ [] (λrest=>mapR U.str (cls rest)) d
structure GR3(Γ:bY)(d:Nat):Prop extends GR2 Γ d where
 it:Γ "Reader.item"=Ik d
theorem va(h:item rest=.ok (t,r)):t.length<=95:=by
 unfold item at h;cases q:jR MW rest with
 |error r'=>rw[q] at h;cases h
 |ok v=>
  obtain⟨a,r1⟩:=v;rw[q] at h;simp only[bindR] at h;unfold kz at h;split at h
  .rename_i r2
   cases q2:jR MW r2 with
   |error r'=>rw[q2] at h;cases h
   |ok v2=>
    rw[q2] at h;simp only[bindR] at h;split at h
    .cases h
    .injection h with h;injection h with h1 h2;subst h1
     unfold kr;refine aS (List.length_take_le _ _) ?_;have:=Ck (u7 q2);omega
  .injection h with h;injection h with h1 h2;subst h1;simp
theorem vb{Γ:bY}{d:Nat}(G:GR3 Γ d){r:Nat}{x:List Nat}{S:bI}{E:KX}{fin:Env->bI->Prop}{env:Env}(hl:x.length<=1000)(k1:env[0]?=some (some (.loc r)))
  (cW:Env->bI->(Bool->bI->Prop)->Prop) (bW:Env->bI->(Env->bI->Prop)->Prop)
  (hc:∀taken S1 rest k,S1[r]?=some (lU x rest d)->rest<:+x->k (!cv [93] rest) S1->cW (env.set 2 (some (.str taken))) S1 k)
  (hb:∀taken S1 rest k,taken.length<=900000->S1[r]?=some (lU x rest d)->rest<:+x->dC r x d S1 (λu S2=>∃t,u=.str t/\t.length<=95/\k (env.set 2 (some (.str (taken++t)))) S2) E (mapR U.str (item rest))->bW (env.set 2 (some (.str taken))) S1 k):
  ∀(n:Nat)(taken rest:List Nat)(S1:bI)(R:List Nat->List Nat->PR U),rest.length<n->taken.length+95*rest.length<=900000->rest<:+x->kq r (lU x rest d) S S1 ->
   (∀t2 r2 S2,kq r (lU x r2 d) S S2->r2<:+x->t2.length<=900000->kA n taken rest=.ok (t2,r2)->fin (env.set 2 (some (.str t2))) S2)->(∀r',kA n taken rest=.error r'->∀S',Old r S S'->E #["BadRule",[.int 0,.int (x.length-r'.length:Nat)]] S') ->
   yM cW bW fin n (env.set 2 (some (.str taken))) S1
 |0,_,_,_,_,h,_,_,_,_,_=>∅
 |n+1,taken,rest,S1,R,h,ht,hx,c1,hf,he=>by
  refine hc taken S1 rest _ c1.2.1 hx ?_;by_cases e:cv [93] rest=true
  .simp only[e,bO,ah,if_false]
   exact hf taken rest S1 c1 hx ∅ (by unfold kA;rw[if_pos e])
  .have e':cv [93] rest=false:=by simpa using e
   simp only[e',bV,if_true];refine hb taken S1 rest _ ∅ c1.2.1 hx ?_;have hs:=qH rest;cases q:item rest with
   |error r'=>
    intro S' o;exact he r' (by unfold kA;rw[if_neg e,q];rfl) S' (c1.old.trans o)
   |ok v=>
    obtain⟨t,r1⟩:=v;rw[q] at hs;intro S2 c2;refine#[t,rfl,va q,?_];have hlt:t.length<=95:=va q;have hE:kA (n+1) taken rest=kA n (taken++t) r1:=by
     conv=>lhs;unfold kA
     rw[if_neg e,q];rfl
    refine vb G hl k1 cW bW hc hb n (taken++t) r1 S2 R (by have:=hs.2;omega) (by simp;have:=hs.2;omega) (hs.1.trans hx) (c1.trans c2) (λt2 r2 S3 c3 h3 h4 e3=>hf t2 r2 S3 c3 h3 h4 (by rw[hE];exact e3)) (λr' e3=>he r' (by rw[hE];exact e3))
theorem Pr(Γ:bY)(d:Nat)(G:GR3 Γ d):Keeps Γ eR 2 (MR d):=by
  rintro us S Q E ⟨r,x,rest,rfl,hS,hx,hl,q⟩;have q:dC r x d S Q E (mapR U.str (cls rest)):=q;unfold cls at q;rw[i9] at q;unfold eR;walk_at "pf";simp only[bX hS];refine#[#[by first|trivial|rfl,rfl],ca G.pass #[[91],d,r,x,rest,rfl,hS,hx,hl,?_]];refine q.bind (kq.refl hS) λa r0 S0 e0 c0 q0=>?_
  have hs0:=gC [91] rest;rw[e0] at hs0;have hx0:=hs0.1.trans hx;have g0:=c0.2.1;walk_at "pf";simp only[bX g0,true_and];refine#[rfl,ca G.sees #[r,x,r0,d,_,rfl,g0,hx0,hl,?_]];try walk_at "pf"
  have tail:∀(tb:Bool)(r1:List Nat)(S1:bI),kq r (lU x r1 d) S S1->r1<:+x->dC r x d S Q E (mapR U.str (mZ tb r1)) ->
      rC Γ (.cons (.set 2 (.cu "Reader" "item" "Reader.item" @0 .nil))
   (.cons (.Ae (.not (.cg (.cu "Reader" "sees" "Reader.sees" @0 (.cons ↑[93] .nil)))) (.cons (.aug 2 .add (.cu "Reader" "item" "Reader.item" @0 .nil)) .nil))
   (.cons (.ex (.cu "Reader" "passes" "Reader.passes" @0 (.cons ↑[93] .nil)))
   (.cons (.ret (.wX (.cg @1) (.call "all_but" (.cons @2 .nil)) (.call "in_order" (.cons @2 .nil)))) .nil)))) #[λ_ S1=>Q .bK S1,Q,λ_=>E] [some (.loc r),some (.bl tb),none] S1:=by
    intro tb r1 S1 c1 hx1 q1;unfold mZ at q1;rw[i9] at q1;have g1:=c1.2.1;walk_at "pf";simp only[bX g1];refine#[#[by first|trivial|rfl,rfl],ca G.it #[r,x,r1,rfl,g1,hx1,hl,?_]];refine q1.bind c1 λt r2 S2 e2 c2 q2=>?_
    have hs2:=qH r1;rw[e2] at hs2;have hx2:=hs2.1.trans hx1;have hlt:=va e2;have hr2:r2.length<=1000:=aS hx2.length_le hl;rw[i9] at q2;walk_at "pf";refine#[r2.length+1,vb (S:=S) (E:=E) (env:=[some (.loc r),some (.bl tb),none]) G hl rfl _ _ ?_ ?_ (r2.length+1) t r2 S2 (λ_ _=>.error []) ∅ ∅ hx2 c2 ?_ ?_]
    · intro taken S3 rest3 k g3 hx3 hk
      simp only[qR,qS];try walk_at "pf"
      simp only[bX g3,true_and];refine#[rfl,ca G.sees #[r,x,rest3,d,_,rfl,g3,hx3,hl,?_]];try walk_at "pf"
      exact hk
    · intro taken S3 rest3 k NN g3 hx3 hk
      simp only[qR,qS] at hk ⊢;try walk_at "pf"
      simp only[bX g3,true_and];refine#[rfl,ca G.it #[r,x,rest3,rfl,g3,hx3,hl,?_]];show dC r x d S3 _ E (mapR U.str (item rest3));cases z:item rest3 with
      |error r'=>rw[z] at hk;exact hk
      |ok v=>
        obtain⟨t3,r3⟩:=v;rw[z] at hk;intro S4 c4;obtain⟨t',e',hl',hk'⟩:=hk S4 c4;injection e' with e';subst e'
        rw[He]
        exact#[∅,Rest.go hk']
    · intro t3 r3 S3 c3 hx3 hl3 e3
      rw[e3] at q2;simp only[bindR] at q2;have q2:dC r x d S Q E (mapR U.str (bindR (dB [93] r3) λ_ r4=>.ok (if tb then dA t3 else inOrder t3,r4))):=q2;rw[i9] at q2;have g3:=c3.2.1;simp only[qR,qS];try walk_at "pf"
      simp only[bX g3,true_and];refine#[rfl,ca G.pass #[[93],d,r,x,r3,rfl,g3,hx3,hl,?_]];refine q2.bind c3 λb r4 S4 e4 c4 q4=>?_
      try walk_at "pf"
      cases tb with
      |true=>exact ca G.Cn #[t3,rfl,λS5 x5=>q4 S5 (c4.trans (x5.chg c4.2.1))]
      |false=>exact ca G.Pq #[t3,rfl,λS5 x5=>q4 S5 (c4.trans (x5.chg c4.2.1))]
    · intro r' e3 S' o
      rw[e3] at q2;exact q2 S' o
  by_cases e:cv [94] r0=true
  · obtain⟨t,rfl⟩:=Ih e
    simp only[e,if_true];walk_at "pf";simp only[bX g0,true_and];refine#[rfl,ca G.pass #[[94],d,r,x,_,rfl,g0,hx0,hl,?_]];show dC r x d S0 _ E (mapR nK (.ok (94,t)));intro S1 c1;exact tail true t S1 (c0.trans c1) (y4 hx0) q0
  · have e:cv [94] r0=false:=by simpa using e
    simp only[e,ah,if_false];rw[Il e] at q0;exact tail false r0 S0 c0 hx0 q0
noncomputable def pb(k:List Nat)(ts:List U):U:=match ts with|[t]=>t|_=>.tup [.str k,.tup ts]
def kB:Spec:=λus S Q _=>∃k n ts,us=[.str k,.loc n]/\S[n]?=some (.lst ts)/\ts≠[]/\ts.length<=100000/\Q (pb k ts) S
theorem E2(Γ:bY):Keeps Γ qz 0 kB:=by
 rintro us S Q E ⟨k,n,ts,rfl,hn,ne,hl,q⟩;unfold qz;walk_at "pl";simp only[uI hn,hn];walk_at "pl";refine#[∅,?_];cases ts with
 |nil=>exact absurd rfl ne
 |cons t ts=>
  cases ts with
  |nil=>
   simp only[fZ];simp[jB,pb] at q ⊢;exact q
  |cons t2 ts=>
   have h1:((((t::t2::ts).length:Nat):Int)== 1)=false:=by
    simp only[aQ,beq_eq_false_iff_ne];omega
   simp only[h1,ah,if_false];refine#[by simp,?_];exact q
noncomputable abbrev LF:List Nat:=[111,110,101]
noncomputable abbrev kC:List Nat:=[115,116,97,114]
noncomputable abbrev ow:List Nat:=[112,108,117,115]
noncomputable abbrev jM:List Nat:=[109,97,121,98,101]
noncomputable abbrev v5:List Nat:=[114,111,119]
noncomputable abbrev QP:List Nat:=[111,114]
noncomputable def LG(l:List Nat):U:=.tup [.str LF,.str l]
noncomputable def Im(c:Nat)(t:U):U:=.tup [.str (if c=42 then kC else if c=43 then ow else jM),t]
noncomputable def lI:U->List Nat->U×List Nat
 |t,[]=>(t,[])
 |t,c::r=>if [42,43,63].contains c then lI (Im c t) r else(t,c::r)
noncomputable def QQ(br:Option (List Nat->PR U))(rest:List Nat):PR U:=
 match br with
 |none=>.error rest
 |some p=>bindR (dB [40] rest) λ_ r=>bindR (p r) λt r2=>bindR (dB [41] r2) λ_ r3=>.ok (t,r3)
noncomputable def qI(br:Option (List Nat->PR U))(rest:List Nat):PR U:=
 if cv [40] rest then QQ br rest else if cv [91] rest then mapR LG (cls rest) else if cv [46] rest then bindR (dB [46] rest) (λ_ r=>.ok (LG (dA [10]),r)) else mapR (λc=>LG [c]) (jR MO rest)
noncomputable def iT(br:Option (List Nat->PR U))(rest:List Nat):PR U:=bindR (qI br rest) λt r=>.ok (lI t r)
noncomputable def de(stop:List Nat->Bool)(p:List Nat->PR U):Nat->List U->List Nat->PR (List U)
 |0,_,rest=>.error rest
 |n+1,acc,rest=>if stop rest then .ok (acc,rest) else bindR (p rest) λt r=>de stop p n (acc++[t]) r
noncomputable def iU(rest:List Nat):Bool:=rest.isEmpty||cv [124,41] rest
noncomputable def stopOr(rest:List Nat):Bool:=!cv [124] rest
noncomputable def v8(br:Option (List Nat->PR U))(rest:List Nat):PR U:=bindR (iT br rest) λt r=>bindR (de iU (iT br) (r.length+1) [t] r) λts r2=>.ok (pb v5 ts,r2)
noncomputable def Pt(br:Option (List Nat->PR U))(rest:List Nat):PR U:=bindR (dB [124] rest) λ_ r=>v8 br r
noncomputable def gK(br:Option (List Nat->PR U))(rest:List Nat):PR U:=bindR (v8 br rest) λt r=>bindR (de stopOr (Pt br) (r.length+1) [t] r) λts r2=>.ok (pb QP ts,r2)
noncomputable def sE:Nat->Option (List Nat->PR U)
 |0=>none
 |k+1=>some (gK (sE k))
noncomputable def sF(x:List Nat):PR U:=bindR (gK (sE 6) x) λt r=>if r=[] then .ok (t,[]) else .error r
theorem AE:∀(t:U)(rest:List Nat),(lI t rest).2<:+rest
 |t,[]=>bE _
 |t,c::r=>by
  unfold lI;split
  .exact(AE _ r).trans (cP _ _)
  .exact bE _
def nM(br:Option (List Nat->PR U)):Prop:=∀p,br=some p->∀rest,lV rest (p rest)
theorem Pu{br:Option (List Nat->PR U)}(h:nM br)(rest:List Nat):lV rest (QQ br rest):=by
 unfold QQ;cases br with
 |none=>exact bE _
 |some p=>exact(gC _ _).bind λa r _=>(h p rfl r).Pp.bind λt r2 _=>(gC _ _).Pp.bind λ_ r3 _=>bE _
theorem lV.map{α β:Type}{rest:List Nat}{p:PR α}{f:α->β}(h:lV rest p):lV rest (mapR f p):=by
 cases p with
 |ok v=>exact h
 |error r=>exact h
theorem vc{br:Option (List Nat->PR U)}(h:nM br)(rest:List Nat):lV rest (qI br rest):=by
 unfold qI;split
 .exact Pu h rest
 .split
  .exact(LD rest).map
  .split
   .exact(gC _ _).bind λ_ r _=>bE _
   .exact(kh _ _).map
theorem m9(h:nM br)(rest:List Nat):lV rest (iT br rest):=(vc h rest).bind λt r _=>AE t r
theorem ng(h:∀rest,lV rest (p rest)):∀(n:Nat)(acc:List U)(rest:List Nat),Suf rest (de stop p n acc rest)
 |0,_,rest=>bE _
 |n+1,acc,rest=>by
  unfold de;split
  .exact bE _
  .exact(h rest).Pp.bind λa r _=>ng h n _ r
theorem zc(h:nM br)(rest:List Nat):lV rest (v8 br rest):=(m9 h rest).bind λt r _=>(ng (m9 h) _ _ _).bind λts r2 _=>bE _
theorem Io(h:nM br)(rest:List Nat):lV rest (Pt br rest):=(gC _ _).bind λ_ r _=>(zc h r).Pp
theorem vd(h:nM br)(rest:List Nat):lV rest (gK br rest):=(zc h rest).bind λt r _=>(ng (Io h) _ _ _).bind λts r2 _=>bE _
theorem rK:∀k,nM (sE k)
 |0=>λp e=>nomatch e
 |k+1=>λp e rest=>by injection e with e;subst e;exact vd (rK k) rest
theorem dC.MS{α:Type}{toU:α->U}{p:PR α}{f:α->List Nat->PR U}{r d d':Nat}{x rest:List Nat}{S S1:bI}{Q Q1:KU}{E:KX}(h:dC r x d S Q E (bindR p f))(st:kq r (lU x rest d') S S1)
  (k:∀a r1 S2,p=.ok (a,r1)->kq r (lU x r1 d') S S2->dC r x d S Q E (f a r1)->Q1 (toU a) S2):dC r x d' S1 Q1 E (mapR toU p):=by
 cases p with
 |error r'=>exact λS' o=>h S' (st.old.trans o)
 |ok v=>
  obtain⟨a,r1⟩:=v;exact λS' c=>k a r1 S' rfl (st.trans c) h
theorem dC.DB{p:PR U}{f:U->List Nat->PR U}{r d d':Nat}{x rest:List Nat}{S S1:bI}{Q Q1:KU}{E:KX}(h:dC r x d S Q E (bindR p f))(st:kq r (lU x rest d') S S1)
  (k:∀a r1 S2,p=.ok (a,r1)->kq r (lU x r1 d') S S2->dC r x d S Q E (f a r1)->Q1 a S2):dC r x d' S1 Q1 E p:=by
 have:=dC.MS (toU:=id) (Q1:=Q1) h st k;rw[LB] at this;exact this
theorem DC{x t:List Nat}{z:U}{v:Nat}{d':Nat}(h:z=.int (d':Nat)):SO.ins "Reader" (dZ "depth" z [("text",.str x),("at",.int (x.length-t.length:Nat)),("depth",.int v)])=lU x t d':=by subst h;rfl
def Tf(br:Option (List Nat->PR U))(d:Nat):Spec:=λus S Q E=>∃r x rest,us=[.loc r]/\S[r]?=some (lU x rest d)/\rest<:+x/\x.length<=1000/\cv [40] rest=true/\dC r x d S Q E (QQ br rest)
def Th(Γ:bY)(br:Option (List Nat->PR U))(d:Nat):Prop:=
 (br=none/\d=6)\/∃p,br=some p/\d<6/\nM br/\Γ "Reader.choice"=zJ [] p (d+1)
theorem Ti(Γ:bY)(G:GR Γ)(br:Option (List Nat->PR U))(d:Nat)(hb:Th Γ br d):Keeps Γ gG 1 (Tf br d):=by
 rintro us S Q E ⟨r,x,rest,rfl,hS,hx,hl,hs,q⟩;unfold gG;walk_at "pf";simp only[<-d6,Ic hS];walk_at "pf";rcases hb with⟨rfl,rfl⟩|⟨p,rfl,hd,hbo,hch⟩
 .have e:((((6:Nat):Int))== 6)=true:=⋯
  simp only[e,if_true];walk_at "pf";simp only[<-d6,xA hS];exact#[rfl,q S .refl]
 .have e:(((d:Nat):Int)== 6)=false:=by simp only[beq_eq_false_iff_ne];omega
  simp only[e,ah,if_false];walk_at "pf";simp only[bX hS,true_and];refine#[rfl,ca G.pass #[[40],d,r,x,rest,rfl,hS,hx,hl,?_]];unfold QQ at q;refine q.bind (kq.refl hS) λa r1 S1 e1 c1 q1=>?_
  have hs1:=gC [40] rest;rw[e1] at hs1;have hx1:=hs1.1.trans hx;have g1:=c1.2.1;walk_at "pf";simp only[bX g1];try walk_at "pf"
  simp only[bX g1,DC (v:=d) (d':=d+1) (t:=r1) (x:=x) (z:=.int ((d:Nat)+1)) rfl];refine#[by first|trivial|rfl,by simp,?_];have c2:kq r (lU x r1 (d+1)) S (S1.set r (lU x r1 (d+1))):=c1.trans (kq.set g1);have g2:=c2.2.1;generalize S1.set r (lU x r1 (d+1))=S2 at c2 g2;walk_at "pf";simp only[bX g2,true_and];refine#[rfl,ca hch #[r,x,r1,rfl,g2,hx1,hl,?_]];refine q1.DB c2 λt r2 S3 e3 c3 q3=>?_
  have hs3:=hbo p rfl r1;rw[e3] at hs3;have hx3:=hs3.1.trans hx1;have g3:=c3.2.1;try walk_at "pf"
  simp only[bX g3,true_and];refine#[rfl,ca G.pass #[[41],d+1,r,x,r2,rfl,g3,hx3,hl,?_]];refine q3.MS c3 λa r3 S4 e4 c4 q4=>?_
  have g4:=c4.2.1;walk_at "pf";simp only[bX g4];try walk_at "pf"
  simp only[bX g4,DC (v:=d+1) (d':=d) (t:=r3) (x:=x) (z:=.int (((d+1:Nat):Int)-1)) (by congr 1;omega)];refine#[by first|trivial|rfl,by simp,?_];walk_at "pf";exact q4 _ (c4.trans (kq.set g4))
structure GA(Γ:bY)(br:Option (List Nat->PR U))(d:Nat):Prop extends GR3 Γ d where
 cl:Γ "Reader.sign_class"=MR d
 bk:Γ "Reader.bracket"=Tf br d
theorem LH(Γ:bY)(br:Option (List Nat->PR U))(d:Nat)(G:GA Γ br d):Keeps Γ jf 0 (zJ [] (qI br) d):=by
 rintro us S Q E ⟨r,x,rest,rfl,hS,hx,hl,q⟩;unfold jf;walk_at "pf";simp only[bX hS];refine#[#[by first|trivial|rfl,rfl],ca G.sees #[r,x,rest,d,_,rfl,hS,hx,hl,?_]];try walk_at "pf"
 unfold qI at q;by_cases e1:cv [40] rest=true
 .simp only[e1,if_true] at q ⊢
  walk_at "pf";simp only[bX hS,true_and];exact#[rfl,ca G.bk #[r,x,rest,rfl,hS,hx,hl,e1,q]]
 .have e1':cv [40] rest=false:=by simpa using e1
  simp only[e1',ah,if_false] at q ⊢;walk_at "pf";simp only[bX hS,true_and];refine#[rfl,ca G.sees #[r,x,rest,d,_,rfl,hS,hx,hl,?_]];try walk_at "pf"
  by_cases e2:cv [91] rest=true
  .simp only[e2,if_true] at q ⊢
   walk_at "pf";simp only[bX hS,true_and];refine#[rfl,ca G.cl #[r,x,rest,rfl,hS,hx,hl,?_]];rw[xB] at q;refine q.bind (toU:=U.str) (kq.refl hS) λa r1 S1 _ c1 q1=>?_
   exact#[by simp,q1 S1 c1]
  .have e2':cv [91] rest=false:=by simpa using e2
   simp only[e2',ah,if_false] at q ⊢;walk_at "pf";simp only[bX hS,true_and];refine#[rfl,ca G.sees #[r,x,rest,d,_,rfl,hS,hx,hl,?_]];try walk_at "pf"
   by_cases e3:cv [46] rest=true
   .simp only[e3,if_true] at q ⊢
    walk_at "pf";simp only[bX hS,true_and];refine#[rfl,ca G.pass #[[46],d,r,x,rest,rfl,hS,hx,hl,?_]];refine q.bind (kq.refl hS) λa r1 S1 _ c1 q1=>?_
    walk_at "pf";refine ca G.Cn #[[10],rfl,λS2 x2=>?_];try walk_at "pf"
    exact#[by simp,q1 S2 (c1.trans (x2.chg c1.2.1))]
   .have e3':cv [46] rest=false:=by simpa using e3
    simp only[e3',ah,if_false] at q ⊢;walk_at "pf";simp only[bX hS,true_and];refine#[rfl,ca G.ws #[MO,r,x,rest,rfl,hS,hx,hl,?_]];rw[xB] at q;refine q.bind (kq.refl hS) λa r1 S1 _ c1 q1=>?_
    unfold nK;exact#[by simp,q1 S1 c1]
noncomputable def Yx:List (List Nat×List Nat):=[([42],kC),([43],ow),([63],jM)]
theorem Ip(h:[42,43,63].contains c=true):Yx.lookup [c]=some (if c=42 then kC else if c=43 then ow else jM):=by
 have:c=42\/c=43\/c=63:=by simpa using h
 rcases this with rfl|rfl|rfl<;>rfl
structure GP(Γ:bY)(br:Option (List Nat->PR U))(d:Nat):Prop extends GA Γ br d where
 at_:Γ "Reader.atom"=zJ [] (qI br) d
theorem xD{Γ:bY}{r d:Nat}{x:List Nat}{S:bI}{fin:Env->bI->Prop}{e0:Option U}(hl:x.length<=1000)
  (cW:Env->bI->(Bool->bI->Prop)->Prop) (bW:Env->bI->(Env->bI->Prop)->Prop)
  (hc:∀t S1 rest k,S1[r]?=some (lU x rest d)->rest<:+x->k (cv [42,43,63] rest) S1->cW [e0,some t] S1 k)
  (hb:∀t S1 c rest k,S1[r]?=some (lU x (c::rest) d)->(c::rest)<:+x->[42,43,63].contains c=true->(∀S2,kq r (lU x rest d) S1 S2->k [e0,some (Im c t)] S2)->bW [e0,some t] S1 k):
  ∀(rest:List Nat)(t:U)(S1:bI),rest<:+x->kq r (lU x rest d) S S1->(∀S2,kq r (lU x (lI t rest).2 d) S S2->fin [e0,some (lI t rest).1] S2)->yM cW bW fin (rest.length+1) [e0,some t] S1
 |[],t,S1,hx,c1,hf=>by
  refine hc t S1 [] _ c1.2.1 hx ?_;simp only[cv,ah,if_false];exact hf S1 c1
 |c::rest,t,S1,hx,c1,hf=>by
  refine hc t S1 _ _ c1.2.1 hx ?_;by_cases e:[42,43,63].contains c=true
  .simp only[cv,e,if_true]
   refine hb t S1 c rest _ c1.2.1 hx e λS2 c2=>?_
   refine xD (Γ:=Γ) hl cW bW hc hb rest _ S2 (y4 hx) (c1.trans c2) ?_;have:lI t (c::rest)=lI (Im c t) rest:=by
    conv=>lhs;unfold lI
    rw[if_pos e]
   rw[this] at hf;exact hf
  .have e':[42,43,63].contains c=false:=by simpa using e
   simp only[cv,e',ah,if_false];have:lI t (c::rest)=(t,c::rest):=by
    unfold lI;rw[if_neg e]
   rw[this] at hf;exact hf S1 c1
theorem E3(Γ:bY)(br:Option (List Nat->PR U))(d:Nat)(hbo:nM br)(G:GP Γ br d):Keeps Γ ir 1 (zJ [] (iT br) d):=by
 rintro us S Q E ⟨r,x,rest,rfl,hS,hx,hl,q⟩;unfold ir;walk_at "pl";simp only[bX hS,G.at_];refine#[#[by first|trivial|rfl,rfl],r,x,rest,rfl,hS,hx,hl,?_];unfold iT at q;refine q.DB (kq.refl hS) λt r1 S1 e1 c1 q1=>?_
 have hs1:=vc hbo rest;rw[e1] at hs1;have hx1:=hs1.1.trans hx;refine#[r1.length+1,xD (Γ:=Γ) (S:=S) hl _ _ ?_ ?_ r1 t S1 hx1 c1 ?_]
 .intro t2 S2 rest2 k g2 hx2 hk
  try walk_at "pl"
  simp only[bX g2,G.sees,true_and];refine#[rfl,r,x,rest2,d,_,rfl,g2,hx2,hl,?_];try walk_at "pl"
  exact hk
 .intro t2 S2 c rest2 k g2 hx2 hc hk
  try walk_at "pl"
  simp only[bX g2,G.pass,true_and];refine#[rfl,[42,43,63],d,r,x,_,rfl,g2,hx2,hl,?_];have e2:dB [42,43,63] (c::rest2)= .ok (c,rest2):=by unfold dB;dsimp only;rw[if_pos hc]
  show dC r x d S2 _ E (mapR nK (dB [42,43,63] (c::rest2)))
  rw[e2]
  intro S3 c3;unfold nK;rw[yI]
  have:=Ip hc;unfold Yx at this;rw[this,aP]
  exact#[by simp,hk S3 c3]
 .intro S2 c2
  try walk_at "pl"
  exact q1 S2 c2
theorem rL(hp:∀rest,lV rest (p rest))
  (cW:Env->bI->(Bool->bI->Prop)->Prop) (bW:Env->bI->(Env->bI->Prop)->Prop) (h0:S.length<=n0) (h1:n0≠r)
  (hc:∀S1 rest k,S1[r]?=some (lU x rest d)->rest<:+x->k (!stop rest) S1->cW env S1 k)
  (hb:∀S1 rest acc k,S1[r]?=some (lU x rest d)->S1[n0]?=some (.lst acc)->acc.length<=2000->rest<:+x->stop rest=false->dC r x d S1 (λt S2=>k env (S2.set n0 (.lst (acc++[t])))) E (p rest)->bW env S1 k):
  ∀(m:Nat)(acc:List U)(rest:List Nat)(S1:bI),rest.length<m->acc.length+rest.length<=2000->rest<:+x->kq r (lU x rest d) S S1->S1[n0]?=some (.lst acc) ->
   (∀ts r2 S2,de stop p m acc rest=.ok (ts,r2)->kq r (lU x r2 d) S S2->r2<:+x->S2[n0]?=some (.lst ts)->ts.length<=2000->acc.length<=ts.length->fin env S2)->(∀r',de stop p m acc rest=.error r'->∀S',Old r S S'->E #["BadRule",[.int 0,.int (x.length-r'.length:Nat)]] S') ->
   yM cW bW fin m env S1
 |0,_,_,_,h,_,_,_,_,_,_=>∅
 |m+1,acc,rest,S1,h,ht,hx,c1,hn,hf,he=>by
  refine hc S1 rest _ c1.2.1 hx ?_;by_cases e:stop rest=true
  .simp only[e,bO,ah,if_false]
   exact hf acc rest S1 (by unfold de;rw[if_pos e]) c1 hx hn ∅ (ax _)
  .have e':stop rest=false:=by simpa using e
   simp only[e',bV,if_true];refine hb S1 rest acc _ c1.2.1 hn ∅ hx e' ?_;have hs:=hp rest;cases q:p rest with
   |error r'=>
    intro S' o;exact he r' (by unfold de;rw[if_neg e,q];rfl) S' (c1.old.trans o)
   |ok v=>
    obtain⟨t,r1⟩:=v;rw[q] at hs;intro S2 c2;have hE:de stop p (m+1) acc rest=de stop p m (acc++[t]) r1:=by
     conv=>lhs;unfold de
     rw[if_neg e,q];rfl
    have hn2:S2[n0]?=some (.lst acc):=(c2.2.2 n0 (bF hn) h1).trans hn;have c3:kq r (lU x r1 d) S (S2.set n0 (.lst (acc++[t]))):=by
     have c12:=c1.trans c2;refine#[by simpa using c12.1,by rw[av h1];exact c12.2.1,λm hm ne=>?_];rw[av ∅]
     exact c12.2.2 m hm ne
    refine rL hp cW bW h0 h1 hc hb m (acc++[t]) r1 _ (by have:=hs.2;omega) (by simp;have:=hs.2;omega) (hs.1.trans hx) c3 (gs hn2) (λts r2 S3 e3 c4 h3 h4 h5 h6=>hf ts r2 S3 (by rw[hE];exact e3) c4 h3 h4 h5 (by simp at h6;omega)) (λr' e3=>he r' (by rw[hE];exact e3))
structure GW(Γ:bY)(br:Option (List Nat->PR U))(d:Nat):Prop extends GP Γ br d where
 rp:Γ "Reader.repeat"=zJ [] (iT br) d
 jn:Γ "joined"=kB
theorem Iq{x rest:List Nat}(h:rest<:+x):decide (((x.length-rest.length:Nat):Int)<x.length)= !rest.isEmpty:=by
 have:=MQ h;cases rest with
 |nil=>simp at this ⊢
 |cons a b=>simp only[ne_eq,reduceCtorEq,not_false_eq_true,iff_true] at this;rw[decide_eq_true this];rfl
theorem Pw(Γ:bY)(br:Option (List Nat->PR U))(d:Nat)(hbo:nM br)(G:GW Γ br d):Keeps Γ jV 1 (zJ [] (v8 br) d):=by
 rintro us S Q E ⟨r,x,rest,rfl,hS,hx,hl,q⟩;unfold jV;walk_at "pl";simp only[bX hS,G.rp];refine#[#[by first|trivial|rfl,rfl],r,x,rest,rfl,hS,hx,hl,?_];unfold v8 at q;refine q.DB (kq.refl hS) λt r1 S1 e1 c1 q1=>?_
 have hs1:=m9 hbo rest;rw[e1] at hs1;have hx1:=hs1.1.trans hx;have hr1:r1.length<=1000:=aS hx1.length_le hl;refine#[by simp,?_];have hrl:=bF hS;have c2:kq r (lU x r1 d) S (S1++[.lst [t]]):=c1.trans ((Ext.app _).chg c1.2.1);have hn:(S1++[SO.lst [t]])[S1.length]?=some (.lst [t]):=by simp
 have hne:S1.length≠r:=by have:=c1.1;omega
 refine#[r1.length+1,rL (S:=S) (E:=E) (n0:=S1.length) (stop:=iU) (p:=iT br) (m9 hbo) _ _ c1.1 hne ?_ ?_ (r1.length+1) [t] r1 _ ∅ (by simp;omega) hx1 c2 hn ?_ ?_]
 .intro S2 rest2 k g2 hx2 hk
  try walk_at "pl"
  simp only[<-d6,y3 g2,xA g2];try walk_at "pl"
  refine#[∅,?_];simp only[Iq hx2];unfold iU at hk;cases rest2 with
  |nil=>simpa using hk
  |cons c t2=>
   simp only[FX,bV,if_true];simp only[bX g2,G.sees,true_and];refine#[rfl,r,x,_,d,_,rfl,g2,hx2,hl,?_];try walk_at "pl"
   simpa using hk
 .intro S2 rest2 acc k g2 hn2 ha hx2 hst hk
  try walk_at "pl"
  simp only[hn2,bX g2,G.rp,true_and];try walk_at "pl"
  refine#[rfl,r,x,rest2,rfl,g2,hx2,hl,?_];cases z:iT br rest2 with
  |error r'=>rw[z] at hk;exact hk
  |ok v=>
   rw[z] at hk;intro S3 c3;have hn3:S3[S1.length]?=some (.lst acc):=(c3.2.2 _ (bF hn2) hne).trans hn2;simp only[hn3];try walk_at "pl"
   exact#[∅,hk S3 c3]
 .intro ts r2 S2 e2 c3 hx2 hn2 hts ht1
  rw[e2] at q1;try walk_at "pl"
  simp only[G.jn];refine#[v5,S1.length,ts,rfl,hn2,?_,∅,q1 S2 c3];intro z;rw[z] at ht1;simp at ht1
 .intro r' e2 S' o
  rw[e2] at q1;exact q1 S' o
structure GC(Γ:bY)(br:Option (List Nat->PR U))(d:Nat):Prop extends GW Γ br d where
 Vq:Γ "Reader.row"=zJ [] (v8 br) d
theorem E4(Γ:bY)(br:Option (List Nat->PR U))(d:Nat)(hbo:nM br)(G:GC Γ br d):Keeps Γ iq 1 (zJ [] (gK br) d):=by
 rintro us S Q E ⟨r,x,rest,rfl,hS,hx,hl,q⟩;unfold iq;walk_at "pl";simp only[bX hS,G.Vq];refine#[#[by first|trivial|rfl,rfl],r,x,rest,rfl,hS,hx,hl,?_];unfold gK at q;refine q.DB (kq.refl hS) λt r1 S1 e1 c1 q1=>?_
 have hs1:=zc hbo rest;rw[e1] at hs1;have hx1:=hs1.1.trans hx;have hr1:r1.length<=1000:=aS hx1.length_le hl;refine#[by simp,?_];have hrl:=bF hS;have c2:kq r (lU x r1 d) S (S1++[.lst [t]]):=c1.trans ((Ext.app _).chg c1.2.1);have hn:(S1++[SO.lst [t]])[S1.length]?=some (.lst [t]):=by simp
 have hne:S1.length≠r:=by have:=c1.1;omega
 refine#[r1.length+1,rL (S:=S) (E:=E) (n0:=S1.length) (stop:=stopOr) (p:=Pt br) (Io hbo) _ _ c1.1 hne ?_ ?_ (r1.length+1) [t] r1 _ ∅ (by simp;omega) hx1 c2 hn ?_ ?_]
 .intro S2 rest2 k g2 hx2 hk
  try walk_at "pl"
  simp only[bX g2,G.sees,true_and];refine#[rfl,r,x,_,d,_,rfl,g2,hx2,hl,?_];try walk_at "pl"
  simpa[stopOr] using hk
 .intro S2 rest2 acc k g2 hn2 ha hx2 hst hk
  try walk_at "pl"
  simp only[bX g2,G.pass,true_and];refine#[rfl,[124],d,r,x,rest2,rfl,g2,hx2,hl,?_];unfold Pt at hk;refine dC.bind (f:=λ_ r=>v8 br r) hk (kq.refl g2) λa r3 S3 e3 c3 q3=>?_
  have hs3:=gC [124] rest2;rw[e3] at hs3;have hx3:=hs3.1.trans hx2;have g3:=c3.2.1;have hn3:S3[S1.length]?=some (.lst acc):=(c3.2.2 _ (bF hn2) hne).trans hn2;simp only[hn3,bX g3,G.Vq,true_and];try walk_at "pl"
  refine#[rfl,r,x,r3,rfl,g3,hx3,hl,?_];cases z:v8 br r3 with
  |error r'=>rw[z] at q3;exact λS' o=>q3 S' (c3.old.trans o)
  |ok v=>
   rw[z] at q3;intro S4 c4;have hn4:S4[S1.length]?=some (.lst acc):=(c4.2.2 _ (bF hn3) hne).trans hn3;simp only[hn4];try walk_at "pl"
   exact#[∅,q3 S4 (c3.trans c4)]
 .intro ts r2 S2 e2 c3 hx2 hn2 hts ht1
  rw[e2] at q1;try walk_at "pl"
  simp only[G.jn];refine#[QP,S1.length,ts,rfl,hn2,?_,∅,q1 S2 c3];intro z;rw[z] at ht1;simp at ht1
 .intro r' e2 S' o
  rw[e2] at q1;exact q1 S' o
def nh:Spec:=λus S Q _=>∃r x,us=[.loc r,.str x]/\S[r]?=some (.ins "Reader" [])/\Q .bK (S.set r (lU x x 0))
theorem Ir(Γ:bY):Keeps Γ jd 0 nh:=by
 rintro us S Q E ⟨r,x,rfl,hS,q⟩;unfold jd;walk_at "pl";have hr:=bF hS;simp only[hS,aZ,dZ];refine#[by simp,?_];have g1:=gs (o':=SO.ins "Reader" [("text",U.str x)]) hS;generalize hS1:S.set r (SO.ins "Reader" [("text",U.str x)])=S1 at g1;simp only[g1,aZ];refine#[by simp,?_];have g2:=gs (o':=SO.ins "Reader" (dZ "at" (U.int 0) [("text",U.str x)])) g1;generalize hS2:S1.set r (SO.ins "Reader" (dZ "at" (U.int 0) [("text",U.str x)]))=S2 at g2;simp only[g2,aZ];refine#[by simp[dZ],?_];subst hS2;subst hS1;rw[sf,sf]
 have e:SO.ins "Reader" (dZ "depth" (.int 0) (dZ "at" (.int 0) [("text",.str x)]))=lU x x 0:=by
  unfold lU;rw[cq]
  rfl
 simpa[<-e] using q
def Co:Spec:=λus S Q E=>∃x,us=[.str x]/\x.length<=1000/\match sF x with
 |.ok (t,_)=>∀S',Ext S S'->Q t S'
 |.error r=>∀S',Ext S S'->E #["BadRule",[.int 0,.int (x.length-r.length:Nat)]] S'
theorem LI(Γ:bY)(h1:Γ "Reader.__init__"=nh)(h2:Γ "Reader.choice"=zJ [] (gK (sE 6)) 0):Keeps Γ yQ 2 Co:=by
 rintro us S Q E ⟨x,rfl,hl,q⟩;unfold yQ;walk_at "pl";simp only[h1,h2];have hn:(S++[SO.ins "Reader" []])[S.length]?=some (.ins "Reader" []):=by simp
 refine#[S.length,x,rfl,hn,rfl,?_];try walk_at "pl"
 have g1:=gs (o':=lU x x 0) hn;have x1:Old S.length S ((S++[SO.ins "Reader" []]).set S.length (lU x x 0)):=by
  refine#[by simp,λn h ne=>?_];rw[av (dJ ne),ao h]
 generalize (S++[SO.ins "Reader" []]).set S.length (lU x x 0)=S1 at g1 x1;simp only[bX g1,true_and];have toE:∀{S'},Old S.length S S'->Ext S S':=λo=>#[o.1,λn h=>o.2 n h ∅]
 refine#[rfl,S.length,x,x,rfl,g1,bE _,hl,?_];unfold sF at q;cases z:gK (sE 6) x with
 |error r'=>
  rw[z] at q;exact λS' o=>q S' (toE (x1.trans o))
 |ok v=>
  obtain⟨t,r1⟩:=v;have hs:=vd (rK 6) x;rw[z] at q hs;intro S2 c2;have g2:=c2.2.1;simp only[<-d6,xA g2];try walk_at "pl"
  refine#[∅,?_];simp only[Iq hs.1];simp only[bindR] at q;cases r1 with
  |nil=>
   simp only[Jj,bO,ah,if_false];try walk_at "pl"
   simp at q;exact q S2 (toE (x1.trans c2.old))
  |cons c t2=>
   simp only[FX,bV,if_true];simp only[reduceCtorEq,if_false] at q;exact#[rfl,q S2 (toE (x1.trans c2.old))]
section
variable{d f c:Nat}{r rest:List Nat}
def hd(rest:List Nat)(l:List Nat):Prop:=cv l rest=true
end
section
variable{α:Type}
theorem LJ(h0:0<=i)(h1:i<l.length):∃a,tG l i=some a/\a∈l:=by
 obtain⟨n,rfl⟩:∃n:Nat,i=n:=#[i.toNat,∅]
 have h2:n<l.length:=∅
 exact#[l[n],by rw[ij,aa h2],bH h2]
theorem rM(h0:0<=i)(h1:i<l.length)(h:∀a∈l,r a):opt (tG l i) r:=by
 obtain⟨a,e,m⟩:=LJ h0 h1;rw[e];exact h a m
end
namespace tI
def Cp:Spec:=λus S Q _=>∃ns k,us=[.pC ns,.int k]/\ns.length<=1000/\∀m,Q (.int m) S
theorem LK(Γ:bY):Keeps Γ lj 0 Cp:=by
 rintro us S Q E ⟨ns,k,rfl,hl,q⟩;unfold lj;walk_at "pl";by_cases h:ns.length=0
 .simp only[h,bne_self_eq_false,ah,if_false]
  try walk_at "pl"
  exact q 0
 .have h':(ns.length !=0)=true:=by simpa using h
  simp only[h',if_true];try walk_at "pl"
  refine#[∅,∅,∅,?_];exact rM (kj _ ∅) (iM _ ∅) (λa _=>q a)
def xE:Spec:=λus S Q _=>∃ns k,us=[.pC ns,.int k]/\ns.length<=1000/\∀m:Int,0<=m->m<4294967231->Q (.int m) S
theorem Px(Γ:bY)(h1:Γ "_law_cell"=Cp):Keeps Γ mW 1 xE:=by
 rintro us S Q E ⟨ns,k,rfl,hl,q⟩;unfold mW;walk_at "pl";simp only[h1];refine#[ns,k,rfl,hl,λc=>?_];walk_at "pl";refine#[∅,∅,∅,∅,∅,∅,∅,?_];exact q _ ∅ ∅
def Iu:Spec:=λus S Q _=>us=[]/\∀G,G=SG->Q (.str G) S
theorem Py(Γ:bY):Keeps Γ mX 1 Iu:=by
 rintro us S Q E ⟨rfl,q⟩;unfold mX;walk_at "pl";exact#[⋯,q _ rfl]
end tI
namespace tI
end tI
theorem lJ(I:Nat->Env->bI->Prop)
  (h:∀n env S k,I n env S->(∀m env' S',m<n->I m env' S'->k env' S')->cW env S (λt S1=>if t=true then bW env S1 k else fin env S1)):
  ∀N n env S,n<N->I n env S->yM cW bW fin N env S
 |0,_,_,_,hn,_=>∅
 |N+1,n,env,S,hn,hi=>h n env S _ hi λm env' S' hm hi'=>lJ I h N m env' S' ∅ hi'
theorem DD(I:Nat->Env->bI->Prop)(hg:∀i env S,I i env S->g S)(l:List U)
  (h:∀i u env S k,l[i]?=some u->I i env S->(∀env' S',I (i+1) env' S'->k env' S')->turn u env S k) (hf:∀env S,I l.length env S->fin env S):
  ∀n i env S,i+n=l.length->I i env S->uE g turn fin (l.drop i) env S
 |0,i,env,S,e,hi=>by
  rw[dD ∅]
  have:i=l.length:=∅
  subst this;exact#[hg _ _ _ hi,hf _ _ hi]
 |n+1,i,env,S,e,hi=>by
  have hlt:i<l.length:=∅
  rw[eF hlt]
  exact#[hg _ _ _ hi,h i _ env S _ (aa hlt) hi λenv' S' hi'=>DD I hg l h hf n (i+1) env' S' ∅ hi']
theorem d9{g:bI->Prop}{turn:U->Env->bI->(Env->bI->Prop)->Prop}{fin:Env->bI->Prop}(I:Nat->Env->bI->Prop)(hg:∀i env S,I i env S->g S)(l:List U)
  (h:∀i u env S k,l[i]?=some u->I i env S->(∀env' S',I (i+1) env' S'->k env' S')->turn u env S k) (hf:∀env S,I l.length env S->fin env S)
  {env:Env}{S:bI} (hi:I 0 env S):uE g turn fin l env S:=DD I hg l h hf l.length 0 env S ∅ hi
theorem mz{n i:Nat}{u:U}(h:((cx n).map λk=>U.int (k:Nat))[i]?=some u):u=.int i/\i<n:=by
 rw[ar] at h;have hl:i<n:=by
  rcases Nat.lt_or_ge i n with z|z
  .exact z
  .rw[oI (by simpa using z)] at h;simp at h
 rw[Ed hl] at h;simp at h;exact#[h.symm,hl]
namespace tI
end tI
def ve(br:Option (List Nat->PR U))(x:List Nat)(t:U):Prop:=∀rest,qI br (x++rest)= .ok (t,rest)
noncomputable def LL(t:U)(ms:List Nat):U:=ms.foldl (λt c=>Im c t) t
def vf(br:Option (List Nat->PR U))(x:List Nat)(t:U):Prop:=∃a ta ms,x=a++ms/\ve br a ta/\(∀c∈ms,c∈[42,43,63])/\t=LL ta ms
theorem DE:∀(ms:List Nat)(t:U)(rest:List Nat),(∀c∈ms,c∈[42,43,63])->cv [42,43,63] rest=false->lI t (ms++rest)=(LL t ms,rest)
 |[],t,rest,_,h=>by
  cases rest with
  |nil=>rfl
  |cons c r=>
   have h:[42,43,63].contains c=false:=h;rw[fU,lI,h]
   rfl
 |m::ms,t,rest,hm,h=>by
  have e:[42,43,63].contains m=true:=f9.mpr (hm m (bf ..));rw[tq,lI,if_pos e,DE ms _ rest (λc hc=>hm c (aU _ hc)) h]
  rfl
theorem Iv(h:vf br x t)(hr:cv [42,43,63] rest=false):iT br (x++rest)= .ok (t,rest):=by
 obtain⟨a,ta,ms,rfl,ha,hm,rfl⟩:=h;unfold iT;rw[bj,ha (ms++rest)]
 simp only[bindR];rw[DE ms ta rest hm hr]
theorem E5(hb:nM br)(h:ve br x t):∃c r,x=c::r/\c∉[42,43,63,124,41]:=by
 have h0:=h [];have hs:=vc hb (x++[]);rw[h0] at hs;cases x with
 |nil=>have:=hs.2;simp at this
 |cons c r=>
  refine#[c,r,rfl,λhc=>?_];have e1:cv [40] (c::r++[])=false:=(by decide:∀c∈[42,43,63,124,41],[40].contains c=false) c hc;have e2:cv [91] (c::r++[])=false:=(by decide:∀c∈[42,43,63,124,41],[91].contains c=false) c hc;have e3:cv [46] (c::r++[])=false:=(by decide:∀c∈[42,43,63,124,41],[46].contains c=false) c hc;have e4:cv [92] (c::r++[])=false:=(by decide:∀c∈[42,43,63,124,41],[92].contains c=false) c hc;unfold qI at h0;rw[e1,e2,e3] at h0;simp only[ah,if_false] at h0;rw[AA e4] at h0;have e5:dB (dA MO) (c::r++[])= .error (c::r++[]):=by
   have hn:(dA MO).contains c=false:=by
    have:c∈MO:=(by decide:∀c∈[42,43,63,124,41],c∈MO) c hc;unfold dA;simp only[List.contains_eq_mem,decide_eq_false_iff_not];intro q;have:=(eG.mp q).2
    simp_all
   show(if (dA MO).contains c=true then _ else _)=_
   rw[if_neg (by rw[hn];simp)]
   rfl
  rw[e5] at h0;cases h0
theorem AF(hb:nM br)(h:vf br x t):∃c r,x=c::r/\c∉[42,43,63,124,41]:=by
 obtain⟨a,ta,ms,rfl,ha,hm,rfl⟩:=h;obtain⟨c,r,rfl,hc⟩:=E5 hb ha;exact#[c,r++ms,rfl,hc]
inductive qJ(br:Option (List Nat->PR U)):List Nat->List U->Prop
 |nil:qJ br [] []
 |cons{x y:List Nat}{t:U}{ts:List U}:vf br x t->qJ br y ts->qJ br (x++y) (t::ts)
theorem sG(hb:nM br)(h:qJ br y ts)(hr:iU rest=true):cv [42,43,63] (y++rest)=false:=by
 cases h with
 |nil=>
  cases rest with
  |nil=>rfl
  |cons c r=>
   have:[124,41].contains c=true:=by simpa[iU,cv] using hr
   show [42,43,63].contains c=false
   simp at this ⊢;omega
 |cons a b=>
  obtain⟨c,r,rfl,hc⟩:=AF hb a;show [42,43,63].contains c=false;simp at hc ⊢;omega
theorem xF(hb:nM br)(hr:iU rest=true):∀{y:List Nat}{ts:List U},qJ br y ts->∀(n:Nat)(acc:List U),y.length<n->de iU (iT br) n acc (y++rest)= .ok (acc++ts,rest)
 |_,_,.nil,n,acc,hn=>by
  cases n with
  |zero=>omega
  |succ n=>rw[de,fU,if_pos hr,bb]
 |_,_,.cons (x:=x) (y:=y) (t:=t) (ts:=ts) a b,n,acc,hn=>by
  obtain⟨c,r,rfl,hc⟩:=AF hb a;cases n with
  |zero=>omega
  |succ n=>
   have hs:iU (c::r++y++rest)=false:=by
    unfold iU;have:[124,41].contains c=false:=by simp at hc ⊢;omega
    show(false||[124,41].contains c)=false
    rw[this];rfl
   rw[de,if_neg (by rw[hs];simp),bj,Iv a (sG hb b hr)]
   simp only[bindR];rw[xF hb hr b n (acc++[t]) (by simp at hn;omega),bj]
   rfl
def vg(br:Option (List Nat->PR U))(x:List Nat)(t:U):Prop:=∃ts,ts≠[]/\qJ br x ts/\t=pb v5 ts
theorem Iw(hb:nM br)(h:vg br x t)(hr:iU rest=true):v8 br (x++rest)= .ok (t,rest):=by
 obtain⟨ts,hn,h,rfl⟩:=h;cases h with
 |nil=>exact absurd rfl hn
 |@cons x y t ts a b=>
  unfold v8;rw[bj,Iv a (sG hb b hr)]
  simp only[bindR];rw[xF hb hr b _ [t] (by simp;omega)]
  rfl
inductive vh(br:Option (List Nat->PR U)):List Nat->List U->Prop
 |nil:vh br [] []
 |cons{x y:List Nat}{t:U}{ts:List U}:vg br x t->vh br y ts->vh br (124::x++y) (t::ts)
def E6(br:Option (List Nat->PR U))(x:List Nat)(t:U):Prop:=∃a b t0 ts,x=a++b/\vg br a t0/\vh br b ts/\t=pb QP (t0::ts)
def Iy(rest:List Nat):Prop:=rest=[]\/∃r,rest=41::r
theorem xG(h:vh br y ts)(hr:Iy rest):iU (y++rest)=true:=by
 cases h with
 |nil=>rcases hr with rfl|⟨r,rfl⟩<;>rfl
 |cons a b=>rfl
theorem xH(hb:nM br)(hr:Iy rest):∀{y:List Nat}{ts:List U},vh br y ts->∀(n:Nat)(acc:List U),y.length<n->de stopOr (Pt br) n acc (y++rest)= .ok (acc++ts,rest)
 |_,_,.nil,n,acc,hn=>by
  have e:stopOr rest=true:=by rcases hr with rfl|⟨r,rfl⟩<;>rfl
  cases n with
  |zero=>omega
  |succ n=>rw[de,fU,if_pos e,bb]
 |_,_,.cons (x:=x) (y:=y) (t:=t) (ts:=ts) a b,n,acc,hn=>by
  cases n with
  |zero=>omega
  |succ n=>
   have e:Pt br (124::x++y++rest)= .ok (t,y++rest):=by
    unfold Pt;have:dB [124] (124::x++y++rest)= .ok (124,x++(y++rest)):=by
     rw[bj];rfl
    rw[this]
    simp only[bindR];exact Iw hb a (xG b hr)
   rw[de,if_neg (by simp[stopOr,cv]),e]
   simp only[bindR];rw[xH hb hr b n (acc++[t]) (by simp at hn;omega),bj]
   rfl
theorem xI(hb:nM br)(h:E6 br x t)(hr:Iy rest):gK br (x++rest)= .ok (t,rest):=by
 obtain⟨a,b,t0,ts,rfl,ha,hb',rfl⟩:=h;unfold gK;rw[bj,Iw hb ha (xG hb' hr)]
 simp only[bindR];rw[xH hb hr hb' _ [t0] (by simp;omega)]
 rfl
theorem DF(h:E6 (sE k) x t):ve (sE (k+1)) (40::(x++[41])) t:=by
 intro rest;unfold qI;rw[if_pos (by rfl)]
 unfold QQ sE;show bindR (dB [40] (40::(x++[41]++rest))) _=_;have e1:dB [40] (40::(x++[41]++rest))= .ok (40,x++(41::rest)):=by
  rw[bj];rfl
 rw[e1]
 simp only[bindR];rw[xI (rK k) h (.inr #[rest,rfl])]
 rfl
theorem LM(h:E6 (sE 6) x t):sF x=.ok (t,[]):=by
 unfold sF;have:=xI (rK 6) h (rest:=[]) (.inl rfl);rw[bb] at this;rw[this]
 rfl
end PL
namespace PL.jL
inductive Mk where|star|plus|may
inductive Tr where|one (n:Nat) (l:List Nat)|row (a b:Tr)|or (a b:Tr)|rep (m:Mk) (a:Tr)
noncomputable section
noncomputable def null:Tr->Bool
 |.one _ _=>false
 |.row a b=>null a&&null b
 |.or a b=>null a||null b
 |.rep .plus a=>null a
 |.rep _ _=>true
noncomputable def dq(K:List Tr):Bool:=K.all null
noncomputable def FS:Tr->Nat->Bool
 |.one n _,p=>p==n
 |.row a b,p=>FS a p||(null a&&FS b p)
 |.or a b,p=>FS a p||FS b p
 |.rep _ a,p=>FS a p
noncomputable def nB:List Tr->Nat->Bool
 |[],_=>false
 |t::K,p=>FS t p||(null t&&nB K p)
noncomputable def IN:Tr->Nat->Bool
 |.one n _,p=>p==n
 |.row a b,p=>IN a p||IN b p
 |.or a b,p=>IN a p||IN b p
 |.rep _ a,p=>IN a p
noncomputable def sgn:Tr->Nat->List Nat
 |.one _ l,_=>l
 |.row a b,p=>if IN a p then sgn a p else sgn b p
 |.or a b,p=>if IN a p then sgn a p else sgn b p
 |.rep _ a,p=>sgn a p
noncomputable def more:Mk->Tr->List Tr
 |.may,_=>[]
 |_,a=>[.rep .star a]
noncomputable def cont:Tr->Nat->List Tr
 |.one _ _,_=>[]
 |.row a b,p=>if IN a p then cont a p++[b] else cont b p
 |.or a b,p=>if IN a p then cont a p else cont b p
 |.rep m a,p=>cont a p++more m a
noncomputable def ct(t:Tr)(p:Nat):List Tr:=if p=0 then [t] else cont t p
noncomputable def dF:Tr->Nat->List (List Tr)
 |.one _ l,c=>if l.contains c then [[]] else []
 |.or a b,c=>dF a c++dF b c
 |.row a b,c=>(dF a c).map (·++[b])++if null a then dF b c else []
 |.rep m a,c=>(dF a c).map (·++more m a)
noncomputable def dR:List Tr->Nat->List (List Tr)
 |[],_=>[]
 |t::K,c=>(dF t c).map (·++K)++if null t then dR K c else []
noncomputable def size:Tr->Nat
 |.one _ _=>1
 |.row a b=>size a+size b
 |.or a b=>size a+size b
 |.rep _ a=>size a
noncomputable def bG:Tr->Nat
 |.one _ _=>0
 |.row a b=>max (bG a) (bG b)+1
 |.or a b=>max (bG a) (bG b)+1
 |.rep _ a=>bG a+1
def nN:Nat->Tr->Prop
 |n,.one k _=>k=n
 |n,.row a b=>nN n a/\nN (n+size a) b
 |n,.or a b=>nN n a/\nN (n+size a) b
 |n,.rep _ a=>nN n a
noncomputable def oy:Tr->List (List Nat)
 |.one _ l=>[l]
 |.row a b=>oy a++oy b
 |.or a b=>oy a++oy b
 |.rep _ a=>oy a
end
theorem gM:∀t,(oy t).length=size t
 |.one _ _=>rfl
 |.row a b=>by simp[oy,size,gM a,gM b]
 |.or a b=>by simp[oy,size,gM a,gM b]
 |.rep _ a=>by simp[oy,size,gM a]
theorem eI:∀{t n p},nN n t->(IN t p=true↔n<=p/\p<n+size t)
 |.one k l,n,p,h=>by
  have h:k=n:=h;subst h;simp only[IN,size,beq_iff_eq];omega
 |.row a b,n,p,h=>by
  simp only[IN,size,aO,eI h.1,eI h.2];omega
 |.or a b,n,p,h=>by
  simp only[IN,size,aO,eI h.1,eI h.2];omega
 |.rep m a,n,p,h=>eI (t:=a) h
theorem rN:∀{t n p},nN n t->IN t p=true->(oy t)[p-n]?=some (sgn t p)
 |.one k l,n,p,h,i=>by
  have h:k=n:=h;subst h;have:p=k:=by simpa[IN] using i
  simp[this,oy,sgn]
 |.row a b,n,p,h,i=>by
  have e1:=eI (p:=p) h.1;have e2:=eI (p:=p) h.2;have l1:=gM a;simp only[oy,sgn];by_cases z:IN a p=true
  .rw[if_pos z,ao (by have:=e1.mp z;omega)];exact rN h.1 z
  .have z2:IN b p=true:=by simpa[IN,z] using i
   have:=e2.mp z2;rw[if_neg z,ay ∅,<-rN h.2 z2]
   congr 1;omega
 |.or a b,n,p,h,i=>by
  have e1:=eI (p:=p) h.1;have e2:=eI (p:=p) h.2;have l1:=gM a;simp only[oy,sgn];by_cases z:IN a p=true
  .rw[if_pos z,ao (by have:=e1.mp z;omega)];exact rN h.1 z
  .have z2:IN b p=true:=by simpa[IN,z] using i
   have:=e2.mp z2;rw[if_neg z,ay ∅,<-rN h.2 z2]
   congr 1;omega
 |.rep m a,n,p,h,i=>rN (t:=a) h i
theorem fN(h:nN n a/\nN (n+size a) b)(i:IN b p=true):¬IN a p=true:=λz=>by
 have:=(eI h.1).mp z;have:=(eI h.2).mp i;omega
theorem i6:∀{t p},FS t p=true->IN t p=true
 |.one k l,p,h=>h
 |.row a b,p,h=>by
  simp only[FS,aO,af] at h;simp only[IN,aO];exact h.imp i6 λz=>i6 z.2
 |.or a b,p,h=>by
  simp only[FS,aO] at h;simp only[IN,aO];exact h.imp i6 i6
 |.rep m a,p,h=>i6 (t:=a) h
theorem lK:∀{K L:List Tr}{p:Nat},nB (K++L) p=(nB K p||(dq K&&nB L p))
 |[],L,p=>by simp[nB,dq]
 |t::K,L,p=>by
  simp only[tq,nB,lK,dq,bp];cases null t<;>cases FS t p<;>simp
theorem Cq:∀{K L:List Tr}{c:Nat},dR (K++L) c=(dR K c).map (·++L)++if dq K then dR L c else []
 |[],L,c=>by simp[dR,dq]
 |t::K,L,c=>by
  simp only[tq,dR,Cq,dq,bp];by_cases z:null t=true<;>simp[z,dq,eH,kQ]
theorem vi:dq (K++L)=(dq K&&dq L):=by simp[dq]
theorem Iz:nB (more m a) p=true->FS a p=true:=by
 cases m<;>simp[more,nB,FS]
theorem eY:∀{t q p},nB (cont t q) p=true->IN t p=true
 |.one k l,q,p,h=>by simp[cont,nB] at h
 |.row a b,q,p,h=>by
  simp only[cont] at h;simp only[IN,aO];split at h
  .rw[lK] at h
   simp only[aO,af] at h;rcases h with h|⟨_,h⟩
   .exact .inl (eY h)
   .exact .inr (i6 (by simpa[nB] using h))
  .exact .inr (eY h)
 |.or a b,q,p,h=>by
  simp only[cont] at h;simp only[IN,aO];split at h
  .exact .inl (eY h)
  .exact .inr (eY h)
 |.rep m a,q,p,h=>by
  simp only[cont] at h;rw[lK] at h;simp only[aO,af] at h;rcases h with h|⟨_,h⟩
  .exact eY (t:=a) h
  .exact i6 (t:=a) (Iz h)
theorem iE:∀{t n c x},nN n t->(x∈dF t c↔∃p,FS t p=true/\c∈sgn t p/\x=cont t p)
 |.one k l,n,c,x,h=>by
  simp only[dF,FS,sgn,cont,beq_iff_eq];by_cases z:c∈l
  .simp[z]
  .simp[z]
 |.row a b,n,c,x,h=>by
  simp only[dF,aD,bx,FS,aO,af];constructor
  .rintro(⟨y,hy,rfl⟩|hy)
   .obtain⟨p,h1,h2,rfl⟩:=(iE h.1).mp hy
    have i:=i6 h1;exact#[p,.inl h1,by simp only[sgn,if_pos i];exact h2,by simp only[cont,if_pos i]]
   .split at hy
    .rename_i z
     obtain⟨p,h1,h2,rfl⟩:=(iE h.2).mp hy;have i:=fN h (i6 h1);exact#[p,.inr #[z,h1],by simp only[sgn,if_neg i];exact h2,by simp only[cont,if_neg i]]
    .simp at hy
  .rintro⟨p,h1|⟨z,h1⟩,h2,rfl⟩
   .have i:=i6 h1
    simp only[sgn,if_pos i] at h2;exact .inl #[_,(iE h.1).mpr #[p,h1,h2,rfl],by simp only[cont,if_pos i]]
   .have i:=fN h (i6 h1)
    simp only[sgn,if_neg i] at h2;rw[if_pos z]
    exact .inr ((iE h.2).mpr #[p,h1,h2,by simp only[cont,if_neg i]])
 |.or a b,n,c,x,h=>by
  simp only[dF,aD,FS,aO];constructor
  .rintro(hy|hy)
   .obtain⟨p,h1,h2,rfl⟩:=(iE h.1).mp hy
    have i:=i6 h1;exact#[p,.inl h1,by simp only[sgn,if_pos i];exact h2,by simp only[cont,if_pos i]]
   .obtain⟨p,h1,h2,rfl⟩:=(iE h.2).mp hy
    have i:=fN h (i6 h1);exact#[p,.inr h1,by simp only[sgn,if_neg i];exact h2,by simp only[cont,if_neg i]]
  .rintro⟨p,h1|h1,h2,rfl⟩
   .have i:=i6 h1
    simp only[sgn,if_pos i] at h2;exact .inl ((iE h.1).mpr #[p,h1,h2,by simp only[cont,if_pos i]])
   .have i:=fN h (i6 h1)
    simp only[sgn,if_neg i] at h2;exact .inr ((iE h.2).mpr #[p,h1,h2,by simp only[cont,if_neg i]])
 |.rep m a,n,c,x,h=>by
  simp only[dF,bx,FS,sgn,cont];constructor
  .rintro⟨y,hy,rfl⟩
   obtain⟨p,h1,h2,rfl⟩:=(iE (t:=a) h).mp hy;exact#[p,h1,h2,rfl]
  .rintro⟨p,h1,h2,rfl⟩
   exact#[_,(iE (t:=a) h).mpr #[p,h1,h2,rfl],rfl]
theorem zd:dR [t] c=dF t c:=by simp[dR]
theorem lW:∀{t n c x q},nN n t->(x∈dR (cont t q) c↔∃p,nB (cont t q) p=true/\c∈sgn t p/\x=cont t p)
 |.one k l,n,c,x,q,h=>by simp[cont,dR,nB]
 |.row a b,n,c,x,q,h=>by
  by_cases z:IN a q=true
  .have e:cont (.row a b) q=cont a q++[b]:=by simp only[cont,if_pos z]
   rw[e,Cq,zd]
   simp only[lK,aD,bx,aO,af];constructor
   .rintro(⟨y,hy,rfl⟩|hy)
    .obtain⟨p,h1,h2,rfl⟩:=(lW h.1).mp hy
     have i:=eY h1;exact#[p,.inl h1,by simp only[sgn,if_pos i];exact h2,by simp only[cont,if_pos i]]
    .split at hy
     .rename_i z
      obtain⟨p,h1,h2,rfl⟩:=(iE h.2).mp hy;have i:=fN h (i6 h1);exact#[p,.inr #[z,by simp[nB,h1]],by simp only[sgn,if_neg i];exact h2,by simp only[cont,if_neg i]]
     .simp at hy
   .rintro⟨p,h1|⟨z,h1⟩,h2,rfl⟩
    .have i:=eY h1
     simp only[sgn,if_pos i] at h2;exact .inl #[_,(lW h.1).mpr #[p,h1,h2,rfl],by simp only[cont,if_pos i]]
    .have h1:FS b p=true:=by simpa[nB] using h1
     have i:=fN h (i6 h1);simp only[sgn,if_neg i] at h2;rw[if_pos z]
     exact .inr ((iE h.2).mpr #[p,h1,h2,by simp only[cont,if_neg i]])
  .have e:cont (.row a b) q=cont b q:=by simp only[cont,if_neg z]
   rw[e,lW h.2]
   constructor
   .rintro⟨p,h1,h2,rfl⟩
    have i:=fN h (eY h1);exact#[p,h1,by simp only[sgn,if_neg i];exact h2,by simp only[cont,if_neg i]]
   .rintro⟨p,h1,h2,rfl⟩
    have i:=fN h (eY h1);simp only[sgn,if_neg i] at h2;exact#[p,h1,h2,by simp only[cont,if_neg i]]
 |.or a b,n,c,x,q,h=>by
  by_cases z:IN a q=true
  .have e:cont (.or a b) q=cont a q:=by simp only[cont,if_pos z]
   rw[e,lW h.1]
   constructor
   .rintro⟨p,h1,h2,rfl⟩
    have i:=eY h1;exact#[p,h1,by simp only[sgn,if_pos i];exact h2,by simp only[cont,if_pos i]]
   .rintro⟨p,h1,h2,rfl⟩
    have i:=eY h1;simp only[sgn,if_pos i] at h2;exact#[p,h1,h2,by simp only[cont,if_pos i]]
  .have e:cont (.or a b) q=cont b q:=by simp only[cont,if_neg z]
   rw[e,lW h.2]
   constructor
   .rintro⟨p,h1,h2,rfl⟩
    have i:=fN h (eY h1);exact#[p,h1,by simp only[sgn,if_neg i];exact h2,by simp only[cont,if_neg i]]
   .rintro⟨p,h1,h2,rfl⟩
    have i:=fN h (eY h1);simp only[sgn,if_neg i] at h2;exact#[p,h1,h2,by simp only[cont,if_neg i]]
 |.rep m a,n,c,x,q,h=>by
  have hm:x∈dR (more m a) c↔∃p,nB (more m a) p=true/\c∈sgn a p/\x=cont (.rep m a) p:=by
   cases m with
   |may=>simp[more,dR,nB]
   |star=>
    show x∈dR [.rep .star a] c↔_
    rw[zd,iE (t:=.rep .star a) h]
    simp[more,nB,FS,sgn]
   |plus=>
    show x∈dR [.rep .star a] c↔_
    rw[zd,iE (t:=.rep .star a) h]
    simp[more,nB,FS,sgn,cont]
  simp only[cont,Cq,lK,aD,bx,aO,af,sgn];constructor
  .rintro(⟨y,hy,rfl⟩|hy)
   .obtain⟨p,h1,h2,rfl⟩:=(lW (t:=a) h).mp hy
    exact#[p,.inl h1,h2,rfl]
   .split at hy
    .rename_i z
     obtain⟨p,h1,h2,rfl⟩:=hm.mp hy;exact#[p,.inr #[z,h1],h2,rfl]
    .simp at hy
  .rintro⟨p,h1|⟨z,h1⟩,h2,rfl⟩
   .exact .inl #[_,(lW (t:=a) h).mpr #[p,h1,h2,rfl],rfl]
   .rw[if_pos z]
    exact .inr (hm.mpr #[p,h1,h2,rfl])
noncomputable def nj:Mk->List Nat
 |.star=>kC
 |.plus=>ow
 |.may=>jM
noncomputable def enc:Tr->U
 |.one _ l=>.tup [.str LF,.str l]
 |.row a b=>.tup [.str v5,.tup [enc a,enc b]]
 |.or a b=>.tup [.str QP,.tup [enc a,enc b]]
 |.rep m a=>.tup [.str (nj m),enc a]
noncomputable def cH(K:List Tr):U:=.tup (K.map enc)
noncomputable def LN(K:List Tr):U:=.tup [.str v5,cH K]
theorem oz(h:nB (ct t q) p=true):IN t p=true:=by
 unfold ct at h;split at h
 .simp only[nB,aO,af,ah,and_false,or_false] at h
  exact i6 h
 .exact eY h
theorem vj(h:nN n t)(n0:0<n)(i:IN t p=true):p≠0:=by
 have:=(eI h).mp i;omega
theorem vk(h:nN n t)(n0:0<n):x∈dR (ct t q) c↔∃p,nB (ct t q) p=true/\c∈sgn t p/\x=ct t p:=by
 have key:∀p,nB (ct t q) p=true->ct t p=cont t p:=λp hp=>by
  unfold ct;rw[if_neg (vj h n0 (oz hp))]
 have e:x∈dR (ct t q) c↔∃p,nB (ct t q) p=true/\c∈sgn t p/\x=cont t p:=by
  unfold ct;split
  .rw[zd,iE h]
   simp[nB]
  .exact lW h
 rw[e]
 constructor
 .rintro⟨p,h1,h2,h3⟩;exact#[p,h1,h2,h3.trans (key p h1).symm]
 .rintro⟨p,h1,h2,h3⟩;exact#[p,h1,h2,h3.trans (key p h1)]
def Tj(t:Tr)(c:Nat)(H:Nat->Prop):Nat->Prop:=λp=>∃q,H q/\nB (ct t q) p=true/\c∈sgn t p
def hs(t:Tr)(w:List Nat):Nat->Prop:=w.foldl (λH c=>Tj t c H) (λp=>p=0)
def En(t:Tr)(H:Nat->Prop):Prop:=∃p,H p/\dq (ct t p)=true
theorem ju:hs t (w++[c])=Tj t c (hs t w):=by unfold hs;rw[mf];rfl
theorem Tn(h:hs t w p):p=0\/IN t p=true:=by
 by_cases z:w=[]
 .subst z;exact .inl h
 .rw[<-vC z,ju] at h
  obtain⟨q,_,h,_⟩:=h;exact .inr (oz h)
theorem take_snoc{w:List Nat}{k c:Nat}(h:w[k]?=some c):w.take (k+1)=w.take k++[c]:=by
 rw[cf,h];rfl
theorem LO{t:Tr}{w:List Nat}{k:Nat}(h:∀p,¬hs t (w.take k) p):∀j,k<=j->∀p,¬hs t (w.take j) p:=by
 intro j hj;obtain⟨i,rfl⟩:∃i,j=k+i:=#[j-k,∅]
 induction i with
 |zero=>exact h
 |succ i ih=>
  intro p hp;cases e:w[k+i]? with
  |none=>
   have:=List.getElem?_eq_none_iff.mp e;rw[bN ∅] at hp;refine ih ∅ p ?_;rw[bN ∅];exact hp
  |some c=>
   rw[<-Nat.add_assoc,take_snoc e,ju] at hp;obtain⟨q,hq,_⟩:=hp;exact ih ∅ q hq
def Ju(t:Tr)(H:Nat->Prop)(X:List U):Prop:=(∀x,x∈X↔∃p,H p/\x=cH (ct t p))/\X.Nodup
theorem xJ(t:Tr):Ju t (hs t []) [cH [t]]:=by
 refine#[λx=>?_,by simp];simp only[hs,wB,fP,exists_eq_left]
 rfl
def Nn(ts:List Tr)(w:List Nat)(j i:Nat):Prop:=∀t,ts[i]?=some t->¬En t (hs t (w.take j))
def sH(ts:List Tr)(w:List Nat)(k:Nat):Option (Nat×Nat)->Prop
 |none=>∀j i,1<=j->j<=k->Nn ts w j i
 |some (i,j)=>(1<=j/\j<=k)/\¬Nn ts w j i/\(∀i',i'<i->Nn ts w j i')/\∀j' i',j<j'->j'<=k->Nn ts w j' i'
theorem ze(h:sH ts w k r)(h':sH ts w k r'):r=r':=by
 have half:∀{i j i' j'},sH ts w k (some (i,j))->sH ts w k (some (i',j'))->¬j<j':=λh h' l=>h'.2.1 (h.2.2.2 _ _ l h'.1.2)
 have no:∀{i j},sH ts w k (some (i,j))->¬sH ts w k none:=λh h'=>h.2.1 (h' _ _ h.1.1 h.1.2)
 have small:∀{i i' j},sH ts w k (some (i,j))->sH ts w k (some (i',j))->¬i<i':=λh h' l=>h.2.1 (h'.2.2.1 _ l)
 rcases r with _|⟨i,j⟩<;>rcases r' with _|⟨i',j'⟩
 .rfl
 .exact absurd h (no h')
 .exact absurd h' (no h)
 .have a1:=half h h'
  have a2:=half h' h;have ej:j=j':=∅
  subst ej;have b1:=small h h';have b2:=small h' h;have ei:i=i':=∅
  subst ei;rfl
theorem oA(h:sH ts w k r)(hl:k<=l)(hn:∀j i,k<j->j<=l->Nn ts w j i):sH ts w l r:=by
 have go:∀{j i},(j<=k->Nn ts w j i)->j<=l->Nn ts w j i:=λ{j i}a b=>by
  by_cases z:j<=k
  .exact a z
  .exact hn j i ∅ b
 rcases r with _|⟨i,j⟩
 .exact λj i h1 h2=>go (λz=>h j i h1 z) h2
 .exact#[#[h.1.1,by have:=h.1.2;omega],h.2.1,h.2.2.1,λj' i' h1 h2=>go (λz=>h.2.2.2 j' i' h1 z) h2]
theorem DG(h:¬Nn ts w (k+1) i)(hn:∀i',i'<i->Nn ts w (k+1) i'):sH ts w (k+1) (some (i,k+1)):=
 #[#[∅,∅],h,hn,λj' i' h1 h2=>absurd h1 ∅]
noncomputable def uR:Option (Nat×Nat)->U
 |none=>.bK
 |some (i,j)=>.tup [.int (i:Nat),.int (j:Nat)]
section
variable{S:bI}{Q:KU}{a b p:Nat}
theorem BZ:jK .bor (.int (a:Nat)) (.int (b:Nat)) S Q=Q (.int ((a|||b:Nat):Int)) S:=by
 rw[Om,eq_true (show(0:Int)<=a/\(0:Int)<=b from #[∅,∅]),true_and];rfl
theorem yP:jK .band (.int (a:Nat)) (.int (b:Nat)) S Q=Q (.int ((a&&&b:Nat):Int)) S:=by
 rw[KG,eq_true (show(0:Int)<=a/\(0:Int)<=b from #[∅,∅]),true_and];rfl
theorem Vr:jK .band (.int (a:Nat)) (.int 1) S Q=Q (.int ((a&&&1:Nat):Int)) S:=yP (b:=1)
theorem Pz:jK .shl (.int 1) (.int (p:Nat)) S Q=(p<=1000/\Q (.int ((1<<<p:Nat):Int)) S):=by
 rw[Oo]
 have e:(1:Int)*(2:Int)^((p:Int).toNat)=((1<<<p:Nat):Int):=by
  rw[sR];simp
 rw[e]
 exact propext #[λh=>#[∅,h.2],λh=>#[∅,h.2]]
theorem Xa:jK .shr (.int (a:Nat)) (.int (p:Nat)) S Q=Q (.int ((a>>>p:Nat):Int)) S:=by
 rw[Oq,eq_true (show(0:Int)<=a/\(0:Int)<=p from #[∅,∅]),true_and]
 have e:(a:Int)/(2:Int)^((p:Int).toNat)=((a>>>p:Nat):Int):=by
  rw[Nat.shiftRight_eq_div_pow];simp
 rw[e]
theorem Yy:sX .sum [.loc n] S Q=(∃is:List Int,S[n]?=some (.lst (is.map .int))/\Q (.int is.sum) S):=rfl
end
theorem To:(((a>>>p&&&1:Nat):Int) !=0)=a.testBit p:=by
 unfold Nat.testBit;rw[Nat.and_comm]
 by_cases h:1&&&a>>>p=0
 .simp[h]
 .have:¬(((1&&&a>>>p:Nat):Int)=0):=∅
  rw[bne_iff_ne.mpr this,bne_iff_ne.mpr h]
theorem zf{a:Nat}:((a:Int) !=0)=true↔∃p,a.testBit p=true:=by
 constructor
 .intro h
  have:a≠0:=by
   have:=bne_iff_ne.mp h;omega
  exact vD this
 .rintro⟨p,h⟩
  refine bne_iff_ne.mpr λz=>?_
  have:a=0:=∅
  subst this;simp at h
theorem PB(h:b.testBit p=true):p<sA b:=by
 have g:=Nat.ge_two_pow_of_testBit h;have b0:b≠0:=by
  have:0<2^p:=Nat.two_pow_pos p;omega
 unfold sA;rw[if_neg b0]
 have:=(Nat.le_log2 b0).mpr g;omega
theorem bits_le(h:b<2^n):sA b<=n:=by
 unfold sA;split
 .omega
 .rename_i z
  have:=(Nat.log2_lt z).mpr h;omega
theorem kD(h:∀p,b.testBit p=true->p<n):b<2^n:=Nat.lt_of_not_le λz=>by
 obtain⟨i,hi,ti⟩:=Nat.exists_ge_and_testBit_of_ge_two_pow z;have:=h i ti;omega
noncomputable def rO(b:Nat):List Nat:=(cx (sA b)).filter b.testBit
theorem kE:p∈rO b↔b.testBit p=true:=by
 unfold rO;rw[eG,we]
 exact#[λh=>h.2,λh=>#[PB h,h]]
noncomputable abbrev a9(n:Nat):U:=.int (n:Nat)
theorem fO{g:bI->Prop}{c:U->bI->(Bool->bI->Prop)->Prop}{e:U->bI->KU->Prop}{Q:List U->bI->Prop}(l:List U)(I:Nat->List U->bI->Prop)(hg:∀i acc S,i<=l.length->I i acc S->g S/\acc.length<1000000)
  (h:∀i u acc S(k:List U->bI->Prop),l[i]?=some u->I i acc S->(∀acc' S',I (i+1) acc' S'->k acc' S')->c u S λb S1=>if b=true then e u S1 λv S2=>k (acc++[v]) S2 else k acc S1) (hf:∀acc S,I l.length acc S->Q acc S){S:bI} (h0:I 0 [] S):nA g c e Q l [] S:=by
 have key:∀n i acc S,i+n=l.length->I i acc S->nA g c e Q (l.drop i) acc S:=by
  intro n;induction n with
  |zero=>
   intro i acc S e hi;rw[dD ∅]
   have ei:i=l.length:=∅
   subst ei;exact#[(hg _ _ _ (ax _) hi).1,(hg _ _ _ (ax _) hi).2,hf _ _ hi]
  |succ n ih=>
   intro i acc S e hi;have hl:i<l.length:=∅
   rw[eF hl]
   exact#[(hg _ _ _ ∅ hi).1,(hg _ _ _ ∅ hi).2,h i _ acc S _ (aa hl) hi λacc' S' h'=>ih (i+1) acc' S' ∅ h']
 exact key l.length 0 [] S ∅ h0
theorem xK(l:List U)(p:U->Bool)(f:U->U)(hg:g S)(hl:l.length<1000000)
  (h:∀u k,u∈l->((p u=true->k true S)/\(p u=false->k false S)->c u S k)) (he:∀u k,u∈l->p u=true->k (f u) S->e u S k) (q:Q ((l.filter p).map f) S):nA g c e Q l [] S:=by
 refine fO l (λi acc S'=>S'=S/\acc=((l.take i).filter p).map f) (λi acc S' hi h=>#[h.1▸hg,?_]) (λi u acc S' k hu hi hk=>?_) (λacc S' h=>?_) #[rfl,rfl]
 .rw[h.2,aq]
  have:=Bq p (l.take i);rw[gT] at this;omega
 .obtain⟨rfl,rfl⟩:=hi
  have hm:=aw hu;have et:l.take (i+1)=l.take i++[u]:=by rw[cf,hu];rfl
  refine h u _ hm #[λz=>?_,λz=>?_]
  .rw[if_pos rfl]
   exact he u _ hm z (hk _ _ #[rfl,by rw[et,Fx,eH,List.filter_cons_of_pos z];rfl])
  .rw[if_neg (by simp)]
   exact hk _ _ #[rfl,by rw[et,Fx,List.filter_cons_of_neg (by simp[z])];simp]
 .obtain⟨rfl,rfl⟩:=h
  rw[b9];exact q
noncomputable section
noncomputable def live:Tr->Bool
 |.one _ l=>!l.isEmpty
 |.row a b=>live a&&live b
 |.or a b=>live a||live b
 |.rep .plus a=>live a
 |.rep _ _=>true
noncomputable def dk(K:List Tr):Bool:=K.all live
noncomputable def sI:Tr->Bool
 |.one _ l=>!l.isEmpty
 |.row a b=>(live a&&live b)&&(sI a||sI b)
 |.or a b=>sI a||sI b
 |.rep _ a=>sI a
noncomputable def mB(K:List Tr):Bool:=dk K&&K.any sI
noncomputable def ml:Tr->Nat
 |.one _ _=>1
 |.row a b=>ml a+ml b
 |.or a b=>if live a then if live b then min (ml a) (ml b) else ml a else ml b
 |.rep .plus a=>ml a
 |.rep _ _=>0
noncomputable def Bc(K:List Tr):Nat:=(K.map ml).sum
end
theorem iV:dk (K++L)=(dk K&&dk L):=by simp[dk]
theorem Cr:Bc (K++L)=Bc K+Bc L:=by simp[Bc]
theorem vm:dk [t]=live t:=by simp[dk]
theorem PC:Bc [t]=ml t:=by simp[Bc]
theorem rP:dk (more m a)=true/\Bc (more m a)=0:=by cases m<;>exact#[rfl,rfl]
theorem gN:∀{t},null t=true->live t=true
 |.row a b,h=>by
  simp only[null,af] at h;simp only[live,gN h.1,gN h.2,Bool.and_self]
 |.or a b,h=>by
  simp only[null,aO] at h;simp only[live,aO];exact h.imp gN gN
 |.rep .plus a,h=>gN (t:=a) h
 |.rep .star _,_=>rfl
 |.rep .may _,_=>rfl
theorem vn(h:dq K=true):dk K=true:=by
 rw[dq,bR] at h;rw[dk,bR]
 exact λt m=>gN (h t m)
theorem lL:∀{t c x},x∈dF t c->dk x=true->live t=true/\sI t=true
 |.one k l,c,x,h,_=>by
  have:l≠[]:=λe=>by subst e;simp[dF] at h
  cases l with
  |nil=>exact absurd rfl this
  |cons=>exact#[rfl,rfl]
 |.or a b,c,x,h,z=>by
  simp only[dF,aD] at h;simp only[live,sI,aO];rcases h with h|h
  .exact#[.inl (lL h z).1,.inl (lL h z).2]
  .exact#[.inr (lL h z).1,.inr (lL h z).2]
 |.row a b,c,x,h,z=>by
  simp only[dF,aD,bx] at h;simp only[live,sI,af,aO];rcases h with⟨y,h,rfl⟩|h
  .rw[iV,vm,af] at z
   obtain⟨z1,z2⟩:=lL h z.1;exact#[#[z1,z.2],#[z1,z.2],.inl z2]
  .split at h
   .rename_i n
    obtain⟨z1,z2⟩:=lL h z;exact#[#[gN n,z1],#[gN n,z1],.inr z2]
   .simp at h
 |.rep m a,c,x,h,z=>by
  simp only[dF,bx] at h;obtain⟨y,h,rfl⟩:=h;rw[iV,af] at z;obtain⟨z1,z2⟩:=lL (t:=a) h z.1;exact#[by cases m<;>first|rfl|exact z1,z2]
theorem zg:∀{K c x},x∈dR K c->dk x=true->mB K=true
 |[],c,x,h,_=>by simp[dR] at h
 |t::K,c,x,h,z=>by
  simp only[dR,aD,bx] at h;simp only[mB,dk,bp,cR,af,aO];rcases h with⟨y,h,rfl⟩|h
  .rw[iV,af] at z
   obtain⟨z1,z2⟩:=lL h z.1;exact#[#[z1,z.2],.inl z2]
  .split at h
   .rename_i n
    have:=zg h z;simp only[mB,dk,af] at this;exact#[#[gN n,this.1],.inr this.2]
   .simp at h
def Gn(t:Tr):Prop:=∃c x,x∈dF t c/\dk x=true
def Gm(t:Tr):Prop:=∃c x,x∈dF t c/\dk x=true/\Bc x<ml t
theorem oB:∀t,(live t=true->null t=false->Gm t)/\(sI t=true->Gn t)
 |.one k l=>by
  have:(!l.isEmpty)=true->Gm (.one k l):=λh=>by
   cases l with
   |nil=>simp at h
   |cons c l=>exact#[c,[],by simp[dF],rfl,by simp[Bc,ml]]
  exact#[λh _=>this h,λh=>by obtain⟨c,x,h1,h2,_⟩:=this h;exact#[c,x,h1,h2]]
 |.or a b=>by
  obtain⟨a1,a2⟩:=oB a;obtain⟨b1,b2⟩:=oB b;refine#[λh n=>?_,λh=>?_]
  .simp only[live,aO] at h
   simp only[null,Bool.or_eq_false_iff] at n;have La:live a=true->∃c x,x∈dF (.or a b) c/\dk x=true/\Bc x<ml a:=λz=>by
    obtain⟨c,x,h1,h2,h3⟩:=a1 z n.1;exact#[c,x,by simp only[dF,aD];exact .inl h1,h2,h3]
   have Lb:live b=true->∃c x,x∈dF (.or a b) c/\dk x=true/\Bc x<ml b:=λz=>by
    obtain⟨c,x,h1,h2,h3⟩:=b1 z n.2;exact#[c,x,by simp only[dF,aD];exact .inr h1,h2,h3]
   by_cases za:live a=true
   .by_cases zb:live b=true
    .by_cases q:ml a<=ml b
     .obtain⟨c,x,h1,h2,h3⟩:=La za
      exact#[c,x,h1,h2,by simp only[ml,if_pos za,if_pos zb];omega]
     .obtain⟨c,x,h1,h2,h3⟩:=Lb zb
      exact#[c,x,h1,h2,by simp only[ml,if_pos za,if_pos zb];omega]
    .obtain⟨c,x,h1,h2,h3⟩:=La za
     exact#[c,x,h1,h2,by simp only[ml,if_pos za,if_neg zb];exact h3]
   .obtain⟨c,x,h1,h2,h3⟩:=Lb (h.resolve_left za)
    exact#[c,x,h1,h2,by simp only[ml,if_neg za];exact h3]
  .simp only[sI,aO] at h
   rcases h with h|h
   .obtain⟨c,x,h1,h2⟩:=a2 h
    exact#[c,x,by simp only[dF,aD];exact .inl h1,h2]
   .obtain⟨c,x,h1,h2⟩:=b2 h
    exact#[c,x,by simp only[dF,aD];exact .inr h1,h2]
 |.row a b=>by
  obtain⟨a1,a2⟩:=oB a;obtain⟨b1,b2⟩:=oB b;have up:∀{c x},x∈dF a c->x++[b]∈dF (.row a b) c:=λ{c x}h=>by
   simp only[dF,aD,bx];exact .inl #[x,h,rfl]
  have ub:∀{c x},null a=true->x∈dF b c->x∈dF (.row a b) c:=λ{c x}n h=>by
   simp only[dF,aD,if_pos n];exact .inr h
  refine#[λh n=>?_,λh=>?_]
  .simp only[live,af] at h
   simp only[null] at n;by_cases na:null a=true
   .obtain⟨c,x,h1,h2,h3⟩:=b1 h.2 (by simpa[na] using n)
    exact#[c,x,ub na h1,h2,by simp only[ml];omega]
   .obtain⟨c,x,h1,h2,h3⟩:=a1 h.1 (by simpa using na)
    exact#[c,_,up h1,by rw[iV,vm,h2,h.2];rfl,by rw[Cr,PC];simp only[ml];omega]
  .simp only[sI,af,aO] at h
   obtain⟨⟨za,zb⟩,h⟩:=h;have one:Gn a->Gn (.row a b):=λ⟨c,x,h1,h2⟩=>#[c,_,up h1,by rw[iV,vm,h2,zb];rfl]
   rcases h with h|h
   .exact one (a2 h)
   .by_cases na:null a=true
    .obtain⟨c,x,h1,h2⟩:=b2 h
     exact#[c,x,ub na h1,h2]
    .obtain⟨c,x,h1,h2,_⟩:=a1 za (by simpa using na)
     exact one #[c,x,h1,h2]
 |.rep m a=>by
  obtain⟨a1,a2⟩:=oB a;have up:∀{c x},x∈dF a c->x++more m a∈dF (.rep m a) c:=λ{c x}h=>by
   simp only[dF,bx];exact#[x,h,rfl]
  refine#[λh n=>?_,λh=>?_]
  .cases m with
   |star=>simp[null] at n
   |may=>simp[null] at n
   |plus=>
    obtain⟨c,x,h1,h2,h3⟩:=a1 h n;exact#[c,_,up h1,by rw[iV,h2,rP.1];rfl,by rw[Cr,rP.2];exact h3]
  .obtain⟨c,x,h1,h2⟩:=a2 h
   exact#[c,_,up h1,by rw[iV,h2,rP.1];rfl]
theorem DH:∀{K},dk K=true->dq K=false->∃c x,x∈dR K c/\dk x=true/\Bc x<Bc K
 |[],_,n=>by simp[dq] at n
 |t::K,h,n=>by
  simp only[dk,bp,af] at h;simp only[dq,bp] at n;by_cases z:null t=true
  .obtain⟨c,x,h1,h2,h3⟩:=DH (K:=K) h.2 (by rw[z,qh] at n;exact n)
   refine#[c,x,by simp only[dR,aD,if_pos z];exact .inr h1,h2,?_];simp only[Bc,aF,mH] at h3 ⊢;omega
  .obtain⟨c,x,h1,h2,h3⟩:=(oB t).1 h.1 (by simpa using z)
   refine#[c,x++K,by simp only[dR,aD,bx];exact .inl #[x,h1,rfl],by rw[iV,h2];exact h.2,?_];rw[Cr]
   simp only[Bc,aF,mH] at h3 ⊢;omega
theorem DI:∀{K},mB K=true->∃c x,x∈dR K c/\dk x=true
 |[],h=>by simp[mB] at h
 |t::K,h=>by
  simp only[mB,dk,bp,cR,af,aO] at h;obtain⟨⟨h1,h2⟩,h⟩:=h;have one:Gn t->∃c x,x∈dR (t::K) c/\dk x=true:=λ⟨c,x,z1,z2⟩=>#[c,x++K,by simp only[dR,aD,bx];exact .inl #[x,z1,rfl],by rw[iV,z2];exact h2]
  rcases h with h|h
  .exact one ((oB t).2 h)
  .by_cases z:null t=true
   .obtain⟨c,x,z1,z2⟩:=DI (K:=K) (by rw[mB,dk,h2,h];rfl)
    exact#[c,x,by simp only[dR,aD,if_pos z];exact .inr z1,z2]
   .obtain⟨c,x,z1,z2,_⟩:=(oB t).1 h1 (by simpa using z)
    exact one #[c,x,z1,z2]
theorem vo:mB K=true↔∃c x,x∈dR K c/\dk x=true:=#[DI,λ⟨_,_,h1,h2⟩=>zg h1 h2]
end PL.jL
open PL.jL
local macro_rules | `(tactic| walk_at "qpk") => do let a:=((wN0++" Ww Yl Yp Yq Yr Ys Wz Yt Wl Yy BZ yP Vr Pz Xa Wm X6 Vg Wn getD_some Int.toNat_natCast Bool.false_eq_true if_false if_true Bool.not_true Bool.not_false").splitOn " ").toArray.map fun s=>Lean.mkIdent s.toName;`(tactic| simp only [$[$a:ident],*])
local macro_rules | `(tactic| walk_at "pk") => `(tactic| ((try refine Rest.go ?_); walk_at "qpk"; repeat ((refine Rest.go ?_); walk_at "qpk")))
namespace PL.jL
def AG:Spec:=λus S Q _=>∃b:Nat,us=[a9 b]/\b<2^100/\∀n S',Ext S S'->S.length<=n->S'[n]?=some (.lst ((rO b).map a9))->Q (.loc n) S'
theorem PD(Γ:bY):Keeps Γ oY 0 AG:=by
 rintro us S Q E ⟨b,rfl,hb,q⟩;unfold oY;room;have hl:=bits_le hb;refine#[∅,∅,∅,?_];refine xK (S:=S) _ (λu=>match u with|.int i=>b.testBit i.toNat|_=>false) id trivial (by simp;omega) (λu k hu h=>?_) (λu k _ _ h=>h) ?_
 .obtain⟨p,_,rfl⟩:=bx.mp hu
  room;rw[To]
  cases z:b.testBit p with
  |true=>exact h.1 z
  |false=>exact h.2 z
 .refine q _ _ (Ext.app _) (ax _) ?_
  have:((cx (sA b)).map λk=>U.int (k:Nat)).filter (λu=>match u with|.int i=>b.testBit i.toNat|_=>false)=(rO b).map a9:=by
   rw[List.filter_map];rfl
  rw[List.map_id,this];simp
noncomputable def Jv(e:Bool)(F Z:Nat):SO:=.ins "Part" [("empty",.bl e),("firsts",a9 F),("lasts",a9 Z)]
section
variable{S:bI}{p F Z:Nat}{e:Bool}{r:U->Prop}(h:S[p]?=some (Jv e F Z))
include h
theorem E7:jA (.loc p) "empty" S r=r (.bl e):=by rw[d6,h];rfl
theorem AH:jA (.loc p) "firsts" S r=r (a9 F):=by rw[d6,h];rfl
theorem AI:jA (.loc p) "lasts" S r=r (a9 Z):=by rw[d6,h];rfl
end
def zh:Spec:=λus S Q _=>∃p e F Z,us=[.loc p,.bl e,a9 F,a9 Z]/\S[p]?=some (.ins "Part" [])/\Q .bK (S.set p (Jv e F Z))
theorem Tp(Γ:bY):Keeps Γ ly 0 zh:=by
 rintro us S Q E ⟨p,e,F,Z,rfl,h,q⟩;unfold ly;room;rw[h]
 simp only[aZ];refine#[by simp,?_];have g1:=gs (o':=SO.ins "Part" (dZ "empty" (U.bl e) [])) h;room;rw[g1]
 simp only[aZ];refine#[by simp[dZ],?_];have g2:=gs (o':=SO.ins "Part" (dZ "firsts" (a9 F) (dZ "empty" (U.bl e) []))) g1;room;rw[g2]
 simp only[aZ];refine#[by simp[dZ],?_];room;rw[sf,sf]
 exact q
theorem pJ{Γ:bY}(h1:Γ "Part.__init__"=zh){e:Bool}{F Z:Nat}{S:bI}{R:KU}{E:KX}(q:∀S',Ext S S'->S'[S.length]?=some (Jv e F Z)->R .bK S'):
  Γ "Part.__init__" [.loc S.length,.bl e,a9 F,a9 Z] (S++[.ins "Part" []]) R E:=by
 have g:(S++[SO.ins "Part" []])[S.length]?=some (.ins "Part" []):=by simp
 refine ca h1 #[S.length,e,F,Z,rfl,g,q _ #[by simp,λn hn=>?_] (gs g)];rw[av ∅,ao hn]
def qb(f:Bool->Nat->Nat->Bool->Nat->Nat->Bool×Nat×Nat):Spec:=λus S Q _=>∃p1 e1 F1 Z1 p2 e2 F2 Z2,us=[.loc p1,.loc p2]/\S[p1]?=some (Jv e1 F1 Z1)/\S[p2]?=some (Jv e2 F2 Z2) /\
 ∀S',Ext S S'->S'[S.length]?=some (Jv (f e1 F1 Z1 e2 F2 Z2).1 (f e1 F1 Z1 e2 F2 Z2).2.1 (f e1 F1 Z1 e2 F2 Z2).2.2)->Q (.loc S.length) S'
noncomputable def rQ(e1:Bool)(F1 Z1:Nat)(e2:Bool)(F2 Z2:Nat):Bool×Nat×Nat:=(e1&&e2,if e1 then F1|||F2 else F1,if e2 then Z1|||Z2 else Z2)
noncomputable def Tq(e1:Bool)(F1 Z1:Nat)(e2:Bool)(F2 Z2:Nat):Bool×Nat×Nat:=(e1||e2,F1|||F2,Z1|||Z2)
theorem PF(Γ:bY)(h1:Γ "Part.__init__"=zh):Keeps Γ fB 2 (qb rQ):=by
 rintro us S Q E ⟨p1,e1,F1,Z1,p2,e2,F2,Z2,rfl,g1,g2,q⟩;unfold fB;room;cases e1<;>cases e2<;>(repeat first|room|simp only[E7 g1,E7 g2,AH g1,AH g2,AI g1,AI g2])
 .exact pJ h1 λS' x g=>#[rfl,q S' x g]
 .exact pJ h1 λS' x g=>#[rfl,q S' x g]
 .exact pJ h1 λS' x g=>#[rfl,q S' x g]
 .exact pJ h1 λS' x g=>#[rfl,q S' x g]
theorem Ts(Γ:bY)(h1:Γ "Part.__init__"=zh):Keeps Γ iP 0 (qb Tq):=by
 rintro us S Q E ⟨p1,e1,F1,Z1,p2,e2,F2,Z2,rfl,g1,g2,q⟩;unfold iP;cases e1<;>(repeat first|room|simp only[E7 g1,E7 g2,AH g1,AH g2,AI g1,AI g2])
 .exact pJ h1 λS' x g=>#[rfl,q S' x g]
 .exact pJ h1 λS' x g=>#[rfl,q S' x g]
structure qK(S:bI)(L:Nat)(sg:List (List Nat))(bh en:List Nat):Prop where
 o:S[L]?=some (.ins "Layout" [("signs",.loc (L+1)),("behind",.loc (L+2)),("ends",.loc (L+3))])
 s:S[L+1]?=some (.lst (sg.map .str))
 b:S[L+2]?=some (.lst (bh.map a9))
 e:S[L+3]?=some (.lst (en.map a9))
def Fr(L:Nat)(S S':bI):Prop:=S.length<=S'.length/\∀n,n<S.length->n<=L\/L+4<=n->S'[n]?=S[n]?
section
variable{S S1 S2:bI}{L:Nat}{sg:List (List Nat)}{bh en:List Nat}{r:U->Prop}{q:KU}
theorem Fr.refl:Fr L S S:=#[ax _,λ_ _ _=>rfl]
theorem Fr.trans(a:Fr L S S1)(b:Fr L S1 S2):Fr L S S2:=#[aS a.1 b.1,λn h z=>(b.2 n (aM h a.1) z).trans (a.2 n h z)]
theorem Ext.fr(a:Ext S S1):Fr L S S1:=#[a.1,λn h _=>a.2 n h]
theorem Fr.get(a:Fr L S S1){n:Nat}{o:SO}(h:S[n]?=some o)(z:L+4<=n):S1[n]?=some o:=(a.2 n (bF h) (.inr z)).trans h
theorem Fr.set(a:Fr L S S1){n:Nat}{o:SO}(h1:L<n)(h2:n<L+4):Fr L S (S1.set n o):=#[by rw[cY];exact a.1,λm h z=>by rw[av ∅];exact a.2 m h z]
variable(h:qK S L sg bh en)
include h
theorem qK.ext(x:Ext S S1):qK S1 L sg bh en:=#[x.get h.o,x.get h.s,x.get h.b,x.get h.e]
theorem qK.len:L+4<=S.length:=bF h.e
theorem IA:jA (.loc L) "signs" S r=r (.loc (L+1)):=by rw[d6,h.o];rfl
theorem IB:jA (.loc L) "behind" S r=r (.loc (L+2)):=by rw[d6,h.o];rfl
theorem PH:jA (.loc L) "ends" S r=r (.loc (L+3)):=by rw[d6,h.o];rfl
theorem qK.Xb:qK (S.set (L+1) (.lst (sg'.map .str))) L sg' bh en:=
 #[by rw[av ∅];exact h.o,gs h.s,by rw[av ∅];exact h.b,by rw[av ∅];exact h.e]
theorem qK.setB:qK (S.set (L+2) (.lst (bh'.map a9))) L sg bh' en:=
 #[by rw[av ∅];exact h.o,by rw[av ∅];exact h.s,gs h.b,by rw[av ∅];exact h.e]
theorem qK.Xc:qK (S.set (L+3) (.lst (en'.map a9))) L sg bh en':=
 #[by rw[av ∅];exact h.o,by rw[av ∅];exact h.s,by rw[av ∅];exact h.b,gs h.e]
end
def PJ:Spec:=λus S Q _=>∃L,us=[.loc L]/\S[L]?=some (.ins "Layout" [])/\S.length=L+1/\∀S',(∀n,n<L->S'[n]?=S[n]?)->qK S' L [[]] [0] []->Q .bK S'
theorem Tt(Γ:bY):Keeps Γ jm 0 PJ:=by
 rintro us S Q E ⟨L,rfl,h,hl,q⟩;unfold jm;room;refine#[by simp,?_];have g0:(S++[SO.lst [U.str []]])[L]?=some (.ins "Layout" []):=by rw[ao ∅];exact h
 rw[g0]
 simp only[aZ];refine#[by simp,?_];have g1:=gs (o':=SO.ins "Layout" (dZ "signs" (U.loc S.length) [])) g0;room;refine#[by simp,?_];rw[ao (by simp;omega),g1]
 simp only[aZ];refine#[by simp[dZ],?_];room;refine#[by simp,?_];rw[ao (by simp;omega),gs (by rw[ao (by simp;omega)];exact g1)]
 simp only[aZ];refine#[by simp[dZ],?_];room;refine q _ (λn hn=>?_) #[?_,?_,?_,?_]
 .simp[gR,i4,hl,kJ hn,cK hn,cK (cK hn),cK (cK (cK hn))]
 .rw[bU (by simp;omega)]
  simp[dZ,hl]
 .rw[av ∅]
  simp[gR,i4,hl]
 .rw[av ∅]
  simp[gR,i4,hl]
 .rw[av ∅]
  simp[gR,i4,hl]
def PK:Spec:=λus S Q _=>∃L sg bh en,us=[.loc L]/\qK S L sg bh en/\sg.length<=1000/\Q (.int (sg.length-1:Int)) S
theorem Tv(Γ:bY):Keeps Γ fW 0 PK:=by
 rintro us S Q E ⟨L,sg,bh,en,rfl,h,hl,q⟩;unfold fW;room;rw[IA h,uI h.s]
 simp only[aP,aq];exact#[∅,q]
theorem tL{l:List Nat}{k B:Nat}{r:U->Prop}(h:l[k]?=some B)(z:r (a9 B)):opt ((l.map a9)[k]?) r:=by
 rw[ar,h];exact z
def PM:Spec:=λus S Q _=>∃L sg bh en p e F Z B bt,us=[.loc L,.loc p]/\qK S L sg bh en/\bh=B::bt/\S[p]?=some (Jv e F Z)/\L+4<=p/\en.length<=1000/\∀S',Fr L S S'->qK S' L sg ((B|||F)::bt) (en++[Z])->Q .bK S'
theorem Tw(Γ:bY):Keeps Γ eS 0 PM:=by
 rintro us S Q E ⟨L,sg,bh,en,p,e,F,Z,B,bt,rfl,h,rfl,hp,pl,hn,q⟩;unfold eS;room;rw[IB h]
 room;rw[h.b]
 simp only[aG];refine#[Int.le_refl _,?_];simp only[Int.toNat_zero];refine tL (B:=B) rfl ?_;rw[AH hp]
 room;rw[h.b]
 simp only[aG];refine#[by simp,?_];have h1:=h.setB (bh':=(B|||F)::bt);have e1:(cQ a9 (B::bt)).set 0 (U.int ((B|||F:Nat):Int))=cQ a9 ((B|||F)::bt):=by simp
 rw[e1]
 have f1:=(Fr.refl (L:=L) (S:=S)).set (n:=L+2) (o:=.lst (cQ a9 ((B|||F)::bt))) ∅ ∅;have hp1:=f1.get hp pl;generalize S.set (L+2) (.lst (cQ a9 ((B|||F)::bt)))=S1 at h1 f1 hp1;room;rw[PH h1]
 room;rw[h1.e]
 simp only[aG];room;rw[AI hp1]
 refine#[by simp;omega,?_];room;have e2:cQ a9 en++[a9 Z]=cQ a9 (en++[Z]):=by simp
 rw[e2]
 exact q _ (f1.set ∅ ∅) h1.Xc
def Tz(Z F:Nat)(bh bh':List Nat):Prop:=bh'.length=bh.length/\∀(q B:Nat),bh[q]?=some B->∃B',bh'[q]?=some B'/\∀r,B'.testBit r=(B.testBit r||(Z.testBit q&&F.testBit r))
def IC:Spec:=λus S Q _=>∃L sg bh en Z F,us=[.loc L,a9 Z,a9 F]/\qK S L sg bh en/\bh.length<=100/\(∀p,Z.testBit p=true->p<bh.length)/\∀S' bh',Fr L S S'->qK S' L sg bh' en->Tz Z F bh bh'->Q .bK S'
theorem TB(Γ:bY)(h1:Γ "members"=AG):Keeps Γ jo 1 IC:=by
 rintro us S Q E ⟨L,sg,bh,en,Z,F,rfl,h,hl,hz,q⟩;unfold jo;room;refine ca h1 #[Z,rfl,aM (kD hz) (bB ∅ hl),λn S1 x1 hn g1=>?_];room;rw[g1]
 simp only[aG];have hln:=h.len;refine d9 (λi env S2=>∃bh2 x3,env=[some (.loc L),some (a9 Z),some (a9 F),x3]/\Fr L S1 S2/\qK S2 L sg bh2 en/\bh2.length=bh.length/\∀(q B:Nat),bh[q]?=some B->∃B',bh2[q]?=some B'/\∀r,B'.testBit r=(B.testBit r||(decide (q∈(rO Z).take i)&&F.testBit r)))
  (λi env S2 #[_,_,_,f,_]=>f.get g1 ∅) _ ?_ ?_ #[bh,none,rfl,.refl,h.ext x1,rfl,λq B e=>#[B,e,λr=>by simp]]
 .rintro i u env S2 K hu ⟨bh2,x3,rfl,f2,h2,l2,inv⟩ hK
  rw[ar] at hu;obtain⟨p,hp,rfl⟩:=ag.mp hu;have pz:=kE.mp (aw hp);have pl:=hz p pz;obtain⟨B',e',b'⟩:=inv p _ (aa pl);room;rw[IB h2]
  room;rw[h2.b]
  simp only[aG];refine#[∅,tL e' ?_];room;rw[h2.b]
  simp only[aG];refine#[by simp;omega,?_];have ee:(cQ a9 bh2).set p (U.int ((B'|||F:Nat):Int))=cQ a9 (bh2.set p (B'|||F)):=by rw[List.map_set]
  rw[ee]
  room;refine hK _ _ #[_,_,rfl,f2.set ∅ ∅,h2.setB,by simp[l2],λq B e=>?_];have et:(rO Z).take (i+1)=(rO Z).take i++[p]:=by rw[cf,hp];rfl
  rw[et]
  by_cases z:q=p
  .subst z
   rw[aa pl] at e;injection e with e;subst e
   refine#[B'|||F,by rw[bU ∅],λr=>?_];rw[cB,b']
   simp only[aD,fP,or_true,decide_true,qh];cases bh[q].testBit r<;>cases F.testBit r<;>simp
  .obtain⟨B2,e2,b2⟩:=inv q B e
   refine#[B2,by rw[av (dJ z)];exact e2,λr=>?_];rw[b2]
   simp[z]
 .rintro env S2 ⟨bh2,x3,rfl,f2,h2,l2,inv⟩
  room;refine q _ _ (Ext.fr x1 |>.trans f2) h2 #[l2,λq B e=>?_];obtain⟨B',e',b'⟩:=inv q B e;refine#[B',e',λr=>?_];rw[b',aq,b9]
  congr 2
  by_cases z:Z.testBit q=true
  .rw[z];exact decide_eq_true (kE.mpr z)
  .rw[fu _ |>.mp z];exact decide_eq_false λm=>z (kE.mp m)
structure sZ(t:Tr)(bh:List Nat)(F Z:Nat)(bh':List Nat):Prop where
 f:∀p,F.testBit p=FS t p
 z:∀p,Z.testBit p=(IN t p&&dq (cont t p))
 len:bh'.length=bh.length+size t
 old:∀q,q<bh.length->bh'[q]?=bh[q]?
 new:∀q,IN t q=true->∃B:Nat,bh'[q]?=some B/\∀p,B.testBit p=nB (cont t q) p
def hU(D:Tr->U->Prop):Spec:=λus S Q _=>∃L sg bh en t u,us=[.loc L,u]/\D t u/\qK S L sg bh en/\nN sg.length t/\bh.length=sg.length/\sg.length+size t<=100 /\
 ∀S' p F Z bh',Fr L S S'->L+4<=p->S'[p]?=some (Jv (null t) F Z)->qK S' L (sg++oy t) bh' en->sZ t bh F Z bh'->Q (.loc p) S'
theorem qL:(1<<<n).testBit p=(p==n):=by
 rw[sR,Nat.testBit_two_pow]
 by_cases z:n=p
 .subst z;simp
 .rw[decide_eq_false z]
  have:¬p=n:=λe=>z e.symm
  simp[this]
theorem TC(Γ:bY)(h1:Γ "Part.__init__"=zh):Keeps Γ fD 1 (hU λt u=>∃n l,t=.one n l/\u=.str l):=by
 rintro us S Q E ⟨L,sg,bh,en,t,u,rfl,⟨n,l,rfl,rfl⟩,h,hp,hb,hl,q⟩;have hp:n=sg.length:=hp;subst hp;have hl:sg.length+1<=100:=hl;unfold fD;room;rw[IA h,uI h.s]
 simp only[aP,aq,Pz];refine#[∅,∅,?_];room;rw[IA h]
 room;rw[h.s]
 simp only[aG,true_and];refine#[by simp;omega,?_];have e1:cQ U.str sg++[U.str l]=cQ U.str (sg++[l]):=by simp
 rw[e1]
 have h2:=h.Xb (sg':=sg++[l]);have f2:=(Fr.refl (L:=L) (S:=S)).set (n:=L+1) (o:=.lst (cQ U.str (sg++[l]))) ∅ ∅;generalize S.set (L+1) (.lst (cQ U.str (sg++[l])))=S2 at h2 f2;room;rw[IB h2]
 room;rw[h2.b]
 simp only[aG,true_and];refine#[by simp;omega,?_];have e2:cQ a9 bh++[U.int 0]=cQ a9 (bh++[0]):=by simp
 rw[e2]
 have h3:=h2.setB (bh':=bh++[0]);have f3:=f2.set (n:=L+2) (o:=.lst (cQ a9 (bh++[0]))) ∅ ∅;generalize S2.set (L+2) (.lst (cQ a9 (bh++[0])))=S3 at h3 f3;room;refine pJ h1 λS4 x4 g4=>#[rfl,?_]
 have:=h3.len;refine q S4 _ _ _ _ (f3.trans (Ext.fr x4)) ∅ g4 (h3.ext x4) #[λp=>qL,λp=>?_,by simp[size],λq hq=>ao hq,λq hq=>?_]
 .rw[qL];simp[IN,cont,dq]
 .have:q=sg.length:=by simpa[IN] using hq
  subst this;refine#[0,by rw[ay ∅,hb];simp,λp=>by simp[cont,nB]]
def Tu(d:Nat)(t:Tr)(u:U):Prop:=bG t<d/\u=enc t
noncomputable def TF:dh:=#v[.set 4 (.cu "Layout" "lay" "Layout.lay" @0 #v[@3]),.ex (.cu "Layout" "link" "Layout.link" @0 #v[.fld @2 "lasts",.fld @4 "firsts"]),.set 2 (.call "one_behind_other" #v[@2,@4])]
theorem AJ(Γ:bY)(h2:Γ "Layout.lay"=hU (Tu d))(h3:Γ "Layout.link"=IC)(h4:Γ "one_behind_other"=qb rQ)
  (da:bG a<d) (h:qK S L sg bh en) (hp:nN sg.length a) (hb:bh.length=sg.length) (hl:sg.length+size a<=100) (g:S[pw]?=some (Jv e0 F0 Z0)) (pl:L+4<=pw) (hz:∀p,Z0.testBit p=true->p<bh.length)
  (q:∀S' p F Z bh1 bh2 x,Fr L S S'->L+4<=p->S'[p]?=some (Jv (rQ e0 F0 Z0 (null a) F Z).1 (rQ e0 F0 Z0 (null a) F Z).2.1 (rQ e0 F0 Z0 (null a) F Z).2.2)->qK S' L (sg++oy a) bh2 en->sZ a bh F Z bh1->Tz Z0 F bh1 bh2 ->
   D.nx [some (.loc L),some v1,some (.loc p),some (enc a),x] S'):Rest Γ TF D [some (.loc L),some v1,some (.loc pw),some (enc a),x4] S:=by
 unfold TF;room;rw[h.o,aZ]
 refine#[#[rfl,rfl],?_];refine ca h2 #[L,sg,bh,en,a,_,rfl,#[da,rfl],h,hp,hb,hl,λS1 p F Z bh1 f1 pl1 g1 la1 r1=>?_];have g0:=f1.get g pl;room;rw[la1.o,aZ]
 refine#[#[rfl,rfl],?_];rw[AI g0,AH g1]
 refine ca h3 #[L,_,bh1,en,Z0,F,rfl,la1,by rw[r1.len];omega,λp hp=>by rw[r1.len];have:=hz p hp;omega,λS2 bh2 f2 la2 lk=>?_];room;refine ca h4 #[pw,e0,F0,Z0,p,null a,F,Z,rfl,f2.get g0 pl,f2.get g1 pl1,λS3 x3 g3=>?_];room;have:=la2.len;exact q _ _ F Z bh1 bh2 _ ((f1.trans f2).trans (Ext.fr x3)) ∅ g3 (la2.ext x3) r1 lk
theorem TH:rQ true 0 0 e F Z=(e,F,Z):=by
 unfold rQ;rw[vE,vE]
 cases e<;>rfl
theorem Xd:Tq false 0 0 e F Z=(e,F,Z):=by
 unfold Tq;rw[vE,vE];rfl
theorem LP(hp:nN n a/\nN (n+size a) b)(hb:bh.length=n)(ra:sZ a bh Fa Za bh1)(lk2:Tz 0 Fa bh1 bh2)(rb:sZ b bh2 Fb Zb bh3)(lk4:Tz Za Fb bh3 bh4):
  sZ (.row a b) bh (rQ (null a) Fa Za (null b) Fb Zb).2.1 (rQ (null a) Fa Za (null b) Fb Zb).2.2 bh4:=by
 have l1:=ra.len;have l2:=rb.len;have l3:=lk2.1;have l4:=lk4.1;have e12:∀q,q<bh1.length->bh2[q]?=bh1[q]?:=λq hq=>by
  obtain⟨B',e1,e2⟩:=lk2.2 q _ (aa hq);rw[e1,aa hq]
  congr 1
  exact jT λr=>by simp[e2]
 have e14:∀q B,q<bh1.length->bh1[q]?=some B->∃B',bh4[q]?=some B'/\∀r,B'.testBit r=(B.testBit r||(Za.testBit q&&Fb.testBit r)):=λq B hq e=>lk4.2 q B (by rw[rb.old q ∅,e12 q hq];exact e)
 refine#[λp=>?_,λp=>?_,by simp only[size];omega,λq hq=>?_,λq hq=>?_]
 .simp only[rQ,FS]
  cases null a<;>simp[cB,ra.f,rb.f]
 .simp only[rQ,IN,cont]
  by_cases z:IN a p=true
  .have z2:IN b p=false:=by
    cases e:IN b p with
    |false=>rfl
    |true=>exact absurd z (fN hp e)
   have nb:dq [b]=null b:=by simp[dq]
   simp only[vi,nb,if_pos z];cases null b<;>simp[cB,ra.z,rb.z,z,z2]
  .have z:IN a p=false:=by simpa using z
   cases null b<;>simp[cB,ra.z,rb.z,z]
 .obtain⟨B',h1,h2⟩:=e14 q _ ∅ ((ra.old q hq).trans (aa hq))
  rw[h1,aa hq]
  congr 1
  refine jT λr=>?_
  have:IN a q=false:=by
   cases e:IN a q with
   |false=>rfl
   |true=>have:=(eI hp.1).mp e;omega
  rw[h2,ra.z,this];simp
 .by_cases z:IN a q=true
  .obtain⟨B,h1,h2⟩:=ra.new q z
   have:=(eI hp.1).mp z;obtain⟨B',h3,h4⟩:=e14 q B ∅ h1;refine#[B',h3,λp=>?_];have ec:cont (.row a b) q=cont a q++[b]:=by simp only[cont,if_pos z]
   rw[ec,lK,h4,h2,ra.z,rb.f,z]
   simp[nB]
  .have z2:IN b q=true:=by simpa[IN,z] using hq
   obtain⟨B,h1,h2⟩:=rb.new q z2;obtain⟨B',h3,h4⟩:=lk4.2 q B h1;refine#[B',h3,λp=>?_];have z:IN a q=false:=by simpa using z
   rw[h4,ra.z,z,h2]
   simp[cont,z]
theorem TJ(Γ:bY)(d:Nat)(h1:Γ "Part.__init__"=zh)(h2:Γ "Layout.lay"=hU (Tu d))(h3:Γ "Layout.link"=IC)(h4:Γ "one_behind_other"=qb rQ):
  Keeps Γ gH 3 (hU λt u=>∃a b,t=.row a b/\bG a<d/\bG b<d/\u=.tup [enc a,enc b]):=by
 rintro us S Q E ⟨L,sg,bh,en,t,u,rfl,⟨a,b,rfl,da,db,rfl⟩,h,hp,hb,hl,q⟩;have hl:sg.length+(size a+size b)<=100:=hl;have hp:nN sg.length a/\nN (sg.length+size a) b:=hp;have ll:=gM a;unfold gH;room;refine pJ h1 (F:=0) (Z:=0) λS1 x1 g1=>#[rfl,?_]
 have p1:L+4<=S.length:=h.len;have h':=h.ext x1;generalize S.length=pw at g1 p1;room;refine#[by simp,?_];simp only[uE];refine#[trivial,AJ Γ h2 h3 h4 da h' hp.1 hb ∅ g1 p1 (by simp) λS2 p2 Fa Za bh1 bh2 x f2 pl2 g2 la2 ra lk2=>?_];rw[TH] at g2;refine#[trivial,AJ Γ h2 h3 h4 db la2 (by rw[aB,ll];exact hp.2) (by rw[lk2.1,ra.len,hb];simp[ll]) (by simp;omega) g2 pl2 (λp hp'=>?_) λS3 p3 Fb Zb bh3 bh4 x' f3 pl3 g3 la3 rb lk4=>#[trivial,?_]]
 .rw[ra.z,af] at hp'
  have:=(eI hp.1).mp hp'.1;rw[lk2.1,ra.len];omega
 .room
  exact q _ _ _ _ _ ((Ext.fr x1 |>.trans f2).trans f3) pl3 g3 (by rw[bj] at la3;exact la3) (LP hp hb ra lk2 rb lk4)
theorem PN(hp:nN n a/\nN (n+size a) b)(hb:bh.length=n)(ra:sZ a bh Fa Za bh1)(rb:sZ b bh1 Fb Zb bh2):sZ (.or a b) bh (Fa|||Fb) (Za|||Zb) bh2:=by
 have l1:=ra.len;have l2:=rb.len;refine#[λp=>by rw[cB,ra.f,rb.f];rfl,λp=>?_,by simp only[size];omega,λq hq=>(rb.old q ∅).trans (ra.old q hq),λq hq=>?_]
 .rw[cB,ra.z,rb.z]
  simp only[IN,cont];by_cases z:IN a p=true
  .have z2:IN b p=false:=by
    cases e:IN b p with
    |false=>rfl
    |true=>exact absurd z (fN hp e)
   simp[z,z2]
  .have z:IN a p=false:=by simpa using z
   simp[z]
 .by_cases z:IN a q=true
  .obtain⟨B,h1,h2⟩:=ra.new q z
   have:=(eI hp.1).mp z;exact#[B,(rb.old q ∅).trans h1,λp=>by rw[h2];simp[cont,z]]
  .have z2:IN b q=true:=by simpa[IN,z] using hq
   obtain⟨B,h1,h2⟩:=rb.new q z2;exact#[B,h1,λp=>by rw[h2];simp[cont,z]]
theorem TK(Γ:bY)(d:Nat)(h1:Γ "Part.__init__"=zh)(h2:Γ "Layout.lay"=hU (Tu d))(h4:Γ "one_or_other"=qb Tq):
  Keeps Γ eT 2 (hU λt u=>∃a b,t=.or a b/\bG a<d/\bG b<d/\u=.tup [enc a,enc b]):=by
 rintro us S Q E ⟨L,sg,bh,en,t,u,rfl,⟨a,b,rfl,da,db,rfl⟩,h,hp,hb,hl,q⟩;have hl:sg.length+(size a+size b)<=100:=hl;have hp:nN sg.length a/\nN (sg.length+size a) b:=hp;have ll:=gM a;unfold eT;room;refine pJ h1 (F:=0) (Z:=0) λS1 x1 g1=>#[rfl,?_]
 have p1:L+4<=S.length:=h.len;have h':=h.ext x1;generalize S.length=pw at g1 p1;room;refine#[by simp,?_];simp only[uE];refine#[trivial,?_];room;rw[h'.o,aZ]
 refine#[#[rfl,rfl],?_];refine ca h2 #[L,sg,bh,en,a,_,rfl,#[da,rfl],h',hp.1,hb,∅,λS2 p2 Fa Za bh1 f2 pl2 g2 la2 ra=>?_];refine ca h4 #[pw,_,_,_,p2,_,_,_,rfl,f2.get g1 p1,g2,λS3 x3 g3=>?_];rw[Xd] at g3;have la3:=la2.ext x3;have p3:=la2.len;generalize S2.length=p3' at g3 p3;room;rw[la3.o,aZ]
 refine#[#[rfl,rfl],?_];refine ca h2 #[L,_,bh1,en,b,_,rfl,#[db,rfl],la3,by rw[aB,ll];exact hp.2,by rw[ra.len,hb];simp[ll],by simp;omega,λS4 p4 Fb Zb bh2 f4 pl4 g4 la4 rb=>?_];refine ca h4 #[p3',_,_,_,p4,_,_,_,rfl,f4.get g3 p3,g4,λS5 x5 g5=>?_];have p5:=la4.len;room;exact q _ _ _ _ _ (((((Ext.fr x1).trans f2).trans (Ext.fr x3)).trans f4).trans (Ext.fr x5)) p5 g5 (by have:=la4.ext x5;rw[bj] at this;exact this) (PN hp hb ra rb)
noncomputable def E8:Mk->Bool
 |.may=>false
 |_=>true
noncomputable def E9:Mk->Bool
 |.plus=>false
 |_=>true
structure MT(t:Tr)(ms:List Mk)(a:Tr):Prop where
 fs:∀p,FS t p=FS a p
 nl:null t=(null a||ms.any E9)
 Xe:∀p,IN t p=IN a p
 ct:∀p,∃R,cont t p=cont a p++R/\dq R=true/\∀r,nB R r=(ms.any E8&&FS a r)
 sz:size t=size a
 lv:oy t=oy a
 pl:∀n,nN n t->nN n a
theorem MT.zero(t:Tr):MT t [] t:=#[λ_=>rfl,by simp,λ_=>rfl,λp=>#[[],by simp,rfl,λr=>by simp[nB]],rfl,rfl,λ_ h=>h]
theorem MT.next(h:MT t ms (.rep m a)):MT t (ms++[m]) a:=by
 refine#[h.fs,?_,h.Xe,λp=>?_,h.sz,h.lv,h.pl]
 .rw[h.nl]
  cases m<;>simp[null,E9]
 .obtain⟨R,h1,h2,h3⟩:=h.ct p
  refine#[more m a++R,by rw[h1];simp[cont],?_,λr=>?_]
  .rw[vi,h2];cases m<;>simp[more,dq,null]
  .rw[lK,h3]
   cases m<;>simp[more,nB,FS,dq,null,E8]
theorem DJ(k:MT t ms a)(hp:nN n a)(hb:bh.length=n)(ra:sZ a bh F Z bh1)
  (lk:if ms.any E8=true then Tz Z F bh1 bh2 else bh2=bh1):sZ t bh F Z bh2:=by
 have eZ:∀p,dq (cont t p)=dq (cont a p):=λp=>by
  obtain⟨R,h1,h2,_⟩:=k.ct p;rw[h1,vi,h2,mG]
 have l1:=ra.len;have key:∀(q B:Nat),bh1[q]?=some B->∃B',bh2[q]?=some B'/\∀r,B'.testBit r=(B.testBit r||(ms.any E8&&(Z.testBit q&&F.testBit r))):=λq B e=>by
  split at lk
  .rename_i z
   obtain⟨B',e1,e2⟩:=lk.2 q B e;exact#[B',e1,λr=>by rw[e2,z,qh]]
  .rename_i z
   subst lk;exact#[B,e,λr=>by simp[fu _ |>.mp z]]
 have l2:bh2.length=bh1.length:=by
  split at lk
  .exact lk.1
  .rw[lk]
 refine#[λp=>by rw[ra.f,k.fs],λp=>by rw[ra.z,k.Xe,eZ],by rw[l2,l1,k.sz],λq hq=>?_,λq hq=>?_]
 .obtain⟨B',h1,h2⟩:=key q _ ((ra.old q hq).trans (aa hq))
  rw[h1,aa hq]
  congr 1
  refine jT λr=>?_
  have:IN a q=false:=by
   cases e:IN a q with
   |false=>rfl
   |true=>have:=(eI hp).mp e;omega
  rw[h2,ra.z,this];simp
 .rw[k.Xe] at hq
  obtain⟨B,h1,h2⟩:=ra.new q hq;obtain⟨B',h3,h4⟩:=key q B h1;refine#[B',h3,λp=>?_];obtain⟨R,e1,e2,e3⟩:=k.ct q;rw[h4,h2,e1,lK,e3,ra.z,ra.f,hq,qh]
  cases nB (cont a q) p<;>cases dq (cont a q)<;>cases FS a p<;>simp
theorem Yz:qw (.str k) [.str kC,.str ow,.str jM] q=q (kC==k||(ow==k||jM==k)):=by
 have:=anyS (a:=k) (l:=[kC,ow,jM]) (q:=q);simpa using this
theorem ID(ms:List Mk)(a b:List Nat):(ms.any λm=>nj m==a||nj m==b)=(((ms.map nj).any (·==a))||((ms.map nj).any (·==b))):=by
 induction ms with
 |nil=>rfl
 |cons m ms ih=>
  rw[cR,aF,cR,cR,ih]
  cases (nj m==a)<;>cases (nj m==b)<;>simp
theorem PQ(ms:List Mk):ms.any E8=(((ms.map nj).any (·==kC))||((ms.map nj).any (·==ow))):=by
 rw[<-ID]
 congr 1;funext m
 cases m<;>rfl
theorem PU(ms:List Mk):ms.any E9=(((ms.map nj).any (·==kC))||((ms.map nj).any (·==jM))):=by
 rw[<-ID]
 congr 1;funext m
 cases m<;>rfl
theorem LQ(m:Mk):(kC==nj m||(ow==nj m||jM==nj m))=true:=by cases m<;>rfl
noncomputable def Vs:dh:=#v[.set 5 (.or (.fld @4 "empty") (.or (.cmp .isin ↑[115,116,97,114] @2) (.cmp .isin ↑[109,97,121,98,101] @2))),.ret (.mk "Part" "Part.__init__" #v[@5,.fld @4 "firsts",.fld @4 "lasts"])]
noncomputable def Xf:dh:=#v[.ex (.cu "Layout" "link" "Layout.link" @0 #v[.fld @4 "lasts",.fld @4 "firsts"])]
noncomputable def Xg:dh:=(.cons (.set 4 (.cu "Layout" "lay" "Layout.lay" @0 #v[@3])) (.cons (.ifs (.or (.cg (.cmp .isin ↑[115,116,97,114] @2)) (.cg (.cmp .isin ↑[112,108,117,115] @2))) Xf .nil) Vs))
theorem TL(Γ:bY)(d:Nat)(hd:d<=100)(h1:Γ "Part.__init__"=zh)(h2:Γ "Layout.lay"=hU (Tu d))(h3:Γ "Layout.link"=IC):
  Keeps Γ eU 4 (hU λt u=>∃m a,t=.rep m a/\bG a<d/\u=enc t):=by
 rintro us S Q E ⟨L,sg,bh,en,t,u,rfl,⟨m0,a0,et,da,rfl⟩,h,hp,hb,hl,q⟩;have sl:=h.len;have fin:∀(ms:List Mk)(a:Tr)(S2:bI),MT t ms a->bG a<d->(∀n,n<S.length->S2[n]?=S[n]?)->S2[S.length]?=some (.lst (ms.map λm=>U.str (nj m)))->Rest Γ Xg #[λ_ S1=>Q .bK S1,Q,λ_=>E] [some (.loc L),some (enc t),some (.loc S.length),some (enc a),none,none] S2:=by
  intro ms a S2 mk da e2 g2;have x2:Ext S S2:=#[sP (bF g2),e2]
  have la:=h.ext x2;have sz:=mk.sz;have hpa:=mk.pl _ hp;unfold Xg;room;rw[la.o,aZ]
  refine#[#[rfl,rfl],?_];refine ca h2 #[L,sg,bh,en,a,_,rfl,#[da,rfl],la,hpa,hb,∅,λS3 p F Z bh1 f3 pl3 g3 la3 ra=>?_];have gm:∀S4,Fr L S3 S4->S4[S.length]?=some (.lst ((ms.map nj).map .str)):=λS4 f4=>by rw[bM];exact f4.get (f3.get g2 sl) sl
  have fin2:∀S4 bh2,Fr L S3 S4->qK S4 L (sg++oy a) bh2 en->sZ t bh F Z bh2->Rest Γ Vs #[λ_ S1=>Q .bK S1,Q,λ_=>E] [some (.loc L),some (enc t),some (.loc S.length),some (enc a),some (.loc p),none] S4:=by
   intro S4 bh2 f4 la4 r4;have g4:=f4.get g3 pl3;have en4:∀e,e=null t->Rest Γ (.cons (.ret (.mk "Part" "Part.__init__" (.cons @5 (.cons (.fld @4 "firsts") (.cons (.fld @4 "lasts") .nil))))) .nil) #[λ_ S1=>Q .bK S1,Q,λ_=>E] [some (.loc L),some (enc t),some (.loc S.length),some (enc a),some (.loc p),some (.bl e)] S4:=by
    rintro e rfl;room;rw[AH g4,AI g4]
    refine pJ h1 λS5 x5 g5=>#[rfl,?_]
    exact q _ _ _ _ _ (((Ext.fr x2).trans f3).trans (f4.trans (Ext.fr x5))) la4.len g5 (by rw[mk.lv];exact la4.ext x5) r4
   have nl:=mk.nl;rw[PU] at nl;unfold Vs;room;rw[E7 g4]
   room;rw[gm S4 f4]
   simp only[aG,anyS,GX];cases e1:null a<;>cases e2:(ms.map nj).any (·==kC)<;>simp only[e1,e2,ah,if_false,if_true,aG,anyS]<;>refine en4 _ ?_<;>rw[nl,e1,e2]<;>simp
  have hs:=PQ ms;have lnk:ms.any E8=true->Rest Γ Xf #[λen S4=>Rest Γ Vs #[λ_ S1=>Q .bK S1,Q,λ_=>E] en S4,Q,λ_=>E] [some (.loc L),some (enc t),some (.loc S.length),some (enc a),some (.loc p),none] S3:=by
   intro z;unfold Xf;room;rw[la3.o,aZ]
   refine#[#[rfl,rfl],?_];rw[AI g3,AH g3]
   refine ca h3 #[L,_,bh1,en,Z,F,rfl,la3,by rw[ra.len];omega,λp hp'=>?_,λS4 bh2 f4 la4 lk=>?_]
   .rw[ra.z,af] at hp'
    have:=(eI hpa).mp hp'.1;rw[ra.len];omega
   .exact Rest.go (fin2 S4 bh2 f4 la4 (DJ mk hpa hb ra (by rw[if_pos z];exact lk)))
  room;rw[gm S3 .refl]
  simp only[aG,anyS];cases e1:(ms.map nj).any (·==kC)<;>cases e2:(ms.map nj).any (·==ow)<;>rw[e1,e2] at hs<;>simp only[e1,e2,ah,if_false,if_true,aG,anyS]
  .exact Rest.go (fin2 S3 bh1 .refl la3 (DJ mk hpa hb ra (by rw[if_neg (by simp[hs])])))
  .exact lnk hs
  .exact lnk hs
  .exact lnk hs
 unfold eU;room;refine#[by simp,?_];room;have x0:Ext S (S++[SO.lst []]):=Ext.app _;have g0:(S++[SO.lst []])[S.length]?=some (.lst (([]:List Mk).map λm=>U.str (nj m))):=by simp
 have dt:bG t<=d:=by rw[et];exact da
 refine#[bG t+1,lJ (λn env S2=>∃ms a,n=bG a/\MT t ms a/\(a=t\/bG a<d)/\ms.length+bG a<=200/\env=[some (.loc L),some (enc t),some (.loc S.length),some (enc a),none,none]/\(∀n,n<S.length->S2[n]?=S[n]?)/\S2[S.length]?=some (.lst (ms.map λm=>U.str (nj m)))) ?_ _ (bG t) _ _ ∅ #[[],t,rfl,.zero t,.inl rfl,by simp;omega,rfl,x0.2,g0]];rintro n env S2 K ⟨ms,a,rfl,mk,hda,hms,rfl,e2,g2⟩ hK;have out:(∀m a',a≠.rep m a')->bG a<d:=λz=>by
  rcases hda with rfl|z2
  .exact absurd et (z m0 a0)
  .exact z2
 have stop:∀k x,enc a=.tup [.str k,x]->(kC==k||(ow==k||jM==k))=false->bG a<d->WT Γ (.cg (.cmp .isin (.ix @3 ↑0) (.tup (.cons ↑[115,116,97,114] (.cons ↑[112,108,117,115] (.cons ↑[109,97,121,98,101] .nil)))))) [some (.loc L),some (enc t),some (.loc S.length),some (enc a),none,none] S2
   (λt1 S1=>if t1=true then Rest Γ (.cons (.ex (.kS .append @2 (.cons (.ix @3 ↑0) .nil))) (.cons (.set 3 (.ix @3 ↑1)) .nil)) #[K,Q,λ_=>E] [some (.loc L),some (enc t),some (.loc S.length),some (enc a),none,none] S1 else Rest Γ Xg #[λ_ S1=>Q .bK S1,Q,λ_=>E] [some (.loc L),some (enc t),some (.loc S.length),some (enc a),none,none] S1) E:=by
  intro k x ek ek2 da;have:=fin ms a S2 mk da e2 g2;rw[ek] at this ⊢;room;rw[jB,aP]
  refine#[by simp,by simp,?_];rw[Yz,ek2]
  exact this
 cases a with
 |one k l=>exact stop _ _ rfl rfl (out λ_ _ z=>nomatch z)
 |row a b=>exact stop _ _ rfl rfl (out λ_ _ z=>nomatch z)
 |or a b=>exact stop _ _ rfl rfl (out λ_ _ z=>nomatch z)
 |rep m a=>
  have ek:enc (.rep m a)= .tup [.str (nj m),enc a]:=rfl;have dr:bG (.rep m a)=bG a+1:=rfl;rw[ek]
  room;rw[jB,aP]
  refine#[by simp,by simp,?_];rw[Yz,LQ]
  room;rw[g2]
  simp only[aG,jB,iD,aP];refine#[trivial,by simp,by simp;omega,?_];room;simp only[iD,aP];refine#[by simp,?_];try room
  refine hK (bG a) _ _ ∅ #[ms++[m],a,rfl,mk.next,.inr (by rcases hda with rfl|z<;>omega),by simp;omega,rfl,λn hn=>?_,by rw[gs g2];simp];rw[av ∅];exact e2 n hn
section
variable{Γ:bY}{D:Ends}{env:Env}{S:bI}{i:Nat}{k k':List Nat}{x:U}{a b ss:dh}
theorem lX(h:env[i]?=some (some (.tup [.str k,x])))(e:(k==k')=true)(q:Rest Γ a #[λen S1=>Rest Γ ss D en S1,D.rt,D.ex] env S):Rest Γ (.cons (.ifs (.cg (.cmp .eq (.ix (.var i) ↑0) (.lit (.str k')))) a b) ss) D env S:=by
 room;rw[h]
 simp only[oM,Di,jB,aP,ME,Sb,e,if_true];exact#[by simp,q]
theorem fc(h:env[i]?=some (some (.tup [.str k,x])))(e:(k==k')=false)(q:Rest Γ ss D env S):Rest Γ (.cons (.ifs (.cg (.cmp .eq (.ix (.var i) ↑0) (.lit (.str k')))) a .nil) ss) D env S:=by
 room;rw[h]
 simp only[oM,Di,jB,aP,ME,Sb,e,ah,if_false];exact#[by simp,q]
end
theorem PV(Γ:bY)(d:Nat)(h1:Γ "Layout.lay_place"=hU λt u=>∃n l,t=.one n l/\u=.str l)(h2:Γ "Layout.lay_row"=hU λt u=>∃a b,t=.row a b/\bG a<d/\bG b<d/\u=.tup [enc a,enc b])
  (h3:Γ "Layout.lay_choice"=hU λt u=>∃a b,t=.or a b/\bG a<d/\bG b<d/\u=.tup [enc a,enc b]) (h4:Γ "Layout.lay_repeat"=hU λt u=>∃m a,t=.rep m a/\bG a<d/\u=enc t):Keeps Γ jX 0 (hU (Tu (d+1))):=by
 rintro us S Q E ⟨L,sg,bh,en,t,u,rfl,⟨dt,rfl⟩,h,hp,hb,hl,q⟩;unfold jX;cases t with
 |one n l=>
  refine lX rfl rfl ?_;simp only[enc];room;rw[h.o,aZ,iD]
  exact#[#[rfl,rfl],by simp,ca h1 #[L,sg,bh,en,_,_,rfl,#[n,l,rfl,rfl],h,hp,hb,hl,q]]
 |row a b=>
  have dt:max (bG a) (bG b)+1<d+1:=dt;refine fc rfl rfl (lX rfl rfl ?_);simp only[enc];room;rw[h.o,aZ,iD]
  exact#[#[rfl,rfl],by simp,ca h2 #[L,sg,bh,en,_,_,rfl,#[a,b,rfl,∅,∅,rfl],h,hp,hb,hl,q]]
 |or a b=>
  have dt:max (bG a) (bG b)+1<d+1:=dt;refine fc rfl rfl (fc rfl rfl (lX rfl rfl ?_));simp only[enc];room;rw[h.o,aZ,iD]
  exact#[#[rfl,rfl],by simp,ca h3 #[L,sg,bh,en,_,_,rfl,#[a,b,rfl,∅,∅,rfl],h,hp,hb,hl,q]]
 |rep m a=>
  have dt:bG a+1<d+1:=dt;have k1:(nj m==LF)=false/\(nj m==v5)=false/\(nj m==QP)=false:=by cases m<;>exact#[rfl,rfl,rfl]
  refine fc rfl k1.1 (fc rfl k1.2.1 (fc rfl k1.2.2 ?_));room;rw[h.o,aZ]
  exact#[#[rfl,rfl],ca h4 #[L,sg,bh,en,_,_,rfl,#[m,a,rfl,∅,rfl],h,hp,hb,hl,q]]
noncomputable def mC(f:List Nat->Bool)(sg:List (List Nat))(p:Nat):Bool:=((sg[p]?).map f).getD false
theorem xM(f:List Nat->Bool)(sg:List (List Nat))(hg:g S)(hl:sg.length<=100)
  (hc:∀(i:Nat)l k,k (f l) S->c (.tup [a9 i,.str l]) S k) (he:∀(i:Nat)l k,i<=100->k (a9 (1<<<i)) S->e (.tup [a9 i,.str l]) S k)
  (q:∀(is:List Int)(b:Nat),is.sum=b->(∀p,b.testBit p=mC f sg p)->Q (is.map .int) S):nA g c e Q ((sg.map U.str).mapIdx λi u=>.tup [.int (i:Nat),u]) [] S:=by
 refine fO _ (λi acc S'=>S'=S/\∃(is:List Int)(b:Nat),acc=is.map .int/\is.sum=b/\b<2^i/\is.length<=i/\∀p,b.testBit p=(decide (p<i)&&mC f sg p)) (λi acc S' hi h=>?_) (λi u acc S' k hu hi hk=>?_) (λacc S' h=>?_) #[rfl,[],0,rfl,rfl,by simp,by simp,by simp]
 .obtain⟨rfl,is,b,rfl,_,_,hl',_⟩:=h
  simp at hi;exact#[hg,by simp;omega]
 .obtain⟨rfl,is,b,rfl,h1,h2,h3,h4⟩:=hi
  simp only[jP,ar] at hu;cases es:sg[i]? with
  |none=>rw[es] at hu;simp at hu
  |some l=>
   rw[es] at hu;simp only[jN,pq] at hu;subst hu;have il:=(ae.mp es).1;have hi:mC f sg i=f l:=by unfold mC;rw[es];rfl
   refine hc i l _ ?_;cases z:f l with
   |false=>
    rw[if_neg (by simp)]
    refine hk _ _ #[rfl,is,b,rfl,h1,by rw[fQ];omega,∅,λp=>?_];rw[h4]
    by_cases zp:p=i
    .subst zp;simp[hi,z]
    .have:(p<i)↔(p<i+1):=∅
     simp only[this]
   |true=>
    rw[if_pos rfl]
    refine he i l _ ∅ (hk _ _ #[rfl,is++[((1<<<i:Nat):Int)],2^i+b,by simp,?_,by rw[fQ];omega,by simp;omega,λp=>?_])
    .rw[JK,h1,sR];simp;omega
    .by_cases zp:p=i
     .subst zp
      rw[Nat.testBit_two_pow_add_eq,Br h2];simp[hi,z]
     .by_cases zl:p<i
      .rw[Nat.testBit_two_pow_add_gt zl,h4]
       simp[zl,cK zl]
      .rw[Br (aM (show 2^i+b<2^(i+1) by rw[fQ];omega) (bB ∅ ∅))]
       have:¬p<i+1:=∅
       simp[this]
 .obtain⟨rfl,is,b,rfl,h1,_,_,h4⟩:=h
  refine q is b h1 λp=>?_
  rw[h4]
  simp only[Fy,aq];by_cases z:p<sg.length
  .simp[z]
  .unfold mC
   rw[oI ∅];simp
theorem AK(h:mC f sg p=true):∃l,sg[p]?=some l/\f l=true:=by
 unfold mC at h;cases e:sg[p]? with
 |none=>rw[e] at h;simp at h
 |some l=>rw[e] at h;exact#[l,rfl,h]
def MU:Spec:=λus S Q _=>∃L sg bh en c,us=[.loc L,.str [c]]/\qK S L sg bh en/\sg.length<=100/\∀(b:Nat)S',Ext S S'->(∀p,b.testBit p=mC (·.contains c) sg p)->Q (a9 b) S'
theorem PX(Γ:bY):Keeps Γ fE 0 MU:=by
 rintro us S Q E ⟨L,sg,bh,en,c,rfl,h,hl,q⟩;unfold fE;room;rw[IA h]
 room;rw[h.s,aG]
 refine xM (·.contains c) sg h.s hl (λi l k z=>?_) (λi l k hi z=>?_) λis b e hb=>?_
 .room
  exact z
 .room
  exact#[∅,z]
 .exact#[is,by simp,by rw[e];exact q b _ (Ext.app _) hb]
noncomputable def vp(l:List Nat):Bool:=!(l==[])
def wK(sg:List (List Nat))(bh en:List Nat)(P:Nat->Prop):Prop:=(∀(Z p:Nat),Z∈en->Z.testBit p=true->mC vp sg p=true->P p)/\∀(q B p:Nat),mC vp sg q=true->bh[q]?=some B->B.testBit p=true->P p->P q
structure Fc(sg:List (List Nat))(bh en:List Nat)(u:Nat):Prop where
 e:∀(Z p:Nat),Z∈en->Z.testBit p=true->mC vp sg p=true->u.testBit p=true
 b:∀(q B p:Nat),mC vp sg q=true->bh[q]?=some B->B.testBit p=true->u.testBit p=true->u.testBit q=true
 m:∀P,wK sg bh en P->∀p,u.testBit p=true->P p
def TM:Spec:=λus S Q _=>∃L sg bh en,us=[.loc L]/\qK S L sg bh en/\sg.length<=100/\bh.length=sg.length/\∀(u:Nat)S',Ext S S'->Fc sg bh en u->Q (a9 u) S'
theorem TN(Γ:bY)(h1:Γ "members"=AG):Keeps Γ iu 5 TM:=by
 rintro us S Q E ⟨L,sg,bh,en,rfl,h,hl,hb,q⟩;unfold iu;room;rw[IA h]
 room;rw[h.s,aG]
 refine xM vp sg h.s hl (λi l k z=>?_) (λi l k hi z=>?_) λis T e hT=>#[is,by simp,?_]
 .room
  exact z
 .room
  exact#[∅,z]
 rw[e]
 have x0:Ext S (S++[SO.lst (is.map U.int)]):=Ext.app _;have h':=h.ext x0;generalize S++[SO.lst (is.map U.int)]=S0 at x0 h';have Tlt:∀p,T.testBit p=true->p<sg.length:=λp hp=>by
  rw[hT] at hp;obtain⟨l,e,_⟩:=AK hp;exact(ae.mp e).1
 have Tl:T<2^sg.length:=kD Tlt;room;rw[PH h']
 room;rw[h'.e,aG]
 refine d9 (λi env S2=>S2=S0/\∃(gr:Nat)(x3:Option U),env=[some (.loc L),some (a9 T),some (a9 gr),x3,none,none]/\gr<2^sg.length/\(∀(Z p:Nat),Z∈en.take i->Z.testBit p=true->T.testBit p=true->gr.testBit p=true)/\∀P,wK sg bh en P->∀p,gr.testBit p=true->P p) (λi env S2 z=>z.1▸h'.e) _ ?_ ?_ #[rfl,0,none,rfl,Nat.two_pow_pos _,by simp,λP _ p z=>by simp at z]
 .rintro i u env S2 K hu ⟨rfl,gr,x3,rfl,hgr,inv,only⟩ hK
  rw[ar] at hu;obtain⟨Z,hZ,rfl⟩:=ag.mp hu;room;have et:en.take (i+1)=en.take i++[Z]:=by rw[cf,hZ];rfl
  refine hK _ _ #[rfl,gr|||(Z&&&T),_,rfl,Jk hgr (kD λp hp=>?_),λZ' p m h1 h2=>?_,λP cl p hp=>?_]
  .rw[cw,af] at hp;exact Tlt p hp.2
  .rw[et] at m
   rw[cB,cw]
   rcases aD.mp m with m|m
   .rw[inv Z' p m h1 h2];rfl
   .simp at m;subst m;rw[h1,h2];simp
  .rw[cB,cw,aO,af] at hp
   rcases hp with hp|⟨z1,z2⟩
   .exact only P cl p hp
   .exact cl.1 Z p (aw hZ) z1 (by rw[<-hT];exact z2)
 .rintro env S2 ⟨rfl,gr,x3,rfl,hgr,inv,only⟩
  room;rw[aq,b9] at inv;have out:∀{S3:bI}{u:Nat},Ext S S3->(∀p,gr.testBit p=true->u.testBit p=true)->(∀(q B p:Nat),T.testBit q=true->bh[q]?=some B->B.testBit p=true->u.testBit p=true->u.testBit q=true)->(∀P,wK sg bh en P->∀p,u.testBit p=true->P p)->Q (a9 u) S3:=λx3 a b c=>
   q _ _ x3 #[λZ p m z1 z2=>a p (inv Z p m z1 (by rw[hT];exact z2)),λq B p z1=>b q B p (by rw[hT];exact z1),c]
  refine#[2^sg.length+1,lJ (λn env S3=>∃(g2 u:Nat)(x3 x5:Option U),n=2^sg.length-u/\env=[some (.loc L),some (a9 T),some (a9 g2),x3,some (a9 u),x5]/\Ext S S3/\qK S3 L sg bh en/\u<=g2/\g2<2^sg.length/\(∀p,gr.testBit p=true->g2.testBit p=true) /\
   (∀(q B p:Nat),T.testBit q=true->bh[q]?=some B->B.testBit p=true->u.testBit p=true->g2.testBit q=true)/\∀P,wK sg bh en P->∀p,g2.testBit p=true->P p) ?_ _ (2^sg.length) _ _ ∅ #[gr,0,x3,none,∅,rfl,x0,h',∅,hgr,λ_ z=>z,λq B p _ _ _ z=>by simp at z,only]]
  rintro n env S3 K ⟨g2,u,x3,x5,rfl,rfl,x3',h3,hu,hg,ia,ib,ic⟩ hK;room;by_cases z:g2=u
  .subst z
   simp only[beq_self_eq_true,bO,ah,if_false];room;exact out x3' ia ib ic
  .have:((g2:Int)== (u:Int))=false:=by
    rw[beq_eq_false_iff_ne];omega
   simp only[this,bV,if_true];room;refine ca h1 #[T,rfl,aM Tl (bB ∅ hl),λm S4 x4 hm g4=>?_];room;rw[g4,aG]
   have h4:=h3.ext x4;refine d9 (λi env S5=>S5=S4/\∃(g3:Nat)(x5:Option U),env=[some (.loc L),some (a9 T),some (a9 g3),x3,some (a9 g2),x5]/\g2<=g3/\g3<2^sg.length/\(∀p,g2.testBit p=true->g3.testBit p=true) /\
    (∀(q B p:Nat),q∈(rO T).take i->bh[q]?=some B->B.testBit p=true->g2.testBit p=true->g3.testBit q=true)/\∀P,wK sg bh en P->∀p,g3.testBit p=true->P p) (λi env S5 z=>z.1▸g4) _ ?_ ?_ #[rfl,g2,x5,rfl,ax _,hg,λ_ z=>z,by simp,ic]
   .rintro i v env S5 K' hv ⟨rfl,g3,x5,rfl,j1,j2,j3,j4,j5⟩ hK'
    rw[ar] at hv;obtain⟨p,hp,rfl⟩:=ag.mp hv;have pT:=kE.mp (aw hp);have pl:=Tlt p pT;have et:(rO T).take (i+1)=(rO T).take i++[p]:=by rw[cf,hp];rfl
    room;rw[IB h4]
    room;rw[h4.b,aG,ij]
    refine tL (aa ∅) ?_;room;by_cases w:(((bh[p]'∅&&&g2:Nat):Int) !=0)=true
    .rw[if_pos w]
     room;refine#[∅,?_];try room
     refine hK' _ _ #[rfl,g3|||1<<<p,_,rfl,aS j1 Nat.left_le_or,Jk j2 (kD λr hr=>?_),λr hr=>by rw[cB,j3 r hr];rfl,λq B r m e1 e2 e3=>?_,λP cl r hr=>?_]
     .rw[qL] at hr;have:=eq_of_beq hr;omega
     .rw[et] at m
      rw[cB,qL]
      rcases aD.mp m with m|m
      .rw[j4 q B r m e1 e2 e3];rfl
      .simp at m;subst m;simp
     .rw[cB,qL,aO] at hr
      rcases hr with hr|hr
      .exact j5 P cl r hr
      .have:=eq_of_beq hr
       subst this;obtain⟨s,hs⟩:=zf.mp w;rw[cw,af] at hs;exact cl.2 _ _ s (by rw[<-hT];exact pT) (aa ∅) hs.1 (ic P cl s hs.2)
    .rw[if_neg w]
     room;refine hK' _ _ #[rfl,g3,_,rfl,j1,j2,j3,λq B r m e1 e2 e3=>?_,j5];rw[et] at m;rcases aD.mp m with m|m
     .exact j4 q B r m e1 e2 e3
     .simp at m;subst m
      refine absurd (zf.mpr #[r,?_]) w;rw[aa ∅] at e1;injection e1 with e1
      rw[e1,cw,e2,e3];rfl
   .rintro env S5 ⟨rfl,g3,x5,rfl,j1,j2,j3,j4,j5⟩
    rw[aq,b9] at j4;room;exact hK (2^sg.length-g2) _ _ ∅ #[g3,g2,_,_,rfl,rfl,x3'.trans x4,h4,j1,j2,λp hp=>j3 p (ia p hp),λq B p z1=>j4 q B p (kE.mpr z1),j5]
noncomputable def jD(f:List Nat->Bool):List (List Nat)->Nat
 |[]=>0
 |l::r=>(if f l=true then 1 else 0)+2*jD f r
theorem vq:∀{sg:List (List Nat)}{p:Nat},(jD f sg).testBit p=mC f sg p
 |[],p=>by simp[jD,mC]
 |l::r,0=>by
  unfold jD mC;rw[Nat.testBit_zero]
  cases z:f l<;>simp[z]<;>omega
 |l::r,p+1=>by
  unfold jD;have e:((if f l=true then 1 else 0)+2*jD f r)/2=jD f r:=by split<;>omega
  rw[Nat.testBit_succ,e,vq]
  rfl
section
variable{S S1 S2:bI}{r n:Nat}{o:SO}
theorem nO(a:Old r S S1)(h:S[n]?=some o)(ne:n≠r):S1[n]?=some o:=(a.2 n (bF h) ne).trans h
theorem PY(a:Old r S S1)(b:Ext S1 S2):Old r S S2:=a.trans (Ext.old b)
theorem pD{c f:String}{fs:List (String×U)}{v:U}{K:bI->Prop}(h:S[r]?=some (.ins c fs))(hl:fs.length<100)(q:∀S',Old r S S'->S'.length=S.length->S'[r]?=some (.ins c (dZ f v fs))->K S'):
  mq S[r]? λc fs=>fs.length<100/\K (S.set r (.ins c (dZ f v fs))):=by
 rw[h,aZ]
 exact#[hl,q _ (kq.set h).old (by simp) (gs h)]
end
structure FF(S:bI)(P:Nat)(bh en:List Nat)(tk:Nat->Nat):Prop where
 o:∃b e k,S[P]?=some (.ins "Places" [("behind",.loc b),("ends",.loc e),("takers",.loc k)])/\S[b]?=some (.lst (bh.map a9))/\S[e]?=some (.lst (en.map a9))/\S[k]?=some (.vG (SG.map λc=>(.str [c],a9 (tk c))))
theorem FF.ext{S S':bI}{P:Nat}{bh en:List Nat}{tk:Nat->Nat}(h:FF S P bh en tk)(x:Ext S S'):FF S' P bh en tk:=by
 obtain⟨b,e,k,h1,h2,h3,h4⟩:=h.o;exact#[b,e,k,x.get h1,x.get h2,x.get h3,x.get h4]
def PZ:Spec:=λus S Q _=>∃P L sg bh en,us=[.loc P,.loc L]/\S[P]?=some (.ins "Places" [])/\S.length=P+1/\qK S L sg bh en/\sg.length<=100/\bh.length=sg.length/\en.length<=100 /\
 ∀u S',Fc sg bh en u->(∀n,n<P->S'[n]?=S[n]?)->FF S' P (bh.map (·&&&u)) en (λc=>jD (·.contains c) sg)->Q .bK S'
theorem TQ:(SG.map λc=>[c]).Nodup:=⋯
theorem TR(Γ:bY)(h1:Γ "useful_places"=TM)(h2:Γ "places_that_take"=MU):Keeps Γ jq 1 PZ:=by
 rintro us S Q E ⟨P,L,sg,bh,en,rfl,hP,hs,h,hl,hb,he,q⟩;unfold jq;have nd:=TQ;generalize hG:SG=G at nd;have gl:G.length=95:=by rw[<-hG];rfl
 room;refine ca h1 #[L,sg,bh,en,rfl,h,hl,hb,λu S1 x1 hu=>?_];have la:=h.ext x1;have hP1:=x1.get hP;have ne:L+4<=P:=by
  have:=h.len;have n0:¬L=P:=λz=>by rw[z] at h;rw[h.o] at hP;simp at hP
  have n1:¬L+1=P:=λz=>by rw[<-z,h.s] at hP;simp at hP
  have n2:¬L+2=P:=λz=>by rw[<-z,h.b] at hP;simp at hP
  have n3:¬L+3=P:=λz=>by rw[<-z,h.e] at hP;simp at hP
  omega
 room;rw[IB la]
 room;rw[la.b,aG]
 refine xK (S:=S1) _ (λ_=>true) (λv=>match v with|.int i=>a9 (i.toNat&&&u)|v=>v) la.b (by simp;omega) (λv k _ z=>z.1 rfl) (λv k hv _ z=>?_) ?_
 .obtain⟨B,_,rfl⟩:=bx.mp hv
  room;exact z
 have e1:(List.filter (λ_=>true) (bh.map a9)).map (λv=>match v with|.int i=>a9 (i.toNat&&&u)|v=>v)=(bh.map (·&&&u)).map a9:=by
  rw[List.filter_eq_self.mpr (λ_ _=>rfl),bM,bM];rfl
 rw[e1]
 have x2:Ext S1 (S1++[SO.lst ((bh.map (·&&&u)).map a9)]):=Ext.app _;have g2:(S1++[SO.lst ((bh.map (·&&&u)).map a9)])[S1.length]?=some (.lst ((bh.map (·&&&u)).map a9)):=by simp
 have n2:S1.length≠P:=by have:=x1.1;omega
 generalize S1.length=b at g2 n2;generalize S1++[SO.lst ((bh.map (·&&&u)).map a9)]=S2 at g2 x2;refine pD (x2.get hP1) (by simp) λS3 o3 l3 hP3=>?_
 have la3:qK S3 L sg bh en:=by
  have:=la.ext x2;exact#[nO o3 this.o ∅,nO o3 this.s ∅,nO o3 this.b ∅,nO o3 this.e ∅]
 have g3:=nO o3 g2 n2;have o13:=(Ext.old (r:=P) (x1.trans x2)).trans o3;room;rw[PH la3]
 room;rw[la3.e,aG]
 have x4:Ext S3 (S3++[SO.lst (en.map a9)]):=Ext.app _;have g4:(S3++[SO.lst (en.map a9)])[S3.length]?=some (.lst (en.map a9)):=by simp
 have n4:S3.length≠P:=by have:=o13.1;omega
 generalize S3.length=e at g4 n4;generalize S3++[SO.lst (en.map a9)]=S4 at g4 x4;refine pD (x4.get hP3) (by simp[dZ]) λS5 o5 l5 hP5=>?_
 have la5:qK S5 L sg bh en:=by
  have:=la3.ext x4;exact#[nO o5 this.o ∅,nO o5 this.s ∅,nO o5 this.b ∅,nO o5 this.e ∅]
 have o15:=(PY o13 x4).trans o5;have g35:=nO o5 (x4.get g3) n2;have g45:=nO o5 g4 n4;room;refine fO _ (λi acc S6=>i<=G.length/\Ext S5 S6/\acc=(G.take i).map λc=>.tup [.str [c],a9 (jD (·.contains c) sg)]) (λi acc S6 hi z=>#[trivial,?_]) (λi v acc S6 k hv hi hk=>?_) (λacc S6 z=>?_) #[∅,.refl,rfl]
 .rw[z.2.2];simp;omega
 .obtain⟨_,x6,rfl⟩:=hi
  rw[ar] at hv;obtain⟨c,hc,rfl⟩:=ag.mp hv;have et:G.take (i+1)=G.take i++[c]:=by rw[cf,hc];rfl
  room;refine ca h2 #[L,sg,bh,en,c,rfl,la5.ext x6,hl,λb S7 x7 hb=>#[by simp,?_]];have eb:b=jD (·.contains c) sg:=jT λp=>by rw[hb,vq]
  subst eb;exact hk _ _ #[(ae.mp hc).1,x6.trans x7,by rw[et,eH];rfl]
 obtain⟨_,x6,rfl⟩:=z;rw[aq,b9]
 refine#[G.map λc=>([c],a9 (jD (·.contains c) sg)),by simp[kQ],by rw[bM];exact nd,?_];rw[bM]
 have x7:Ext S6 (S6++[SO.lst (G.map λc=>.tup [.str [c],a9 (jD (·.contains c) sg)])]++[SO.vG (G.map ((λp=>(U.str p.1,p.2))∘λc=>([c],a9 (jD (·.contains c) sg))))]):=(Ext.app _).trans (Ext.app _);have g7:(S6++[SO.lst (G.map λc=>.tup [.str [c],a9 (jD (·.contains c) sg)])]++[SO.vG (G.map ((λp=>(U.str p.1,p.2))∘λc=>([c],a9 (jD (·.contains c) sg))))])[(S6++[SO.lst (G.map λc=>.tup [.str [c],a9 (jD (·.contains c) sg)])]).length]?=some (.vG (G.map λc=>(.str [c],a9 (jD (·.contains c) sg)))):=by
  rw[ay (ax _),cq];rfl
 have n7:(S6++[SO.lst (G.map λc=>.tup [.str [c],a9 (jD (·.contains c) sg)])]).length≠P:=by
  have:=o15.1;have:=x6.1;rw[aB];omega
 generalize (S6++[SO.lst (G.map λc=>.tup [.str [c],a9 (jD (·.contains c) sg)])]).length=k at g7 n7;generalize S6++[SO.lst (G.map λc=>.tup [.str [c],a9 (jD (·.contains c) sg)])]++[SO.vG (G.map ((λp=>(U.str p.1,p.2))∘λc=>([c],a9 (jD (·.contains c) sg))))]=S7 at g7 x7;refine pD ((x6.trans x7).get hP5) (by simp[dZ]) λS8 o8 l8 hP8=>?_
 room;subst hG;exact q u S8 hu (λn hn=>((PY o15 (x6.trans x7)).trans o8).2 n ∅ ∅) #[b,e,k,hP8,nO o8 ((x6.trans x7).get g35) n2,nO o8 ((x6.trans x7).get g45) n4,nO o8 g7 n7]
def TU(bh:List Nat)(h r:Nat):Prop:=∀p,r.testBit p=true↔∃q B,h.testBit q=true/\bh[q]?=some B/\B.testBit p=true
def P0:Spec:=λus S Q _=>∃P bh en tk h,us=[.loc P,a9 h]/\FF S P bh en tk/\bh.length<=100/\(∀p,h.testBit p=true->p<bh.length)/\∀r S',TU bh h r->Ext S S'->Q (a9 r) S'
theorem TV(Γ:bY)(h1:Γ "members"=AG):Keeps Γ iw 2 P0:=by
 rintro us S Q E ⟨P,bh,en,tk,h,rfl,pa,hl,hh,q⟩;unfold iw;room;refine ca h1 #[h,rfl,aM (kD hh) (bB ∅ hl),λn S1 x1 hn g1=>?_];obtain⟨b,e,k,o,gb,_,_⟩:=(pa.ext x1).o;have fb:∀{r},jA (.loc P) "behind" S1 r=r (.loc b):=by intro r;rw[d6,o];rfl
 room;rw[g1,aG]
 refine d9 (λi env S2=>S2=S1/\∃(r:Nat)(x3:Option U),env=[some (.loc P),some (a9 h),some (a9 r),x3]/\∀p,r.testBit p=true↔∃q B,q∈(rO h).take i/\bh[q]?=some B/\B.testBit p=true) (λi env S2 z=>z.1▸g1) _ ?_ ?_ #[rfl,0,none,rfl,by simp]
 .rintro i u env S2 K hu ⟨rfl,r,x3,rfl,inv⟩ hK
  rw[ar] at hu;obtain⟨p,hp,rfl⟩:=ag.mp hu;have pl:=hh p (kE.mp (aw hp));have et:(rO h).take (i+1)=(rO h).take i++[p]:=by rw[cf,hp];rfl
  room;rw[fb]
  room;rw[gb,aG,ij]
  refine tL (aa pl) ?_;room;refine hK _ _ #[rfl,_,_,rfl,λp'=>?_];rw[cB,aO,inv,et]
  constructor
  .rintro(⟨q,B,m,e1,e2⟩|e2)
   .exact#[q,B,bT _ m,e1,e2]
   .exact#[p,_,aW _ (by simp),aa pl,e2]
  .rintro⟨q,B,m,e1,e2⟩
   rcases aD.mp m with m|m
   .exact .inl #[q,B,m,e1,e2]
   .simp at m;subst m
    rw[aa pl] at e1;injection e1 with e1
    exact .inr (by rw[e1];exact e2)
 .rintro env S2 ⟨rfl,r,x3,rfl,inv⟩
  room;refine q r _ (λp=>?_) x1;rw[inv,aq,b9]
  simp only[kE]
def Ov(h:Nat)(en:List Nat)(i:Nat):Prop:=∃Z,en[i]?=some Z/\∃p,h.testBit p=true/\Nat.testBit Z p=true
noncomputable def uN:Option Nat->U
 |none=>.bK
 |some i=>a9 i
def YA(h:Nat)(en:List Nat):Option Nat->Prop
 |none=>∀i,¬Ov h en i
 |some i=>Ov h en i/\∀i',i'<i->¬Ov h en i'
def TX:Spec:=λus S Q _=>∃P bh en tk h,us=[.loc P,a9 h]/\FF S P bh en tk/\∀r,YA h en r->Q (uN r) S
theorem TZ(Γ:bY):Keeps Γ eV 2 TX:=by
 rintro us S Q E ⟨P,bh,en,tk,h,rfl,pa,q⟩;unfold eV;obtain⟨b,e,k,o,_,ge,_⟩:=pa.o;have fe:∀{r},jA (.loc P) "ends" S r=r (.loc e):=by intro r;rw[d6,o];rfl
 room;rw[fe]
 room;rw[ge,aG]
 refine d9 (λi env S2=>S2=S/\∃(x2 x3:Option U),env=[some (.loc P),some (a9 h),x2,x3]/\∀i',i'<i->¬Ov h en i') (λi env S2 z=>z.1▸ge) _ ?_ ?_ #[rfl,none,none,rfl,by simp]
 .rintro i u env S2 K hu ⟨rfl,x2,x3,rfl,inv⟩ hK
  simp only[jP,ar,Jl] at hu;obtain⟨Z,hZ,rfl⟩:=ag.mp hu;simp only[kQ];room;by_cases w:(((h&&&Z:Nat):Int) !=0)=true
  .rw[if_pos w]
   room;obtain⟨p,hp⟩:=zf.mp w;rw[cw,af] at hp;exact q (some i) #[#[Z,hZ,p,hp.1,hp.2],inv]
  .rw[if_neg w]
   room;refine hK _ _ #[rfl,_,_,rfl,λi' hi=>?_];by_cases z:i'=i
   .subst z
    rintro⟨Z',e1,p,e2,e3⟩;rw[hZ] at e1;injection e1 with e1;subst e1
    exact w (zf.mpr #[p,by rw[cw,e2,e3];rfl])
   .exact inv i' ∅
 .rintro env S2 ⟨rfl,x2,x3,rfl,inv⟩
  room;refine q none λi ov=>?_
  obtain⟨Z,e1,_⟩:=ov;exact inv i (by have:=(ae.mp e1).1;simpa using this) #[Z,e1,‹_›]
theorem Xh{S:bI}{r k:Nat}{c f:String}{fs:List (String×U)}{K:bI->Prop}(h:S[r]?=some (.ins c fs))(hv:fs.lookup f=some (a9 k))(hl:fs.length<100)(q:∀S',Old r S S'->S'.length=S.length->S'[r]?=some (.ins c (dZ f (a9 (k+1)) fs))->K S'):
  mq S[r]? λc fs=>opt (fs.lookup f) λv=>sW .add v (.int 1) S λz S3=>mq S3[r]? λc' fs'=>c'=c/\fs'.length<100/\K (S3.set r (.ins c (dZ f z fs'))):=by
 rw[h,aZ,hv]
 show mq S[r]? _
 rw[h,aZ]
 exact#[rfl,hl,q _ (kq.set h).old (by simp) (gs h)]
noncomputable def zK(P:Nat)(r k:Nat)(f:U):SO:=.ins "Walk" [("places",.loc P),("reach",a9 r),("passed",a9 k),("found",f)]
section
variable{S:bI}{w P r k:Nat}{f:U}{R:U->Prop}(h:S[w]?=some (zK P r k f))
include h
theorem P1:jA (.loc w) "places" S R=R (.loc P):=by rw[d6,h];rfl
theorem T1:jA (.loc w) "reach" S R=R (a9 r):=by rw[d6,h];rfl
theorem P2:jA (.loc w) "passed" S R=R (a9 k):=by rw[d6,h];rfl
theorem P4:jA (.loc w) "found" S R=R f:=by rw[d6,h];rfl
end
theorem FF.old{S S':bI}{P r:Nat}{bh en:List Nat}{tk:Nat->Nat}{c:String}{fs:List (String×U)}(h:FF S P bh en tk)(x:Old r S S')(hr:S[r]?=some (.ins c fs))(ne:P≠r):FF S' P bh en tk:=by
 obtain⟨b,e,k,h1,h2,h3,h4⟩:=h.o;exact#[b,e,k,nO x h1 ne,nO x h2 (λz=>by rw[z,hr] at h2;simp at h2),nO x h3 (λz=>by rw[z,hr] at h3;simp at h3),nO x h4 (λz=>by rw[z,hr] at h4;simp at h4)]
def LR:Spec:=λus S Q _=>∃w P bh en tk,us=[.loc w,.loc P]/\S[w]?=some (.ins "Walk" [])/\FF S P bh en tk/\P≠w/\bh.length<=100/\1<=bh.length/\∀r S',TU bh 1 r->Old w S S'->S'[w]?=some (zK P r 0 .bK)->Q .bK S'
theorem T3(Γ:bY)(h1:Γ "Places.beyond"=P0):Keeps Γ lz 0 LR:=by
 rintro us S Q E ⟨w,P,bh,en,tk,rfl,hw,pa,ne,hl,h0,q⟩;unfold lz;room;refine pD hw (by simp) λS1 o1 l1 g1=>?_
 have pa1:=pa.old o1 hw ne;obtain⟨b,e,k,oP,_⟩:=pa1.o;room;rw[oP,aZ]
 refine#[#[rfl,rfl],ca h1 #[P,bh,en,tk,1,rfl,pa1,hl,λp hp=>?_,λr S2 hr x2=>?_]]
 .have:=pB.mp hp;omega
 refine pD (x2.get g1) (by simp[dZ]) λS3 o3 l3 g3=>?_
 room;refine pD g3 (by simp[dZ]) λS4 o4 l4 g4=>?_
 room;refine pD g4 (by simp[dZ]) λS5 o5 l5 g5=>?_
 room;exact q r S5 hr ((((PY o1 x2).trans o3).trans o4).trans o5) g5
def P5:Spec:=λus S Q _=>∃w P r k f,us=[.loc w]/\S[w]?=some (zK P r k f)/\Q (.bl (!((r:Int)== 0))) S
theorem T4(Γ:bY):Keeps Γ gI 0 P5:=by
 rintro us S Q E ⟨w,P,r,k,f,rfl,hw,q⟩;unfold gI;room;rw[T1 hw]
 room;exact q
theorem AL{α:Type}{f:Nat->α}:∀{l:List Nat}{c:Nat},c∈l->(l.map λc=>([c],f c)).lookup [c]=some (f c)
 |x::l,c,h=>by
  rw[aF,ba]
  by_cases z:c=x
  .subst z;simp
  .have:(([c]:List Nat)== [x])=false:=by simp[z]
   rw[this]
   exact AL (by rcases bg.mp h with h|h;exact absurd h z;exact h)
noncomputable def uF(r:Option Nat)(k:Nat)(f:U):U:=match r with|none=>f|some i=>.tup [a9 i,a9 k]
def T5:Spec:=λus S Q _=>∃w P r k f c bh en tk,us=[.loc w,.str [c]]/\S[w]?=some (zK P r k f)/\FF S P bh en tk/\P≠w/\bh.length<=100/\c∈SG/\(∀p,r.testBit p=true->p<bh.length) /\
 ∀r' i S',TU bh (r&&&tk c) r'->YA (r&&&tk c) en i->Old w S S'->S'[w]?=some (zK P r' (k+1) (uF i (k+1) f))->Q .bK S'
theorem T6(Γ:bY)(h1:Γ "Places.beyond"=P0)(h2:Γ "Places.first_rule"=TX):Keeps Γ lA 2 T5:=by
 rintro us S Q E ⟨w,P,r,k,f,c,bh,en,tk,rfl,hw,pa,ne,hl,hc,hr,q⟩;unfold lA;obtain⟨b,e,t,oP,_,_,gt⟩:=pa.o;have ft:∀{R},jA (.loc P) "takers" S R=R (.loc t):=by intro R;rw[d6,oP];rfl
 room;rw[T1 hw,P1 hw,ft]
 room;rw[gt]
 simp only[getD_some,true_and];refine#[SG.map λc=>([c],a9 (tk c)),by rw[bM];rfl,?_];rw[AL hc]
 simp only[cC];room;rw[P1 hw]
 room;rw[oP,aZ]
 refine#[#[rfl,rfl],ca h1 #[P,bh,en,tk,r&&&tk c,rfl,pa,hl,λp hp=>hr p ?_,λr' S1 hr' x1=>?_]]
 .rw[cw,af] at hp;exact hp.1
 refine pD (x1.get hw) (by simp) λS2 o2 l2 g2=>?_
 have g2:S2[w]?=some (zK P r' k f):=g2;have pa2:=(pa.ext x1).old o2 (x1.get hw) ne;room;refine Xh (k:=k) g2 rfl (by simp) λS3 o3 l3 g3=>?_
 have pa3:=pa2.old o3 g2 ne;have g3:S3[w]?=some (zK P r' (k+1) f):=g3;obtain⟨_,_,_,oP3,_⟩:=pa3.o;room;rw[P1 g3]
 room;rw[oP3,aZ]
 refine#[#[rfl,rfl],ca h2 #[P,bh,en,tk,r&&&tk c,rfl,pa3,λi hi=>?_]];have oo:=((Ext.old (r:=w) x1).trans o2).trans o3;cases i with
 |none=>
  unfold uN;room;exact q r' none S3 hr' hi oo g3
 |some i=>
  unfold uN;room;rw[P2 g3]
  refine#[by simp,pD g3 (by simp) λS4 o4 l4 g4=>?_];room;exact q r' (some i) S4 hr' hi (oo.trans o4) g4
structure xN(ts:List Tr)(sg:List (List Nat))(bh en:List Nat):Prop where
 len:bh.length=sg.length
 Fd:en.length=ts.length
 Xi:∀(i j:Nat)t t' p,ts[i]?=some t->ts[j]?=some t'->IN t p=true->IN t' p=true->i=j
 pos:∀t∈ts,∃n,0<n/\nN n t
 sgn:∀t∈ts,∀p,IN t p=true->sg[p]?=some (sgn t p)
 b0:∃B,bh[0]?=some B/\∀p,B.testBit p=true↔∃t∈ts,FS t p=true
 b:∀t∈ts,∀q,IN t q=true->∃B,bh[q]?=some B/\∀p,B.testBit p=nB (cont t q) p
 e:∀(i:Nat)t,ts[i]?=some t->∃Z,en[i]?=some Z/\∀p,Z.testBit p=(IN t p&&dq (cont t p))
 nl:∀t∈ts,null t=false
section
variable{ts:List Tr}{sg:List (List Nat)}{bh en:List Nat}{u r r' c:Nat}{w:List Nat}
def Jw(ts:List Tr)(u:Nat)(w:List Nat)(r:Nat):Prop:=∀p,r.testBit p=true↔(∃t∈ts,∃q,hs t w q/\nB (ct t q) p=true)/\u.testBit p=true
theorem DK{q B:Nat}(h:(bh.map (·&&&u))[q]?=some B):∃B',bh[q]?=some B'/\B=B'&&&u:=by
 rw[ar] at h;obtain⟨B',h1,h2⟩:=ag.mp h;exact#[B',h1,h2.symm]
theorem YB:ct t 0=[t]:=rfl
theorem MV(h:p≠0):ct t p=cont t p:=by unfold ct;rw[if_neg h]
theorem T7:nB [t] p=FS t p:=by simp[nB]
theorem Fe(A:xN ts sg bh en)(h:TU (bh.map (·&&&u)) 1 r):Jw ts u [] r:=by
 intro p;obtain⟨B,e0,b0⟩:=A.b0;rw[h p]
 constructor
 .rintro⟨q,B',h1,h2,h3⟩
  have q0:=pB.mp h1;subst q0;obtain⟨B2,e2,rfl⟩:=DK h2;rw[e0] at e2;injection e2 with e2;subst e2
  rw[cw,af,b0] at h3;obtain⟨⟨t,m,f⟩,z⟩:=h3;exact#[#[t,m,0,rfl,by rw[YB,T7];exact f],z]
 .rintro⟨⟨t,m,q,hq,f⟩,z⟩
  have hq:q=0:=hq;subst hq;rw[YB,T7] at f;exact#[0,B&&&u,rfl,by rw[ar,e0];rfl,by rw[cw,(b0 p).mpr #[t,m,f],z];rfl]
theorem qM(A:xN ts sg bh en)(h:Jw ts u w r)(p:Nat):(r&&&jD (·.contains c) sg).testBit p=true↔(∃t∈ts,hs t (w++[c]) p)/\u.testBit p=true:=by
 rw[cw,af,h p,vq]
 constructor
 .rintro⟨⟨⟨t,m,q,hq,f⟩,z⟩,k⟩
  obtain⟨l,e1,e2⟩:=AK k;rw[A.sgn t m p (oz f)] at e1;injection e1 with e1;subst e1
  exact#[#[t,m,by rw[ju];exact#[q,hq,f,f9.mp e2]],z]
 .rintro⟨⟨t,m,hq⟩,z⟩
  rw[ju] at hq;obtain⟨q,hq,f,k⟩:=hq;refine#[#[#[t,m,q,hq,f],z],?_];unfold mC;rw[A.sgn t m p (oz f)]
  exact f9.mpr k
theorem pd(A:xN ts sg bh en)(m:t∈ts)(h:hs t (w++[c]) p):IN t p=true/\p≠0/\mC vp sg p=true:=by
 rw[ju] at h;obtain⟨q,_,f,k⟩:=h;have i:=oz f;obtain⟨n,n0,pl⟩:=A.pos t m;refine#[i,vj pl n0 i,?_];unfold mC;rw[A.sgn t m p i]
 show vp (sgn t p)=true
 unfold vp;cases e:jL.sgn t p with
 |nil=>rw[e] at k;simp at k
 |cons a l=>rfl
theorem AM(A:xN ts sg bh en)(U:Fc sg bh en u)(m:t∈ts)(h:hs t (w++[c]) q)(f:nB (ct t q) p=true)(z:u.testBit p=true):u.testBit q=true:=by
 obtain⟨i,q0,k⟩:=pd A m h;obtain⟨B,e1,e2⟩:=A.b t m q i;rw[MV q0] at f;exact U.b q B p k e1 (by rw[e2];exact f) z
theorem IE(A:xN ts sg bh en)(U:Fc sg bh en u)(h:Jw ts u w r)(hr:TU (bh.map (·&&&u)) (r&&&jD (·.contains c) sg) r'):Jw ts u (w++[c]) r':=by
 intro p;rw[hr p]
 constructor
 .rintro⟨q,B',h1,h2,h3⟩
  obtain⟨⟨t,m,hq⟩,_⟩:=(qM A h q).mp h1;obtain⟨i,q0,_⟩:=pd A m hq;obtain⟨B2,e2,rfl⟩:=DK h2;obtain⟨B,e1,b1⟩:=A.b t m q i;rw[e1] at e2;injection e2 with e2;subst e2
  rw[cw,af,b1] at h3;exact#[#[t,m,q,hq,by rw[MV q0];exact h3.1],h3.2]
 .rintro⟨⟨t,m,q,hq,f⟩,z⟩
  have uq:=AM A U m hq f z;obtain⟨i,q0,_⟩:=pd A m hq;obtain⟨B,e1,b1⟩:=A.b t m q i;rw[MV q0] at f;exact#[q,B&&&u,(qM A h q).mpr #[#[t,m,hq],uq],by rw[ar,e1];rfl,by rw[cw,b1,f,z];rfl]
theorem DL(A:xN ts sg bh en)(U:Fc sg bh en u)(m:t∈ts)(h:hs t (w++[c]) p)(n:dq (ct t p)=true):u.testBit p=true:=by
 obtain⟨i,p0,k⟩:=pd A m h;rw[MV p0] at n;obtain⟨j,ej⟩:=bA m;obtain⟨Z,e1,e2⟩:=A.e j t ej;exact U.e Z p (aw e1) (by rw[e2,i,n];rfl) k
theorem IF(A:xN ts sg bh en)(U:Fc sg bh en u)(h:Jw ts u w r)(i:Nat):Ov (r&&&jD (·.contains c) sg) en i↔∃t,ts[i]?=some t/\En t (hs t (w++[c])):=by
 constructor
 .rintro⟨Z,e1,p,h1,h2⟩
  have hi:i<ts.length:=by rw[<-A.Fd];exact(ae.mp e1).1
  obtain⟨Z',e2,b2⟩:=A.e i _ (aa hi);rw[e1] at e2;injection e2 with e2;subst e2
  rw[b2,af] at h2;obtain⟨⟨t,m,hq⟩,_⟩:=(qM A h p).mp h1;obtain⟨ip,p0,_⟩:=pd A m hq;obtain⟨j,ej⟩:=bA m;have:=A.Xi i j _ t p (aa hi) ej h2.1 ip;subst this;rw[aa hi] at ej;injection ej with ej;subst ej
  exact#[_,aa hi,p,hq,by rw[MV p0];exact h2.2]
 .rintro⟨t,ei,p,hq,n⟩
  have m:=aw ei;obtain⟨Z,e1,e2⟩:=A.e i t ei;obtain⟨ip,p0,_⟩:=pd A m hq;have up:=DL A U m hq n;rw[MV p0] at n;exact#[Z,e1,p,(qM A h p).mpr #[#[t,m,hq],up],by rw[e2,ip,n];rfl]
theorem IG(A:xN ts sg bh en)(U:Fc sg bh en u)(h:Jw ts u w 0)(m:t∈ts):∀(v:List Nat)(c p:Nat),hs t (w++v++[c]) p->¬u.testBit p=true:=by
 intro v;generalize hn:v.length=n;induction n generalizing v with
 |zero=>
  intro c p hp z;rw[zQ.mp hn,bb,ju] at hp;obtain⟨q,hq,f,_⟩:=hp;have:=(h p).mpr #[#[t,m,q,hq,f],z];simp at this
 |succ n ih=>
  intro c p hp z;rw[ju] at hp;obtain⟨q,hq,f,_⟩:=hp;have nn:v≠[]:=λe=>by rw[e] at hn;simp at hn
  rw[<-vC nn,<-bj] at hq;exact ih v.dropLast (by simp[hn]) _ q hq (AM A U m hq f z)
theorem II(A:xN ts sg bh en)(U:Fc sg bh en u)(h:Jw ts u (x.take k) 0)(hj:k<j)(hx:j<=x.length):Nn ts x j i:=by
 rintro t e ⟨p,hp,n⟩;have m:=aw e;obtain⟨j',rfl⟩:∃j',j=j'+1:=#[j-1,∅]
 have e1:x.take (j'+1)=x.take k++(x.drop k).take (j'-k)++[x[j']'∅]:=by
  rw[take_snoc (aa ∅)]
  congr 1
  obtain⟨d,rfl⟩:∃d,j'=k+d:=#[j'-k,∅]
  rw[List.take_add];simp
 rw[e1] at hp;exact IG A U h m _ _ p hp (DL A U m hp n)
end
section
variable{ts:List Tr}{sg:List (List Nat)}{bh en:List Nat}{u r:Nat}{w:List Nat}
theorem zi{A:xN ts sg bh en}{t:Tr}(m:t∈ts){p:Nat}(i:IN t p=true):mC vp sg p=true↔jL.sgn t p≠[]:=by
 unfold mC;rw[A.sgn t m p i]
 show vp (jL.sgn t p)=true↔_
 unfold vp;simp
theorem DM(A:xN ts sg bh en)(U:Fc sg bh en u){t:Tr}(m:t∈ts){p:Nat}(i:IN t p=true):u.testBit p=true↔jL.sgn t p≠[]/\dk (cont t p)=true:=by
 constructor
 .intro h
  refine U.m (λp=>∀t∈ts,IN t p=true->jL.sgn t p≠[]/\dk (cont t p)=true) #[λZ p hZ hz hp t m i=>?_,λq B p hq hB hp ih t m i=>?_] p h t m i
  .obtain⟨j,ej⟩:=bA hZ
   have hj:j<ts.length:=by rw[<-A.Fd];exact(ae.mp ej).1
   obtain⟨Z',e2,b2⟩:=A.e j _ (aa hj);rw[ej] at e2;injection e2 with e2;subst e2
   rw[b2,af] at hz;obtain⟨k,ek⟩:=bA m;have:=A.Xi j k _ t p (aa hj) ek hz.1 i;subst this;rw[aa hj] at ek;injection ek with ek;subst ek
   exact#[(zi (A:=A) m i).mp hp,vn hz.2]
  .obtain⟨B',e1,b1⟩:=A.b t m q i
   rw[hB] at e1;injection e1 with e1;subst e1
   rw[b1] at hp;obtain⟨h1,h2⟩:=ih t m (eY hp);obtain⟨n,n0,pl⟩:=A.pos t m;obtain⟨c,hc⟩:=yq _ h1;have:=zg ((lW pl).mpr #[p,hp,hc,rfl]) h2;rw[mB,af] at this;exact#[(zi (A:=A) m i).mp hq,this.1]
 .rintro⟨h1,h2⟩
  obtain⟨n,n0,pl⟩:=A.pos t m;generalize hk:Bc (cont t p)=k;induction k using Nat.strongRecOn generalizing p with
  |ind k ih=>
   have hp:=(zi (A:=A) m i).mpr h1;cases z:dq (cont t p) with
   |true=>
    obtain⟨j,ej⟩:=bA m;obtain⟨Z,e1,e2⟩:=A.e j t ej;exact U.e Z p (aw e1) (by rw[e2,i,z];rfl) hp
   |false=>
    obtain⟨c,x,d1,d2,d3⟩:=DH h2 z;obtain⟨p',f,hc,rfl⟩:=(lW pl).mp d1;obtain⟨B,e1,b1⟩:=A.b t m p i;exact U.b p B p' hp e1 (by rw[b1];exact f) (ih _ ∅ (eY f) (λe=>by rw[e] at hc;simp at hc) d2 rfl)
theorem IJ(A:xN ts sg bh en)(U:Fc sg bh en u)(h:Jw ts u w r):r≠0↔∃t∈ts,∃q,hs t w q/\mB (ct t q)=true:=by
 constructor
 .intro z
  obtain⟨p,hp⟩:=vD z;obtain⟨⟨t,m,q,hq,f⟩,uz⟩:=(h p).mp hp;obtain⟨n,n0,pl⟩:=A.pos t m;obtain⟨h1,h2⟩:=(DM A U m (oz f)).mp uz;obtain⟨c,hc⟩:=yq _ h1;exact#[t,m,q,hq,vo.mpr #[c,_,(vk pl n0).mpr #[p,f,hc,rfl],by rw[MV (vj pl n0 (oz f))];exact h2]]
 .rintro⟨t,m,q,hq,z⟩
  obtain⟨n,n0,pl⟩:=A.pos t m;obtain⟨c,x,d1,d2⟩:=vo.mp z;obtain⟨p,f,hc,rfl⟩:=(vk pl n0).mp d1;rw[MV (vj pl n0 (oz f))] at d2;have:=(h p).mpr #[#[t,m,q,hq,f],(DM A U m (oz f)).mpr #[λe=>by rw[e] at hc;simp at hc,d2]];intro e;rw[e] at this;simp at this
end
structure tM(S:bI)(P:Nat)(ts:List Tr)(u:Nat):Prop where
 o:∃sg bh en,FF S P (bh.map (·&&&u)) en (λc=>jD (·.contains c) sg)/\xN ts sg bh en/\Fc sg bh en u/\sg.length<=100
theorem tM.ext{S S':bI}{P:Nat}{ts:List Tr}{u:Nat}(h:tM S P ts u)(x:Ext S S'):tM S' P ts u:=by
 obtain⟨sg,bh,en,pa,A,U,l⟩:=h.o;exact#[sg,bh,en,pa.ext x,A,U,l]
theorem tM.old{S S':bI}{P:Nat}{ts:List Tr}{u r:Nat}{c:String}{fs:List (String×U)}(h:tM S P ts u)(x:Old r S S')(hr:S[r]?=some (.ins c fs))(ne:P≠r):tM S' P ts u:=by
 obtain⟨sg,bh,en,pa,A,U,l⟩:=h.o;exact#[sg,bh,en,pa.old x hr ne,A,U,l]
theorem P6(A:xN ts sg bh en)(h:Jw ts u w r)(p:Nat)(hp:r.testBit p=true):p<(bh.map (·&&&u)).length:=by
 obtain⟨⟨t,m,q,_,f⟩,_⟩:=(h p).mp hp;have:=(ae.mp (A.sgn t m p (oz f))).1;rw[aq,A.len];exact this
structure Ff(ts:List Tr)(u:Nat)(x:List Nat)(r k:Nat)(f:Option (Nat×Nat)):Prop where
 le:k<=x.length
 wr:Jw ts u (x.take k) r
 bs:sH ts x k f
def T8:Spec:=λus S Q _=>∃w P r k f x ts u,us=[.loc w,.str x]/\S[w]?=some (zK P r k (uR f))/\tM S P ts u/\P≠w/\Ff ts u x r k f/\(∀c∈x,c∈SG)/\x.length<=1000 /\
 ∀f r k S',Ff ts u x r k f->(r=0\/k=x.length)->Old w S S'->S'[w]?=some (zK P r k (uR f))->Q .bK S'
theorem T9(Γ:bY)(h1:Γ "Walk.may_go_on"=P5)(h2:Γ "Walk.step"=T5):Keeps Γ jY 0 T8:=by
 rintro us S Q E ⟨w,P,r,k,f,x,ts,u,rfl,hw,pa,ne,wa,hx,hl,q⟩;unfold jY;room;refine#[x.length+1,lJ (λn env S1=>∃k r f,n=x.length-k/\env=[some (.loc w),some (.str x)]/\Old w S S1/\S1[w]?=some (zK P r k (uR f))/\tM S1 P ts u/\Ff ts u x r k f) ?_ _ (x.length-k) _ _ ∅ #[k,r,f,rfl,rfl,.refl,hw,pa,wa]];rintro n env S1 K ⟨k,r,f,rfl,rfl,o1,g1,pa1,wa⟩ hK;obtain⟨hk,wr,bs⟩:=id wa;room;have g1':=g1;unfold zK at g1';rw[g1',aZ]
 refine#[#[rfl,rfl],ca h1 #[w,P,r,k,_,rfl,g1,?_]];obtain⟨sg,bh,en,pp,A,U,l⟩:=pa1.o;room;by_cases z:r=0
 .subst z
  have:((((0:Nat):Int))== 0)=true:=rfl;simp only[this,bO,ah,if_false];room;exact q f _ k S1 wa (.inl rfl) o1 g1
 .have:((r:Int)== 0)=false:=by rw[beq_eq_false_iff_ne];omega
  simp only[this,bV,if_true];rw[P2 g1]
  room;refine#[∅,?_];by_cases y:k<x.length
  .have:((k:Int)<(x.length:Int)):=∅
   simp only[this,decide_true,if_true];room;rw[g1',aZ]
   refine#[#[rfl,rfl],?_];rw[P2 g1]
   room;rw[ij,aa y,aP]
   have hc:x[k]?=some x[k]:=aa y;refine#[∅,ca h2 #[w,P,r,k,_,x[k],_,en,_,rfl,g1,pp,ne,by rw[aq,A.len];exact l,hx _ (bH y),P6 A wr,λr' i S2 hb hf o2 g2=>?_]];room;have wr':=IE A U wr hb;rw[<-take_snoc hc] at wr';have nn:∀i,Nn ts x (k+1) i↔¬Ov (r&&&jD (·.contains x[k]) sg) en i:=λi=>by
    rw[IF A U wr i,<-take_snoc hc]
    exact#[λh #[t,e,z]=>h t e z,λh t e z=>h #[t,e,z]]
   cases i with
   |none=>exact hK (x.length-(k+1)) _ _ ∅ #[k+1,r',f,rfl,rfl,o1.trans o2,g2,pa1.old o2 g1' ne,∅,wr',oA bs ∅ λj i h1 h2=>by
     have:j=k+1:=∅
     subst this;exact(nn i).mpr (hf i)]
   |some i=>exact hK (x.length-(k+1)) _ _ ∅ #[k+1,r',some (i,k+1),rfl,rfl,o1.trans o2,g2,pa1.old o2 g1' ne,∅,wr',DG (λh=>(nn i).mp h hf.1) λi' hi=>(nn i').mpr (hf.2 i' hi)]
  .have:¬((k:Int)<(x.length:Int)):=∅
   simp only[this,decide_false,ah,if_false];room;have ek:k=x.length:=∅
   subst ek;exact q f _ _ S1 wa (.inr rfl) o1 g1
theorem Ff.full(A:xN ts sg bh en)(U:Fc sg bh en u)(h:Ff ts u x r k f)(e:r=0\/k=x.length):sH ts x x.length f:=by
 rcases e with rfl|rfl
 .exact oA h.bs h.le λj i h1 h2=>II A U h.wr h1 h2
 .exact h.bs
noncomputable def Zk(P:Nat):SO:=.ins "Lexer" [("places",.loc P)]
structure Ua(S:bI)(X:Nat)(ts:List Tr):Prop where
 o:∃P u,S[X]?=some (Zk P)/\tM S P ts u
theorem Ua.ext{S S':bI}{X:Nat}{ts:List Tr}(h:Ua S X ts)(x:Ext S S'):Ua S' X ts:=by
 obtain⟨P,u,g,pa⟩:=h.o;exact#[P,u,x.get g,pa.ext x]
theorem AN:lT x (some (a:Nat)) none=x.drop a:=by
 unfold lT;simp only[cC,jc,i7,Bm];by_cases h:a<=x.length
 .rw[fY h,bN (by simp)]
 .rw[jG ∅,tm,dD ∅];simp
noncomputable def iW(ts:List Tr):Nat:=(ts.map size).sum
def LS:Nat->List Tr->Prop
 |_,[]=>True
 |n,t::ts=>nN n t/\LS (n+size t) ts
theorem zj:∀{ts:List Tr}{n i:Nat}{t:Tr},LS n ts->ts[i]?=some t->nN (n+iW (ts.take i)) t
 |[],n,i,t,h,e=>by simp at e
 |a::ts,n,0,t,h,e=>by
  have:a=t:=by simpa using e
  subst this;exact h.1
 |a::ts,n,i+1,t,h,e=>by
  have:=zj (i:=i) h.2 (by simpa using e);simpa[iW,Nat.add_assoc] using this
theorem LU:xN [] [[]] [0] []:=
 #[rfl,rfl,λi j t t' p h=>by simp at h,λt h=>by simp at h,λt h=>by simp at h,#[0,rfl,λp=>by simp],λt h=>by simp at h,λi t h=>by simp at h,λt h=>by simp at h]
theorem IK(A:xN ts sg bh en)(s0:0<sg.length)(hp:nN sg.length t)(nt:null t=false)(l:sZ t bh F Z (B::bt)):xN (ts++[t]) (sg++oy t) ((B|||F)::bt) (en++[Z]):=by
 have lt:∀t'∈ts,∀p,IN t' p=true->p<sg.length:=λt' m p i=>(ae.mp (A.sgn t' m p i)).1
 have ge:∀p,IN t p=true->sg.length<=p/\p<sg.length+size t:=λp i=>(eI hp).mp i
 have ll:=gM t;have l1:=l.len;have l2:=A.len;have bs:∀(q C:Nat),0<q->(B::bt)[q]?=some C->((B|||F)::bt)[q]?=some C:=λq C h e=>by
  cases q with
  |zero=>omega
  |succ q=>exact e
 have mem:∀{t'},t'∈ts++[t]->t'∈ts\/t'=t:=λh=>by simpa using h
 have at_:∀{i:Nat}{t'},(ts++[t])[i]?=some t'->ts[i]?=some t'\/(i=ts.length/\t'=t):=λ{i t'}h=>by
  rw[gR] at h;split at h
  .exact .inl h
  .rename_i z
   have il:i=ts.length:=by
    have:=(ae.mp h).1;simp at this;omega
   subst il;simp at h;exact .inr #[rfl,h.symm]
 refine#[?_,?_,?_,?_,?_,?_,?_,?_,?_]
 .rw[aB,ll]
  simp only[aQ] at l1 ⊢;omega
 .simp[A.Fd]
 .intro i j t1 t2 p e1 e2 i1 i2
  rcases at_ e1 with f1|⟨f1,g1⟩<;>rcases at_ e2 with f2|⟨f2,g2⟩
  .exact A.Xi i j _ _ p f1 f2 i1 i2
  .have:=lt _ (aw f1) p i1;rw[g2] at i2;have:=ge p i2;omega
  .have:=lt _ (aw f2) p i2;rw[g1] at i1;have:=ge p i1;omega
  .omega
 .intro t' m
  rcases mem m with m|rfl
  .exact A.pos t' m
  .exact#[_,s0,hp]
 .intro t' m p i
  rcases mem m with m|rfl
  .rw[ao (lt t' m p i)];exact A.sgn t' m p i
  .rw[ay (ge p i).1];exact rN hp i
 .obtain⟨B',e,b⟩:=A.b0
  have:=l.old 0 ∅;rw[e] at this;have eB:B=B':=by simpa using this
  subst eB;refine#[B|||F,rfl,λp=>?_];rw[cB,aO,b,l.f]
  constructor
  .rintro(⟨t',m,f⟩|f)
   .exact#[t',by simp[m],f]
   .exact#[t,by simp,f]
  .rintro⟨t',m,f⟩
   rcases mem m with m|rfl
   .exact .inl #[t',m,f]
   .exact .inr f
 .intro t' m q i
  rcases mem m with m|rfl
  .obtain⟨C,e,b⟩:=A.b t' m q i
   have ql:=lt t' m q i;obtain⟨n,n0,pl⟩:=A.pos t' m;have q0:=vj pl n0 i;exact#[C,bs q C ∅ ((l.old q ∅).trans e),b]
  .obtain⟨C,e,b⟩:=l.new q i
   have:=ge q i;exact#[C,bs q C ∅ e,b]
 .intro i t' e
  rcases at_ e with e|⟨rfl,rfl⟩
  .obtain⟨Z',e1,b⟩:=A.e i t' e
   exact#[Z',by rw[ao (ae.mp e1).1];exact e1,b]
  .exact#[Z,by rw[<-A.Fd];simp,l.z]
 .intro t' m
  rcases mem m with m|rfl
  .exact A.nl t' m
  .exact nt
def Ub:Spec:=λus S Q _=>∃x v t r,us=[.str x,v]/\x.length<=1000/\sF x=.ok (t,r)/\∀S',Ext S S'->Q t S'
theorem Uc(Γ:bY)(h1:Γ "read"=Co):Keeps Γ oX 1 Ub:=by
 rintro us S Q E ⟨x,v,t,r,rfl,hl,hr,q⟩;unfold oX;room;refine ca h1 #[x,rfl,hl,?_];rw[hr]
 exact q
def YC(ts:List Tr)(xs:List (List Nat)):Prop:=xs.length=ts.length/\∀(i:Nat)t x,ts[i]?=some t->xs[i]?=some x->x.length<=1000/\∃r,sF x=.ok (enc t,r)
structure nP(ts:List Tr):Prop where
 len:ts.length<=4
 pl:LS 1 ts
 nl:∀t∈ts,null t=false
 dp:∀t∈ts,bG t<4
 sz:iW ts<=24
theorem size_take(e:ts[i]?=some t):iW (ts.take (i+1))=iW (ts.take i)+size t/\iW (ts.take (i+1))<=iW ts:=by
 have h1:ts.take (i+1)=ts.take i++[t]:=by rw[cf,e];rfl
 refine#[by rw[h1];simp[iW],?_];have:iW ts=iW (ts.take (i+1))+iW (ts.drop (i+1)):=by
  unfold iW;rw[<-JK,<-eH,Bs]
 omega
def Ud:Spec:=λus S Q _=>∃n xs ts,us=[.loc n,.int 24]/\S[n]?=some (.lst (xs.map .str))/\YC ts xs/\nP ts/\∀P u S',tM S' P ts u->Ext S S'->Q (.loc P) S'
theorem Ue(Γ:bY)(h1:Γ "Layout.__init__"=PJ)(h2:Γ "Layout.lay"=hU (Tu 4))(h3:Γ "tree_of"=Ub)(h4:Γ "Layout.how_many"=PK)(h5:Γ "Layout.close_rule"=PM)(h6:Γ "Places.__init__"=PZ):Keeps Γ lu 4 Ud:=by
 rintro us S Q E ⟨n,xs,ts,rfl,gn,hR,hT,q⟩;unfold lu;have gL:(S++[SO.ins "Layout" []])[S.length]?=some (.ins "Layout" []):=by simp
 have nS:=bF gn;room;refine ca h1 #[S.length,rfl,gL,by simp,λS1 e1 la1=>#[rfl,?_]];have x1:∀n,n<S.length->S1[n]?=S[n]?:=λn hn=>by rw[e1 n hn,ao hn]
 have gn1:S1[n]?=some (.lst (xs.map .str)):=by rw[x1 n nS];exact gn
 have xl:xs.length<=4:=by rw[hR.1];exact hT.len
 room;simp only[EF];rw[gn1,aG]
 have ec:lT (xs.map U.str) none (some 6)=xs.map U.str:=by
  unfold lT;simp only[jc,cC,Int.toNat_zero,Nat.zero_min,kX,Nat.sub_zero,aq];rw[jG (by show xs.length<=6;omega)]
  exact bN (by simp)
 rw[ec]
 refine#[#[λi e=>(by cases e),λi e=>(by injection e with e;omega)],?_];have x2:Ext S1 (S1++[SO.lst (xs.map U.str)]):=Ext.app _;have g2:(S1++[SO.lst (xs.map U.str)])[S1.length]?=some (.lst (xs.map .str)):=by simp
 have l1:=la1.len;generalize S1.length=m at g2 l1;generalize S1++[SO.lst (xs.map U.str)]=S2 at g2 x2;room;rw[g2,aG]
 refine d9 (λi env S3=>∃(sg:List (List Nat))(bh en:List Nat)(x3 x4 x5:Option U),env=[some (.loc n),some (.int 24),some (.loc S.length),x3,x4,x5]/\Fr S.length S2 S3/\qK S3 S.length sg bh en/\xN (ts.take i) sg bh en/\sg.length=1+iW (ts.take i)/\i<=ts.length) (λi env S3 #[_,_,_,_,_,_,_,f,_]=>f.get g2 l1) _ ?_ ?_
  #[[[]],[0],[],none,none,none,rfl,.refl,la1.ext x2,LU,rfl,∅]
 .rintro i u env S3 K hu ⟨sg,bh,en,x3,x4,x5,rfl,f3,la3,A,hsg,hi⟩ hK
  simp only[jP,ar,Jl] at hu;obtain⟨x,hx,rfl⟩:=ag.mp hu;have il:i<ts.length:=by rw[<-hR.1];exact(ae.mp hx).1
  have ht:ts[i]?=some ts[i]:=aa il;have hm:ts[i]∈ts:=bH il;generalize ts[i]=t at ht hm;obtain⟨xle,r,hr⟩:=hR.2 i t x ht hx;have pt:=zj hT.pl ht;rw[<-hsg] at pt;obtain⟨s1,s2⟩:=size_take ht;have sz:=hT.sz;have nt:=hT.nl t hm;simp only[kQ];room;rw[la3.o,aZ]
  refine#[#[rfl,rfl],ca h3 #[x,_,enc t,r,rfl,xle,hr,λS4 x4=>?_]];have la4:=la3.ext x4;refine ca h2 #[S.length,sg,bh,en,t,_,rfl,#[hT.dp t hm,rfl],la4,pt,A.len,∅,λS5 p F Z bh' f5 pl5 g5 la5 lr=>?_];rw[nt] at g5;room;rw[E7 g5]
  room;rw[la5.o,aZ]
  refine#[#[rfl,rfl],ca h4 #[S.length,_,bh',en,rfl,la5,by rw[aB,gM];omega,?_]];have:¬(24<(((sg++oy t).length:Nat):Int)-1):=by rw[aB,gM];omega
  room;simp only[this,decide_false,ah,if_false];room;rw[la5.o,aZ]
  have bl:=lr.len;cases bh' with
  |nil=>have:=A.len;simp at bl;omega
  |cons B bt=>
   refine#[#[rfl,rfl],ca h5 #[S.length,_,_,en,p,false,F,Z,B,bt,rfl,la5,rfl,g5,pl5,by rw[A.Fd];simp;have:=hT.len;omega,λS6 f6 la6=>?_]];room;have et:ts.take (i+1)=ts.take i++[t]:=by rw[cf,ht];rfl
   refine hK _ _ #[_,_,_,_,_,_,rfl,((f3.trans (Ext.fr x4)).trans f5).trans f6,la6,by rw[et];exact IK A ∅ pt nt lr,by rw[aB,gM,s1];omega,il]
 .rintro env S3 ⟨sg,bh,en,x3,x4,x5,rfl,f3,la3,A,hsg,hi⟩
  rw[Fy,aq,hR.1,b9] at A hsg;have gn3:S3[n]?=some (.lst (xs.map .str)):=by
   rw[f3.2 n (by have:=x2.1;have:=bF gn1;omega) (.inl ∅),x2.2 n (bF gn1)];exact gn1
  room;rw[uI gn3]
  simp only[aP,aq];have:¬((6:Int)<(xs.length:Int)):=∅
  refine#[∅,?_];simp only[this,decide_false,ah,if_false];room;have gP:(S3++[SO.ins "Places" []])[S3.length]?=some (.ins "Places" []):=by simp
  have sz:=hT.sz;have sl3:=la3.len;refine ca h6 #[S3.length,S.length,sg,bh,en,rfl,gP,by simp,la3.ext (Ext.app _),∅,A.len,by rw[A.Fd];have:=hT.len;omega,λu S4 hu e4 pa=>#[rfl,?_]];obtain⟨_,_,_,oP,_⟩:=pa.o;refine q _ u S4 #[sg,bh,en,pa,A,hu,∅] #[?_,λn hn=>?_]
  .have:=bF oP;omega
  .have:=x2.1
   have:=la1.len;rw[e4 n ∅,ao ∅,f3.2 n ∅ (.inl ∅),x2.2 n ∅];exact x1 n hn
def Ug:Spec:=λus S Q _=>∃X n xs ts,us=[.loc X,.loc n]/\S[X]?=some (.ins "Lexer" [])/\S[n]?=some (.lst (xs.map .str))/\YC ts xs/\nP ts/\∀S',Ua S' X ts->Old X S S'->Q .bK S'
theorem Uh(Γ:bY)(h1:Γ "places_of"=Ud):Keeps Γ jZ 0 Ug:=by
 rintro us S Q E ⟨X,n,xs,ts,rfl,gX,gn,hR,hT,q⟩;unfold jZ;room;refine ca h1 #[n,xs,ts,rfl,gn,hR,hT,λP u S1 pa x1=>?_];have gX1:=x1.get gX;have ne:P≠X:=λz=>by
  obtain⟨_,_,_,pp,_⟩:=pa.o;obtain⟨_,_,_,h,_⟩:=pp.o;rw[z,gX1] at h;simp at h
 refine pD gX1 (by simp) λS2 o2 l2 g2=>?_
 room;exact q S2 #[P,u,g2,pa.old o2 gX1 ne] ((Ext.old x1).trans o2)
noncomputable def er:Tr->Tr
 |.one _ l=>.one 0 l
 |.row a b=>.row (er a) (er b)
 |.or a b=>.or (er a) (er b)
 |.rep m a=>.rep m (er a)
theorem rR:∀t,enc (er t)=enc t
 |.one _ l=>rfl
 |.row a b=>by simp only[er,enc,rR a,rR b]
 |.or a b=>by simp only[er,enc,rR a,rR b]
 |.rep m a=>by simp only[er,enc,rR a]
theorem lM:∀t,null (er t)=null t
 |.one _ l=>rfl
 |.row a b=>by simp only[er,null,lM a,lM b]
 |.or a b=>by simp only[er,null,lM a,lM b]
 |.rep m a=>by cases m<;>simp only[er,null,lM a]
theorem LV:more m (er a)=(more m a).map er:=by cases m<;>rfl
theorem xO:∀t c,dF (er t) c=(dF t c).map (cQ er)
 |.one _ l,c=>by simp only[er,dF];split<;>rfl
 |.row a b,c=>by
  simp only[er,dF,xO a,xO b,lM,eH,bM]
  congr 1
  .congr 1;funext x;simp
  .split<;>rfl
 |.or a b,c=>by simp only[er,dF,xO a,xO b,eH]
 |.rep m a,c=>by
  simp only[er,dF,xO a,LV,bM]
  congr 1;funext x;simp
theorem MX:∀(K:List Tr)c,dR (K.map er) c=(dR K c).map (cQ er)
 |[],c=>rfl
 |t::K,c=>by
  simp only[aF,dR,xO,MX K,lM,eH,bM]
  congr 1
  .congr 1;funext x;simp
  .split<;>rfl
theorem zk(K:List Tr):cH (K.map er)=cH K:=by
 unfold cH;rw[bM]
 congr 2;funext t
 exact rR t
theorem eqT(h:oN (.tup [.str k,x]) (.tup [.str k',y])=true):k=k'/\oN x y=true:=by
 have h:((k==k')&&(oN x y&&true))=true:=h;rw[mG,af] at h;exact#[eq_of_beq h.1,h.2]
theorem eqQ(h:oN (.tup [x,x']) (.tup [y,y'])=true):oN x y=true/\oN x' y'=true:=by
 have h:(oN x y&&(oN x' y'&&true))=true:=h;rw[mG,af] at h;exact h
theorem LW(h:oN x y=true):oN (.tup [.str k,x]) (.tup [.str k,y])=true:=by
 show((k==k)&&(oN x y&&true))=true
 rw[h];simp
theorem Ui(h:oN x y=true)(h':oN x' y'=true):oN (.tup [x,x']) (.tup [y,y'])=true:=by
 show(oN x y&&(oN x' y'&&true))=true
 rw[h,h'];rfl
theorem nE(m:Mk):nj m≠LF/\nj m≠v5/\nj m≠QP:=by cases m<;>decide
theorem mk_inj(h:nj m=nj m'):m=m':=by
 revert h
 cases m<;>cases m'<;>first|exact λ_=>rfl|exact λh=>absurd h ⋯
theorem rS:∀a b,oN (enc a) (enc b)=true->er a=er b
 |.one _ l,.one _ l',h=>by
  have:l=l':=eq_of_beq (show(l==l')=true from (eqT h).2);rw[this];rfl
 |.one _ _,.row _ _,h=>absurd (eqT h).1 ⋯
 |.one _ _,.or _ _,h=>absurd (eqT h).1 ⋯
 |.one _ _,.rep m _,h=>absurd (eqT h).1.symm (nE m).1
 |.row _ _,.one _ _,h=>absurd (eqT h).1 ⋯
 |.row a1 a2,.row b1 b2,h=>by
  have h:=eqQ (eqT h).2;simp only[er,rS a1 b1 h.1,rS a2 b2 h.2]
 |.row _ _,.or _ _,h=>absurd (eqT h).1 ⋯
 |.row _ _,.rep m _,h=>absurd (eqT h).1.symm (nE m).2.1
 |.or _ _,.one _ _,h=>absurd (eqT h).1 ⋯
 |.or _ _,.row _ _,h=>absurd (eqT h).1 ⋯
 |.or a1 a2,.or b1 b2,h=>by
  have h:=eqQ (eqT h).2;simp only[er,rS a1 b1 h.1,rS a2 b2 h.2]
 |.or _ _,.rep m _,h=>absurd (eqT h).1.symm (nE m).2.2
 |.rep m _,.one _ _,h=>absurd (eqT h).1 (nE m).1
 |.rep m _,.row _ _,h=>absurd (eqT h).1 (nE m).2.1
 |.rep m _,.or _ _,h=>absurd (eqT h).1 (nE m).2.2
 |.rep m a,.rep m' b,h=>by
  have e:=mk_inj (eqT h).1;subst e;simp only[er,rS a b (eqT h).2]
theorem mD:∀a,oN (enc a) (enc a)=true
 |.one _ l=>LW (show(l==l)=true by simp)
 |.row a b=>LW (Ui (mD a) (mD b))
 |.or a b=>LW (Ui (mD a) (mD b))
 |.rep m a=>LW (mD a)
theorem zm:∀K L:List Tr,qv (K.map enc) (L.map enc)=true->K.map er=L.map er
 |[],[],_=>rfl
 |[],_::_,h=>by simp[qv] at h
 |_::_,[],h=>by simp[qv] at h
 |a::K,b::L,h=>by
  simp only[aF,qv,af] at h ⊢;rw[rS a b h.1,zm K L h.2]
theorem xP:∀K:List Tr,qv (K.map enc) (K.map enc)=true
 |[]=>rfl
 |a::K=>by simp[qv,mD a,xP K]
theorem zo:oN (cH K) (cH L)=true↔cH K=cH L:=by
 constructor
 .intro h
  rw[<-zk K,<-zk L,zm K L h]
 .intro h
  rw[<-h];exact xP K
theorem MY(h:cH K=cH L):K.map er=L.map er:=zm K L (zo.mpr h)
theorem IL(M:List Tr):dq (M.map er)=dq M:=by unfold dq;rw[r9];congr 1;funext t;exact lM t
theorem P7(h:cH K=cH L):(dR K c).map cH=(dR L c).map cH:=by
 have key:∀M:List Tr,(dR (M.map er) c).map cH=(dR M c).map cH:=λM=>by
  rw[MX,bM];congr 1;funext x;exact zk x
 rw[<-key K,<-key L,MY h]
theorem xQ:∀t,vU (enc t)=true
 |.one _ l=>rfl
 |.row a b=>by simp[enc,vU,jI,xQ a,xQ b]
 |.or a b=>by simp[enc,vU,jI,xQ a,xQ b]
 |.rep m a=>by simp[enc,vU,jI,xQ a]
theorem pf:∀t,dep (enc t)<=2*bG t+1
 |.one _ l=>by simp[enc,dep,jJ]
 |.row a b=>by
  have:=pf a;have:=pf b;simp only[enc,dep,jJ,bG];omega
 |.or a b=>by
  have:=pf a;have:=pf b;simp only[enc,dep,jJ,bG];omega
 |.rep m a=>by
  have:=pf a;simp only[enc,dep,jJ,bG];omega
theorem Cs:∀K:List Tr,jI (K.map enc)=true
 |[]=>rfl
 |t::K=>by simp[jI,xQ t,Cs K]
theorem AO:∀K:List Tr,(∀t∈K,bG t<=d)->jJ (K.map enc)<=2*d+1
 |[],_=>by simp[jJ]
 |t::K,h=>by
  have h1:=pf t;have h2:=h t (bf ..);have h3:=AO K λt m=>h t (aU _ m)
  simp only[aF,jJ];omega
noncomputable def iX(K:List Tr):Nat:=(K.map size).sum
theorem vt:iX (K++L)=iX K+iX L:=by simp[iX]
theorem mE:∀t p,(cont t p).length<=bG t/\(∀x∈cont t p,bG x<=bG t)/\iX (cont t p)<=size t*bG t
 |.one _ _,p=>by simp[cont,bG,iX]
 |.row a b,p=>by
  have ha:=mE a p;have hb:=mE b p;have m1:size a*bG a<=size a*max (bG a) (bG b):=kH _ ∅;have m2:size b*bG b<=size b*max (bG a) (bG b):=kH _ ∅;have m3:(size a+size b)*(max (bG a) (bG b)+1)=size a*max (bG a) (bG b)+size b*max (bG a) (bG b)+size a+size b:=by
   rw[Ee,Nat.add_mul];omega
  simp only[cont,bG,size];split
  .refine#[by simp;omega,λx hx=>?_,?_]
   .rcases aD.mp hx with h|h
    .have:=ha.2.1 x h;omega
    .simp at h;subst h;omega
   .rw[vt,m3]
    have:iX [b]=size b:=by simp[iX]
    omega
  .exact#[∅,λx hx=>by have:=hb.2.1 x hx;omega,by rw[m3];omega]
 |.or a b,p=>by
  have ha:=mE a p;have hb:=mE b p;have m1:size a*bG a<=size a*max (bG a) (bG b):=kH _ ∅;have m2:size b*bG b<=size b*max (bG a) (bG b):=kH _ ∅;have m3:(size a+size b)*(max (bG a) (bG b)+1)=size a*max (bG a) (bG b)+size b*max (bG a) (bG b)+size a+size b:=by
   rw[Ee,Nat.add_mul];omega
  simp only[cont,bG,size];split
  .exact#[∅,λx hx=>by have:=ha.2.1 x hx;omega,by rw[m3];omega]
  .exact#[∅,λx hx=>by have:=hb.2.1 x hx;omega,by rw[m3];omega]
 |.rep m a,p=>by
  have ha:=mE a p;have m3:size a*(bG a+1)=size a*bG a+size a:=by rw[Ee];omega
  simp only[cont,bG,size];refine#[?_,λx hx=>?_,?_]
  .cases m<;>simp[more]<;>omega
  .rcases aD.mp hx with h|h
   .have:=ha.2.1 x h;omega
   .cases m<;>simp[more] at h<;>subst h<;>simp[bG]
  .rw[vt,m3]
   have:iX (more m a)<=size a:=by cases m<;>simp[more,iX,size]
   omega
theorem Ct(h:bG t<4)(hs:size t<=100):(ct t p).length<=4/\(∀x∈ct t p,bG x<4)/\iX (ct t p)<=400:=by
 unfold ct;split
 .exact#[by simp,by simpa using h,by simp[iX];omega]
 .have:=mE t p
  have m:size t*bG t<=100*4:=Nat.mul_le_mul hs ∅;exact#[∅,λx hx=>by have:=this.2.1 x hx;omega,∅]
theorem lY:∀t c,(dF t c).length<=size t/\∀x∈dF t c,x.length<=bG t
 |.one _ l,c=>by simp only[dF];split<;>simp[size]
 |.row a b,c=>by
  have ha:=lY a c;have hb:=lY b c;simp only[dF,size,bG];refine#[by rw[aB,aq];split<;>(try simp)<;>omega,λx hx=>?_];rcases aD.mp hx with h|h
  .obtain⟨y,hy,rfl⟩:=bx.mp h
   have:=ha.2 y hy;simp;omega
  .split at h
   .have:=hb.2 x h;omega
   .simp at h
 |.or a b,c=>by
  have ha:=lY a c;have hb:=lY b c;simp only[dF,size,bG];refine#[by simp;omega,λx hx=>?_];rcases aD.mp hx with h|h
  .have:=ha.2 x h;omega
  .have:=hb.2 x h;omega
 |.rep m a,c=>by
  have ha:=lY a c;simp only[dF,size,bG];refine#[by simp;omega,λx hx=>?_];obtain⟨y,hy,rfl⟩:=bx.mp hx;have:=ha.2 y hy;cases m<;>simp[more]<;>omega
theorem IM:∀(K:List Tr)c,(dR K c).length<=iX K
 |[],c=>by simp[dR]
 |t::K,c=>by
  have h1:=(lY t c).1;have h2:=IM K c;simp only[dR,iX,aF,mH,aB,aq] at h2 ⊢;split<;>(try simp)<;>omega
theorem nk{g:bI->Prop}{c:U->bI->(Bool->bI->Prop)->Prop}{e:U->bI->KU->Prop}{Q:List U->bI->Prop}{S:bI}(l vs:List U)(hv:vs.length=l.length)(hl:l.length<1000000)(hg:∀S',Ext S S'->g S')(hc:∀u S' k,k true S'->c u S' k)
  (he:∀(i:Nat)u v,l[i]?=some u->vs[i]?=some v->∀S' k,Ext S S'->(∀S2,Ext S' S2->k v S2)->e u S' k) (q:∀S',Ext S S'->Q vs S'):nA g c e Q l [] S:=by
 refine fO l (λi acc S'=>Ext S S'/\acc=vs.take i) (λi acc S' hi h=>#[hg _ h.1,?_]) (λi u acc S' k hu hi hk=>?_) (λacc S' h=>?_) #[.refl,rfl]
 .rw[h.2,gT];omega
 .obtain⟨x,rfl⟩:=hi
  have il:i<vs.length:=by rw[hv];exact(ae.mp hu).1
  refine hc _ _ _ ?_;rw[if_pos rfl]
  refine he i u _ hu (aa il) S' _ x λS2 x2=>hk _ _ #[x.trans x2,?_]
  rw[cf,aa il];rfl
 .obtain⟨x,rfl⟩:=h
  rw[<-hv,b9];exact q S' x
def DN(f:Tr->Bool)(fR:List Tr->Bool)(d:Nat):Spec:=λus S Q _=>∃u,us=[u]/\((∃t,u=enc t/\bG t<d/\∀S',Ext S S'->Q (.bl (f t)) S')\/∃K,u=LN K/\0<d/\(∀t∈K,bG t+1<d)/\K.length<=1000/\∀S',Ext S S'->Q (.bl (fR K)) S')
def zq:Nat->Spec:=DN null dq
theorem zr{K:List Tr}{f:Tr->U}{i:Nat}{u v:U}(hu:(K.map enc)[i]?=some u)(hv:(K.map f)[i]?=some v):∃t,t∈K/\u=enc t/\v=f t:=by
 rw[ar] at hu hv;obtain⟨t,e,rfl⟩:=ag.mp hu;rw[e] at hv;exact#[t,aw e,rfl,(aH hv).symm]
section
variable{Γ:bY}{N:String}{d:Nat}{f:Tr->Bool}{fR:List Tr->Bool}{S:bI}{Q:KU}{E:KX}{k:U}{K:List Tr}
theorem tN(h1:Γ N=DN f fR d)(hK:∀t∈K,bG t<d)(hl:K.length<=1000)(q:∀S',Ext S S'->Q (.bl (K.all f)) S'):
  WE Γ (.blt .all (.cons (.comp false (.call N (.cons @0 .nil)) (.val (.ix @0 ↑1)) (.cg (.lit (.bl true))) []) .nil)) [some (.tup [k,.tup (K.map enc)])] S Q E:=by
 room;simp only[iD,aP];refine#[by simp,by simp;omega,?_];refine nk _ (K.map λt=>.bl (f t)) (by simp) (by simp;omega) (λ_ _=>trivial) (λu S' k h=>h) (λi u v hu hv S' k x hk=>?_) λS' x=>?_
 .obtain⟨t,m,rfl,rfl⟩:=zr hu hv
  exact ca h1 #[_,rfl,.inl #[t,rfl,hK t m,hk]]
 .exact#[K.map f,by simp,by rw[show(K.map f).all id=K.all f by rw[r9];rfl];exact q _ (x.trans (Ext.app _))]
theorem tO(h1:Γ N=DN f fR d)(hK:∀t∈K,bG t<d)(hl:K.length<=1000)(q:∀S',Ext S S'->Q (.bl (K.any f)) S'):
  WE Γ (.blt .any (.cons (.comp false (.call N (.cons @0 .nil)) (.val (.ix @0 ↑1)) (.cg (.lit (.bl true))) []) .nil)) [some (.tup [k,.tup (K.map enc)])] S Q E:=by
 room;simp only[iD,aP];refine#[by simp,by simp;omega,?_];refine nk _ (K.map λt=>.bl (f t)) (by simp) (by simp;omega) (λ_ _=>trivial) (λu S' k h=>h) (λi u v hu hv S' k x hk=>?_) λS' x=>?_
 .obtain⟨t,m,rfl,rfl⟩:=zr hu hv
  exact ca h1 #[_,rfl,.inl #[t,rfl,hK t m,hk]]
 .exact#[K.map f,by simp,by rw[show(K.map f).any id=K.any f by rw[sd];rfl];exact q _ (x.trans (Ext.app _))]
end
theorem QR(h:max (bG a) (bG b)+1<d+1)(m:t∈[a,b]):bG t<d:=by
 rcases bg.mp m with rfl|m
 .omega
 .simp at m;subst m;omega
theorem rr(h:WE Γ e env S (λv S1=>D.rt v S1) (D.ex env)):Rest Γ #v[.ret e] D env S:=h
theorem Uj(Γ:bY)(d:Nat)(h1:Γ "_law_nothing"=zq d):Keeps Γ iQ 0 (zq (d+1)):=by
 rintro us S Q E ⟨u,rfl,h⟩;unfold iQ;rcases h with⟨t,rfl,dt,q⟩|⟨K,rfl,-,dK,hl,q⟩
 .cases t with
  |one n l=>exact lX rfl rfl (q S .refl)
  |row a b=>exact fc rfl rfl (lX rfl rfl (rr (tN (K:=[a,b]) h1 (λt m=>QR dt m) (by simp) λS' x=>by have:=q S' x;simpa[null] using this)))
  |or a b=>exact fc rfl rfl (fc rfl rfl (lX rfl rfl (rr (tO (K:=[a,b]) h1 (λt m=>QR dt m) (by simp) λS' x=>by have:=q S' x;simpa[null] using this))))
  |rep m a=>
   have dt:bG a+1<d+1:=dt;have k1:=nE m;refine fc rfl (beq_eq_false_iff_ne.mpr k1.1) (fc rfl (beq_eq_false_iff_ne.mpr k1.2.1) (fc rfl (beq_eq_false_iff_ne.mpr k1.2.2) ?_));unfold enc;room;simp only[jB,iD,aP];refine#[by simp,by simp,?_];have e2:∀q:Bool->Prop,qw (.str (nj m)) [.str kC,.str jM] q=q (E9 m):=λq=>by
    have:=anyS (a:=nj m) (l:=[kC,jM]) (q:=q);cases m<;>simpa[E9,nj] using this
   rw[e2]
   cases m<;>simp only[E9,GX,ah,if_false,if_true]
   .exact q S .refl
   .exact#[by simp,ca h1 #[_,rfl,.inl #[a,rfl,∅,q]]]
   .exact q S .refl
 .exact fc rfl rfl (lX rfl rfl (rr (tN h1 (λt m=>by have:=dK t m;omega) hl q)))
theorem xR{α:Type}{x:List α}{a:Nat}:lT x (some (a:Nat)) none=x.drop a:=by
 unfold lT;simp only[cC,jc,i7,Bm];by_cases h:a<=x.length
 .rw[fY h,bN (by simp)]
 .rw[jG ∅,tm,dD ∅];simp
def Cu(d:Nat):Spec:=λus S Q _=>∃u c,us=[u,.str [c]]/\((∃t,u=enc t/\bG t<d/\size t<=1000/\∀n S',Ext S S'->S.length<=n->S'[n]?=some (.lst ((dF t c).map cH))->Q (.loc n) S') \/
 ∃K,u=LN K/\0<d/\(∀t∈K,bG t+1<d)/\K.length<=1000/\iX K<=1000/\∀n S',Ext S S'->S.length<=n->S'[n]?=some (.lst ((dR K c).map cH))->Q (.loc n) S')
noncomputable def YD:dh:=#v[.set 2 (.lst .nil),.i8 (.name 4) (.range (.blt .len #v[.ix @0 ↑1])) #v[.set 2 (.bin .add @2 (.comp false (.bin .add @0 (.sl (.ix @1 ↑1) (.e (.bin .add @2 ↑1)) .no)) (.val (.call "_law_behind" #v[.ix (.ix @0 ↑1) @4,@1])) (.cg (.lit (.bl true))) [0,4])),.ifs (.not (.cg (.call "_law_nothing" #v[.ix (.ix @0 ↑1) @4]))) #v[.ret @2] .nil],.ret @2]
theorem IP{K:List Tr}{t:Tr}(m:t∈K):size t<=iX K:=by
 obtain⟨a,b,rfl⟩:=Fz m;rw[vt]
 simp[iX];omega
theorem IQ{Γ:bY}{d:Nat}(hd:d<=100)(h1:Γ "_law_behind"=Cu d)(h2:Γ "_law_nothing"=zq d){S:bI}{Q:KU}{D:Ends}(hD:D.rt=Q){K:List Tr}{c:Nat}(hK:∀t∈K,bG t<d)(hl:K.length<=1000)(hs:iX K<=1000)
  (q:∀n S',Ext S S'->S.length<=n->S'[n]?=some (.lst ((dR K c).map cH))->Q (.loc n) S'):Rest Γ YD D [some (LN K),some (.str [c]),none,none,none,none] S:=by
 subst hD;unfold YD LN;room;refine#[by simp,?_];have x0:Ext S (S++[SO.lst []]):=Ext.app _;have g0:(S++[SO.lst []])[S.length]?=some (.lst ((([]:List (List Tr))).map cH)):=by simp
 generalize S++[SO.lst []]=S0 at x0 g0;room;simp only[iD,aP];have el:∀S,pW S (cH K)=some K.length:=λS=>by simp[cH,pW]
 rw[el,aP]
 refine#[by simp,∅,∅,∅,?_];refine d9 (λi env S1=>∃(acc:List (List Tr))(m:Nat)(x4:Option U),env=[some (.tup [.str [114,111,119],cH K]),some (.str [c]),some (.loc m),none,x4,none]/\Ext S S1/\S.length<=m/\S1[m]?=some (.lst (acc.map cH))/\acc++dR (K.drop i) c=dR K c) (λ_ _ _ _=>trivial) _ ?_ ?_ #[[],S.length,none,rfl,x0,ax _,g0,rfl]
 .rintro i u env S1 K' hu ⟨acc,m,x4,rfl,x1,ml,g1,inv⟩ hK'
  obtain⟨rfl,hi⟩:=mz hu;have hi:i<K.length:=by simpa using hi
  have ht:K[i]?=some K[i]:=aa hi;have hd':K.drop i=K[i]::K.drop (i+1):=eF hi;have hm:K[i]∈K:=bH hi;generalize K[i]=t at ht hd' hm;have tl:=hK t hm;have ts:=IP hm;have ai:∀{r:U->Prop},opt (tG (K.map enc) ((i:Nat):Int)) r=r (enc t):=λ{r}=>by rw[ij,ar,ht];rfl
  have bl:=IM K c;rw[<-inv,aB] at bl;rw[hd',dR] at inv;have fl:=lY t c;room;simp only[iD,aP];unfold cH;simp only[Di,ai,aq];refine#[by simp,∅,ca h1 #[_,c,rfl,.inl #[t,rfl,tl,∅,λn S2 x2 nl g2=>?_]]];room;rw[g2,aG]
  refine nk (S:=S2) _ (((dF t c).map (·++K.drop (i+1))).map cH) (by simp) (by simp;omega) (λS' x=>x.get g2) (λu S' k h=>h) (λj u v hu hv S' k x hk=>?_) λS3 x3=>?_
  .rw[ar] at hu
   obtain⟨y,e,rfl⟩:=ag.mp hu;rw[ar,ar,e] at hv;have hv:=aH hv;subst hv;have yl:=fl.2 y (aw e);refine#[by simp,?_];have e1:((i:Int)+1)=((i+1:Nat):Int):=∅
   simp only[EF,e1,xR];refine#[#[λi e=>(by injection e with e;omega),λi e=>(by cases e)],#[by simp;omega,?_,by simp],?_]
   .intro z
    have:=congrArg cM z;simp at this;rw[this] at hi;simp at hi
   .unfold cH
    rw[Oj]
    refine#[by simp;omega,?_];have:cQ enc y++List.drop (i+1) (cQ enc K)=cQ enc (y++List.drop (i+1) K):=by simp[List.map_drop]
    rw[this]
    exact hk S' .refl
  .have x13:Ext S1 S3:=x2.trans x3
   generalize hW:((dF t c).map (·++K.drop (i+1)))=W at inv;have wl:W.length<=1000:=by rw[<-hW];simp;omega
   rw[ao (bF (x13.get g1)),x13.get g1,aG]
   rw[ay (ax _),cq]
   simp only[nu,aG];refine#[by simp;omega,?_];have x4:Ext S3 (S3++[SO.lst (W.map cH)]++[SO.lst (acc.map cH++W.map cH)]):=(Ext.app _).trans (Ext.app _);have g4:(S3++[SO.lst (W.map cH)]++[SO.lst (acc.map cH++W.map cH)])[(S3++[SO.lst (W.map cH)]).length]?=some (.lst ((acc++W).map cH)):=by
    rw[ay (ax _),cq,eH];rfl
   have l4:S.length<=(S3++[SO.lst (W.map cH)]).length:=by have:=(x1.trans x13).1;rw[aB];omega
   generalize (S3++[SO.lst (W.map cH)]).length=m4 at g4 l4;generalize S3++[SO.lst (W.map cH)]++[SO.lst (acc.map cH++W.map cH)]=S4 at x4 g4;room;simp only[iD,aP,Di,ai,aq];refine#[by simp,∅,ca h2 #[_,rfl,.inl #[t,rfl,tl,λS5 x5=>?_]]];room;have xx:Ext S S5:=(x1.trans x13).trans (x4.trans x5);cases nt:null t with
   |false=>
    rw[nt] at inv;simp only[bV,if_true];room;refine q m4 S5 xx l4 (by rw[<-inv];simp;have:=x5.get g4;simpa using this)
   |true=>
    rw[nt] at inv;simp only[bO,ah,if_false];room;exact hK' _ _ #[acc++W,m4,_,rfl,xx,l4,x5.get g4,by rw[<-inv];simp]
 .rintro env S1 ⟨acc,m,x4,rfl,x1,ml,g1,inv⟩
  room;have:K.drop (cQ (λk=>U.int ((k:Nat):Int)) (cx K.length)).length=[]:=dD (by simp);rw[this,dR,bb] at inv;exact q m S1 x1 ml (by rw[<-inv];exact g1)
open qT
theorem AQ(Γ:bY)(d:Nat)(h1:Γ "_law_lives"=DN live dk d):Keeps Γ kb 0 (DN live dk (d+1)):=by
 rintro us S Q E ⟨u,rfl,h⟩;unfold kb;rcases h with⟨t,rfl,dt,q⟩|⟨K,rfl,-,dK,hl,q⟩
 .cases t with
  |one n l=>
   refine lX rfl rfl ?_;unfold enc;room;simp only[iD,aP];refine#[by simp,?_];room;have:=q S .refl;cases l<;>exact this
  |row a b=>exact fc rfl rfl (lX rfl rfl (rr (tN (K:=[a,b]) h1 (λt m=>QR dt m) (by simp) λS' x=>by have:=q S' x;simpa[live] using this)))
  |or a b=>exact fc rfl rfl (fc rfl rfl (lX rfl rfl (rr (tO (K:=[a,b]) h1 (λt m=>QR dt m) (by simp) λS' x=>by have:=q S' x;simpa[live] using this))))
  |rep m a=>
   have dt:bG a+1<d+1:=dt;have k1:=nE m;refine fc rfl (beq_eq_false_iff_ne.mpr k1.1) (fc rfl (beq_eq_false_iff_ne.mpr k1.2.1) (fc rfl (beq_eq_false_iff_ne.mpr k1.2.2) ?_));unfold enc;room;simp only[jB,iD,aP];refine#[by simp,?_];room;cases m with
   |star=>exact q S .refl
   |may=>exact q S .refl
   |plus=>exact#[by simp,ca h1 #[_,rfl,.inl #[a,rfl,∅,q]]]
 .exact fc rfl rfl (lX rfl rfl (rr (tN h1 (λt m=>by have:=dK t m;omega) hl q)))
theorem AR(Γ:bY)(d:Nat)(hd:d<5)(h1:Γ "_law_more"=DN sI mB d)(h2:Γ "_law_lives"=DN live dk 5):Keeps Γ lC 0 (DN sI mB (d+1)):=by
 rintro us S Q E ⟨u,rfl,h⟩;unfold lC;have row:∀{D:Ends}{K:List Tr}{b:Bool},D.rt=Q->(∀(P:KU)S',(∀S2,Ext S' S2->P (.bl b) S2)->Γ "_law_lives" [.tup [.str v5,.tup (K.map enc)]] S' P (D.ex [some (.tup [.str v5,.tup (K.map enc)])]))->(∀t∈K,bG t<d)->K.length<=1000->(∀S',Ext S S'->Q (.bl (b&&K.any sI)) S') ->
   Rest Γ (.cons (.ret (.and (.call "_law_lives" (.cons @0 .nil)) (.blt .any (.cons (.comp false (.call "_law_more" (.cons @0 .nil)) (.val (.ix @0 ↑1)) (.cg (.lit (.bl true))) []) .nil)))) .nil) D [some (.tup [.str v5,.tup (K.map enc)])] S:=by
  intro D K b e hl hK hn q;subst e;refine rr ?_;rw[w_and,OA]
  simp only[Hi,MF,w_var,nu,oM];refine hl _ _ λS2 x2=>?_
  cases b with
  |false=>exact q S2 x2
  |true=>exact tO h1 hK hn λS' x=>q S' (x2.trans x)
 rcases h with⟨t,rfl,dt,q⟩|⟨K,rfl,-,dK,hl,q⟩
 .cases t with
  |one n l=>
   refine fc rfl rfl (fc rfl rfl ?_);unfold enc;room;simp only[jB,iD,aP];refine#[by simp,?_];room;refine#[by simp,?_];have:=q S .refl;cases l<;>exact this
  |row a b=>exact lX rfl rfl (row (K:=[a,b]) (b:=live (.row a b)) rfl (λP S' k=>ca h2 #[_,rfl,.inl #[.row a b,rfl,∅,k]]) (λt m=>QR dt m) (by simp) λS' x=>by have:=q S' x;simpa[sI,live] using this)
  |or a b=>exact fc rfl rfl (lX rfl rfl (rr (tO (K:=[a,b]) h1 (λt m=>QR dt m) (by simp) λS' x=>by have:=q S' x;simpa[sI] using this)))
  |rep m a=>
   have dt:bG a+1<d+1:=dt;have k1:=nE m;refine fc rfl (beq_eq_false_iff_ne.mpr k1.2.1) (fc rfl (beq_eq_false_iff_ne.mpr k1.2.2) ?_);unfold enc;room;simp only[jB,iD,aP];refine#[by simp,?_];room;rw[beq_eq_false_iff_ne.mpr k1.1]
   exact#[by simp,ca h1 #[_,rfl,.inl #[a,rfl,∅,q]]]
 .exact lX rfl rfl (row (b:=dk K) rfl (λP S' k=>ca h2 #[_,rfl,.inr #[K,rfl,∅,λt m=>by have:=dK t m;omega,hl,k]]) (λt m=>by have:=dK t m;omega) hl q)
theorem Uk(Γ:bY)(d:Nat)(hd:d<=100)(h1:Γ "_law_behind"=Cu d)(h2:Γ "_law_nothing"=zq d):Keeps Γ jr 4 (Cu (d+1)):=by
 rintro us S Q E ⟨u,c,rfl,h⟩;unfold jr;rcases h with⟨t,rfl,dt,sz,q⟩|⟨K,rfl,-,dK,hl,hs,q⟩
 .cases t with
  |one n l=>
   refine lX rfl rfl ?_;unfold enc;room;simp only[iD,aP];refine#[by simp,?_];room;by_cases z:l.contains c=true
   .rw[if_pos z]
    refine#[by simp,by simp,q _ _ (Ext.app _) (ax _) ?_];have e:dF (.one n l) c=[[]]:=by simp only[dF,if_pos z]
    rw[e];simp[cH]
   .rw[if_neg z]
    refine#[by simp,q _ _ (Ext.app _) (ax _) ?_];have e:dF (.one n l) c=[]:=by simp only[dF,if_neg z]
    rw[e];simp
  |row a b=>
   have dt:max (bG a) (bG b)+1<d+1:=dt;have sz:size a+size b<=1000:=sz;refine fc rfl rfl (fc rfl rfl (lX rfl rfl ?_));refine IQ (K:=[a,b]) hd h1 h2 rfl (λt m=>?_) (by simp) (by simp[iX];omega) λn S' x nl g=>q n S' x nl ?_
   .rcases bg.mp m with rfl|m
    .omega
    .simp at m;subst m;omega
   .rw[g];simp[dR,dF]
  |or a b=>
   have dt:max (bG a) (bG b)+1<d+1:=dt;have sz:size a+size b<=1000:=sz;have la:=lY a c;have lb:=lY b c;refine fc rfl rfl (lX rfl rfl ?_);unfold enc;room;refine#[by simp,?_];have g0:(S++[SO.lst []])[S.length]?=some (.lst []):=by simp
   have x0:Ext S (S++[SO.lst []]):=Ext.app _;generalize S.length=m0 at g0;generalize S++[SO.lst []]=S0 at g0 x0;room;simp only[iD,aP,Y8,uE];refine#[by simp,by simp,trivial,?_];room;refine ca h1 #[_,c,rfl,.inl #[a,rfl,∅,∅,λn S1 x1 nl g1=>?_]];room;rw[x1.get g0,g1]
   simp only[aG,fU];refine#[by simp;omega,?_];have g2:(S1++[SO.lst ((dF a c).map cH)])[S1.length]?=some (.lst ((dF a c).map cH)):=by simp
   have x2:Ext S1 (S1++[SO.lst ((dF a c).map cH)]):=Ext.app _;generalize S1.length=m2 at g2;generalize S1++[SO.lst ((dF a c).map cH)]=S2 at g2 x2;room;refine ca h1 #[_,c,rfl,.inl #[b,rfl,∅,∅,λn3 S3 x3 nl3 g3=>?_]];room;rw[x3.get g2,g3]
   simp only[aG];refine#[by simp;omega,?_];room;have xx:=((x0.trans x1).trans x2).trans x3;exact q _ _ (xx.trans (Ext.app _)) xx.1 (by simp[dF])
  |rep m a=>
   have dt:bG a+1<d+1:=dt;have sz:size a<=1000:=sz;have k1:=nE m;have la:=lY a c;refine fc rfl (beq_eq_false_iff_ne.mpr k1.1) (fc rfl (beq_eq_false_iff_ne.mpr k1.2.2) (fc rfl (beq_eq_false_iff_ne.mpr k1.2.1) ?_));have go:Rest Γ (.cons (.ret (.comp false (.bin .add @0 @1) (.val (.call "_law_behind" (.cons (.ix @0 ↑1) (.cons @1 .nil)))) (.cg (.lit (.bl true))) [5])) .nil) #[λ_ S1=>Q .bK S1,Q,λ_=>E] [some (enc (.rep m a)),some (.str [c]),none,none,none,some (cH (more m a))] S:=by
    unfold enc;room;simp only[iD,aP];refine#[by simp,ca h1 #[_,c,rfl,.inl #[a,rfl,∅,∅,λn S1 x1 nl g1=>?_]]];room;rw[g1,aG]
    refine nk (S:=S1) _ (((dF a c).map (·++more m a)).map cH) (by simp) (by simp;omega) (λS' x=>x.get g1) (λu S' k h=>h) (λj u v hu hv S' k x hk=>?_) λS3 x3=>?_
    .rw[ar] at hu
     obtain⟨y,e,rfl⟩:=ag.mp hu;rw[ar,ar,e] at hv;have hv:=aH hv;subst hv;have yl:=la.2 y (aw e);unfold cH;room;have ml:(more m a).length<=1:=by cases m<;>simp[more]
     refine#[by simp;omega,?_];have:=hk S' .refl;unfold cH at this;simpa using this
    .have x13:=x1.trans x3
     exact q _ _ (x13.trans (Ext.app _)) x13.1 (by simp[dF])
   have ek:enc (.rep m a)= .tup [.str (nj m),enc a]:=rfl;rw[ek] at go ⊢;room;simp only[jB,iD,aP];refine#[by simp,?_];room;cases m with
   |may=>
    rw[if_pos (by simp[nj])]
    exact#[by simp,go]
   |star=>
    rw[if_neg (by simp[nj])]
    exact#[by simp,by simp,by simp,go]
   |plus=>
    rw[if_neg (by simp[nj])]
    exact#[by simp,by simp,by simp,go]
 .exact fc rfl rfl (fc rfl rfl (lX rfl rfl (IQ hd h1 h2 rfl (λt m=>by have:=dK t m;omega) hl hs q)))
def LX:Spec:=λus S Q _=>∃n c X t H n0,us=[.loc n,.str [c]]/\S[n]?=some (.lst X)/\Ju t H X/\nN n0 t/\0<n0/\bG t<4/\size t<=100/\X.length<=1000/\∀m Y S',Ext S S'->S'[m]?=some (.lst Y)->Ju t (Tj t c H) Y->Q (.loc m) S'
theorem Cv{α:Type}:∀{l l':List α},l.Nodup->(∀x∈l,x∈l')->l.length<=l'.length
 |[],_,_,_=>by simp
 |a::l,l',nd,h=>by
  obtain⟨s,t,rfl⟩:=Fz (h a (bf ..));rw[kg] at nd;have:=Cv (l':=s++t) nd.2 λx m=>by
   have hx:=h x (aU _ m);simp only[aD,bg] at hx ⊢;rcases hx with z|z|z
   .exact .inl z
   .subst z;exact absurd m nd.1
   .exact .inr z
  simp only[aB,aQ] at this ⊢;omega
theorem Ul(Γ:bY)(h1:Γ "_law_behind"=Cu 5):Keeps Γ j0 3 LX:=by
 rintro us S Q E ⟨n,c,X,t,H,n0,rfl,g,rp,pl,n1,dt,sz,hX,q⟩;unfold j0;room;refine#[by simp,?_];have x0:Ext S (S++[SO.lst []]):=Ext.app _;have g0:(S++[SO.lst []])[S.length]?=some (.lst []):=by simp
 room;rw[x0.get g,aG]
 have nS:=bF g
 let P:U->Prop:=λy=>∃p,Tj t c H p/\y=cH (ct t p)
 have fd:∀{Y:List U},(∀y∈Y,P y)->jI Y=true/\jJ Y<=100:=by
  intro Y;induction Y with
  |nil=>intro _;exact#[rfl,by simp[jJ]]
  |cons y Y ih=>
   intro h;obtain⟨p,_,rfl⟩:=h y (bf ..);obtain⟨i1,i2⟩:=ih λz m=>h z (aU _ m)
   have e1:=Cs (ct t p);have e2:=AO (d:=3) (ct t p) λx m=>by have:=(Ct (p:=p) dt sz).2.1 x m;omega
   constructor
   .show(jI _&&jI Y)=true
    rw[e1,i1];rfl
   .show max (jJ _+1) (jJ Y)<=100
    omega
 have fl:∀{Y:List U},Y.Nodup->(∀y∈Y,P y)->Y.length<=100:=λ{Y}nd h=>by
  have:=Cv (l':=(List.range' n0 (size t)).map λp=>cH (ct t p)) nd λy m=>by
   obtain⟨p,⟨q,_,f,_⟩,rfl⟩:=h y m;exact bx.mpr #[p,FY.mpr ((eI pl).mp (oz f)),rfl]
  simp at this;omega
 refine d9 (λi env S1=>∃(Y:List U)(x3 x4:Option U),env=[some (.loc n),some (.str [c]),some (.loc S.length),x3,x4]/\Ext S S1/\S1[S.length]?=some (.lst Y)/\Y.Nodup/\(∀y∈Y,P y)/\∀(j:Nat)p,j<i->X[j]?=some (cH (ct t p))->∀y∈dR (ct t p) c,cH y∈Y) (λi env S1 #[_,_,_,_,x,_]=>x.get g) _ ?_ ?_ #[[],none,none,rfl,x0,g0,by simp,by simp,∅]
 .rintro i u env S1 K hu ⟨Y,x3,x4,rfl,x1,g1,nd,hP,inv⟩ hK
  obtain⟨p,hp,rfl⟩:=(rp.1 u).mp (aw hu);obtain⟨l1,l2,l3⟩:=Ct (p:=p) dt sz;room;refine#[by simp,ca h1 #[_,c,rfl,.inr #[ct t p,rfl,∅,λx m=>by have:=l2 x m;omega,∅,∅,λm S2 x2 ml g2=>?_]]];have ml:S.length<m:=by have:=bF g1;omega
  room;rw[g2,aG]
  refine d9 (λj env S3=>∃(Z:List U)(x4:Option U),env=[some (.loc n),some (.str [c]),some (.loc S.length),some (cH (ct t p)),x4]/\Ext S S3/\S3[m]?=some (.lst ((dR (ct t p) c).map cH))/\S3[S.length]?=some (.lst Z)/\Z.Nodup/\(∀y∈Z,P y)/\(∀y∈Y,y∈Z)/\∀k y,k<j->(dR (ct t p) c)[k]?=some y->cH y∈Z) (λj env S3 #[_,_,_,_,g,_]=>g) _ ?_ ?_ #[Y,x4,rfl,x1.trans x2,g2,x2.get g1,nd,hP,λ_ h=>h,∅]
  .rintro j u env S3 K' hu ⟨Z,x4,rfl,x3,g3,gz,nd,hP,hY,inv'⟩ hK'
   rw[ar] at hu;obtain⟨y,hy,rfl⟩:=ag.mp hu;obtain⟨p',f1,f2,rfl⟩:=(vk pl n1).mp (aw hy);have st:Tj t c H p':=#[p,hp,f1,f2]
   have zl:=fl nd hP;have fz:=fd hP;have eb:(Z.any λw=>oN w (cH (ct t p')))=true↔cH (ct t p')∈Z:=by
    rw[gV]
    constructor
    .rintro⟨w,m,e⟩
     obtain⟨p2,_,rfl⟩:=hP w m;rw[zo.mp e] at m;exact m
    .intro m;exact#[_,m,zo.mpr rfl]
   have ev:cH (ct t p')= .tup ((ct t p').map enc):=rfl;rw[ev] at eb ⊢;room;rw[gz,aG]
   refine#[#[Cs _,fz.1,fz.2],?_];by_cases z:(Z.any λw=>oN w (.tup ((ct t p').map enc)))=true
   .rw[z]
    simp only[bO,ah,if_false];room;refine hK' _ _ #[Z,_,rfl,x3,g3,gz,nd,hP,hY,λk y hk ey=>?_];by_cases e:k=j
    .subst e;rw[hy] at ey;cases ey;exact eb.mp z
    .exact inv' k y ∅ ey
   .rw[fu _ |>.mp z]
    simp only[bV,if_true];room;rw[gz,aG]
    refine#[trivial,∅,?_];room;have nz:¬U.tup ((ct t p').map enc)∈Z:=λm=>z (eb.mpr m)
    refine hK' _ _ #[Z++[.tup ((ct t p').map enc)],_,rfl,#[by rw[cY];exact x3.1,λk hk=>?_],by rw[av ∅];exact g3,gs gz,?_,λy m=>?_,λy m=>bT _ (hY y m),λk y hk ey=>?_]
    .rw[av ∅];exact x3.2 k hk
    .rw[me]
     exact#[nd,by simp,λa ma b mb e=>by simp at mb;subst mb;subst e;exact nz ma]
    .rcases aD.mp m with m|m
     .exact hP y m
     .simp at m;exact#[p',st,m]
    .by_cases e:k=j
     .subst e;rw[hy] at ey;cases ey;exact aW _ (by simp[cH])
     .exact bT _ (inv' k y ∅ ey)
  .rintro env S3 ⟨Z,x4,rfl,x3,g3,gz,nd,hP,hY,inv'⟩
   room;refine hK _ _ #[Z,_,_,rfl,x3,gz,nd,hP,λj p2 hj ej y my=>?_];by_cases e:j=i
   .subst e
    rw[hu] at ej;have e2:=P7 (c:=c) (aH ej);have:cH y∈(dR (ct t p2) c).map cH:=bx.mpr #[y,my,rfl];rw[<-e2] at this;obtain⟨y2,m2,e3⟩:=bx.mp this;obtain⟨k,hk⟩:=bA m2;rw[<-e3]
    exact inv' k y2 (by have:=(ae.mp hk).1;simpa using this) hk
   .exact hY _ (inv j p2 ∅ ej y my)
 .rintro env S1 ⟨Y,x3,x4,rfl,x1,g1,nd,hP,inv⟩
  room;refine q _ Y S1 x1 g1 #[λy=>#[λm=>hP y m,?_],nd];rintro⟨p,⟨q',hq,f1,f2⟩,rfl⟩;obtain⟨j,hj⟩:=bA ((rp.1 _).mpr #[q',hq,rfl]);exact inv j q' (ae.mp hj).1 hj _ ((vk pl n1).mpr #[p,f1,f2,rfl])
def P8:Spec:=λus S Q _=>∃n X t H,us=[.loc n]/\S[n]?=some (.lst X)/\Ju t H X/\bG t<4/\size t<=100/\X.length<=1000/\∀b S',(b=true↔En t H)->Ext S S'->Q (.bl b) S'
theorem any_rows(h1:Γ N=DN f fR 5)(key:∀M:List Tr,fR (M.map er)=fR M)(g:S[n]?=some (.lst X))(rp:Ju t H X)(dt:bG t<4)(sz:size t<=100)(hl:X.length<=1000)(q:∀b S',(b=true↔∃p,H p/\fR (ct t p)=true)->Ext S S'->Q (.bl b) S'):
  WE Γ (.blt .any (.cons (.comp false (.call N (.cons (.tup (.cons ↑[114,111,119] (.cons @0 .nil))) .nil)) (.val @0) (.cg (.lit (.bl true))) []) .nil)) [some (.loc n)] S Q E:=by
 room;rw[g,aG]
 refine fO X (λi acc S1=>Ext S S1/\∃bs:List Bool,acc=bs.map .bl/\bs.length=i/\∀(j:Nat)p,j<i->X[j]?=some (cH (ct t p))->bs[j]?=some (fR (ct t p))) (λi acc S1 hi #[x,bs,e1,e2,_]=>#[x.get g,by rw[e1,aq];omega]) (λi u acc S1 k hu hi hk=>?_) (λacc S1 h=>?_) #[.refl,[],rfl,rfl,∅]
 .obtain⟨x,bs,rfl,e2,inv⟩:=hi
  obtain⟨p,hp,rfl⟩:=(rp.1 u).mp (aw hu);obtain⟨l1,l2,l3⟩:=Ct (p:=p) dt sz;room;refine#[by simp,ca h1 #[_,rfl,.inr #[ct t p,rfl,∅,λy m=>by have:=l2 y m;omega,∅,λS2 x2=>?_]]];refine hk _ _ #[x.trans x2,bs++[fR (ct t p)],by simp,by simp[e2],λj p2 hj ej=>?_];by_cases z:j=i
  .subst z
   rw[hu] at ej;rw[ay ∅,e2,cq,<-key,MY (aH ej),key];rfl
  .rw[ao ∅];exact inv j p2 ∅ ej
 .obtain⟨x,bs,rfl,e2,inv⟩:=h
  refine#[bs,by simp,q _ _ ?_ (x.trans (Ext.app _))];rw[gV]
  constructor
  .rintro⟨b,m,hb⟩
   obtain⟨j,hj⟩:=bA m;have jl:j<X.length:=by rw[<-e2];exact(ae.mp hj).1
   obtain⟨p,hp,e⟩:=(rp.1 _).mp (bH jl);have:=inv j p jl (by rw[aa jl,e]);rw[hj] at this;have:=aH this;exact#[p,hp,by rw[<-this];exact hb]
  .rintro⟨p,hp,hn⟩
   obtain⟨j,hj⟩:=bA ((rp.1 _).mpr #[p,hp,rfl]);have:=inv j p (ae.mp hj).1 hj;exact#[_,aw this,by rw[hn];rfl]
theorem Um(Γ:bY)(h1:Γ "_law_nothing"=zq 5):Keeps Γ om 0 P8:=by
 rintro us S Q E ⟨n,X,t,H,rfl,g,rp,dt,sz,hl,q⟩;exact rr (any_rows h1 IL g rp dt sz hl q)
theorem tP(pl:nN n0 t)(h:Ju t (hs t w) X):X.length<=size t+1:=by
 have:=Cv (l':=(0::List.range' n0 (size t)).map λp=>cH (ct t p)) h.2 λy m=>by
  obtain⟨p,hp,rfl⟩:=(h.1 y).mp m;refine bx.mpr #[p,?_,rfl];rcases Tn hp with z|z
  .subst z;simp
  .exact aU _ (FY.mpr ((eI pl).mp z))
 simpa using this
def P9(ts:List Tr)(w:List Nat)(S:bI)(m:Nat):Prop:=∃rs:List Nat,S[m]?=some (.lst (rs.map .loc))/\rs.length=ts.length/\∀(i:Nat)t r,ts[i]?=some t->rs[i]?=some r->∃X,S[r]?=some (.lst X)/\Ju t (hs t w) X
theorem vv(h:nP ts)(m:t∈ts):∃n,nN n t/\0<n/\size t<=100/\bG t<4:=by
 obtain⟨i,e⟩:=bA m;have:=size_take e;have:=h.sz;exact#[_,zj h.pl e,∅,∅,h.dp t m]
def YE(ts:List Tr)(w:List Nat)(S:bI)(rs:List Nat):Prop:=rs.length=ts.length/\∀(i:Nat)t r,ts[i]?=some t->rs[i]?=some r->∃X,S[r]?=some (.lst X)/\Ju t (hs t w) X
theorem zu(h:YE ts w S rs):P9 ts w (S++[SO.lst (rs.map .loc)]) S.length:=#[rs,by simp,h.1,λj t r e3 e4=>by
 obtain⟨X,h1,h2⟩:=h.2 j t r e3 e4;exact#[X,(Ext.app _).get h1,h2]]
theorem ph(hu:us.length=ts.length)(ul:ts.length<=1000)(hg:∀S',Ext S S'->g S')(hc:∀u S' k,k true S'->c u S' k)
  (he:∀(i:Nat)t u S' k,ts[i]?=some t->us[i]?=some u->Ext S S'->(∀r X S2,Ext S' S2->S2[r]?=some (.lst X)->Ju t (hs t w) X->k (.loc r) S2)->e u S' k) (q:∀rs S',Ext S S'->YE ts w S' rs->Q (rs.map .loc) S'):nA g c e Q us [] S:=by
 refine fO us (λi acc S1=>Ext S S1/\∃rs':List Nat,acc=rs'.map .loc/\rs'.length=i/\∀(j:Nat)t r,ts[j]?=some t->rs'[j]?=some r->∃X,S1[r]?=some (.lst X)/\Ju t (hs t w) X) (λi acc S1 hi #[x,rs',e1,e2,_]=>#[hg _ x,by rw[e1,aq];omega]) (λi u acc S1 k' hu' hi hk'=>?_) (λacc S1 h=>?_) #[.refl,[],rfl,rfl,λj t r _ e=>by simp at e]
 .obtain⟨x1,rs',rfl,e2,inv⟩:=hi
  have it:i<ts.length:=by rw[<-hu];exact(ae.mp hu').1
  have et:ts[i]?=some ts[i]:=aa it;refine hc _ _ _ ?_;rw[if_pos rfl]
  refine he i _ u S1 _ et hu' x1 λm2 Y S2 x2 gY rY=>hk' _ _ #[x1.trans x2,rs'++[m2],by simp,by simp[e2],λj t r' e3 e4=>?_]
  by_cases z:j=i
  .subst z
   rw[ay ∅,e2,cq] at e4;cases e4;rw[et] at e3;cases e3;exact#[Y,gY,rY]
  .have jl:j<i:=by
    have:=(ae.mp e4).1;simp at this;omega
   rw[ao ∅] at e4;obtain⟨X',h1,h2⟩:=inv j t r' e3 e4;exact#[X',x2.get h1,h2]
 .obtain⟨x1,rs',rfl,e2,inv⟩:=h
  exact q rs' S1 x1 #[∅,inv]
theorem zw(h:P9 ts w S m)(x:Ext S S'):P9 ts w S' m:=by
 obtain⟨rs,g,l,h⟩:=h;refine#[rs,x.get g,l,λi t r e1 e2=>?_];obtain⟨X,h1,h2⟩:=h i t r e1 e2;exact#[X,x.get h1,h2]
def MZ:Spec:=λus S Q _=>∃n x a ts,us=[.loc n,.str x,a9 a]/\S[n]?=some (.lst (ts.map enc))/\nP ts/\x.length<=1000/\a<=x.length/\∀f S',sH ts (x.drop a) (x.drop a).length f->Ext S S'->Q (uR f) S'
noncomputable def YF:dh:=#v[.set 4 (.comp false (.call "_law_rests" #v[@0,.ix @1 (.bin .add @2 @3)]) (.val @4) (.cg (.lit (.bl true))) [1,2,5]),.set 5 (.bin .add @5 ↑1),.set 6 (.comp false @0 (.range (.blt .len #v[@4])) (.cg (.call "_law_ends" #v[.ix @1 @0])) [4]),.ifs (.cg @6) #v[.set 3 (.tup #v[.ix @6 ↑0,@5])] .nil]
theorem LY(Γ:bY)(h1:Γ "_law_rests"=LX)(h2:Γ "_law_ends"=P8)(hT:nP ts)(hx:x.length<=1000)(hk:a+k<x.length)
  (Vq:P9 ts ((x.drop a).take k) S m) (bs:sH ts (x.drop a) k f) (q:∀f' m' x6' S',Ext S S'->P9 ts ((x.drop a).take (k+1)) S' m'->sH ts (x.drop a) (k+1) f'->D.nx [some (.loc n),some (.str x),some (a9 a),some (uR f'),some (.loc m'),some (a9 (k+1)),x6'] S'):
  Rest Γ YF D [some (.loc n),some (.str x),some (a9 a),some (uR f),some (.loc m),some (a9 k),x6] S:=by
 unfold YF;obtain⟨rs,g,rl,hr⟩:=Vq;have tl:=hT.len;have hc:(x.drop a)[k]?=some (x[a+k]'hk):=by rw[List.getElem?_drop,aa hk]
 room;rw[g,aG]
 refine ph (ts:=ts) (w:=(x.drop a).take (k+1)) (by simpa using rl) ∅ (λS' x=>x.get g) (λu S' k h=>h) (λi t u S1 k' et hu x1 hk'=>?_) λrs' S1 x1 R1=>?_
 .rw[ar] at hu
  obtain⟨r,er,rfl⟩:=ag.mp hu;obtain⟨X,gX,rX⟩:=hr i _ r et er;obtain⟨n0,pl,n1,sz,dt⟩:=vv hT (aw et);have Xl:=tP pl rX;have ea:((a:Int)+(k:Int))=((a+k:Nat):Int):=∅
  rw[ea,ij,aa hk,aP]
  refine#[∅,ca h1 #[r,_,X,t,_,n0,rfl,x1.get gX,rX,pl,n1,dt,sz,∅,λm2 Y S2 x2 gY rY=>hk' _ _ _ x2 gY ?_]];rw[<-ju,<-take_snoc hc] at rY;exact rY
 .have R1:=zu R1
  have x2:Ext S (S1++[SO.lst (rs'.map .loc)]):=x1.trans (Ext.app _);generalize S1.length=m1 at R1;generalize S1++[SO.lst (rs'.map .loc)]=S2 at R1 x2;have R1':=R1;obtain⟨rs2,g2,rl2,hr2⟩:=R1';room;rw[uI g2]
  simp only[aP,aq,Kw,i7];refine#[∅,∅,∅,?_];refine fO _ (λi acc S3=>Ext S2 S3/\acc.length<=i/\((acc=[]/\∀j,j<i->Nn ts (x.drop a) (k+1) j)\/∃g r,acc=a9 g::r/\¬Nn ts (x.drop a) (k+1) g/\∀j,j<g->Nn ts (x.drop a) (k+1) j)) (λi acc S3 hi #[x,e1,_]=>#[trivial,by simp at hi;omega]) (λi u acc S3 k' hu hi hk'=>?_) (λacc S3 h=>?_) #[.refl,by simp,.inl #[rfl,∅]]
  .obtain⟨x3,al,inv⟩:=hi
   obtain⟨rfl,it⟩:=mz hu;have it:i<ts.length:=∅
   have et:ts[i]?=some ts[i]:=aa it;have er:rs2[i]?=some (rs2[i]'∅):=aa ∅;obtain⟨X,gX,rX⟩:=hr2 i _ _ et er;obtain⟨n0,pl,n1,sz,dt⟩:=vv hT (bH it);have Xl:=tP pl rX;room;rw[x3.get g2,aG,ij,ar,er]
   simp only[jN,aP];refine ca h2 #[_,X,ts[i],_,rfl,x3.get gX,rX,dt,sz,∅,λb S4 hb x4=>?_];have nn:b=true↔¬Nn ts (x.drop a) (k+1) i:=by
    rw[hb]
    constructor
    .intro e z;exact z _ et e
    .intro z
     exact tw λe=>z λt e1 e2=>by rw[et] at e1;cases e1;exact e e2
   room;cases b with
   |true=>
    rw[if_pos rfl]
    refine hk' _ _ #[x3.trans x4,by simp;omega,.inr ?_];rcases inv with⟨rfl,h⟩|⟨g,r,rfl,h3,h4⟩
    .exact#[i,[],rfl,nn.mp rfl,h]
    .exact#[g,r++[a9 i],rfl,h3,h4]
   |false=>
    rw[if_neg (by simp)]
    have ni:Nn ts (x.drop a) (k+1) i:=tw λz=>by have:=nn.mpr z;simp at this
    refine hk' _ _ #[x3.trans x4,∅,?_];rcases inv with⟨rfl,h⟩|h
    .refine .inl #[rfl,λj hj=>?_]
     by_cases z:j=i
     .subst z;exact ni
     .exact h j ∅
    .exact .inr h
  .obtain⟨x3,al,inv⟩:=h
   simp only[aq,se] at al inv;have g5:(S3++[SO.lst acc])[S3.length]?=some (.lst acc):=by simp
   have x5:Ext S2 (S3++[SO.lst acc]):=x3.trans (Ext.app _);generalize S3.length=m5 at g5;generalize S3++[SO.lst acc]=S5 at g5 x5;room;rw[Am g5,aP]
   rcases inv with⟨rfl,h⟩|⟨g,r,rfl,h3,h4⟩
   .simp only[cZ,bne_self_eq_false,ah,if_false]
    room;refine q f _ _ S5 (x2.trans x5) (zw R1 x5) (oA bs ∅ λj i h1 h2=>?_);have:j=k+1:=∅
    subst this;by_cases z:i<ts.length
    .exact h i ∅
    .intro t e;have:=(ae.mp e).1;omega
   .have:((a9 g::r).length !=0)=true:=rfl
    rw[this,if_pos rfl]
    room;rw[g5,aG,jB,aP]
    refine#[by simp,?_];room;exact q (some (g,k+1)) _ _ S5 (x2.trans x5) (zw R1 x5) (DG h3 h4)
theorem Qa(Γ:bY)(h1:Γ "_law_rests"=LX)(h2:Γ "_law_ends"=P8):Keeps Γ j6 4 MZ:=by
 rintro us S Q E ⟨n,x,a,ts,rfl,gn,hT,hx,ha,q⟩;unfold j6;have tl:=hT.len;room;rw[gn,aG]
 refine ph (ts:=ts) (w:=[]) (by simp) ∅ (λS' x=>x.get gn) (λu S' k h=>h) (λi t u S1 k' et hu x1 hk'=>?_) λrs' S1 x1 R1=>?_
 .rw[ar,et] at hu
  cases hu;exact#[by simp,by simp,hk' _ _ _ (Ext.app _) (by simp;rfl) (xJ t)]
 have R1:=zu R1;have x2:Ext S (S1++[SO.lst (rs'.map .loc)]):=x1.trans (Ext.app _);generalize S1.length=m1 at R1;generalize S1++[SO.lst (rs'.map .loc)]=S2 at R1 x2;room;have dl:(x.drop a).length=x.length-a:=by simp
 refine#[x.length+1,lJ (λN env S3=>∃(k m:Nat)(f:Option (Nat×Nat))(x6:Option U),N=x.length-(a+k)/\a+k<=x.length/\env=[some (.loc n),some (.str x),some (a9 a),some (uR f),some (.loc m),some (a9 k),x6]/\Ext S S3/\P9 ts ((x.drop a).take k) S3 m/\sH ts (x.drop a) k f) ?_ _ (x.length-a) _ _ ∅ #[0,m1,none,none,∅,∅,rfl,x2,R1,λj i h1 h2=>∅]];rintro N env S3 K ⟨k,m,f,x6,rfl,hk,rfl,x3,R3,bs⟩ hK;have ea:((a:Int)+(k:Int))=((a+k:Nat):Int):=∅
 room;rw[ea]
 refine#[∅,?_];by_cases y:a+k<x.length
 .have:(((a+k:Nat):Int)<(x.length:Int)):=∅
  simp only[this,decide_true,if_true];have R3':=R3;obtain⟨rs,g,rl,hr⟩:=R3';rw[g,aG]
  refine fO (rs.map .loc) (λi acc S4=>Ext S3 S4/\∃bs:List Bool,acc=bs.map .bl/\bs.length=i/\∀(j:Nat)t,j<i->ts[j]?=some t->bs[j]?=some false->∀p,¬hs t ((x.drop a).take k) p) (λi acc S4 hi #[x,bs,e1,e2,_]=>#[x.get g,by rw[e1,aq];simp at hi;omega]) (λi u acc S4 k' hu hi hk'=>?_) (λacc S4 h=>?_) #[.refl,[],rfl,rfl,∅]
  .obtain⟨x4,bs,rfl,e2,inv⟩:=hi
   rw[ar] at hu;obtain⟨r,er,rfl⟩:=ag.mp hu;have it:i<ts.length:=by rw[<-rl];exact(ae.mp er).1
   obtain⟨X,gX,rX⟩:=hr i _ r (aa it) er;room;rw[(x4.trans (Ext.app _)).get gX,aG]
   refine#[by simp,by simp,hk' _ _ #[x4.trans (Ext.app _),bs++[!X.isEmpty],by simp,by simp[e2],λj t hj et ej p hp=>?_]];by_cases z:j=i
   .subst z
    rw[ay ∅,e2,cq] at ej;have ej:(!X.isEmpty)=false:=by simpa using ej
    rw[aa it] at et;cases et;have:=(rX.1 _).mpr #[p,hp,rfl];cases X with
    |nil=>simp at this
    |cons a b=>simp at ej
   .rw[ao ∅] at ej
    exact inv j t ∅ et ej p hp
  .obtain⟨x4,bs',rfl,e2,inv⟩:=h
   rw[aq] at e2 inv;refine#[bs',by simp,?_];have x5:Ext S3 (S4++[SO.lst (bs'.map U.bl)]):=x4.trans (Ext.app _);generalize S4++[SO.lst (bs'.map U.bl)]=S5 at x5;by_cases z:bs'.any id=true
   .rw[if_pos z]
    exact LY Γ h1 h2 hT hx y (zw R3 x5) bs λf' m' x6' S6 x6 R6 b6=>hK (x.length-(a+(k+1))) _ _ ∅ #[k+1,m',f',x6',rfl,∅,rfl,x3.trans (x5.trans x6),R6,b6]
   .rw[if_neg z]
    room;refine q f _ (oA bs ∅ λj i h1 h2 t et #[p,hp,_]=>?_) (x3.trans x5);have il:i<bs'.length:=by rw[e2,rl];exact(ae.mp et).1
    have eb:bs'[i]?=some false:=by
     rw[aa il]
     cases e:bs'[i] with
     |false=>rfl
     |true=>exact absurd (gV.mpr #[true,by rw[<-e];exact bH il,rfl]) z
    exact LO (inv i t ∅ et eb) j ∅ p hp
 .have:¬(((a+k:Nat):Int)<(x.length:Int)):=∅
  simp only[this,decide_false,ah,if_false];room;have ek:(x.drop a).length=k:=∅
  rw[ek] at q;exact q f _ bs x3
theorem lN:∀t,live (er t)=live t
 |.one _ l=>rfl
 |.row a b=>by simp only[er,live,lN a,lN b]
 |.or a b=>by simp only[er,live,lN a,lN b]
 |.rep m a=>by cases m<;>simp only[er,live,lN a]
theorem rT:∀t,sI (er t)=sI t
 |.one _ l=>rfl
 |.row a b=>by simp only[er,sI,lN a,lN b,rT a,rT b]
 |.or a b=>by simp only[er,sI,rT a,rT b]
 |.rep m a=>by simp only[er,sI,rT a]
theorem LZ(M:List Tr):mB (M.map er)=mB M:=by
 unfold mB dk;rw[r9,sd,show live∘er=live from funext lN,show sI∘er=sI from funext rT]
def M0(ts:List Tr)(y:List Nat):Prop:=∃t∈ts,∃q,hs t y q/\mB (ct t q)=true
def Uo:Spec:=λus S Q _=>∃n x ts,us=[.loc n,.str x]/\S[n]?=some (.lst (ts.map enc))/\nP ts/\x.length<=1000/\∀b S',(b=true↔M0 ts x)->Ext S S'->Q (.bl b) S'
theorem Up(Γ:bY)(h1:Γ "_law_rests"=LX)(h2:Γ "_law_more"=DN sI mB 5):Keeps Γ lD 2 Uo:=by
 rintro us S Q E ⟨n,x,ts,rfl,gn,hT,hx,q⟩;unfold lD;have tl:=hT.len;room;rw[gn,aG]
 refine ph (ts:=ts) (w:=[]) (by simp) ∅ (λS' x=>x.get gn) (λu S' k h=>h) (λi t u S1 k' et hu x1 hk'=>?_) λrs' S1 x1 R1=>?_
 .rw[ar,et] at hu
  cases hu;exact#[by simp,by simp,hk' _ _ _ (Ext.app _) (by simp;rfl) (xJ t)]
 have R1:=zu R1;have x2:Ext S (S1++[SO.lst (rs'.map .loc)]):=x1.trans (Ext.app _);generalize S1.length=m1 at R1;generalize S1++[SO.lst (rs'.map .loc)]=S2 at R1 x2;room;refine d9 (λi env S3=>∃(m:Nat)(x3:Option U),env=[some (.loc n),some (.str x),some (.loc m),x3]/\Ext S S3/\P9 ts (x.take i) S3 m) (λ_ _ _ _=>trivial) _ ?_ ?_ #[m1,none,rfl,x2,by simpa using R1]
 .rintro i u env S3 K hu ⟨m,x3,rfl,x3',R3⟩ hK
  rw[ar] at hu;obtain⟨c,hc,rfl⟩:=ag.mp hu;obtain⟨rs,g,rl,hr⟩:=R3;room;rw[g,aG]
  refine ph (ts:=ts) (w:=x.take (i+1)) (by simpa using rl) ∅ (λS' x=>x.get g) (λu S' k h=>h) (λj t u S4 k' et hu x4 hk'=>?_) λrs' S4 x4 R4=>?_
  .rw[ar] at hu
   obtain⟨r,er,rfl⟩:=ag.mp hu;obtain⟨X,gX,rX⟩:=hr j _ r et er;obtain⟨n0,pl,n1,sz,dt⟩:=vv hT (aw et);have Xl:=tP pl rX;refine ca h1 #[r,c,X,t,_,n0,rfl,x4.get gX,rX,pl,n1,dt,sz,∅,λm2 Y S5 x5 gY rY=>hk' _ _ _ x5 gY ?_];rw[<-ju,<-take_snoc hc] at rY;exact rY
  .exact hK _ _ #[_,_,rfl,x3'.trans (x4.trans (Ext.app _)),zu R4]
 .rintro env S3 ⟨m,x3,rfl,x3',R3⟩
  rw[aq,b9] at R3;obtain⟨rs,g,rl,hr⟩:=R3;refine rr ?_;rw[Sk]
  simp only[Hi,MF,OB,Sl,w_var,Y9,g,aG,List.getElem?_cons_succ,nu,oM];refine fO (rs.map .loc) (λi acc S4=>Ext S3 S4/\∃bs:List Bool,acc=bs.map .bl/\bs.length=i/\∀(j:Nat)t,j<i->ts[j]?=some t->∃b,bs[j]?=some b/\(b=true↔∃p,hs t x p/\mB (ct t p)=true)) (λi acc S4 hi #[x,bs,e1,e2,_]=>#[x.get g,by rw[e1,aq];simp at hi;omega]) (λi u acc S4 k' hu hi hk'=>?_) (λacc S4 h=>?_) #[.refl,[],rfl,rfl,∅]
  .obtain⟨x4,bs,rfl,e2,inv⟩:=hi
   rw[ar] at hu;obtain⟨r,er,rfl⟩:=ag.mp hu;have it:i<ts.length:=by rw[<-rl];exact(ae.mp er).1
   have et:ts[i]?=some ts[i]:=aa it;obtain⟨X,gX,rX⟩:=hr i _ r et er;obtain⟨n0,pl,n1,sz,dt⟩:=vv hT (bH it);have Xl:=tP pl rX;simp only[bind_f,Sn,w_lit,k8,Sf,aP,A4,if_true];refine any_rows h2 LZ (x4.get gX) rX dt sz ∅ λb S5 hb x5=>hk' _ _ #[x4.trans x5,bs++[b],by simp,by simp[e2],λj t hj e=>?_]
   by_cases z:j=i
   .subst z
    rw[et] at e;cases e;exact#[b,by rw[ay ∅,e2,cq];rfl,hb]
   .rw[ao ∅]
    exact inv j t ∅ e
  .obtain⟨x4,bs,rfl,e2,inv⟩:=h
   rw[aq,rl] at e2 inv;rw[Sg]
   refine#[bs,by simp,q _ _ ?_ (x3'.trans (x4.trans (Ext.app _)))];rw[gV]
   constructor
   .rintro⟨b,m,hb⟩
    obtain⟨j,hj⟩:=bA m;have jl:j<ts.length:=by rw[<-e2];exact(ae.mp hj).1
    obtain⟨b',e1,e3⟩:=inv j _ jl (aa jl);rw[hj] at e1;cases e1;exact#[_,bH jl,e3.mp hb]
   .rintro⟨t,m,z⟩
    obtain⟨j,hj⟩:=bA m;obtain⟨b,e1,e3⟩:=inv j t (ae.mp hj).1 hj;exact#[b,aw e1,e3.mpr z]
section
variable{ts:List Tr}{w v x y:List Nat}{u r k:Nat}{f:Option (Nat×Nat)}
theorem AS(hT:nP ts)(m:t∈ts)(hq:hs t (w++[c]) q)(z:dk (ct t q)=true):M0 ts w:=by
 rw[ju] at hq;obtain⟨q0,h0,f,hc⟩:=hq;obtain⟨n,pl,n0,_⟩:=vv hT m;exact#[t,m,q0,h0,vo.mpr #[c,_,(vk pl n0).mpr #[q,f,hc,rfl],z]]
theorem tQ(hT:nP ts):∀{v w},M0 ts (w++v)->M0 ts w
 |[],w,h=>by rwa [bb] at h
 |c::v,w,h=>by
  have h:M0 ts ((w++[c])++v):=by rwa [bj]
  obtain⟨t,m,q,hq,z⟩:=tQ hT h;rw[mB,af] at z;exact AS hT m hq z.1
theorem DO(h:sH ts w k f)(hk:k<=w.length):sH ts (w++v) k f:=by
 have e:∀{j i},j<=k->(Nn ts (w++v) j i↔Nn ts w j i):=λ{j i}hj=>by
  unfold Nn;rw[t6 ∅]
 rcases f with _|⟨i,j⟩
 .exact λj i h1 h2=>(e h2).mpr (h j i h1 h2)
 .obtain⟨h1,h2,h3,h4⟩:=h
  exact#[h1,λz=>h2 ((e h1.2).mp z),λi' hi=>(e h1.2).mpr (h3 i' hi),λj' i' a b=>(e b).mpr (h4 j' i' a b)]
theorem IS(hT:nP ts)(h:sH ts w w.length f)(n:¬M0 ts w):sH ts (w++v) (w++v).length f:=by
 refine oA (DO h (ax _)) (by simp) λj i h1 h2 t e=>?_
 rintro⟨p,hp,z⟩;rw[aB] at h2;refine n (tQ hT (v:=v.take (j-1-w.length)) (AS hT (c:=v[j-1-w.length]'∅) (aw e) (q:=p) ?_ (vn z)));have:(w++v).take j=w++v.take (j-1-w.length)++[v[j-1-w.length]'∅]:=by
  rw[bj,<-take_snoc (aa ∅),show j-1-w.length+1=j-w.length by omega,List.take_append,bN ∅]
 rw[<-this];exact hp
theorem Ff.app(h:Ff ts u x r k f):Ff ts u (x++v) r k f:=by
 have:=h.le;exact#[by simp;omega,by rw[t6 this];exact h.wr,DO h.bs this]
theorem Ff.open(hT:nP ts)(A:xN ts sg bh en)(U:Fc sg bh en u)(h:Ff ts u x r k f)(e:r=0\/k=x.length):r≠0↔M0 ts x:=by
 have a:=IJ A U h.wr;rcases e with rfl|rfl
 .refine#[λz=>absurd rfl z,λz=>?_]
  rw[<-Bs k x] at z;exact a.mpr (tQ hT z)
 .rw[b9] at a
  exact a
def FG(ts:List Tr)(last:Bool)(y:List Nat):Prop:=y≠[]/\(last=true\/¬M0 ts y)
inductive zx(ts:List Tr)(last:Bool):Nat->List Nat->Bool->Nat->List Nat->List U->Prop where
 |jH {a y}:¬FG ts last y->zx ts last a y false a y []
 |bad {a y}:FG ts last y->sH ts y y.length none->zx ts last a y true a y []
 |go {a y i j b a' y' l}:FG ts last y->sH ts y y.length (some (i,j))->zx ts last (a+j) (y.drop j) b a' y' l->zx ts last a y b a' y' (.tup [a9 i,.str (y.take j)]::l)
variable{last b b':Bool}{a a' a'':Nat}{y' y'':List Nat}{l l':List U}
theorem jv(h:zx ts last a y b a' y' l):∀{b' a'' y'' l'},zx ts last a y b' a'' y'' l'->b=b'/\a'=a''/\y'=y''/\l=l':=by
 induction h with
 |jH n=>
  intro b' a'' y'' l' h';cases h' with
  |jH _=>exact#[rfl,rfl,rfl,rfl]
  |bad z _=>exact absurd z n
  |go z _ _=>exact absurd z n
 |bad n z=>
  intro b' a'' y'' l' h';cases h' with
  |jH m=>exact absurd n m
  |bad _ _=>exact#[rfl,rfl,rfl,rfl]
  |go _ z' _=>cases ze z z'
 |go n z _ ih=>
  intro b' a'' y'' l' h';cases h' with
  |jH m=>exact absurd n m
  |bad _ z'=>cases ze z z'
  |go _ z' t=>
   cases ze z z';obtain⟨rfl,rfl,rfl,rfl⟩:=ih t;exact#[rfl,rfl,rfl,rfl]
theorem DP(h:zx ts last a y b a' y' l):(b=true->FG ts last y'/\sH ts y' y'.length none)/\(b=false->¬FG ts last y')/\(∃d,d<=y.length/\a'=a+d/\y'=y.drop d/\l.length<=d)/\(l=[]->a'=a/\y'=y)/\jI l=true/\jJ l<=1:=by
 induction h with
 |jH n=>exact#[λz=>(by cases z),λ_=>n,#[0,∅,rfl,rfl,by simp],λ_=>#[rfl,rfl],rfl,by simp[jJ]]
 |bad n z=>exact#[λ_=>#[n,z],λz=>(by cases z),#[0,∅,rfl,rfl,by simp],λ_=>#[rfl,rfl],rfl,by simp[jJ]]
 |@go a y i j b a' y' l n z _ ih=>
  obtain⟨h1,h2,⟨d,h3,h4,h5,h6⟩,_,h7,h8⟩:=ih;have jl:=z.1;rw[jE] at h3;refine#[h1,h2,#[j+d,∅,∅,by rw[h5,wC],by simp;omega],λe=>by simp at e,?_,?_]
  .show(vU _&&jI l)=true
   rw[h7];rfl
  .show max (dep _) (jJ l)<=1
   have:dep (.tup [a9 i,.str (y.take j)])=1:=rfl;omega
end
def Fix(o:SO):Prop:=∀c fs,o=.ins c fs->c="Places"
def nQ(S S':bI):Prop:=S.length<=S'.length/\∀(n:Nat)o,S[n]?=some o->Fix o->S'[n]?=some o
section
variable{S S' S'':bI}{r C P w a k:Nat}{c:String}{fs:List (String×U)}{ts:List Tr}{x:List Nat}
theorem nQ.trans(h:nQ S S')(g:nQ S' S''):nQ S S'':=#[aS h.1 g.1,λn o e f=>g.2 n o (h.2 n o e f) f]
theorem nQ.ext(h:Ext S S'):nQ S S':=#[h.1,λ_ _ e _=>h.get e]
theorem nQ.old(h:Old r S S')(hr:S[r]?=some (.ins c fs))(hc:c≠"Places"):nQ S S':=#[h.1,λn o e f=>by
 have:n≠r:=λz=>by rw[z,hr] at e;exact hc (f c fs (aH e).symm)
 rw[h.2 n (bF e) this];exact e]
theorem nQ.get{l:List U}(h:nQ S S')(e:S[r]?=some (.lst l)):S'[r]?=some (.lst l):=h.2 r _ e λ_ _ z=>by cases z
theorem tM.lst{u:Nat}(h:tM S P ts u)(x:nQ S S'):tM S' P ts u:=by
 obtain⟨sg,bh,en,⟨b,e,k,g1,g2,g3,g4⟩,A,U,l⟩:=h.o;exact#[sg,bh,en,#[b,e,k,x.2 _ _ g1 λc fs z=>by cases z;rfl,x.get g2,x.get g3,x.2 _ _ g4 λ_ _ z=>by cases z],A,U,l]
theorem M1{f:String}{v v' u:U}{K:bI->Prop}(h:S[r]?=some (.ins c fs))(hv:fs.lookup f=some v)(hl:fs.length<100)(ha:∀Qk:KU,Qk v' S->sW .add v u S Qk)(q:∀S',Old r S S'->S'.length=S.length->S'[r]?=some (.ins c (dZ f v' fs))->K S'):
  mq S[r]? λc fs=>opt (fs.lookup f) λv=>sW .add v u S λz S3=>mq S3[r]? λc' fs'=>c'=c/\fs'.length<100/\K (S3.set r (.ins c (dZ f z fs'))):=by
 rw[h,aZ,hv]
 refine ha _ ?_;rw[h,aZ]
 exact#[rfl,hl,q _ (kq.set h).old (by simp) (gs h)]
noncomputable def Bd(P a:Nat)(x:List Nat)(w:Nat):SO:=.ins "Cutter" [("places",.loc P),("at",a9 a),("rest",.str x),("walk",.loc w)]
theorem Xj(h:S[C]?=some (Bd P a x w)):jA (.loc C) "places" S R=R (.loc P):=by rw[d6,h];rfl
theorem Xk(h:S[C]?=some (Bd P a x w)):jA (.loc C) "at" S R=R (a9 a):=by rw[d6,h];rfl
theorem Ma(h:S[C]?=some (Bd P a x w)):jA (.loc C) "rest" S R=R (.str x):=by rw[d6,h];rfl
theorem IT(h:S[C]?=some (Bd P a x w)):jA (.loc C) "walk" S R=R (.loc w):=by rw[d6,h];rfl
structure sJ(S:bI)(C P:Nat)(ts:List Tr)(u a:Nat)(x:List Nat):Prop where
 o:∃w r k f,S[C]?=some (Bd P a x w)/\S[w]?=some (zK P r k (uR f))/\Ff ts u x r k f
structure QS(S:bI)(C P:Nat)(ts:List Tr)(u a:Nat)(x:List Nat)(f:Option (Nat×Nat)):Prop where
 o:∃w r k,S[C]?=some (Bd P a x w)/\S[w]?=some (zK P r k (uR f))/\Ff ts u x r k f/\(r=0\/k=x.length)
theorem QS.ct{u:Nat}{f:Option (Nat×Nat)}(h:QS S C P ts u a x f):sJ S C P ts u a x:=by
 obtain⟨w,r,k,h1,h2,h4,_⟩:=h.o;exact#[w,r,k,f,h1,h2,h4]
theorem QS.Zl(h:QS S C P ts u a x f)(pa:tM S P ts u):sH ts x x.length f:=by
 obtain⟨w,r,k,h1,h2,h4,h5⟩:=h.o;obtain⟨sg,bh,en,pp,A,U,l⟩:=pa.o;exact h4.full A U h5
theorem sJ.set{T u:Nat}{l l':List U}(h:sJ S C P ts u a x)(g:S[T]?=some (.lst l)):sJ (S.set T (.lst l')) C P ts u a x:=by
 obtain⟨w,r,k,f,h1,h2,h4⟩:=h.o;have n1:T≠C:=λz=>by rw[z,h1] at g;cases g
 have n2:T≠w:=λz=>by rw[z,h2] at g;cases g
 exact#[w,r,k,f,by rw[av n1];exact h1,by rw[av n2];exact h2,h4]
theorem tM.ne{u:Nat}(h:tM S P ts u)(hr:S[r]?=some (.ins c fs))(e:c≠"Places"):P≠r:=λz=>by
 obtain⟨sg,bh,en,pp,_⟩:=h.o;obtain⟨_,_,_,g,_⟩:=pp.o;rw[z,hr] at g;cases g;exact e rfl
theorem sJ.ext{u:Nat}(h:sJ S C P ts u a x)(e:Ext S S'):sJ S' C P ts u a x:=by
 obtain⟨w,r,k,f,h1,h2,h4⟩:=h.o;exact#[w,r,k,f,e.get h1,e.get h2,h4]
theorem M3(h1:S[C]?=some (Bd P a x w))(h2:S[w]?=some (zK P r k f)):C≠w:=λz=>by
 rw[z,h2] at h1;have:=aH h1;unfold zK Bd at this;injection this with e _
 exact absurd e ⋯
end
theorem AU{Γ:bY}(h1:Γ "Walk.__init__"=LR){S:bI}{P u:Nat}{ts:List Tr}{K:KU}{E:KX}(pa:tM S P ts u)(q:∀r S',(∀x,Ff ts u x r 0 none)->Ext S S'->S'[S.length]?=some (zK P r 0 .bK)->K .bK S'):Γ "Walk.__init__" [.loc S.length,.loc P] (S++[SO.ins "Walk" []]) K E:=by
 obtain⟨sg,bh,en,pp,A,U,l⟩:=pa.o;have hP:P<S.length:=by obtain⟨_,_,_,h,_⟩:=pp.o;exact bF h
 have b1:1<=bh.length:=by obtain⟨B,e,_⟩:=A.b0;exact(ae.mp e).1
 refine ca h1 #[S.length,P,_,en,_,rfl,by simp,pp.ext (Ext.app _),∅,by rw[aq,A.len];exact l,by rw[aq];exact b1,λr S1 hr o1 g1=>q r S1 (λx=>#[∅,Fe A hr,λj i h1 h2=>∅]) ?_ g1];exact#[by have:=o1.1;simp at this;omega,λn hn=>by rw[o1.2 n (by simp;omega) ∅,ao hn]]
def Qb:Spec:=λus S Q _=>∃C X ts,us=[.loc C,.loc X]/\S[C]?=some (.ins "Cutter" [])/\Ua S X ts/\∀P u S',tM S' P ts u->sJ S' C P ts u 0 []->nQ S S'->Q .bK S'
theorem Uq(Γ:bY)(h1:Γ "Walk.__init__"=LR):Keeps Γ js 0 Qb:=by
 rintro us S Q E ⟨C,X,ts,rfl,hC,lx,q⟩;unfold js;obtain⟨P,u,g,pa⟩:=lx.o;have fp:jA (.loc X) "places" S=λR=>R (.loc P):=by funext R;rw[d6,g];rfl
 room;rw[fp]
 refine pD hC (by simp) λS1 o1 l1 g1=>?_
 room;refine pD g1 (by simp[dZ]) λS2 o2 l2 g2=>?_
 room;refine pD g2 (by simp[dZ]) λS3 o3 l3 g3=>?_
 have L3:=nQ.old ((o1.trans o2).trans o3) hC ⋯;have f3:jA (.loc C) "places" S3=λR=>R (.loc P):=by funext R;rw[d6,g3];rfl
 room;rw[f3]
 refine AU h1 (pa.lst L3) λr S4 wa x4 g4=>#[rfl,?_]
 refine pD (x4.get g3) (by simp[dZ]) λS5 o5 l5 g5=>?_
 room;have ne:S3.length≠C:=by have:=bF g3;omega
 have L5:=(L3.trans (.ext x4)).trans (.old o5 (x4.get g3) ⋯);exact q P u S5 (pa.lst L5) #[S3.length,r,0,none,g5,by rw[o5.2 _ (bF g4) ne];exact g4,wa _] L5
def Ur:Spec:=λus S Q _=>∃C P e ts u a x,us=[.loc C,.bl e]/\sJ S C P ts u a x/\tM S P ts u/\nP ts/\(∀c∈x,c∈SG)/\x.length<=1000/\∀b f S',(b=true↔FG ts e x)->QS S' C P ts u a x f->nQ S S'->Q (.bl b) S'
theorem Us(Γ:bY)(h1:Γ "Walk.along"=T8)(h2:Γ "Walk.may_go_on"=P5):Keeps Γ dP 0 Ur:=by
 rintro us S Q E ⟨C,P,e,ts,u,a,x,rfl,ct,pa,hT,hx,hl,q⟩;unfold dP;obtain⟨w,r,k,f,g1,g2,wa⟩:=ct.o;have g2':=g2;unfold zK at g2';room;rw[IT g1,Dc,g2',aZ]
 refine#[#[rfl,rfl],?_];rw[Ma g1]
 refine ca h1 #[w,P,r,k,f,x,ts,u,rfl,g2,pa,pa.ne g2' ⋯,wa,hx,hl,λf r k S1 wa e1 o1 g3=>?_];have cn:=M3 g1 g2;have g4:S1[C]?=some (Bd P a x w):=by rw[o1.2 C (bF g1) cn];exact g1
 have L1:=nQ.old o1 g2' ⋯;obtain⟨sg,bh,en,pp,A,U,l⟩:=pa.o;have op:=wa.open hT A U e1;have fin:∀b,(b=true↔FG ts e x)->Q (.bl b) S1:=λb hb=>q b f S1 hb #[w,r,k,g4,g3,wa,e1] L1
 have g3':=g3;unfold zK at g3';room;rw[Ma g4]
 room;cases x with
 |nil=>exact fin _ #[λz=>by simp at z,λz=>absurd rfl z.1]
 |cons c x=>
  cases e with
  |true=>exact fin _ #[λ_=>#[by simp,.inl rfl],λ_=>rfl]
  |false=>
   have:(!((c::x)== []))=true:=rfl;simp only[this,if_true,ah,if_false];rw[IT g4,Dc,g3',aZ]
   refine#[#[rfl,rfl],ca h2 #[w,P,r,k,_,rfl,g3,?_]];room;refine fin _ #[λz=>#[by simp,.inr λo=>?_],λz=>?_]
   .have:=op.mpr o
    simp at z;omega
   .have:¬r≠0:=λh=>(z.2.resolve_left (by simp)) (op.mp h)
    simp;omega
def Ut:Spec:=λus S Q _=>∃C P ts u a x j,us=[.loc C,a9 j]/\sJ S C P ts u a x/\tM S P ts u/\j<=x.length/\x.length<=1000/\∀S',sJ S' C P ts u (a+j) (x.drop j)->nQ S S'->Q .bK S'
theorem Uu(Γ:bY)(h1:Γ "Walk.__init__"=LR):Keeps Γ fF 0 Ut:=by
 rintro us S Q E ⟨C,P,ts,u,a,x,j,rfl,ct,pa,hj,hl,q⟩;unfold fF;obtain⟨w,r,k,f,g1,g2,wa⟩:=ct.o;have g1':=g1;unfold Bd at g1';room;refine M1 g1' rfl (by simp) (v':=a9 (a+j)) (λQk z=>by rw[R9,Hd,show((a:Int)+(j:Int))=((a+j:Nat):Int) by omega];exact z) λS1 o1 l1 g3=>?_
 have e1:S1[C]?=some (Bd P (a+j) x w):=g3;room;rw[Ma e1]
 simp only[EF,AN];refine#[#[λi e=>by injection e with e;omega,λi e=>by cases e],∅,?_];refine pD g3 (by simp[dZ]) λS2 o2 l2 g4=>?_
 have e2:S2[C]?=some (Bd P (a+j) (x.drop j) w):=g4;have L2:=nQ.old (o1.trans o2) g1' ⋯;room;rw[Xj e2]
 refine AU h1 (pa.lst L2) λr S3 wa x3 g5=>#[rfl,?_]
 refine pD (x3.get g4) (by simp[dZ]) λS4 o4 l4 g6=>?_
 room;have ne:S2.length≠C:=by have:=bF g4;omega
 exact q S4 #[S2.length,r,0,none,g6,by rw[o4.2 _ (bF g5) ne];exact g5,wa _] ((L2.trans (.ext x3)).trans (.old o4 (x3.get g4) ⋯))
theorem vw{x:List Nat}{j:Nat}(h:j<=x.length):lT x none (some (j:Nat))=x.take j:=by
 unfold lT;simp[fY h]
theorem nQ.new(h:nQ S S1)(hT:S.length<=T):nQ S (S1.set T o):=#[by rw[cY];exact h.1,λn l e f=>by
 have:=bF e;rw[av ∅];exact h.2 n l e f]
def QT(ts:List Tr)(S:bI)(C P u:Nat)(e:Bool)(a:Nat)(x:List Nat)(Q:KU)(E:KX):Prop:=
 (∀b a' x' l n S',zx ts e a x b a' x' l->(l≠[]\/b=false)->sJ S' C P ts u a' x'->nQ S S'->S'[n]?=some (.lst l)->Q (.loc n) S')/\∀S',zx ts e a x true a x []->sJ S' C P ts u a x->nQ S S'->E #["NoToken",[a9 a]] S'
def Qc:Spec:=λus S Q E=>∃C P e ts u a x,us=[.loc C,.bl e]/\sJ S C P ts u a x/\tM S P ts u/\nP ts/\(∀c∈x,c∈SG)/\x.length<=1000/\QT ts S C P u e a x Q E
theorem Uv(Γ:bY)(h1:Γ "Cutter.next_is_sure"=Ur)(h2:Γ "Cutter.pass_over"=Ut):Keeps Γ d7 2 Qc:=by
  rintro us S Q E ⟨C,P,e,ts,u,a,x,rfl,ct,pa,hT,hx,hl,q,qe⟩;unfold d7;room;refine#[by simp,?_];room;have x0:Ext S (S++[SO.lst []]):=Ext.app _;refine#[x.length+1,lJ (λn env S1=>∃(a1:Nat)(x1:List Nat)(acc:List U)(x3:Option U),n=x1.length/\x1.length<=x.length/\(∀c∈x1,c∈SG)/\acc.length+x1.length<=x.length/\env=[some (.loc C),some (.bl e),some (.loc S.length),x3]/\sJ S1 C P ts u a1 x1/\nQ S S1/\S1[S.length]?=some (.lst acc)/\(acc=[]->a1=a/\x1=x)/\∀b a' x' l,zx ts e a1 x1 b a' x' l->zx ts e a x b a' x' (acc++l))
    ?_ _ x.length _ _ ∅ #[a,x,[],none,rfl,ax _,hx,by simp,rfl,ct.ext x0,.ext x0,by simp,λ_=>#[rfl,rfl],λb a' x' l h=>h]]
  rintro n env S1 K ⟨a1,x1,acc,x3,rfl,hl1,hx1,hac,rfl,ct1,L1,g1,e0,inv⟩ hK;have call:∀{S2:bI}{Q':KU}{E':KX},sJ S2 C P ts u a1 x1->nQ S S2->(∀b f S',(b=true↔FG ts e x1)->QS S' C P ts u a1 x1 f->nQ S2 S'->Q' (.bl b) S')->Γ "Cutter.next_is_sure" [.loc C,.bl e] S2 Q' E':=λc2 L2 k=>ca h1 #[C,P,e,ts,u,a1,x1,rfl,c2,pa.lst L2,hT,hx1,∅,k]
  have cls:∀{S2:bI},sJ S2 C P ts u a1 x1->∃fs,S2[C]?=some (.ins "Cutter" fs)/\(fs.lookup "next_is_sure"=none/\fs.lookup "pass_over"=none):=λc2=>by
    obtain⟨w,r,k,f,h1,_⟩:=c2.o;exact#[_,h1,rfl,rfl]
  obtain⟨fs1,k1,m1,_⟩:=cls ct1;have after:∀{S2:bI}(b:Bool),sJ S2 C P ts u a1 x1->nQ S S2->S2[S.length]?=some (.lst acc)->(b=true↔FG ts e x1)->zx ts e a1 x1 b a1 x1 []->Rest Γ (.cons (.ifs (.and (.cg (.cmp .eq @2 (.lst .nil))) (.cg (.cu "Cutter" "next_is_sure" "Cutter.next_is_sure" @0 (.cons @1 .nil)))) (.cons (.raise "NoToken" (.cons (.fld @0 "at") .nil)) .nil) .nil)
   (.cons (.ret @2) .nil)) #[λx S1=>Q .bK S1,Q,λ_=>E] [some (.loc C),some (.bl e),some (.loc S.length),x3] S2:=by
    intro S2 b c2 L2 g2 hb su;room;rw[(Ext.app _).get g2,aG]
    refine#[by simp,by simp,?_];have x3':Ext S2 (S2++[SO.lst []]):=Ext.app _;generalize S2++[SO.lst []]=S3 at x3';have su':=inv _ _ _ _ su;rw[bb] at su';cases acc with
    |cons t acc=>exact q _ _ _ _ _ _ su' (.inl (by simp)) (c2.ext x3') (L2.trans (.ext x3')) (x3'.get g2)
    |nil=>
      simp only[Jj,if_true];obtain⟨fs3,k3,m3,_⟩:=cls (c2.ext x3');rw[k3,aZ]
      refine#[#[rfl,m3],call (c2.ext x3') (L2.trans (.ext x3')) λb' f S4 hb' cb L4=>?_];have L5:=(L2.trans (.ext x3')).trans L4;have eb:b'=b:=by cases b<;>cases b'<;>simp_all
      subst eb;obtain⟨rfl,rfl⟩:=e0 rfl;room;cases b' with
      |false=>exact q _ _ _ _ _ _ su' (.inr rfl) cb.ct L5 (L4.get (x3'.get g2))
      |true=>
        obtain⟨w,r,k,z1,_⟩:=cb.o;simp only[if_true];room;rw[Xk z1]
        exact#[rfl,qe S4 su' cb.ct L5]
  room;rw[k1,aZ]
  refine#[#[rfl,m1],call ct1 L1 λb f S2 hb cb L2=>?_];have L12:=L1.trans L2;have bs:=cb.Zl (pa.lst L12);room;cases b with
  |false=>exact after false cb.ct L12 (L2.get g1) hb (.jH λz=>by have:=hb.mpr z;simp at this)
  |true=>
    have nx:=hb.mp rfl;obtain⟨w,r,k,z1,z2,z3,z4⟩:=cb.o;simp only[if_true];rw[IT z1,P4 z2]
    rcases f with _|⟨i,j⟩
    · exact after true cb.ct L12 (L2.get g1) hb (.bad nx bs)
    · have jl:=bs.1
      have g2:=L2.get g1;unfold uR at z2 ⊢;room;rw[IT z1,P4 z2]
      room;simp only[iD,aP];refine#[by simp,?_];room;rw[g2,aG,IT z1,P4 z2]
      room;simp only[true_and,jB,aP];refine#[by simp,?_];rw[Ma z1]
      simp only[EF,vw jl.2];refine#[#[λi e=>(by cases e),λi e=>by injection e with e;omega],∅,by simp,?_];rw[g2,aG]
      refine#[∅,?_];room;have c3:sJ (S2.set S.length (.lst (acc++[.tup [a9 i,.str (x1.take j)]]))) C P ts u a1 x1:=cb.ct.set g2;have L3:=L12.new (T:=S.length) (o:=.lst (acc++[.tup [a9 i,.str (x1.take j)]])) (ax _);have g3:=gs (o':=.lst (acc++[.tup [a9 i,.str (x1.take j)]])) g2;generalize S2.set S.length (.lst (acc++[.tup [a9 i,.str (x1.take j)]]))=S3 at c3 L3 g3;obtain⟨fs3,k3,_,m3⟩:=cls c3;rw[k3,aZ]
      refine#[#[rfl,m3],ca h2 #[C,P,ts,u,a1,x1,j,rfl,c3,pa.lst L3,jl.2,∅,λS4 c4 L4=>?_]];room;refine hK (x1.drop j).length _ _ (by simp;omega) #[a1+j,x1.drop j,_,_,rfl,by simp;omega,λc hc=>hx1 c (jQ hc),by simp;omega,rfl,c4,L3.trans L4,L4.get g3,λe=>by simp at e,λb a' x' l h=>?_];have:=inv _ _ _ _ (.go nx bs h)
      rwa [bj]
theorem QT.back(h:QT ts S C P u e a x Q E)(L:nQ S S1):QT ts S1 C P u e a x Q E:=
 #[λb a' x' l n S' z1 z2 z3 z4 z5=>h.1 b a' x' l n S' z1 z2 z3 (L.trans z4) z5,λS' z1 z2 z3=>h.2 S' z1 z2 (L.trans z3)]
def Qd:Spec:=λus S Q E=>∃C P z ts u a x,us=[.loc C,.str z]/\sJ S C P ts u a x/\tM S P ts u/\nP ts/\(∀c∈x++z,c∈SG)/\(x++z).length<=1000/\QT ts S C P u false a (x++z) Q E
theorem Uw(Γ:bY)(h1:Γ "Cutter.sure_tokens"=Qc):Keeps Γ jt 0 Qd:=by
 rintro us S Q E ⟨C,P,z,ts,u,a,x,rfl,ct,pa,hT,hx,hl,q⟩;unfold jt;obtain⟨w,r,k,f,g1,g2,wa⟩:=ct.o;have g1':=g1;unfold Bd at g1';rw[aB] at hl;room;refine M1 g1' rfl (by simp) (v':=.str (x++z)) (λQk h=>by rw[Sa,He];exact#[∅,h]) λS1 o1 l1 g3=>?_
 have e1:S1[C]?=some (Bd P a (x++z) w):=g3;have L1:=nQ.old o1 g1' ⋯;room;rw[g3,aZ]
 exact#[#[rfl,rfl],ca h1 #[C,P,false,ts,u,a,x++z,rfl,#[w,r,k,f,e1,by rw[o1.2 _ (bF g2) (M3 g1 g2).symm];exact g2,wa.app],pa.lst L1,hT,hx,by rw[aB];exact hl,q.back L1]]
def Qe:Spec:=λus S Q E=>∃C P ts u a x,us=[.loc C]/\sJ S C P ts u a x/\tM S P ts u/\nP ts/\(∀c∈x,c∈SG)/\x.length<=1000/\QT ts S C P u true a x Q E
theorem Ux(Γ:bY)(h1:Γ "Cutter.sure_tokens"=Qc):Keeps Γ j9 0 Qe:=by
 rintro us S Q E ⟨C,P,ts,u,a,x,rfl,ct,pa,hT,hx,hl,q⟩;unfold j9;obtain⟨w,r,k,f,g1,_⟩:=ct.o;have g1':=g1;unfold Bd at g1';room;rw[g1',aZ]
 exact#[#[rfl,rfl],ca h1 #[C,P,true,ts,u,a,x,rfl,ct,pa,hT,hx,hl,q]]
def Uy:Spec:=λus S Q _=>∃C P p e ts u a x y,us=[.loc C,p]/\((p=.bK/\e=true/\y=x)\/∃z,p=.str z/\e=false/\y=x++z)/\sJ S C P ts u a x/\tM S P ts u/\nP ts/\(∀c∈y,c∈SG)/\y.length<=1000 /\
 (∀b a' x' l n S',zx ts e a y b a' x' l->(l≠[]\/b=false)->sJ S' C P ts u a' x'->nQ S S'->S'[n]?=some (.lst l)->Q (.tup [.loc n,.int (-1)]) S')/\∀S',zx ts e a y true a y []->sJ S' C P ts u a y->nQ S S'->Q (.tup [.bK,a9 a]) S'
theorem Uz(Γ:bY)(h1:Γ "Cutter.take"=Qd)(h2:Γ "Cutter.end"=Qe):Keeps Γ ke 3 Uy:=by
 rintro us S Q E ⟨C,P,p,e,ts,u,a,x,y,rfl,hp,ct,pa,hT,hx,hl,q,qe⟩;unfold ke;obtain⟨w,r,k,f,g1,_⟩:=ct.o;have g1':=g1;unfold Bd at g1';rcases hp with⟨rfl,rfl,rfl⟩|⟨z,rfl,rfl,rfl⟩
 .room
  rw[show uD .bK=true from rfl,if_pos rfl,g1',aZ]
  refine#[#[rfl,rfl],ca h2 #[C,P,ts,u,a,_,rfl,ct,pa,hT,hx,hl,λb a' x' l n S' z1 z2 z3 z4 z5=>?_,λS' z1 z2 z3=>?_]]
  .room
   exact#[by simp,q _ _ _ _ _ _ z1 z2 z3 z4 z5]
  .refine#[rfl,?_]
   room;exact#[by simp,qe S' z1 z2 z3]
 .room
  rw[show uD (.str z)=false from rfl]
  simp only[ah,if_false];rw[g1',aZ]
  refine#[#[rfl,rfl],ca h1 #[C,P,z,ts,u,a,x,rfl,ct,pa,hT,hx,hl,λb a' x' l n S' z1 z2 z3 z4 z5=>?_,λS' z1 z2 z3=>?_]]
  .room
   exact#[by simp,q _ _ _ _ _ _ z1 z2 z3 z4 z5]
  .refine#[rfl,?_]
   room;exact#[by simp,qe S' z1 z2 z3]
theorem DQ(h:a+j<=x.length):lT x (some (a:Nat)) (some ((a+j:Nat):Int))=(x.drop a).take j:=by
 unfold lT;simp only[cC,i7];rw[fY h,fY (show a<=x.length by omega),Nat.add_sub_cancel_left]
def Qf:Spec:=λus S Q _=>∃n x p e ts,us=[.loc n,.str x,a9 p,.bl e]/\S[n]?=some (.lst (ts.map enc))/\nP ts/\x.length<=1000/\p<=x.length/\∀b a' y' l m S',zx ts e p (x.drop p) b a' y' l->Ext S S'->S'[m]?=some (.lst l)->Q (.tup [.loc m,a9 a',.bl b]) S'
theorem UA(Γ:bY)(h1:Γ "_law_open"=Uo)(h2:Γ "_law_token"=MZ):Keeps Γ lE 2 Qf:=by
  rintro us S Q E ⟨n,x,p,e,ts,rfl,gn,hT,hl,hp,q⟩;unfold lE;room;refine#[by simp,?_];room;have x0:Ext S (S++[SO.lst []]):=Ext.app _;refine#[x.length+1,lJ (λN env S1=>∃(a:Nat)(acc:List U)(x5:Option U),N=x.length-a/\a<=x.length/\acc.length<=a/\env=[some (.loc n),some (.str x),some (a9 a),some (.bl e),some (.loc S.length),x5]/\Ext S S1/\S1[S.length]?=some (.lst acc)/\∀b a' y' l,zx ts e a (x.drop a) b a' y' l->zx ts e p (x.drop p) b a' y' (acc++l))
    ?_ _ (x.length-p) _ _ ∅ #[p,[],none,rfl,hp,by simp,rfl,x0,by simp,λb a' y' l h=>h]]
  rintro N env S1 K ⟨a,acc,x5,rfl,ha,hac,rfl,x1,g1,inv⟩ hK;have jH:∀{S2:bI},Ext S1 S2->¬FG ts e (x.drop a)->Rest Γ (.cons (.ret (.tup (.cons @4 (.cons @2 (.cons (.lit (.bl false)) .nil))))) .nil) #[λ_ S1=>Q .bK S1,Q,λ_=>E] [some (.loc n),some (.str x),some (a9 a),some (.bl e),some (.loc S.length),x5] S2:=λx2 z=>by
    room;refine#[by simp,q _ _ _ _ _ _ (inv _ _ _ _ (.jH z)) (x1.trans x2) ?_];rw[bb];exact x2.get g1
  room;refine#[∅,?_];by_cases y:a<x.length
  · have:((a:Int)<(x.length:Int)):=∅
    simp only[this,decide_true,if_true];have dl:(x.drop a).length=x.length-a:=by simp
    have ne:x.drop a≠[]:=λz=>by rw[z] at dl;simp at dl;omega
    have go:∀{S2:bI},Ext S1 S2->FG ts e (x.drop a)->Rest Γ (.cons (.set 5 (.call "_law_token" (.cons @0 (.cons @1 (.cons @2 .nil)))))
     (.cons (.ifs (.cg (.cmp .Ku @5 (.lit .bK))) (.cons (.ret (.tup (.cons @4 (.cons @2 (.cons (.lit (.bl true)) .nil))))) .nil) .nil)
     (.cons (.ex (.kS .append @4 (.cons (.tup (.cons (.ix @5 ↑0) (.cons (.sl @1 (.e @2) (.e (.bin .add @2 (.ix @5 ↑1)))) .nil))) .nil)))
     (.cons (.set 2 (.bin .add @2 (.ix @5 ↑1))) .nil)))) #[K,Q,λ_=>E] [some (.loc n),some (.str x),some (a9 a),some (.bl e),some (.loc S.length),x5] S2:=by
      intro S2 x2 nx;room;refine ca h2 #[n,x,a,ts,rfl,(x1.trans x2).get gn,hT,hl,ha,λf S3 bs x3=>?_];have g3:=(x2.trans x3).get g1;rcases f with _|⟨i,j⟩
      · room
        refine#[by simp,q _ _ _ _ _ _ (inv _ _ _ _ (.bad nx bs)) (x1.trans (x2.trans x3)) ?_];rw[bb];exact g3
      · have jl:=bs.1
        unfold uR;room;rw[g3,aG]
        have e1:((a:Int)+((j:Nat):Int))=((a+j:Nat):Int):=∅
        simp only[true_and,jB,iD,aP];refine#[by simp,by simp,?_];simp only[EF];room;rw[e1,DQ ∅]
        refine#[#[λi e=>by injection e with e;omega,λi e=>by injection e with e;omega],∅,by simp,?_];rw[g3,aG]
        refine#[∅,?_];room;simp only[iD,aP];refine#[by simp,?_];room;rw[e1]
        have x4:Ext S (S3.set S.length (.lst (acc++[.tup [a9 i,.str ((x.drop a).take j)]]))):=by
          have:=x1.trans (x2.trans x3);exact#[by rw[cY];exact this.1,λn hn=>by rw[av ∅];exact this.2 n hn]
        refine hK (x.length-(a+j)) _ _ ∅ #[a+j,_,_,rfl,∅,by simp;omega,rfl,x4,gs g3,λb a' y' l h=>?_];rw[<-wC] at h;have:=inv _ _ _ _ (.go nx bs h)
        rwa [bj]
    cases e with
    |true=>exact go .refl #[ne,.inl rfl]
    |false=>
      simp only[ah,if_false,EF,AN];refine#[#[λi e=>by injection e with e;omega,λi e=>by cases e],∅,?_];refine ca h1 #[n,x.drop a,ts,rfl,x1.get gn,hT,∅,λb S2 hb x2=>?_];room;cases b with
      |true=>exact jH x2 λz=>(z.2.resolve_left (by simp)) (hb.mp rfl)
      |false=>exact go x2 #[ne,.inr λz=>by have:=hb.mpr z;simp at this]
  · have:¬((a:Int)<(x.length:Int)):=∅
    simp only[this,decide_false,ah,if_false];exact jH .refl λz=>z.1 (dD ∅)
noncomputable def zL(m:List Nat)(c:Nat):List Nat:=if m.contains c=true then [92,c] else [c]
theorem Cw(m:List Nat)(c:Nat):(zL m c).length<=2:=by unfold zL;split<;>simp
noncomputable def QW(R:List Nat):List Nat:=zL MW (R.headD 0)++[45]++zL MW (R.getLastD 0)
noncomputable def M4(R:List Nat):List (List Nat):=if (R.map (zL MW)).flatten.length<=(QW R).length then R.map (zL MW) else [QW R]
noncomputable def Xm(st:List (List Nat)×List Nat)(c:Nat):List (List Nat)×List Nat:=if iC (st.2++[c]) SG=true then(st.1,st.2++[c]) else(st.1++[st.2],[c])
noncomputable def QY(l:List Nat):List (List Nat):=(l.foldl Xm ([],[])).1++[(l.foldl Xm ([],[])).2]
noncomputable def Fg(l:List Nat):List (List Nat):=(QY l).flatMap M4
noncomputable def Qg:List (List Nat)->List Nat
 |[]=>[]
 |x::r=>if [94].isPrefixOf x=true then(if r.isEmpty=true then 92::x else r.flatten++x) else(x::r).flatten
noncomputable def QZ(l:List Nat):List (List Nat):=(if l==[] then [] else [[91]++Qg (Fg l)++[93]])++if l==SG then [] else [[91,94]++(Fg (dA l)).flatten++[93]]
noncomputable def Xo:List (List Nat)->List Nat
 |[]=>[]
 |t::ts=>ts.foldl (λb x=>if x.length<b.length then x else b) t
noncomputable def Jx(l:List Nat):List Nat:=if l.length=1 then zL MO (l.headD 0) else Xo (QZ l)
noncomputable def Fh(l:List Nat):Bool:=decide (l.length<=95)&&((QY l).all λR=>!(R==[])&&decide (R.length<=95))&&decide ((QY l).length<=100)&&decide ((Fg l).length<=200)&&decide ((Fg l).flatten.length<=400) && !(Fg l==[])
def Qh:Spec:=λus S Q _=>∃c m,us=[.str [c],.str m]/\Q (.str (zL m c)) S
theorem UB(Γ:bY):Keeps Γ lg 0 Qh:=by
 rintro us S Q E ⟨c,m,rfl,q⟩;unfold lg;room;unfold zL at q;by_cases z:m.contains c=true
 .rw[if_pos z] at q ⊢
  exact#[by simp,q]
 .rw[if_neg z] at q ⊢
  exact q
theorem rV:∀ts:List (List Nat),k7 [] ts=ts.flatten
 |[]=>rfl
 |[x]=>by simp[k7]
 |x::y::r=>by
  rw[k7,rV (y::r)]
  .simp
  .simp
theorem zy(ts:List (List Nat)):(ts.map cM).sum+ts.length*([]:List Nat).length=ts.flatten.length:=by rw[List.length_flatten];simp
def UC:Spec:=λus S Q _=>∃R,us=[.str R]/\R≠[]/\R.length<=95/\∀n S',Ext S S'->S'[n]?=some (.lst ((M4 R).map .str))->Q (.loc n) S'
theorem IU(m:List Nat):∀R:List Nat,(R.map (zL m)).flatten.length<=2*R.length
 |[]=>by simp
 |c::r=>by
  have:=IU m r;have:=Cw m c;rw[aF,mh,aB,aQ];omega
theorem UD(Γ:bY)(h1:Γ "sign_text"=Qh):Keeps Γ lh 2 UC:=by
 rintro us S Q E ⟨R,rfl,ne,hl,q⟩;unfold lh;have f2:=IU MW R;room;refine nk (S:=S) _ ((R.map (zL MW)).map .str) (by simp) (by simp;omega) (λ_ _=>trivial) (λu S' k h=>h) (λi u v hu hv S' k x hk=>?_) λS1 x1=>?_
 .rw[ar] at hu
  obtain⟨c,e,rfl⟩:=ag.mp hu;rw[ar,ar,e] at hv;cases hv;exact ca h1 #[c,MW,rfl,hk S' .refl]
 have g2:(S1++[SO.lst ((R.map (zL MW)).map U.str)])[S1.length]?=some (.lst ((R.map (zL MW)).map U.str)):=by simp
 have x2:Ext S (S1++[SO.lst ((R.map (zL MW)).map U.str)]):=x1.trans (Ext.app _);generalize S1.length=m at g2;generalize S1++[SO.lst ((R.map (zL MW)).map U.str)]=S2 at g2 x2;have t1:=Cw MW (R.headD 0);have t2:=Cw MW (R.getLastD 0);have wl:(QW R).length<=5:=by unfold QW;rw[aB,aB];simp only[aQ,cZ];omega
 have e0:tG R 0=some (R.headD 0):=by
  cases R with
  |nil=>exact absurd rfl ne
  |cons a r=>exact jB
 have el:tG R (-1)=some (R.getLastD 0):=by
  have:0<R.length:=Ec.mpr ne;unfold tG Of;rw[if_neg ∅,if_pos ∅]
  simp only[Fv];rw[List.getLastD_eq_getLast?,List.getLast?_eq_getElem?]
  have e:((-1:Int)+(R.length:Int)).toNat=R.length-1:=∅
  rw[e,aa ∅]
  rfl
 room;rw[e0,el]
 simp only[aP];refine#[∅,ca h1 #[_,MW,rfl,#[by rw[fZ];omega,∅,ca h1 #[_,MW,rfl,#[by rw[aB,fZ];omega,?_]]]]];have ew:zL MW (R.headD 0)++[45]++zL MW (R.getLastD 0)=QW R:=rfl;rw[ew]
 room;refine#[_,g2,by rw[zy];omega,?_];rw[rV]
 refine#[∅,∅,?_];unfold M4 at q;by_cases z:(R.map (zL MW)).flatten.length<=(QW R).length
 .rw[if_pos z] at q
  rw[if_pos (by simpa using z)]
  exact q _ _ x2 g2
 .rw[if_neg z] at q
  rw[if_neg (by simpa using z)]
  exact#[by simp,q _ _ (x2.trans (Ext.app _)) (by simp)]
def UE:Spec:=λus S Q _=>∃l,us=[.str l]/\l.length<=95/\∀n S',Ext S S'->S.length<=n->S'[n]?=some (.lst ((QY l).map .str))->Q (.loc n) S'
theorem UG(Γ:bY):Keeps Γ yR 3 UE:=by
 rintro us S Q E ⟨l,rfl,hl,q⟩;unfold QY Xm at q;unfold yR;generalize hG:SG=G at q ⊢;room;refine#[by simp,?_];have x0:Ext S (S++[SO.lst []]):=Ext.app _;have g0:(S++[SO.lst []])[S.length]?=some (.lst []):=by simp
 room;have keep:∀{S1:bI}{o:SO},Ext S S1->Ext S (S1.set S.length o):=λx=>#[by rw[cY];exact x.1,λn hn=>by rw[av ∅];exact x.2 n hn]
 refine d9 (λi env S1=>∃(st:List (List Nat)×List Nat)(x3:Option U),env=[some (.str l),some (.loc S.length),some (.str st.2),x3]/\S1[S.length]?=some (.lst (st.1.map .str))/\Ext S S1/\st.1.length<=i/\st.2.length<=i/\i<=l.length/\st=(l.take i).foldl (λst c=>if iC (st.2++[c]) G=true then(st.1,st.2++[c]) else(st.1++[st.2],[c])) ([],[])) (λ_ _ _ _=>trivial) _ ?_ ?_ #[([],[]),none,rfl,g0,x0,by simp,by simp,∅,rfl]
 .rintro i u env S1 K hu ⟨st,x3,rfl,g1,x1,l1,l2,hi,e⟩ hK
  rw[ar] at hu;obtain⟨c,hc,rfl⟩:=ag.mp hu;have il:=(ae.mp hc).1;have et:l.take (i+1)=l.take i++[c]:=by rw[cf,hc];rfl
  room;refine#[by simp;omega,?_];show(if (!iC (st.2++[c]) G)=true then _ else _)
  by_cases z:iC (st.2++[c]) G=true
  .rw[z]
   simp only[bO,ah,if_false];room;refine#[by simp;omega,?_];room;refine hK _ _ #[(st.1,st.2++[c]),_,rfl,g1,x1,by simp;omega,by simp;omega,il,?_];rw[et,mf,<-e]
   simp only[vB,wB,if_pos z]
  .rw[fu _ |>.mp z]
   simp only[bV,if_true];room;rw[g1,aG]
   refine#[trivial,by simp;omega,?_];room;refine#[by simp,?_];room;refine hK _ _ #[(st.1++[st.2],[c]),_,rfl,by rw[gs g1];simp,keep x1,by simp;omega,by simp,il,?_];rw[et,mf,<-e]
   simp only[vB,wB,if_neg z]
 .rintro env S1 ⟨st,x3,rfl,g1,x1,l1,l2,hi,e⟩
  room;rw[g1,aG]
  rw[aq] at l1 e;rw[b9] at e;refine#[trivial,by simp;omega,?_];room;exact q _ _ (keep x1) (ax _) (by rw[gs g1,<-e];simp)
def UH:Spec:=λus S Q _=>∃l,us=[.str l]/\Fh l=true/\∀n S',Ext S S'->S'[n]?=some (.lst ((Fg l).map .str))->Q (.loc n) S'
theorem DS{α β:Type}(f:α->List β):∀(l:List α)(i:Nat),((l.take i).flatMap f).length<=(l.flatMap f).length
 |[],i=>by simp
 |a::l,0=>by simp
 |a::l,i+1=>by
  have:=DS f l i;rw[D9,FZ,FZ,aB,aB];omega
theorem UI(Γ:bY)(h1:Γ "runs"=UE)(h2:Γ "run_items"=UC):Keeps Γ jk 2 UH:=by
 rintro us S Q E ⟨l,rfl,ok,q⟩;unfold Fh at ok;simp only[af,decide_eq_true_eq] at ok;obtain⟨⟨⟨⟨⟨o1,o2⟩,o3⟩,o4⟩,o5⟩,o6⟩:=ok;rw[bR] at o2;unfold Fg at q o4;unfold jk;room;refine#[by simp,?_];have x0:Ext S (S++[SO.lst []]):=Ext.app _;have g0:(S++[SO.lst []])[S.length]?=some (.lst []):=by simp
 have l0:(S++[SO.lst []]).length=S.length+1:=by simp
 generalize S++[SO.lst []]=S1 at x0 g0 l0;room;refine ca h1 #[l,rfl,o1,λn S2 x2 nl g2=>?_];generalize QY l=Rs at o2 o3 o4 q g2;room;rw[g2,aG]
 refine d9 (λi env S3=>∃x,env=[some (.str l),some (.loc S.length),x]/\S3[S.length]?=some (.lst (((Rs.take i).flatMap M4).map .str))/\S3[n]?=some (.lst (Rs.map .str))/\Ext S S3) (λi env S3 #[_,_,_,h,_]=>h) _ ?_ ?_ #[none,rfl,by simpa using x2.get g0,g2,x0.trans x2]
 .rintro i u env S3 K hu ⟨x,rfl,g3,g4,x3⟩ hK
  rw[ar] at hu;obtain⟨R,hc,rfl⟩:=ag.mp hu;have hR:=o2 R (aw hc);simp only[af,decide_eq_true_eq,gq,beq_eq_false_iff_ne] at hR;have tk:(Rs.take (i+1)).flatMap M4=(Rs.take i).flatMap M4++M4 R:=by rw[cf,hc];simp
  have tl:=DS M4 Rs (i+1);rw[tk,aB] at tl;room;rw[g3,aG]
  refine#[trivial,ca h2 #[R,rfl,hR.1,hR.2,λm S4 x4 g5=>?_]];room;rw[x4.get g3,g5,aG,aG]
  refine#[by rw[aq,aq];omega,?_];room;refine hK _ _ #[_,rfl,by rw[gs (x4.get g3),tk];simp,?_,?_]
  .rw[av ∅];exact x4.get g4
  .have:=x3.trans x4
   exact#[by rw[cY];exact this.1,λn hn=>by rw[av ∅];exact this.2 n hn]
 .rintro env S3 ⟨x,rfl,g3,g4,x3⟩
  rw[aq,b9] at g3;room;exact q _ _ x3 g3
theorem M5(x:List Nat)(r:List (List Nat)):Qg (x::r)=if [94].isPrefixOf x=true then(if r.isEmpty=true then 92::x else r.flatten++x) else(x::r).flatten:=rfl
def UJ:Spec:=λus S Q _=>∃n its,us=[.loc n]/\S[n]?=some (.lst (its.map .str))/\its≠[]/\its.length<=200/\its.flatten.length<=400/\∀S',Ext S S'->Q (.str (Qg its)) S'
theorem UK(Γ:bY):Keeps Γ oW 0 UJ:=by
 rintro us S Q E ⟨n,its,rfl,g,ne,hl,hf,q⟩;unfold oW;cases its with
 |nil=>exact absurd rfl ne
 |cons x r=>
  rw[mh,aB] at hf;simp only[aQ] at hl;have a0:∀{R:U->Prop},opt (tG ((x::r).map U.str) 0) R=R (.str x):=by intro R;rw[aF,jB];rfl
  room;rw[g,aG]
  rw[a0]
  room;rw[M5] at q;by_cases z:[94].isPrefixOf x=true
  .rw[if_pos z] at q
   rw[z]
   simp only[bO,ah,if_false];room;rw[uI g]
   simp only[aP,aq,aQ];refine#[∅,?_];cases r with
   |nil=>
    have q:∀S',Ext S S'->Q (.str (92::x)) S':=q;rw[if_pos (by simp)]
    room;rw[g,aG]
    rw[a0]
    room;exact#[by simp at hf ⊢;omega,q S .refl]
   |cons y r=>
    rw[if_neg (by simp)] at q;rw[if_neg (by simp;omega)]
    room;simp only[EF];rw[g,aG]
    have ec:lT ((x::y::r).map U.str) (some 1) none=(y::r).map U.str:=xR (a:=1);rw[ec]
    refine#[#[λi e=>(by injection e with e;omega),λi e=>(by cases e)],y::r,by simp,by rw[zy];omega,?_];rw[rV]
    show getL (S++_)[n]? _
    rw[(Ext.app _:Ext S _).get g,aG,a0]
    room;exact#[∅,q _ (Ext.app _)]
  .rw[if_neg z] at q
   rw[fu _ |>.mp z]
   simp only[bV,if_true];room;refine#[x::r,g,by rw[zy,mh,aB];omega,?_];rw[rV]
   exact q S .refl
theorem Qi(its:List (List Nat)):(Qg its).length<=its.flatten.length+1:=by
 cases its with
 |nil=>simp[Qg]
 |cons x r=>
  rw[M5]
  split
  .split
   .rename_i z;have:r=[]:=by simpa using z
    subst this;simp
   .simp;omega
  .simp
noncomputable def Qj(l:List Nat):Bool:=(l==[]||Fh l)&&(l==SG||Fh (dA l))
def UL:Spec:=λus S Q _=>∃l,us=[.str l]/\Qj l=true/\∀n S',Ext S S'->S'[n]?=some (.lst ((QZ l).map .str))->Q (.loc n) S'
theorem AV(h:Fh l=true):(Fg l).length<=200/\(Fg l).flatten.length<=400/\Fg l≠[]:=by
 unfold Fh at h;simp only[af,decide_eq_true_eq,gq,beq_eq_false_iff_ne] at h;exact#[h.1.1.2,h.1.2,h.2]
noncomputable def YG:dh:=#v[.ifs (.cg (.cmp .ne @0 (.lit (.str SG)))) #v[.ex (.kS .append @1 #v[.bin .add (.bin .add ↑[91,94] (.kS .join (.lit (.str [])) #v[.call "class_items" #v[.call "all_but" #v[@0]]])) ↑[93]])] .nil,.ret @1]
theorem UM(Γ:bY)(h1:Γ "class_items"=UH)(h2:Γ "guarded"=UJ)(h3:Γ "all_but"=spT dA):Keeps Γ jj 1 UL:=by
 rintro us S Q E ⟨l,rfl,ok,q⟩;unfold Qj at ok;rw[af,aO,aO] at ok;have keep:∀{S1:bI}{o:SO},Ext S S1->Ext S (S1.set S.length o):=λx=>#[by rw[cY];exact x.1,λn hn=>by rw[av ∅];exact x.2 n hn]
 have fin:∀S1 acc,Ext S S1->S1[S.length]?=some (.lst (acc.map .str))->acc.length<=10->acc=(if l==[] then [] else [[91]++Qg (Fg l)++[93]])->Rest Γ YG #[λ_ S1=>Q .bK S1,Q,λ_=>E] [some (.str l),some (.loc S.length)] S1:=by
  intro S1 acc x1 g1 al ea;unfold QZ at q;rw[<-ea] at q;unfold YG;have ok2:=ok.2;generalize SG=G at q ok2;room;by_cases z:(l==G)=true
  .rw[z]
   rw[if_pos z,bb] at q;simp only[bO,ah,if_false];room;exact q _ _ x1 g1
  .rw[fu _ |>.mp z]
   rw[if_neg z] at q;simp only[bV,if_true];have ck:=ok2.resolve_left z;obtain⟨f1,f2,f3⟩:=AV ck;room;rw[g1,aG]
   refine#[trivial,ca h3 #[l,rfl,λS2 x2=>ca h1 #[_,rfl,ck,λn S3 x3 g3=>#[_,g3,by rw[zy];omega,?_]]]];rw[rV]
   refine#[by simp only[aQ,cZ];omega,by rw[aB];simp only[aQ,cZ];omega,?_];show getL S3[S.length]? _;rw[(x2.trans x3).get g1,aG]
   refine#[by rw[aq];omega,?_];room;exact q _ _ (keep (x1.trans (x2.trans x3))) (by rw[gs ((x2.trans x3).get g1)];simp)
 unfold jj;room;refine#[by simp,?_];have x0:Ext S (S++[SO.lst []]):=Ext.app _;have g0:(S++[SO.lst []])[S.length]?=some (.lst []):=by simp
 generalize S++[SO.lst []]=S0 at x0 g0;room;by_cases z:(l==[])=true
 .rw[z]
  simp only[bO,ah,if_false];exact Rest.go (fin S0 [] x0 g0 (by simp) (by rw[if_pos z]))
 .rw[fu _ |>.mp z]
  simp only[bV,if_true];have ck:=ok.1.resolve_left z;obtain⟨f1,f2,f3⟩:=AV ck;have gl:=Qi (Fg l);room;rw[g0,aG]
  refine#[trivial,ca h1 #[l,rfl,ck,λn S2 x2 g2=>ca h2 #[n,_,rfl,g2,f3,f1,f2,λS3 x3=>?_]]];room;refine#[by simp only[aQ,cZ];omega,by simp only[aQ,cZ];omega,?_];rw[(x2.trans x3).get g0,aG]
  refine#[by simp,?_];exact Rest.go (fin _ [[91]++Qg (Fg l)++[93]] (keep (x0.trans (x2.trans x3))) (by rw[gs ((x2.trans x3).get g0)];simp) (by simp) (by rw[if_neg z]))
noncomputable abbrev CL:List (List Nat):=[[97],[98],[99],[97,98],[98,99],SG,[48],[]]
theorem IV:∀l∈CL,l.length=1\/(Qj l=true/\(l==dA [10])=false/\QZ l≠[]/\(QZ l).all (λx=>decide (x.length<=1000))=true):=by
 decide +kernel
def Mb:Spec:=λus S Q _=>∃l,us=[.str l]/\l∈CL/\∀S',Ext S S'->Q (.str (Jx l)) S'
theorem UN(Γ:bY)(h1:Γ "sign_text"=Qh)(h2:Γ "all_but"=spT dA)(h3:Γ "class_texts"=UL):Keeps Γ jW 0 Mb:=by
 rintro us S Q E ⟨l,rfl,hl,q⟩;have fa:=IV l hl;have ll:l.length<=95:=by
  have:∀l∈CL,l.length<=95:=⋯
  exact this l hl
 unfold jW;unfold Jx at q;room;refine#[∅,?_];by_cases z:l.length=1
 .rw[if_pos z] at q
  rw[if_pos (by rw[z];rfl)]
  obtain⟨c,rfl⟩:∃c,l=[c]:=i3.mp z;room;exact ca h1 #[c,MO,rfl,q S .refl]
 .rw[if_neg z] at q
  rw[if_neg (by simp;omega)]
  obtain⟨f1,f2,f3,f4⟩:=fa.resolve_left z;room;refine ca h2 #[_,rfl,λS1 x1=>?_];room;rw[f2]
  simp only[ah,if_false];room;refine ca h3 #[l,rfl,f1,λn S2 x2 g2=>?_];cases e:QZ l with
  |nil=>exact absurd e f3
  |cons t ts=>
   rw[e] at g2 q f4;refine#[t,ts,g2,λu hu=>?_,q S2 (x1.trans x2)];have:=bR.mp f4 u hu;simp at this;omega
theorem Ql:∀l∈CL,(Jx l).length<=10:=by decide +kernel
theorem tR:Jx [97,98]=[91,97,98,93]/\Jx [98,99]=[91,98,99,93]/\Jx SG=[91,10,45,126,93]/\Jx []=[91,94,10,45,126,93]:=by decide +kernel
set_option maxRecDepth 100000 in
theorem Mc(h:l∈CL)(br:Option (List Nat->PR U)):ve br (Jx l) (LG l):=by
 intro rest;simp only[bg,bP,or_false] at h;rcases h with rfl|rfl|rfl|rfl|rfl|rfl|rfl|rfl
 .rfl
 .rfl
 .rfl
 .rw[tR.1];rfl
 .rw[tR.2.1];rfl
 .rw[tR.2.2.1];rfl
 .rfl
 .rw[tR.2.2.2];rfl
noncomputable def num:Nat->Tr->Tr
 |n,.one _ l=>.one n l
 |n,.row a b=>.row (num n a) (num (n+size a) b)
 |n,.or a b=>.or (num n a) (num (n+size a) b)
 |n,.rep m a=>.rep m (num n a)
theorem rW:∀t n,enc (num n t)=enc t/\size (num n t)=size t/\bG (num n t)=bG t/\null (num n t)=null t/\oy (num n t)=oy t/\nN n (num n t)
 |.one _ l,n=>#[rfl,rfl,rfl,rfl,rfl,rfl]
 |.row a b,n=>by
  obtain⟨a1,a2,a3,a4,a5,a6⟩:=rW a n;obtain⟨b1,b2,b3,b4,b5,b6⟩:=rW b (n+size a);simp only[num,enc,size,bG,null,oy,nN,a1,a2,a3,a4,a5,b1,b2,b3,b4,b5];exact#[trivial,trivial,trivial,trivial,trivial,a6,b6]
 |.or a b,n=>by
  obtain⟨a1,a2,a3,a4,a5,a6⟩:=rW a n;obtain⟨b1,b2,b3,b4,b5,b6⟩:=rW b (n+size a);simp only[num,enc,size,bG,null,oy,nN,a1,a2,a3,a4,a5,b1,b2,b3,b4,b5];exact#[trivial,trivial,trivial,trivial,trivial,a6,b6]
 |.rep m a,n=>by
  obtain⟨a1,a2,a3,a4,a5,a6⟩:=rW a n;cases m<;>simp only[num,enc,size,bG,null,oy,nN,a1,a2,a3,a4,a5]<;>exact#[trivial,trivial,trivial,trivial,trivial,a6]
noncomputable def v9:Nat->List Tr->List Tr
 |_,[]=>[]
 |n,t::ts=>num n t::v9 (n+size t) ts
theorem DT:∀ts n,(v9 n ts).map enc=ts.map enc/\LS n (v9 n ts)/\iW (v9 n ts)=iW ts/\∀t∈v9 n ts,∃t'∈ts,bG t=bG t'/\null t=null t'/\oy t=oy t'
 |[],n=>#[rfl,trivial,rfl,by simp[v9]]
 |t::ts,n=>by
  obtain⟨a1,a2,a3,a4,a5,a6⟩:=rW t n;obtain⟨b1,b2,b3,b4⟩:=DT ts (n+size t);refine#[by simp only[v9,aF,a1,b1],#[a6,by rw[a2];exact b2],by simp only[iW] at b3 ⊢;simp only[v9,aF,mH,a2,b3],λt' m=>?_];rcases bg.mp m with rfl|m
  .exact#[t,bf ..,a3,a4,a5]
  .obtain⟨t2,m2,h⟩:=b4 t' m
   exact#[t2,aU _ m2,h]
def rZ(t:Tr):Prop:=∀l∈oy t,l∈CL
theorem mF:∀t,size t<=2^bG t
 |.one _ _=>by simp[size,bG]
 |.row a b=>by
  have h1:=mF a;have h2:=mF b;have p1:2^bG a<=2^max (bG a) (bG b):=bB ∅ ∅;have p2:2^bG b<=2^max (bG a) (bG b):=bB ∅ ∅;simp only[size,bG,fQ];omega
 |.or a b=>by
  have h1:=mF a;have h2:=mF b;have p1:2^bG a<=2^max (bG a) (bG b):=bB ∅ ∅;have p2:2^bG b<=2^max (bG a) (bG b):=bB ∅ ∅;simp only[size,bG,fQ];omega
 |.rep m a=>by
  have h1:=mF a;simp only[size,bG,fQ];omega
def Md(D:Nat):Spec:=λus S Q _=>∃(ns:List Int)(b:Int)(d:Nat),us=[.pC ns,.int b,a9 d]/\ns.length<=1000/\d<D/\∀t S',bG t<=d->rZ t->Ext S S'->Q (enc t) S'
theorem IW(Γ:bY)(D:Nat)(h1:Γ "_law_mix"=tI.xE)(h2:Γ "_law_all"=tI.Iu)(h3:Γ "_law_small"=Md D):Keeps Γ j7 3 (Md (D+1)):=by
 rintro us S Q E ⟨ns,b,d,rfl,hl,hd,q⟩;unfold j7;room;refine ca h1 #[ns,b,rfl,hl,λm m0 m1=>?_];room;refine#[∅,?_];room;have leaf:Rest Γ (.cons (.ret (.tup (.cons ↑[111,110,101] (.cons (.ix (.lst (.cons ↑[97] (.cons ↑[98] (.cons ↑[99] (.cons ↑[97,98] (.cons ↑[98,99] (.cons (.call "_law_all" .nil) (.cons ↑[97] (.cons ↑[98] (.cons ↑[48] (.cons (.lit (.str [])) .nil))))))))))) (.bin .mod (.bin .fdiv @3 ↑9) ↑10)) .nil)))) .nil) #[λ_ S1=>Q .bK S1,Q,λ_=>E] [some (.pC ns),some (.int b),some (a9 d),some (.int m),some (.int (m%9)),none] S:=by
  room;refine ca h2 #[rfl,λG hG=>?_];refine#[by simp,∅,∅,?_];have gl:(S++[SO.lst [U.str [97],U.str [98],U.str [99],U.str [97,98],U.str [98,99],U.str G,U.str [97],U.str [98],U.str [48],U.str []]])[S.length]?=some (.lst ([[97],[98],[99],[97,98],[98,99],G,[97],[98],[48],[]].map U.str)):=by simp
  rw[gl,aG]
  refine rM (kj _ ∅) (by simp;exact iM _ ∅) λu hu=>?_
  obtain⟨l,ml,rfl⟩:=bx.mp hu;refine#[by simp,q (.one 0 l) _ (dv _) (λl' m'=>?_) (Ext.app _)];have:l'=l:=by simpa[oy] using m'
  subst this;rw[hG] at ml
  revert ml
  simp only[bg];rintro(h|h|h|h|h|h|h|h|h|h|h)<;>simp_all
 by_cases z:d=0\/m%9<4
 .have z1:((d:Int)== 0)=true\/(((d:Int)== 0)=false/\decide (m%9<4)=true):=by
   by_cases y:d=0
   .subst y;exact .inl rfl
   .refine .inr #[by rw[beq_eq_false_iff_ne];omega,decide_eq_true ∅]
  rcases z1 with z1|⟨z1,z2⟩
  .simp only[z1,if_true];exact leaf
  .simp only[z1,z2,ah,if_false,if_true];exact leaf
 .have z1:((d:Int)== 0)=false:=by rw[beq_eq_false_iff_ne];omega
  have z2:decide (m%9<4)=false:=decide_eq_false ∅;obtain⟨d,rfl⟩:∃d',d=d'+1:=#[d-1,∅]
  have ed:(((d+1:Nat):Int)-1)=(d:Int):=∅
  simp only[z1,z2,ah,if_false];room;by_cases y:m%9<7
  .simp only[y,decide_true,if_true]
   room;refine#[∅,∅,?_];refine fO _ (λi acc S1=>Ext S S1/\∃l:List Tr,acc=l.map enc/\l.length=i/\∀t∈l,bG t<=d/\rZ t) (λi acc S1 hi #[x,l,e1,e2,_]=>#[trivial,by rw[e1,aq];simp at hi;omega]) (λi u acc S1 k hu hi hk=>?_) (λacc S1 h=>?_) #[.refl,[],rfl,rfl,by simp]
   .obtain⟨x1,l,rfl,e2,inv⟩:=hi
    obtain⟨rfl,_⟩:=mz (n:=2) hu;room;rw[ed]
    refine#[.inl ∅,ca h3 #[ns,_,d,rfl,hl,∅,λt S2 dt lt x2=>hk _ _ #[x1.trans x2,l++[t],by simp,by simp[e2],λt' m'=>?_]]];rcases aD.mp m' with m'|m'
    .exact inv t' m'
    .simp at m';subst m';exact#[dt,lt]
   .obtain⟨x1,l,rfl,e2,inv⟩:=h
    have e2:l.length=2:=e2;obtain⟨a,b,rfl⟩:∃a b,l=[a,b]:=by
     match l,e2 with
     |[a,b],_=>exact#[a,b,rfl]
    have ia:=inv a (by simp);have ib:=inv b (by simp);have g2:(S1++[SO.lst ([a,b].map enc)])[S1.length]?=some (.lst [enc a,enc b]):=by simp
    have x2:Ext S (S1++[SO.lst ([a,b].map enc)]):=x1.trans (Ext.app _);generalize S1.length=m2 at g2;generalize S1++[SO.lst ([a,b].map enc)]=S2 at g2 x2;room;refine#[by simp,?_];have gl:(S2++[SO.lst [U.str [114,111,119],U.str [111,114],U.str [114,111,119]]])[S2.length]?=some (.lst [U.str [114,111,119],U.str [111,114],U.str [114,111,119]]):=by simp
    rw[gl,aG,(Ext.app _:Ext S2 _).get g2]
    refine rM ∅ (by simp;omega) λu hu=>#[by simp,?_]
    have lv:∀l∈oy a++oy b,l∈CL:=λl hl=>(aD.mp hl).elim (ia.2 l) (ib.2 l)
    simp only[bg,bP,or_false] at hu;have dd:max (bG a) (bG b)+1<=d+1:=∅
    rcases hu with rfl|rfl|rfl
    .exact q (.row a b) _ dd lv (x2.trans (Ext.app _))
    .exact q (.or a b) _ dd lv (x2.trans (Ext.app _))
    .exact q (.row a b) _ dd lv (x2.trans (Ext.app _))
  .simp only[y,decide_false,ah,if_false]
   room;refine#[by simp,∅,∅,?_];have gl:(S++[SO.lst [U.str [115,116,97,114],U.str [112,108,117,115],U.str [109,97,121,98,101]]])[S.length]?=some (.lst [U.str [115,116,97,114],U.str [112,108,117,115],U.str [109,97,121,98,101]]):=by simp
   rw[gl,aG]
   refine rM (kj _ ∅) (by simp;exact iM _ ∅) λu hu=>?_
   rw[ed]
   refine#[.inl ∅,ca h3 #[ns,_,d,rfl,hl,∅,λt S2 dt lt x2=>#[by simp,?_]]];have xx:Ext S S2:=(Ext.app _).trans x2;have dd:bG t+1<=d+1:=∅
   simp only[bg,bP,or_false] at hu;rcases hu with rfl|rfl|rfl
   .exact q (.rep .star t) _ dd lt xx
   .exact q (.rep .plus t) _ dd lt xx
   .exact q (.rep .may t) _ dd lt xx
def Qm:Spec:=λus S Q _=>∃(ns:List Int)(k:Int),us=[.pC ns,.int 0,.int k,.int 2]/\ns.length<=1000/\0<=k/\k<=4/\∀ts n S',nP ts->(∀t∈ts,rZ t)->Ext S S'->S'[n]?=some (.lst (ts.map enc))->Q (.loc n) S'
theorem UO(Γ:bY)(h1:Γ "_law_small"=Md 3)(h2:Γ "_law_nothing"=zq 5):Keeps Γ j8 3 Qm:=by
 rintro us S Q E ⟨ns,k,rfl,hl,k0,k4,q⟩;unfold j8;room;refine#[by simp,?_];have x0:Ext S (S++[SO.lst []]):=Ext.app _;have g0:(S++[SO.lst []])[S.length]?=some (.lst []):=by simp
 room;refine#[∅,∅,?_];refine d9 (λi env S1=>∃(l:List Tr)(x5 x6:Option U),env=[some (.pC ns),some (.int 0),some (.int k),some (.int 2),some (.loc S.length),x5,x6]/\Ext S S1/\S1[S.length]?=some (.lst (l.map enc))/\l.length=i/\iW l<=5*i/\∀t∈l,bG t<4/\null t=false/\rZ t) (λ_ _ _ _=>trivial) _ ?_ ?_ #[[],none,none,rfl,x0,g0,rfl,by simp[iW],by simp]
 .rintro i u env S1 K hu ⟨l,x5,x6,rfl,x1,g1,ll,sl,inv⟩ hK
  obtain⟨rfl,hi⟩:=mz hu;room;refine#[.inl ∅,ca h1 #[ns,_,2,rfl,hl,∅,λt S2 dt lt x2=>?_]];have st:size t<=4:=aS (mF t) (bB (n:=2) ∅ dt);have g2:=x2.get g1;room;refine ca h2 #[_,rfl,.inl #[t,rfl,∅,λS3 x3=>?_]];have g3:=x3.get g2;have fin:∀(t':Tr)(x5 x6:Option U),bG t'<4->null t'=false->rZ t'->size t'<=5->x6=some (enc t')->Rest Γ (.cons (.ex (.kS .append @4 (.cons @6 .nil))) .nil) #[K,Q,λ_=>E] [some (.pC ns),some (.int 0),some (.int k),some (.int 2),some (.loc S.length),x5,x6] S3:=by
   rintro t' x5 x6 d1 d2 d3 d4 rfl;room;rw[g3,aG]
   refine#[trivial,by simp;omega,?_];room;have x13:=(x1.trans x2).trans x3;refine hK _ _ #[l++[t'],_,_,rfl,#[by rw[cY];exact x13.1,λn hn=>by rw[av ∅];exact x13.2 n hn],by rw[gs g3];simp,by simp[ll],by simp[iW] at sl ⊢;omega,λt2 m2=>?_];rcases aD.mp m2 with m2|m2
   .exact inv t2 m2
   .simp at m2;subst m2;exact#[d1,d2,d3]
  room;cases nt:null t with
  |false=>
   simp only[ah,if_false];exact fin t _ _ ∅ nt lt ∅ rfl
  |true=>
   simp only[if_true];room;refine#[∅,by simp,?_];refine rM (kj _ ∅) (by simp;exact iM _ ∅) λc hc=>#[by simp,by simp,by simp,?_]
   refine fin (.row (.one 0 [c]) t) _ _ ?_ (by simp[null]) (λl hl=>?_) (by simp only[size];omega) rfl
   .show max 0 (bG t)+1<4;omega
   .rcases aD.mp hl with h|h
    .have:l=[c]:=by simpa[oy] using h
     subst this;simp only[bg,bP,or_false] at hc;rcases hc with rfl|rfl|rfl<;>simp
    .exact lt l h
 .rintro env S1 ⟨l,x5,x6,rfl,x1,g1,ll,sl,inv⟩
  room;have ll:l.length<=4:=by rw[ll];simp;omega
  obtain⟨e1,e2,e3,e4⟩:=DT l 1;have el:(v9 1 l).length=l.length:=by have:=congrArg cM e1;simpa using this
  refine q (v9 1 l) _ S1 #[∅,e2,λt m=>?_,λt m=>?_,by rw[e3];simp only[aq,se] at sl;omega] (λt m=>?_) x1 (by rw[e1];exact g1)
  .obtain⟨t',m',h⟩:=e4 t m;rw[h.2.1];exact(inv t' m').2.1
  .obtain⟨t',m',h⟩:=e4 t m;rw[h.1];exact(inv t' m').1
  .obtain⟨t',m',h⟩:=e4 t m
   intro l hl;rw[h.2.2] at hl;exact(inv t' m').2.2 l hl
def Qn:Spec:=λus S Q _=>∃(ns:List Int)(b k:Int),us=[.pC ns,.int b,.int k]/\ns.length<=1000/\0<=k/\k<=12/\∀x S',(∀c∈x,c∈SG)->x.length<=12->Ext S S'->Q (.str x) S'
theorem UP(Γ:bY)(h1:Γ "_law_mix"=tI.xE):Keeps Γ lB 0 Qn:=by
 rintro us S Q E ⟨ns,b,k,rfl,hl,k0,k10,q⟩;unfold lB;room;refine#[∅,∅,?_];refine fO _ (λi acc S1=>S1=S/\∃x:List Nat,acc=(x.map λc=>[c]).map U.str/\x.length=i/\∀c∈x,c∈SG) (λi acc S1 hi #[x,l,e1,e2,_]=>#[trivial,by rw[e1];simp at hi ⊢;omega]) (λi u acc S1 k' hu hi hk=>?_) (λacc S1 h=>?_) #[rfl,[],rfl,rfl,by simp]
 .obtain⟨rfl,x,rfl,e2,inv⟩:=hi
  obtain⟨rfl,hi⟩:=mz hu;room;refine ca h1 #[ns,_,rfl,hl,λm m0 m1=>?_];room;refine#[∅,by simp,?_];refine rM (kj _ ∅) (by simp;exact iM _ ∅) λc hc=>hk _ _ #[rfl,x++[c],by simp,by simp[e2],λc' m'=>?_]
  rcases aD.mp m' with m'|m'
  .exact inv c' m'
  .simp at m';subst m'
   have:∀c∈[97,97,98,98,99,48,97,10,98,97,98],c∈SG:=⋯
   exact this _ hc
 .obtain⟨rfl,x,rfl,e2,inv⟩:=h
  have xl:x.length<=12:=by rw[e2];simp;omega
  refine#[x.map λc=>[c],by simp,?_,?_]
  .have:∀l:List Nat,((l.map λc=>[c]).map cM).sum=l.length:=λl=>by induction l with
    |nil=>rfl
    |cons a l ih=>simp at ih ⊢;omega
   rw[this];simp;omega
  .have e:∀l:List Nat,(l.map λc=>[c]).flatten=l:=λl=>by induction l with
    |nil=>rfl
    |cons a l ih=>rw[aF,mh,ih];rfl
   rw[rV,e]
   exact q x _ inv xl (Ext.app _)
noncomputable def Qo:Mk->Nat
 |.star=>42
 |.plus=>43
 |.may=>63
noncomputable def tx:Tr->List Nat×List Nat
 |.one _ l=>(Jx l,Jx l)
 |.rep m a=>((tx a).1++[Qo m],(tx a).1++[Qo m])
 |.row a b=>(40::((tx a).1++(tx b).1++[41]),(tx a).1++(tx b).1)
 |.or a b=>(40::((tx a).2++124::(tx b).2++[41]),40::((tx a).2++124::(tx b).2++[41]))
noncomputable def wr:Tr->List Nat
 |.or a b=>(tx a).2++124::(tx b).2
 |t=>(tx t).2
theorem cU:∀t,rZ t->(tx t).1.length+3<=13*2^bG t/\(tx t).2.length<=(tx t).1.length/\(wr t).length<=(tx t).1.length
 |.one _ l,h=>by
  have:=Ql l (h l (by simp[oy]));simp only[tx,wr,bG];omega
 |.rep m a,h=>by
  have:=cU a h;simp only[tx,wr,bG,fQ,aB,fZ];omega
 |.row a b,h=>by
  have h1:=cU a λl m=>h l (bT _ m)
  have h2:=cU b λl m=>h l (aW _ m)
  have p1:2^bG a<=2^max (bG a) (bG b):=bB ∅ ∅;have p2:2^bG b<=2^max (bG a) (bG b):=bB ∅ ∅;simp only[tx,wr,bG,fQ,aB,aQ,cZ];omega
 |.or a b,h=>by
  have h1:=cU a λl m=>h l (bT _ m)
  have h2:=cU b λl m=>h l (aW _ m)
  have p1:2^bG a<=2^max (bG a) (bG b):=bB ∅ ∅;have p2:2^bG b<=2^max (bG a) (bG b):=bB ∅ ∅;simp only[tx,wr,bG,fQ,aB,aQ,cZ];omega
theorem kF{t:Tr}(h:rZ t)(d:bG t<4):(tx t).1.length<=200/\(tx t).2.length<=200/\(wr t).length<=200:=by
 have:=cU t h;have p:2^bG t<=2^3:=bB ∅ ∅;omega
section
variable{br:Option (List Nat->PR U)}{x:List Nat}{t:U}
theorem qN(h:vf br x t):vg br x t:=#[[t],by simp,by have:=qJ.cons h .nil;rwa [bb] at this,rfl]
theorem zz(h:vg br x t):E6 br x t:=#[x,[],t,[],by simp,h,.nil,rfl]
theorem vx(h:ve br x t):vf br x t:=#[x,t,[],by simp,h,by simp,rfl]
end
theorem pj:∀t k,rZ t->bG t<=k->vf (sE k) (tx t).1 (enc t)/\vg (sE k) (tx t).2 (enc t)/\E6 (sE k) (wr t) (enc t)
 |.one _ l,k,h,d=>by
  have a:=vx (Mc (h l (by simp[oy])) (sE k));exact#[a,qN a,zz (qN a)]
 |.rep m a,k,h,d=>by
  have d:bG a+1<=k:=d;obtain⟨x,ta,ms,e,ia,hm,et⟩:=(pj a k h ∅).1;have r:vf (sE k) ((tx a).1++[Qo m]) (enc (.rep m a)):=by
   refine#[x,ta,ms++[Qo m],by rw[e,bj],ia,λc hc=>?_,?_]
   .rcases aD.mp hc with h|h
    .exact hm c h
    .simp at h;subst h;cases m<;>decide
   .unfold LL
    rw[mf]
    show enc (.rep m a)=Im (Qo m) (LL ta ms)
    rw[<-et]
    cases m<;>rfl
  exact#[r,qN r,zz (qN r)]
 |.row a b,k,h,d=>by
  have d:max (bG a) (bG b)+1<=k:=d;have key:∀k,max (bG a) (bG b)<=k->vg (sE k) ((tx a).1++(tx b).1) (enc (.row a b)):=λk hk=>by
   have h1:=(pj a k (λl m=>h l (bT _ m)) ∅).1;have h2:=(pj b k (λl m=>h l (aW _ m)) ∅).1;exact#[[enc a,enc b],by simp,by have:=qJ.cons h1 (qJ.cons h2 .nil);rwa [bb] at this,rfl]
  obtain⟨k,rfl⟩:∃k',k=k'+1:=#[k-1,∅]
  have r:=vx (DF (zz (key k ∅)));exact#[r,key _ ∅,zz (key _ ∅)]
 |.or a b,k,h,d=>by
  have d:max (bG a) (bG b)+1<=k:=d;have key:∀k,max (bG a) (bG b)<=k->E6 (sE k) ((tx a).2++124::(tx b).2) (enc (.or a b)):=λk hk=>by
   have h1:=(pj a k (λl m=>h l (bT _ m)) ∅).2.1;have h2:=(pj b k (λl m=>h l (aW _ m)) ∅).2.1;exact#[(tx a).2,124::(tx b).2,enc a,[enc b],rfl,h1,by have:=vh.cons h2 .nil;rwa [bb] at this,rfl]
  obtain⟨k,rfl⟩:∃k',k=k'+1:=#[k-1,∅]
  have r:=vx (DF (key k ∅));exact#[r,qN r,key _ ∅]
theorem Me{t:Tr}(h:rZ t)(d:bG t<4):sF (wr t)= .ok (enc t,[]):=LM (pj t 6 h ∅).2.2
def DV(D:Tr->Prop)(f:Tr->List Nat):Spec:=λus S Q _=>∃t,us=[enc t]/\D t/\rZ t/\bG t<4/\∀S',Ext S S'->Q (.str (f t)) S'
def AW:Tr->Prop
 |.row _ _=>True
 |.or _ _=>True
 |_=>False
def IX:Tr->Prop
 |.rep _ _=>False
 |_=>True
theorem Qp(Γ:bY)(k:Nat)(D:Tr->Prop)(hD:∀t,bG t<=k->AW t->D t)(h1:Γ "place_text"=Mb)(h2:Γ "written"=DV D wr):Keeps Γ k9 0 (DV (λt=>bG t<=k/\IX t) λt=>(tx t).1):=by
 rintro us S Q E ⟨t,rfl,⟨dt,nr⟩,lt,d4,q⟩;have q:∀S',Ext S S'->Q (.str (tx t).1) S':=q;unfold k9;have sm:=kF lt d4;have go:AW t->(tx t).1=40::(wr t++[41])->Rest Γ (.cons (.ret (.bin .add (.bin .add ↑[40] (.call "written" (.cons @0 .nil))) ↑[41])) .nil) #[λ_ S1=>Q .bK S1,Q,λ_=>E] [some (enc t)] S:=by
  intro ro e;room;refine ca h2 #[t,rfl,hD t dt ro,lt,d4,λS1 x1=>?_];room;refine#[by simp;omega,by simp;omega,?_];rw[<-e]
  exact q S1 x1
 cases t with
 |one n l=>
  refine lX rfl rfl ?_;unfold enc;room;simp only[iD,aP];exact#[by simp,ca h1 #[l,rfl,lt l (by simp[oy]),q]]
 |row a b=>exact fc rfl rfl (go trivial (by simp[tx,wr]))
 |or a b=>exact fc rfl rfl (go trivial (by simp[tx,wr]))
 |rep m a=>exact nr.elim
noncomputable abbrev Vt:List (List Nat×List Nat):=[([115,116,97,114],[42]),([112,108,117,115],[43]),([109,97,121,98,101],[63])]
theorem Qq(Γ:bY)(k:Nat)(hk:k<=10)(h1:Γ "atom_text"=DV (λt=>bG t<=k/\IX t) λt=>(tx t).1):Keeps Γ ji 2 (DV (λt=>bG t<=k) λt=>(tx t).1):=by
 rintro us S Q E ⟨t,rfl,dt,lt,d4,q⟩;have q:∀S',Ext S S'->Q (.str (tx t).1) S':=q;unfold ji;have sm:=kF lt d4;room;refine#[bG t+1,lJ (λn env S1=>S1=S/\∃a ms,n=bG a/\bG a<=bG t/\rZ a/\ms.length+bG a<=bG t/\(tx t).1=(tx a).1++ms/\env=[some (enc t),some (.str ms),some (enc a)]) ?_ _ (bG t) _ _ ∅ #[rfl,t,[],rfl,ax _,lt,by simp,by simp,rfl]];rintro n env S1 K ⟨rfl,a,ms,rfl,da,la,ml,e,rfl⟩ hK;have stop:∀kk x,enc a=.tup [.str kk,x]->(Vt.lookup kk).isSome=false->IX a->WT Γ (.cg (.cmp .isin (.ix @2 ↑0) (.lit (.tab Vt)))) [some (enc t),some (.str ms),some (enc a)] S1
   (λt1 S2=>if t1=true then Rest Γ (.cons (.set 1 (.bin .add (.ix (.lit (.tab Vt)) (.ix @2 ↑0)) @1)) (.cons (.set 2 (.ix @2 ↑1)) .nil)) #[K,Q,λ_=>E] [some (enc t),some (.str ms),some (enc a)] S2 else Rest Γ (.cons (.ret (.bin .add (.call "atom_text" (.cons @2 .nil)) @1)) .nil) #[λ_ S1=>Q .bK S1,Q,λ_=>E] [some (enc t),some (.str ms),some (enc a)] S2) E:=by
  intro kk x ek el nr;have fin:Rest Γ (.cons (.ret (.bin .add (.call "atom_text" (.cons @2 .nil)) @1)) .nil) #[λ_ S1=>Q .bK S1,Q,λ_=>E] [some (enc t),some (.str ms),some (enc a)] S1:=by
   room;refine ca h1 #[a,rfl,#[∅,nr],la,∅,λS2 x2=>?_];room;rw[<-e]
   refine#[?_,q S2 x2];rw[e,aB] at sm;omega
  rw[ek] at fin ⊢;room;rw[jB,aP,Al,el]
  exact#[by simp,fin]
 cases a with
 |one n l=>exact stop _ _ rfl rfl trivial
 |row a b=>exact stop _ _ rfl rfl trivial
 |or a b=>exact stop _ _ rfl rfl trivial
 |rep m a=>
  have dr:bG (.rep m a)=bG a+1:=rfl;have ek:enc (.rep m a)= .tup [.str (nj m),enc a]:=rfl;rw[ek]
  have el:Vt.lookup (nj m)=some [Qo m]:=by cases m<;>rfl
  room;rw[jB,aP,Al,el]
  refine#[by simp,?_];simp only[Option.isSome_some,if_true];room;simp only[jB,aP,yI,el];room;refine#[by simp,by simp;omega,?_];room;simp only[iD,aP];refine#[by simp,?_];try room
  exact hK (bG a) _ _ ∅ #[rfl,a,Qo m::ms,rfl,∅,la,by simp;omega,by rw[e];simp[tx],rfl]
def Mf:Tr->Prop
 |.row _ _=>True
 |_=>False
theorem two_get{a b:Tr}{f:Tr->List Nat}{i:Nat}{u v:U}(hu:[enc a,enc b][i]?=some u)(hv:[U.str (f a),U.str (f b)][i]?=some v):∃t,(t=a\/t=b)/\u=enc t/\v=.str (f t):=by
 obtain⟨t,m,h1,h2⟩:=zr (K:=[a,b]) (f:=λt=>.str (f t)) hu hv;exact#[t,by simpa using m,h1,h2]
theorem Qr(Γ:bY)(k:Nat)(h1:Γ "repeat_text"=DV (λt=>bG t<=k) λt=>(tx t).1):Keeps Γ mV 0 (DV (λt=>bG t<=k\/(Mf t/\bG t<=k+1)) λt=>(tx t).2):=by
 rintro us S Q E ⟨t,rfl,dt,lt,d4,q⟩;have q:∀S',Ext S S'->Q (.str (tx t).2) S':=q;unfold mV;have go:¬Mf t->(tx t).2=(tx t).1->Rest Γ (.cons (.ret (.call "repeat_text" (.cons @0 .nil))) .nil) #[λ_ S1=>Q .bK S1,Q,λ_=>E] [some (enc t)] S:=by
  intro nr e;room;rw[e] at q;exact ca h1 #[t,rfl,dt.resolve_right λz=>nr z.1,lt,d4,q]
 cases t with
 |one n l=>exact fc rfl rfl (go (λz=>z) rfl)
 |rep m a=>exact fc rfl (beq_eq_false_iff_ne.mpr (nE m).2.1) (go (λz=>z) rfl)
 |or a b=>exact fc rfl rfl (go (λz=>z) rfl)
 |row a b=>
  have dt:max (bG a) (bG b)+1<=k+1:=by rcases dt with z|z;exact Jm z;exact z.2
  have d4:max (bG a) (bG b)+1<4:=d4;have lo:∀t,t=a\/t=b->rZ t/\bG t<=k/\bG t<4:=by
   rintro t (rfl|rfl)
   .exact#[λl m=>lt l (bT _ m),∅,∅]
   .exact#[λl m=>lt l (aW _ m),∅,∅]
  have sa:=(kF (lo a (.inl rfl)).1 (lo a (.inl rfl)).2.2).1;have sb:=(kF (lo b (.inr rfl)).1 (lo b (.inr rfl)).2.2).1;refine lX rfl rfl ?_;unfold enc;room;simp only[iD,aP];refine#[by simp,by simp,?_];refine nk (S:=S) _ [.str (tx a).1,.str (tx b).1] (by simp) (by simp) (λ_ _=>trivial) (λu S' k h=>h) (λi u v hu hv S' k x hk=>?_) λS1 x1=>?_
  .obtain⟨t,m,rfl,rfl⟩:=two_get (f:=λt=>(tx t).1) hu hv
   obtain⟨l1,l2,l3⟩:=lo t m;exact ca h1 #[t,rfl,l2,l1,l3,hk]
  .refine#[[(tx a).1,(tx b).1],by simp,by simp;omega,?_]
   have e:k7 [] [(tx a).1,(tx b).1]=(tx (.row a b)).2:=by simp[k7,tx]
   rw[e]
   exact q _ (x1.trans (Ext.app _))
theorem Qs(Γ:bY)(k:Nat)(h1:Γ "row_text"=DV (λt=>bG t<=k\/(Mf t/\bG t<=k+1)) λt=>(tx t).2):Keeps Γ oV 0 (DV (λt=>bG t<=k\/(AW t/\bG t<=k+1)) wr):=by
 rintro us S Q E ⟨t,rfl,dt,lt,d4,q⟩;unfold oV;have go:(AW t->Mf t)->wr t=(tx t).2->Rest Γ (.cons (.ret (.call "row_text" (.cons @0 .nil))) .nil) #[λ_ S1=>Q .bK S1,Q,λ_=>E] [some (enc t)] S:=by
  intro nr e;room;rw[e] at q;exact ca h1 #[t,rfl,dt.imp_right λz=>#[nr z.1,z.2],lt,d4,q]
 cases t with
 |one n l=>exact fc rfl rfl (go (λz=>z) rfl)
 |rep m a=>exact fc rfl (beq_eq_false_iff_ne.mpr (nE m).2.2) (go (λz=>z) rfl)
 |row a b=>exact fc rfl rfl (go (λz=>z) rfl)
 |or a b=>
  have dt:max (bG a) (bG b)+1<=k+1:=by rcases dt with z|z;exact Jm z;exact z.2
  have d4:max (bG a) (bG b)+1<4:=d4;have lo:∀t,t=a\/t=b->rZ t/\bG t<=k/\bG t<4:=by
   rintro t (rfl|rfl)
   .exact#[λl m=>lt l (bT _ m),∅,∅]
   .exact#[λl m=>lt l (aW _ m),∅,∅]
  have sa:=(kF (lo a (.inl rfl)).1 (lo a (.inl rfl)).2.2).2.1;have sb:=(kF (lo b (.inr rfl)).1 (lo b (.inr rfl)).2.2).2.1;refine lX rfl rfl ?_;unfold enc;room;simp only[iD,aP];refine#[by simp,by simp,?_];refine nk (S:=S) _ [.str (tx a).2,.str (tx b).2] (by simp) (by simp) (λ_ _=>trivial) (λu S' k h=>h) (λi u v hu hv S' k x hk=>?_) λS1 x1=>?_
  .obtain⟨t,m,rfl,rfl⟩:=two_get (f:=λt=>(tx t).2) hu hv
   obtain⟨l1,l2,l3⟩:=lo t m;exact ca h1 #[t,rfl,.inl l2,l1,l3,hk]
  .refine#[[(tx a).2,(tx b).2],by simp,by simp;omega,?_]
   have e:k7 [124] [(tx a).2,(tx b).2]=wr (.or a b):=by simp[k7,wr]
   rw[e]
   exact q _ (x1.trans (Ext.app _))
theorem Cy{α:Type}{x y z:α}{xs:List α}:tG (x::y::z::xs) 2=some z:=by
 have:=ij (xs:=x::y::z::xs) (k:=2);simpa using this
theorem Mg{x:List Nat}{c s:Nat}(h:c<=x.length):lT x (some (c:Nat)) (some ((c+s:Nat):Int))=(x.drop c).take s:=by
 by_cases z:c+s<=x.length
 .exact DQ z
 .unfold lT
  simp only[cC,i7];rw[jG ∅,fY h,bN (by simp),bN (by simp;omega)]
theorem Cz{ts:List Tr}{e b:Bool}{a a':Nat}{y y':List Nat}{l:List U}(h:zx ts e a y b a' y' l):qv l l=true:=by
 induction h with
 |jH _=>rfl
 |bad _ _=>rfl
 |go _ _ _ ih=>
  unfold qv;rw[ih]
  simp[oN,qv]
section
variable{S:bI}{a b:U}{i:Int}{o:Option (List U)}{Q:Bool->Prop}
theorem DW(h1:Jp S a o)(h2:Jp S b o)(e:Vb o o=true)(q:Q false):Og (.tup [a,.int i]) (.tup [b,.int i]) Q\/Ky [a,.int i] (.tup [b,.int i]) S λb=>Q !b:=
 .inr #[a,i,b,i,o,o,rfl,rfl,h1,h2,by rw[e,beq_self_eq_true];exact q]
theorem IY(h1:Jp S a o)(h2:Jp S b o)(e:Vb o o=true)(q:Q true):tF (.tup [a,.int i]) (.tup [b,.int i]) Q\/Ky [a,.int i] (.tup [b,.int i]) S Q:=
 .inr #[a,i,b,i,o,o,rfl,rfl,h1,h2,by rw[e,beq_self_eq_true];exact q]
end
def CB(ts:List Tr)(y:List Nat):Prop:=FG ts false y/\sH ts y y.length none
theorem CB.app{ts:List Tr}{y v:List Nat}(hT:nP ts)(h:CB ts y):CB ts (y++v):=by
 obtain⟨⟨h1,h2⟩,h3⟩:=h;have h2:=h2.resolve_left (by simp);exact#[#[λz=>h1 (List.append_eq_nil_iff.mp z).1,.inr λz=>h2 (tQ hT z)],IS hT h3 h2]
theorem CB.Xp{ts:List Tr}{y:List Nat}{a:Nat}{e:Bool}(h:CB ts y):zx ts e a y true a y []:=.bad #[h.1.1,by cases e<;>first|exact h.1.2|exact .inl rfl] h.2
def UQ:Spec:=λus _ Q _=>∃ns:List Int,us=[.pC ns]/\ns.length<=63/\∀S',Q (.bl true) S'
theorem Mh(Γ:bY)(h1:Γ "_law_mix"=tI.xE)(h2:Γ "_law_trees"=Qm)(h3:Γ "_law_text"=Qn)(h4:Γ "written"=DV (λt=>bG t<=3\/(AW t/\bG t<=3+1)) wr)(h5:Γ "Lexer.__init__"=Ug)(h6:Γ "Cutter.__init__"=Qb)(h7:Γ "_law_sure"=Qf)(h8:Γ "_law_asked"=Uy):Keeps Γ qT.Dj 11 UQ:=by
  rintro us S Q E ⟨ns,rfl,hl,q⟩;unfold qT.Dj;room;refine ca h1 #[ns,50,rfl,∅,λm m0 m1=>#[∅,?_]];refine ca h2 #[ns,_,rfl,∅,∅,∅,λts nt S1 hT hV x1 g1=>?_];room;refine ca h1 #[ns,61,rfl,∅,λm2 m3 m4=>#[∅,?_]];refine ca h3 #[ns,51,_,rfl,∅,∅,∅,λx S2 hx xl x2=>?_];have g2:=x2.get g1;have tl:=hT.len;room;rw[g2,aG]
  refine fO (ts.map enc) (λi acc S3=>Ext S2 S3/\∃xs:List (List Nat),acc=xs.map .str/\xs.length=i/\∀(j:Nat)t y,ts[j]?=some t->xs[j]?=some y->y.length<=1000/\∃r,sF y=.ok (enc t,r)) (λi acc S3 hi #[x,xs,e1,e2,_]=>#[x.get g2,by rw[e1,aq];simp at hi;omega]) (λi u acc S3 k hu hi hk=>?_) (λacc S3 h=>?_) #[.refl,[],rfl,rfl,λj t y _ e=>by simp at e]
  · obtain⟨x3,xs,rfl,e2,inv⟩:=hi
    rw[ar] at hu;obtain⟨t,et,rfl⟩:=ag.mp hu;have mt:=aw et;room;have d4:=hT.dp t mt;refine ca h4 #[t,rfl,.inl ∅,hV t mt,d4,λS4 x4=>hk _ _ #[x3.trans x4,xs++[wr t],by simp,by simp[e2],λj t' y e3 e4=>?_]];by_cases z':j=i
    · subst z'
      rw[ay ∅,e2,cq] at e4;cases e4;rw[et] at e3;cases e3;exact#[by have:=(kF (hV t mt) d4).2.2;omega,[],Me (hV t mt) d4]
    · have jl:j<i:=by
        have:=(ae.mp e4).1;simp at this;omega
      rw[ao ∅] at e4;exact inv j t' y e3 e4
  obtain⟨x3,xs,rfl,e2,inv⟩:=h;rw[aq] at e2;have x4:Ext S2 (S3++[SO.lst (xs.map U.str)]):=x3.trans (Ext.app _);have g4:(S3++[SO.lst (xs.map U.str)])[S3.length]?=some (.lst (xs.map U.str)):=by simp
  generalize S3.length=n4 at g4;generalize S3++[SO.lst (xs.map U.str)]=S4 at g4 x4;have gX:(S4++[SO.ins "Lexer" []])[S4.length]?=some (.ins "Lexer" []):=by simp
  refine ca h5 #[S4.length,n4,xs,ts,rfl,gX,(Ext.app _).get g4,#[∅,inv],hT,λS5 lx o5=>#[rfl,?_]];have L5:nQ S4 S5:=(nQ.ext (Ext.app _)).trans (.old o5 gX ⋯);generalize S4.length=X at lx;refine ca h6 #[S5.length,X,ts,rfl,by simp,lx.ext (Ext.app _),λP u S6 pa ct L6=>#[rfl,?_]];have L26:nQ S2 S6:=((nQ.ext x4).trans L5).trans ((nQ.ext (Ext.app _)).trans L6);generalize S5.length=C at ct;have g6:=L26.get g2
  clear L26 L6 L5 lx o5 gX x4 g4 x3 e2 inv g2 x2 g1 x1
  room;refine ca h1 #[ns,60,rfl,∅,λm5 m6 m7=>?_];room;refine#[∅,∅,∅,?_];refine d9 (λi env S7=>∃(p c:Nat)(wr:Bool)(y7 y8 y9 y10 y11:Option U),env=[some (.pC ns),some (.loc nt),some (.str x),some (.loc C),some (a9 p),some (a9 c),some (.bl wr),y7,y8,y9,y10,y11]/\p<=c/\c<=x.length/\sJ S7 C P ts u p ((x.take c).drop p)/\nQ S6 S7/\(wr=true->CB ts ((x.take c).drop p))) (λ_ _ _ _=>trivial) _ ?_ ?_ #[0,0,false,none,none,none,none,none,rfl,∅,∅,by simpa using ct,.ext .refl,λz=>by simp at z]
  · rintro i uu env S7 K hu ⟨p,c,wr,y7,y8,y9,y10,y11,rfl,hpc,hcx,ct7,L7,dd⟩ hK
    obtain⟨rfl,hi⟩:=mz hu;room;refine ca h1 #[ns,_,rfl,∅,λs s0 s1=>?_];room;refine#[∅,?_];obtain⟨sz,hsz⟩:∃sz:Nat,s%5=(sz:Int):=#[(s%5).toNat,∅]
    rw[hsz]
    room;rw[show((c:Int)+(sz:Int))=((c+sz:Nat):Int) by omega]
    simp only[EF,Mg hcx];refine#[#[λi e=>by injection e with e;omega,λi e=>by injection e with e;omega],∅,?_];have zl:c+((x.drop c).take sz).length<=x.length:=by simp;omega
    have zt:x.take (c+((x.drop c).take sz).length)=x.take c++(x.drop c).take sz:=by
      rw[List.take_add,gT,jE]
      congr 1
      by_cases h:sz<=x.length-c
      · rw[fY h]
      · rw[jG ∅,bN (by simp),bN (by simp;omega)]
    generalize (x.drop c).take sz=z at zl zt;room;refine#[∅,?_];rw[show((c:Int)+(z.length:Int))=((c+z.length:Nat):Int) by omega]
    room;simp only[EF,vw zl];refine#[#[λi e=>(by cases e),λi e=>by injection e with e;omega],∅,?_];have ey:(x.take (c+z.length)).drop p=(x.take c).drop p++z:=by
      rw[zt,List.drop_append_of_le_length (by simp;omega)]
    refine ca h7 #[nt,_,p,false,ts,rfl,L7.get g6,hT,by simp;omega,by simp;omega,λb a' y' l m8 S8 su x8 g8=>?_];obtain⟨s1,s2,⟨d,s3,rfl,rfl,s4⟩,s5,s6,s7⟩:=DP su;rw[wC] at su s1 s2;rw[ey] at su;have L8:=L7.trans (.ext x8);have dl:p+d<=c+z.length:=by simp at s3;omega
    room;have fin:∀(S9:bI)(f11:U),sJ S9 C P ts u (p+d) ((x.take (c+z.length)).drop (p+d))->nQ S8 S9->Rest Γ (.cons (.set 6 (.or @6 (.ix @10 ↑2))) (.cons (.set 4 (.ix @10 ↑1)) .nil)) #[K,Q,λ_=>E] [some (.pC ns),some (.loc nt),some (.str x),some (.loc C),some (a9 p),some (a9 (c+z.length)),some (.bl wr),some (.int (i:Nat)),some (.int sz),some (.str z),some (.tup [.loc m8,a9 (p+d),.bl b]),some f11] S9:=by
      intro S9 f11 ct9 L9;have:b=true->CB ts ((x.take (c+z.length)).drop (p+d)):=s1;have hK:=λ(w':Bool)(hw:w'=true->b=true)=>hK [some (.pC ns),some (.loc nt),some (.str x),some (.loc C),some (a9 (p+d)),some (a9 (c+z.length)),some (.bl w'),some (.int (i:Nat)),some (.int sz),some (.str z),some (.tup [.loc m8,a9 (p+d),.bl b]),some f11] S9 #[p+d,c+z.length,w',_,_,_,_,_,rfl,dl,zl,ct9,L8.trans L9,λz=>this (hw z)]
      room;cases wr with
      |true=>
        simp only[if_true];room;simp only[iD,aP];exact#[by simp,hK true λ_=>(jv su ((dd rfl).app hT).Xp).1]
      |false=>
        simp only[ah,if_false,Cy,aP];refine#[by simp,?_];room;simp only[iD,aP];exact#[by simp,hK b λz=>z]
    refine ca h8 #[C,P,_,false,ts,u,p,(x.take c).drop p,_,rfl,.inr #[z,rfl,rfl,rfl],ct7.ext x8,pa.lst L8,hT,λc' hc'=>hx c' ?_,?_,λb1 a1 x1 l1 n1 S9 su1 alt ct9 L9 g9=>?_,λS9 su1 ct9 L9=>?_]
    · rw[<-ey] at hc';exact CT (jQ hc')
    · rw[<-ey];simp;omega
    · obtain⟨rfl,rfl,rfl,rfl⟩:=jv su su1
      have fin:=fin S9 (.tup [.loc n1,.int (-1)]) ct9 L9;have g8':=L9.get g8;cases wr with
      |true=>obtain⟨rfl,_,_,rfl⟩:=jv su ((dd rfl).app hT).Xp;exact absurd alt (by simp)
      |false=>
        room;simp only[Cy,jB,aP];refine#[by simp,?_];room;cases b with
        |false=>
          simp only[ah,if_false];room;simp only[jB,aP];exact#[by simp,by simp,DW (o:=some l) (.inr #[n1,l,rfl,g9,#[s6,∅],rfl]) (.inr #[m8,l,rfl,g8',#[s6,∅],rfl]) (Cz su) fin]
        |true=>
          have ne:(l.length !=0)=true:=by
            cases l with
            |nil=>simp at alt
            |cons=>rfl
          simp only[if_true];rw[Am g8',ne]
          simp only[aP,bO,ah,if_false];refine#[by simp,?_];room;simp only[jB,aP];exact#[by simp,by simp,DW (o:=some l) (.inr #[n1,l,rfl,g9,#[s6,∅],rfl]) (.inr #[m8,l,rfl,g8',#[s6,∅],rfl]) (Cz su) fin]
    · obtain⟨rfl,e1,e2,rfl⟩:=jv su su1
      have d0:d=0:=∅
      subst d0;have fin:=fin S9 (.tup [.bK,a9 p]) (by rw[Bp,ey];exact ct9) L9;have g8':=L9.get g8;have go:Rest Γ (.cons (.ifs (.cg (.cmp .ne @11 (.tup (.cons (.lit .bK) (.cons (.ix @10 ↑1) .nil))))) (.cons (.ret (.lit (.bl false))) .nil) .nil) .nil) #[λen S1=>Rest Γ (.cons (.set 6 (.or @6 (.ix @10 ↑2))) (.cons (.set 4 (.ix @10 ↑1)) .nil)) #[K,Q,λ_=>E] en S1,Q,λ_=>E] [some (.pC ns),some (.loc nt),some (.str x),some (.loc C),some (a9 p),some (a9 (c+z.length)),some (.bl wr),some (.int (i:Nat)),some (.int sz),some (.str z),some (.tup [.loc m8,a9 (p+0),.bl true]),some (.tup [.bK,a9 p])] S9:=by
        room;simp only[iD,aP];exact#[by simp,by simp,DW (o:=none) (.inl #[rfl,rfl]) (.inl #[rfl,rfl]) rfl fin]
      room;cases wr with
      |true=>exact go
      |false=>
        simp only[ah,if_false,Cy,jB,aP];refine#[by simp,?_];room;rw[Am g8']
        simp only[aP,cZ,bne_self_eq_false,bV,if_true];exact#[by simp,go]
  · rintro env S7 ⟨p,c,wr,y7,y8,y9,y10,y11,rfl,hpc,hcx,ct7,L7,dd⟩
    room;simp only[EF,vw hcx];refine#[#[λi e=>(by cases e),λi e=>by injection e with e;omega],∅,?_];refine ca h7 #[nt,_,p,true,ts,rfl,L7.get g6,hT,by simp;omega,by simp;omega,λb a' y' l m8 S8 su x8 g8=>?_];obtain⟨s1,s2,⟨d,s3,s3',rfl,s4⟩,s5,s6,s7⟩:=DP su;have L8:=L7.trans (.ext x8);have sg:∀c'∈(x.take c).drop p,c'∈SG:=λc' h=>hx c' (CT (jQ h))
    have sl:((x.take c).drop p).length<=1000:=by simp;omega
    room;refine ca h8 #[C,P,_,true,ts,u,p,_,_,rfl,.inl #[rfl,rfl,rfl],ct7.ext x8,pa.lst L8,hT,sg,sl,λb1 a1 x1 l1 n1 S9 su1 alt ct9 L9 g9=>?_,λS9 su1 ct9 L9=>?_]
    · obtain⟨rfl,rfl,rfl,rfl⟩:=jv su su1
      have g8':=L9.get g8;have go:Rest Γ (.cons (.ifs (.or (.cg (.cmp .ne @11 (.tup (.cons (.ix @10 ↑0) (.cons (.neg ↑1) .nil))))) (.not (.cg (.MA (.ix @11 ↑0) [.list])))) (.cons (.ret (.lit (.bl false))) .nil) .nil)
   (.cons (.ret (.cmp .eq (.call "_law_asked" (.cons @3 (.cons (.lit .bK) .nil))) (.wX (.cg (.ix @10 ↑2)) (.tup (.cons (.lit .bK) (.cons (.ix @10 ↑1) .nil))) (.tup (.cons (.lst .nil) (.cons (.neg ↑1) .nil)))))) .nil)) #[λ_ S1=>Q .bK S1,Q,λ_=>E] [some (.pC ns),some (.loc nt),some (.str x),some (.loc C),some (a9 p),some (a9 c),some (.bl wr),y7,y8,y9,some (.tup [.loc m8,a9 a',.bl b]),some (.tup [.loc n1,.int (-1)])] S9:=by
        room;simp only[jB,aP];refine#[by simp,by simp,DW (o:=some l) (.inr #[n1,l,rfl,g9,#[s6,∅],rfl]) (.inr #[m8,l,rfl,g8',#[s6,∅],rfl]) (Cz su) ?_];have e0:Kz S9 (.loc n1) .list=some true:=(congrArg (G6 · Ty.list) g9).trans rfl;have e1:wY S9 (.loc n1) [.list]=some true:=by simp[wY,e0]
        simp only[ah,if_false,e1,aP,bO];refine#[by simp,?_];room;refine ca h8 #[C,P,_,true,ts,u,a',_,_,rfl,.inl #[rfl,rfl,rfl],ct9,pa.lst (L8.trans L9),hT,λc' h=>sg c' (jQ h),by rw[jE];omega,λb2 a2 x2 l2 n2 S10 su2 alt2 ct10 L10 g10=>?_,λS10 su2 ct10 L10=>?_]
        · cases b with
          |true=>
            obtain⟨rfl,_,_,rfl⟩:=jv su2 (.bad (s1 rfl).1 (s1 rfl).2);exact absurd alt2 (by simp)
          |false=>
            obtain⟨rfl,_,_,rfl⟩:=jv su2 (.jH (s2 rfl));room;simp only[Cy,aP];refine#[by simp,?_];room;refine#[by simp,by simp,?_];refine IY (o:=some []) (.inr #[n2,[],rfl,(Ext.app _).get g10,#[rfl,by simp[jJ]],rfl]) (.inr #[_,[],rfl,by simp,#[rfl,by simp[jJ]],rfl]) rfl (q _)
        · cases b with
          |false=>have:=(jv su2 (.jH (s2 rfl))).1;simp at this
          |true=>
            room;simp only[Cy,aP];refine#[by simp,?_];room;simp only[iD,aP];exact#[by simp,by simp,IY (o:=none) (.inl #[rfl,rfl]) (.inl #[rfl,rfl]) rfl (q _)]
      room;cases wr with
      |true=>obtain⟨rfl,_,_,rfl⟩:=jv su (dd rfl).Xp;exact absurd alt (by simp)
      |false=>
        simp only[ah,if_false,Cy,jB,aP];refine#[by simp,?_];room;cases b with
        |false=>exact go
        |true=>
          have ne:(l.length !=0)=true:=by
            cases l with
            |nil=>simp at alt
            |cons=>rfl
          simp only[if_true];rw[Am g8',ne]
          simp only[aP,bO,ah,if_false];exact#[by simp,go]
    · obtain⟨rfl,rfl,e2,rfl⟩:=jv su su1
      have g8':=L9.get g8;have go:Rest Γ (.cons (.ret (.cmp .eq @11 (.tup (.cons (.lit .bK) (.cons (.ix @10 ↑1) .nil))))) .nil) #[λen S1=>Rest Γ (.cons (.ifs (.or (.cg (.cmp .ne @11 (.tup (.cons (.ix @10 ↑0) (.cons (.neg ↑1) .nil))))) (.not (.cg (.MA (.ix @11 ↑0) [.list])))) (.cons (.ret (.lit (.bl false))) .nil) .nil)
   (.cons (.ret (.cmp .eq (.call "_law_asked" (.cons @3 (.cons (.lit .bK) .nil))) (.wX (.cg (.ix @10 ↑2)) (.tup (.cons (.lit .bK) (.cons (.ix @10 ↑1) .nil))) (.tup (.cons (.lst .nil) (.cons (.neg ↑1) .nil)))))) .nil)) #[λ_ S1=>Q .bK S1,Q,λ_=>E] en S1,Q,λ_=>E] [some (.pC ns),some (.loc nt),some (.str x),some (.loc C),some (a9 a'),some (a9 c),some (.bl wr),y7,y8,y9,some (.tup [.loc m8,a9 a',.bl true]),some (.tup [.bK,a9 a'])] S9:=by
        room;simp only[iD,aP];exact#[by simp,by simp,IY (o:=none) (.inl #[rfl,rfl]) (.inl #[rfl,rfl]) rfl (q _)]
      room;cases wr with
      |true=>exact go
      |false=>
        simp only[ah,if_false,Cy,jB,aP];refine#[by simp,?_];room;rw[Am g8']
        simp only[aP,cZ,bne_self_eq_false,bV,if_true];exact#[by simp,go]
end PL.jL
end
namespace L2
open PySem PySem.Spec PyProof.Rows PySem.W
open PL (U SO bI Xn KU KX bY)
def wb:PL.Spec:=λ_ _ _ _=>False
def Fi(Γ:bY)(x:String)(sp:PL.Spec):bY:=λy=>if y=x then sp else Γ y
def Role(c:Ctx)(T:Tab)(x:String)(f:Addr):Prop:=
 (x∈T.fns/\c.mg (nm x)=some (.ref f))\/(∃p∈T.pY,x=p.2++"."++p.1/\∃C,c.cls p.2=some C/\Meth c.K C (nm p.1) f)\/(∃y∈T.pX,x=y++".__init__"/\∃C,c.cls y=some C/\Mk c.K C f)
theorem FnAt.mono(F:FnAt c j f sp)(h:j<=k):FnAt c k f sp:=by
 obtain⟨fd,ps,F,B⟩:=F;exact#[fd,ps,F.mono h,B]
theorem aY:Fi Γ x sp x=sp:=if_pos rfl
theorem tU(h:y≠x):Fi Γ x sp y=Γ y:=if_neg h
theorem fX.add(G:fX c T Γ k)(h:k<=k')(F:∀f,Role c T x f->FnAt c k' f sp):fX c T (Fi Γ x sp) k':=by
 refine#[λy hy=>?_,λp hp=>?_,λy hy=>?_]
 .obtain⟨f,hm,kp,A⟩:=G.fns y hy
  refine#[f,hm,kp,?_];by_cases e:y=x
  .subst e;rw[aY];exact F f (.inl #[hy,hm])
  .rw[tU e];exact A.mono h
 .obtain⟨C,f,hc,hm,A⟩:=G.QM p hp
  refine#[C,f,hc,hm,?_];by_cases e:p.2++"."++p.1=x
  .rw[e,aY];exact F f (.inr (.inl #[p,hp,e.symm,C,hc,hm]))
  .rw[tU e];exact A.mono h
 .obtain⟨C,f,hc,hg,hm,A⟩:=G.cls y hy
  refine#[C,f,hc,hg,hm,?_];by_cases e:y++".__init__"=x
  .rw[e,aY];exact F f (.inr (.inr #[y,hy,e.symm,C,hc,hm]))
  .rw[tU e];exact A.mono h
theorem Mi(hm:c.mg (nm x)=some (.ref f0))(h2:(T.pY.all λp=>p.2++"."++p.1 !=x)=true)(h3:(T.pX.all λy=>y++".__init__" !=x)=true)(R:Role c T x f):f=f0:=by
 rcases R with⟨_,e⟩|⟨p,hp,e,_⟩|⟨y,hy,e,_⟩
 .rw[hm] at e;cases e;rfl
 .have:=bR.mp h2 p hp
  rw[e] at this;simp at this
 .have:=bR.mp h3 y hy
  rw[e] at this;simp at this
theorem Mj(hc:c.cls cl=some C)(hm:Meth c.K C (nm m) f0)(h1:T.fns.contains (cl++"."++m)=false)(h2:(T.pY.all λp=>p.2++"."++p.1 !=cl++"."++m||(p.1==m&&p.2==cl))=true)(h3:(T.pX.all λy=>y++".__init__" !=cl++"."++m)=true)(R:Role c T (cl++"."++m) f):f=f0:=by
 rcases R with⟨h,_⟩|⟨p,hp,e,C',hc',hm'⟩|⟨y,hy,e,_⟩
 .exact absurd (f9.mpr h) (by rw[h1];simp)
 .have:=bR.mp h2 p hp
  rw[e] at this;simp at this;obtain⟨e1,e2⟩:=this;rw[e2,hc] at hc';cases hc';rw[e1] at hm';have:=hm.at_.symm.trans hm'.at_;cases this;rfl
 .have:=bR.mp h3 y hy
  rw[e] at this;simp at this
theorem Ml(hc:c.cls cl=some C)(hm:Mk c.K C f0)(h1:T.fns.contains (cl++".__init__")=false)(h2:(T.pY.all λp=>p.2++"."++p.1 !=cl++".__init__")=true)(h3:(T.pX.all λy=>y++".__init__" !=cl++".__init__"||y==cl)=true)(R:Role c T (cl++".__init__") f):f=f0:=by
 rcases R with⟨h,_⟩|⟨p,hp,e,C',hc',hm'⟩|⟨y,hy,e,C',hc',hm'⟩
 .exact absurd (f9.mpr h) (by rw[h1];simp)
 .have:=bR.mp h2 p hp
  rw[e] at this;simp at this
 .have:=bR.mp h3 y hy
  rw[e] at this;simp at this;rw[this,hc] at hc';cases hc';have:=hm.init.symm.trans hm'.init;cases this;rfl
theorem UR(B:Binds c.K fd ps []):FnAt c k f wb:=
 #[fd,ps,#[λvs H Q E h=>by obtain⟨us,ρ,S0,QU,EU,r,R,w,q,qx⟩:=h;exact w.elim,λA outer s H args us vs Q E hr he hb hv hs=>by obtain⟨us,ρ,S0,QU,EU,r,R,w,q,qx⟩:=hs;exact w.elim],B]
structure Df(c:Ctx)(T:Tab)(st:Stmt)(f:Addr)(N ps:List Str)(b:PL.dh)(m:Nat):Prop where
 fn:∃x qual fd,BK c.K x qual st f fd/\Binds c.K fd ps []
 sc:fV N ps (bc st)
 tx:∃n,Jr T n #[(bc st).names,N,true] (dM st)=some b
 hm:N.length=ps.length+m
theorem Df.ok{c:Ctx}{T:Tab}{Γ:bY}{st:Stmt}{f:Addr}{N ps:List Str}{b:PL.dh}{m k kx:Nat}{sp:PL.Spec}(D:Df c T st f N ps b m)(B:Base c T kx)(hkx:kx<=k)(G:fX c T Γ k)(hk:PL.Keeps Γ b m sp)(hl:∀us S Q E,sp us S Q E->us.length=ps.length):FnAt c (k+2) f sp:=by
 obtain⟨x,qual,fd,F,Bi⟩:=D.fn;obtain⟨n,hc⟩:=D.tx;exact#[fd,ps,MP F D.sc B hkx G hc hk D.hm hl,Bi]
theorem Df.up{c:Ctx}{T:Tab}{Γ:bY}{st:Stmt}{f:Addr}{N ps:List Str}{b:PL.dh}{m k kx:Nat}{x:String}{sp:PL.Spec}(D:Df c T st f N ps b m)(R:∀g,Role c T x g->g=f)(B:Base c T kx)(hkx:kx<=k)(G:fX c T Γ k)(hk:PL.Keeps Γ b m sp)(hl:∀us S Q E,sp us S Q E->us.length=ps.length):fX c T (Fi Γ x sp) (k+2):=
 G.add ∅ λg r=>by rw[R g r];exact D.ok B hkx G hk hl
def eh(Γ Γ':bY)(l:List String):Prop:=∀x,x∉l->Γ' x=Γ x
theorem eh.refl(Γ:bY)(l:List String):eh Γ Γ l:=λ_ _=>rfl
theorem eh.up(h:eh Γ Γ' l)(m:x∈l):eh Γ (Fi Γ' x sp) l:=λy hy=>(tU (λe=>hy (by rw[e];exact m))).trans (h y hy)
theorem fX.none(h1:∀x∈T.fns,∃f,c.mg (nm x)=some (.ref f)/\lR c.K (.ref f)=true/\FnAt c k f wb)(h2:∀p∈T.pY,∃C f,c.cls p.2=some C/\Meth c.K C (nm p.1) f/\FnAt c k f wb)
  (h3:∀x∈T.pX,∃C f,c.cls x=some C/\c.mg (nm x)=some (.ref C)/\Mk c.K C f/\FnAt c k f wb):fX c T (λ_=>wb) k:=#[h1,h2,h3]
open PL (U SO bI Xn KU KX bY)
noncomputable def RN:List String:=["in_order","all_but","is_ahead","stretch","read","joined","Reader.__init__","Reader.sees","Reader.passes","Reader.choice","Reader.row","Reader.repeat","Reader.atom","Reader.bracket","Reader.sign_class","Reader.item","Reader.written_sign"]
structure fH(c:Ctx)(T:Tab)(x:String)(n m:Nat)(b:PL.dh):Prop where
 ex:∃st f N ps,Df c T st f N ps b m/\ps.length=n/\∀g,Role c T x g->g=f
structure GS(c:Ctx)(T:Tab)(kx:Nat)(Γ:bY)(k:Nat):Prop where
 le:kx<=k
 ok:fX c T Γ k
theorem fH.up(D:fH c T x n m b)(B:Base c T kx)(G:GS c T kx Γ k)(hk:PL.Keeps Γ b m sp)(hl:∀us S Q E,sp us S Q E->us.length=n):GS c T kx (Fi Γ x sp) (k+2):=by
 obtain⟨st,f,N,ps,D0,e,R⟩:=D.ex;exact#[Nat.le_add_right_of_le G.le,L2.Df.up D0 R B G.le G.ok hk (λus S Q E h=>(hl us S Q E h).trans e.symm)]
structure Fj(c:Ctx)(T:Tab):Prop where
 Pq:fH c T "in_order" 1 0 PL.mT
 Cn:fH c T "all_but" 1 0 PL.oS
 ahead:fH c T "is_ahead" 2 0 PL.mU
 Ii:fH c T "stretch" 2 0 PL.oU
 read:fH c T "read" 1 2 PL.yQ
 joined:fH c T "joined" 2 0 PL.qz
 init:fH c T "Reader.__init__" 2 0 PL.jd
 sees:fH c T "Reader.sees" 2 0 PL.je
 passes:fH c T "Reader.passes" 2 0 PL.ik
 choice:fH c T "Reader.choice" 1 1 PL.iq
 row:fH c T "Reader.row" 1 1 PL.jV
 repeat_:fH c T "Reader.repeat" 1 1 PL.ir
 atom:fH c T "Reader.atom" 1 0 PL.jf
 bracket:fH c T "Reader.bracket" 1 1 PL.gG
 cls:fH c T "Reader.sign_class" 1 2 PL.eR
 item:fH c T "Reader.item" 1 3 PL.jh
 ws:fH c T "Reader.written_sign" 2 1 PL.dN
theorem sM(us:List U)(S:bI)(Q:KU)(E:KX)(h:PL.zJ args p d us S Q E):us.length=args.length+1:=by
 obtain⟨r,x,rest,rfl,_⟩:=h;rfl
theorem len_T(us:List U)(S:bI)(Q:KU)(E:KX)(h:PL.spT f us S Q E):us.length=1:=by
 obtain⟨l,rfl,_⟩:=h;rfl
theorem AX(R:Fj c T)(B:Base c T kx)(G:GS c T kx Γ k):∃Γ',GS c T kx Γ' (k+16)/\eh Γ Γ' RN/\PL.GR Γ'/\Γ' "joined"=PL.kB/\Γ' "Reader.__init__"=PL.nh:=by
 have g1:=R.Pq.up B G (PL.Ay _) len_T;have g2:=R.Cn.up B g1 (PL.u6 _) len_T;have g3:=R.ahead.up B g2 (PL.Az _) (λus S Q E h=>by obtain⟨a,b,rfl,_⟩:=h;rfl);have g4:=R.Ii.up B g3 (PL.Cm _) (λus S Q E h=>by obtain⟨a,b,rfl,_⟩:=h;rfl);have g5:=R.joined.up B g4 (PL.E2 _) (λus S Q E h=>by obtain⟨a,b,t,rfl,_⟩:=h;rfl);have g6:=R.init.up B g5 (PL.Ir _) (λus S Q E h=>by obtain⟨a,b,rfl,_⟩:=h;rfl);have g7:=R.sees.up B g6 (PL.Lz _) (λus S Q E h=>by obtain⟨a,b,_,_,_,rfl,_⟩:=h;rfl);have g8:=R.passes.up B g7 (PL.LA _ aY) (λus S Q E h=>by obtain⟨l,d,h⟩:=h;exact sM _ _ _ _ h);refine#[_,g8,?_,#[rfl,rfl,rfl,rfl,rfl,rfl],rfl,rfl];refine eh.up (eh.up (eh.up (eh.up (eh.up (eh.up (eh.up (eh.up (eh.refl _ _) ?_) ?_) ?_) ?_) ?_) ?_) ?_) ?_<;>decide
theorem US(k d:Nat)(h:d+k=6)(hc:∀j,k=j+1->Γ "Reader.choice"=PL.zJ [] (PL.gK (PL.sE j)) (d+1)):PL.Th Γ (PL.sE k) d:=by
 cases k with
 |zero=>exact .inl #[rfl,∅]
 |succ j=>exact .inr #[_,rfl,∅,PL.rK (j+1),hc j rfl]
theorem sN(R:Fj c T)(B:Base c T kx)(G:GS c T kx Γ k)(Sm:eh Γ0 Γ RN)(gr:PL.GR Γ)(gj:Γ "joined"=PL.kB)(gi:Γ "Reader.__init__"=PL.nh)(n d:Nat)(hd:d+n=6)
  (hc:∀j,n=j+1->Γ "Reader.choice"=PL.zJ [] (PL.gK (PL.sE j)) (d+1)):
  ∃Γ',GS c T kx Γ' (k+16)/\eh Γ0 Γ' RN/\PL.GR Γ'/\Γ' "joined"=PL.kB/\Γ' "Reader.__init__"=PL.nh/\Γ' "Reader.choice"=PL.zJ [] (PL.gK (PL.sE n)) d:=by
 obtain⟨e1,e2,e3,e4,e5,e6⟩:=gr;have hbo:=PL.rK n;have g1:=R.bracket.up B G (PL.Ti _ #[e1,e2,e3,e4,e5,e6] (PL.sE n) d (US n d hd hc)) (λus S Q E h=>by obtain⟨a,b,_,rfl,_⟩:=h;rfl);have g2:=R.ws.up B g1 (PL.Ij _ #[e1,e2,e3,e4,e5,e6] d) (λus S Q E h=>by obtain⟨m,h⟩:=h;exact sM _ _ _ _ h);have g3:=R.item.up B g2 (PL.LC _ d #[#[e1,e2,e3,e4,e5,e6],rfl]) sM;have g4:=R.cls.up B g3 (PL.Pr _ d #[#[#[e1,e2,e3,e4,e5,e6],rfl],rfl]) sM;have g5:=R.atom.up B g4 (PL.LH _ (PL.sE n) d #[#[#[#[e1,e2,e3,e4,e5,e6],rfl],rfl],rfl,rfl]) sM;have g6:=R.repeat_.up B g5 (PL.E3 _ (PL.sE n) d hbo #[#[#[#[#[e1,e2,e3,e4,e5,e6],rfl],rfl],rfl,rfl],rfl]) sM;have g7:=R.row.up B g6 (PL.Pw _ (PL.sE n) d hbo #[#[#[#[#[#[e1,e2,e3,e4,e5,e6],rfl],rfl],rfl,rfl],rfl],rfl,gj]) sM;have g8:=R.choice.up B g7 (PL.E4 _ (PL.sE n) d hbo #[#[#[#[#[#[#[e1,e2,e3,e4,e5,e6],rfl],rfl],rfl,rfl],rfl],rfl,gj],rfl]) sM;refine#[_,g8,?_,#[e1,e2,e3,e4,e5,e6],gj,gi,rfl];refine eh.up (eh.up (eh.up (eh.up (eh.up (eh.up (eh.up (eh.up Sm ?_) ?_) ?_) ?_) ?_) ?_) ?_) ?_<;>decide
theorem vy(R:Fj c T)(B:Base c T kx)(G:GS c T kx Γ k)(Sm:eh Γ0 Γ RN)(gr:PL.GR Γ)(gj:Γ "joined"=PL.kB)(gi:Γ "Reader.__init__"=PL.nh):
  ∀(n d:Nat),d+n=6->∃Γ',GS c T kx Γ' (k+16*(n+1))/\eh Γ0 Γ' RN/\PL.GR Γ'/\Γ' "joined"=PL.kB/\Γ' "Reader.__init__"=PL.nh/\Γ' "Reader.choice"=PL.zJ [] (PL.gK (PL.sE n)) d
 |0,d,h=>sN R B G Sm gr gj gi 0 d h (λj e=>∅)
 |n+1,d,h=>by
  obtain⟨Γ1,G1,S1,r1,j1,i1,c1⟩:=vy R B G Sm gr gj gi n (d+1) ∅;obtain⟨Γ2,G2,z⟩:=sN R B G1 S1 r1 j1 i1 (n+1) d h (λj e=>by cases e;exact c1);exact#[Γ2,G2,z]
theorem CC(R:Fj c T)(B:Base c T kx)(G:GS c T kx Γ k):∃Γ',GS c T kx Γ' (k+130)/\eh Γ Γ' RN/\Γ' "read"=PL.Co/\Γ' "all_but"=PL.spT PL.dA:=by
 obtain⟨Γ1,G1,S1,r1,j1,i1⟩:=AX R B G;obtain⟨Γ2,G2,S2,r2,j2,i2,c2⟩:=vy R B G1 S1 r1 j1 i1 6 0 rfl;have g:=R.read.up B G2 (PL.LI _ i2 c2) (λus S Q E h=>by obtain⟨x,rfl,_⟩:=h;rfl);exact#[_,g,eh.up S2 ⋯,aY,r2.Cn]
open PL (U SO bI Xn KU KX bY)
structure wd where
 x:String
 q:String
 cl:String
 st:Stmt
 N:List Str
 ps:List Str
 b:PL.dh
def vz(K:Frag)(x qual:Str)(st:Stmt)(f:Addr):Prop:=∃(oc:Value)(od:Option Addr)(kV dc pm:Value)(an:Option Addr)(cd ct:Value)(sl:Array (Option Value)),
 K.lookup f=some #[oc,od,.func (fnOf x qual (jU st) (dM st) (bc st) .none kV dc pm an cd ct),sl]/\codeIn K cd qual=true/\lR K (.ref f)=true
theorem vz.fn{K:Frag}{x qual:Str}{st:Stmt}{f:Addr}(h:vz K x qual st f):∃fd,BK K x qual st f fd/\lR K (.ref f)=true:=by
 obtain⟨oc,od,kV,dc,pm,an,cd,ct,sl,h1,h2,h3⟩:=h;exact#[_,Gu h1 h2 h3,h3]
inductive AY(K:Frag)(CA:List (String×Addr)):wd->Prop
 |fn{q:String}{st:Stmt}{N ps:List Str}{b:PL.dh}{f:Addr}:nsIn K bu (b8 q)=some (some (.ref f))->vz K (b8 q) (b8 q) st f->AY K CA #[q,q,"",st,N,ps,b]
 |mt{x q cl:String}{st:Stmt}{N ps:List Str}{b:PL.dh}{f C:Addr}:(cl=="")=false->CA.lookup cl=some C->iA K (.ref C) (b8 q)=some (some (.ref f))->isFn K (.ref f)=true->vz K (b8 q) (b8 x) st f->AY K CA #[x,q,cl,st,N,ps,b]
def zA(r:wd):Prop:=∀(x qual:Str)(kV dc pm:Value)(an:Option Addr)(cd ct:Value)(us:List Value),us.length=r.ps.length->Bh (fnOf x qual (jU r.st) (dM r.st) (bc r.st) .none kV dc pm an cd ct) #[us,[]]=pure (r.ps.zip us)
abbrev IZ(r:wd)(us:List Value):Prop:=∀(x qual:Str)(kV dc pm:Value)(an:Option Addr)(cd ct:Value),Bh (fnOf x qual (jU r.st) (dM r.st) (bc r.st) .none kV dc pm an cd ct) #[us,[]]=pure (r.ps.zip us)
theorem Zm(e:r.ps.length=0)(h:IZ r []):zA r:=λx q a b c d f g us hl=>by
 rw[e] at hl;obtain rfl:=zQ.mp hl;exact h x q a b c d f g
theorem Zn(e:r.ps.length=1)(h:∀a,IZ r [a]):zA r:=λx q a b c d f g us hl=>by
 rw[e] at hl
 match us,hl with
 |[u],_=>exact h u x q a b c d f g
theorem Zo(e:r.ps.length=2)(h:∀a b,IZ r [a,b]):zA r:=λx q a b c d f g us hl=>by
 rw[e] at hl
 match us,hl with
 |[u,v],_=>exact h u v x q a b c d f g
theorem Zp(e:r.ps.length=3)(h:∀a b c,IZ r [a,b,c]):zA r:=λx q a b c d f g us hl=>by
 rw[e] at hl
 match us,hl with
 |[u,v,w],_=>exact h u v w x q a b c d f g
theorem Zq(e:r.ps.length=4)(h:∀a b c d,IZ r [a,b,c,d]):zA r:=λx q a b c d f g us hl=>by
 rw[e] at hl
 match us,hl with
 |[u,v,w,z],_=>exact h u v w z x q a b c d f g
noncomputable def Fl(r:wd):Bool:=(bc r.st).kind==.function && !(bc r.st).isCoroutine && !(bc r.st).isGenerator&&decide r.N.Nodup&&r.N.take r.ps.length==r.ps&&(r.ps.all λx=>(bc r.st).names.lookup x==some .local||(bc r.st).names.lookup x==some .cell)&&((bc r.st).names.all λy=>y.2 !=.free)&&decide (r.ps.length<=r.N.length)
theorem Fl.sc(h:Fl r=true):fV r.N r.ps (bc r.st)/\r.ps.length<=r.N.length:=by
 unfold Fl at h;simp only[af,bR,decide_eq_true_eq,aO,beq_iff_eq,gq,bne_iff_ne] at h;obtain⟨⟨⟨⟨⟨⟨⟨h1,h2⟩,h3⟩,h4⟩,h5⟩,h6⟩,h7⟩,h8⟩:=h;exact#[#[h1,h2,h3,h4,h5,h6,h7],h8]
noncomputable def Qt(T:Tab)(r:wd):Bool:=
 if r.cl=="" then(T.pY.all λp=>p.2++"."++p.1 !=r.x)&&(T.pX.all λy=>y++".__init__" !=r.x)
 else !(T.fns.contains r.x)&&r.x==r.cl++"."++r.q&&if r.q=="__init__" then(T.pY.all λp=>p.2++"."++p.1 !=r.x)&&(T.pX.all λy=>y++".__init__" !=r.x||y==r.cl)
  else(T.pY.all λp=>p.2++"."++p.1 !=r.x||(p.1==r.q&&p.2==r.cl))&&(T.pX.all λy=>y++".__init__" !=r.x)
noncomputable def I0(rows:List wd):List String:=(rows.filter λr=>r.cl=="").map (·.x)
noncomputable def I9(rows:List wd):List (String×String):=(rows.filter λr=>r.cl !=""&&r.q !="__init__").map λr=>(r.q,r.cl)
structure Mm(K:Frag)(p:String×Addr)(fl:List String):Prop where
 ns:nsIn K bu (b8 p.1)=some (some (.ref p.2))
 cl:wK K p.2
 ms:makesIn K p.2=true
 kp:lR K (.ref p.2)=true
 na:fl.map (λf=>iA K (.ref p.2) (b8 f))=fl.map λ_=>some none
theorem oC{α:Type}{x:String}{a:α}:∀{l:List (String×α)},l.lookup x=some a->(x,a)∈l
 | (k,v)::l,h=>by
  rw[ba] at h;split at h
  .rename_i e
   have e:x=k:=eq_of_beq e;cases h;subst e;exact bf ..
  .exact aU _ (oC h)
theorem M6{K:Frag}{C:Addr}{fl:List String}(h:fl.map (λf=>iA K (.ref C) (b8 f))=fl.map λ_=>some none):∀f∈fl,fA K C (nm f):=λf m=>eJ.mp h f m
section
variable{c:Ctx}{T:Tab}{rows:List wd}{CA:List (String×Addr)}{h:Heap}{fl:List String}
theorem Mn(X:c.K.In h)(G:h.Ns bu c.mg)(hc:c.cls=λx=>CA.lookup x)(hC:∀p∈CA,Mm c.K p fl)(R:∀r∈rows,AY c.K CA r)(bd:∀r∈rows,zA r)(sc:rows.all Fl=true)(rl:rows.all (Qt T)=true)
  (tx:rows.map (λr=>Jr T 60 #[(bc r.st).names,r.N,true] (dM r.st))=rows.map λr=>some r.b) (i:Nat) (r:wd) (e:rows[i]?=some r):fH c T r.x r.ps.length (r.N.length-r.ps.length) r.b:=by
 have m:=aw e;obtain⟨s1,s2⟩:=(bR.mp sc r m |> Fl.sc)
 have t:=eJ.mp tx r m;have b:=bd r m;have rr:=bR.mp rl r m;have ln:r.N.length=r.ps.length+(r.N.length-r.ps.length):=∅
 cases R r m with
 |fn h1 h2=>
  obtain⟨fd,F,kp⟩:=h2.fn;refine#[#[_,_,_,_,#[#[_,_,fd,F,F.binds λkV dc pm an cd ct us hl=>b _ _ kV dc pm an cd ct us hl],s1,#[60,t],ln],rfl,λg ro=>?_]];have rr:((T.pY.all λp=>p.2++"."++p.1 !=_)&&(T.pX.all λy=>y++".__init__" !=_))=true:=rr;rw[af] at rr;exact Mi (kR X G h1) rr.1 rr.2 ro
 |@mt x q cl st N ps b' f C hn h0 h1 h2 h3=>
  obtain⟨fd,F,kp⟩:=h3.fn;refine#[#[_,_,_,_,#[#[_,_,fd,F,F.binds λkV dc pm an cd ct us hl=>b _ _ kV dc pm an cd ct us hl],s1,#[60,t],ln],rfl,λg ro=>?_]];unfold Qt at rr;simp only[hn,ah,if_false,af,gq,beq_iff_eq] at rr;obtain⟨⟨r1,r2⟩,r3⟩:=rr;have hcl:c.cls cl=some C:=by rw[hc];exact h0
  have cm:=hC _ (oC h0);subst r2;by_cases z:q="__init__"
  .subst z
   simp only[if_true,af] at r3;have e:cl++"."++"__init__"=cl++".__init__":=by rw[String.append_assoc];rfl
   have ro:Role c T (cl++"."++"__init__") g:=ro;rw[e] at r1 r3 ro;exact Ml (cl:=cl) hcl #[cm.ms,h1,h2,cm.kp] r1 r3.1 r3.2 ro
  .rw[if_neg z,af] at r3
   exact Mj (m:=q) (cl:=cl) hcl #[h1,h2,kp] r1 r3.1 r3.2 ro
theorem CD(b:zA r)(h:vz c.K x qual r.st f):FnAt c k f wb:=by
 obtain⟨fd,F,kp⟩:=h.fn;exact UR (F.binds λkV dc pm an cd ct us hl=>b _ _ kV dc pm an cd ct us hl)
theorem Qu(X:c.K.In h)(G:h.Ns bu c.mg)(hc:c.cls=λx=>CA.lookup x)(hC:∀p∈CA,Mm c.K p fl)(R:∀r∈rows,AY c.K CA r)(bd:∀r∈rows,zA r)
  (t1:T.fns=I0 rows) (t2:T.pY=I9 rows) (t3:∀x∈T.pX,∃r∈rows,r.cl=x/\r.q="__init__"/\(x=="")=false):fX c T (λ_=>wb) k:=by
 refine fX.none (λx hx=>?_) (λp hp=>?_) (λx hx=>?_)
 .rw[t1] at hx
  obtain⟨r,hr,rfl⟩:=bx.mp hx;obtain⟨m,e⟩:=eG.mp hr;have b:=bd r m;cases R r m with
  |@fn q st N ps b' f h1 h2=>
   obtain⟨fd,F,kp⟩:=h2.fn;exact#[f,kR X G h1,kp,CD b h2]
  |mt hn=>exact absurd e (by show ¬(_=="")=true;rw[hn];simp)
 .rw[t2] at hp
  obtain⟨r,hr,rfl⟩:=bx.mp hp;obtain⟨m,e⟩:=eG.mp hr;have b:=bd r m;cases R r m with
  |fn h1 h2=>simp at e
  |@mt x q cl st N ps b' f C hn h0 h1 h2 h3=>
   obtain⟨fd,F,kp⟩:=h3.fn;exact#[C,f,by rw[hc];exact h0,#[h1,h2,kp],CD b h3]
 .obtain⟨r,m,rfl,eq,ne⟩:=t3 x hx
  have b:=bd r m;cases R r m with
  |fn h1 h2=>simp at ne
  |@mt x q cl st N ps b' f C hn h0 h1 h2 h3=>
   have eq:q="__init__":=eq;subst eq;have cm:=hC _ (oC h0);exact#[C,f,by rw[hc];exact h0,kR X G cm.ns,#[cm.ms,h1,h2,cm.kp],CD b h3]
theorem Qv(hc:c.cls=λx=>CA.lookup x)(hC:∀p∈CA,Mm c.K p fl)(x:String)(C:Addr)(h:c.cls x=some C):wK c.K C/\∀f∈fl,fA c.K C (nm f):=by
 rw[hc] at h;have:=hC _ (oC h);exact#[this.cl,M6 this.na]
end
structure XF(K:Frag)(C:Addr)(bm:List Value):Prop where
 get:XGet K C
 is:QG K C
 cls:oh K C bm
theorem UT{K:Frag}{C N:Addr}{bm bs:List Value}{cd:ClassData}{nm q:Str}{sn:List Str}{sub:List Value}{ab:Bool}{col:Option Bool}{dd:Option Addr}{k0 k1 k2 k3 k5:Option Value}
  (ga:iA K (.ref C) "__getattribute__"=some (some (.builtin "BaseException.__getattribute__"))) (gh:iA K (.ref C) "__getattr__"=some none) (hb:mroIn K C (.type "BaseException")=some true) (hd:hasDictIn K C=true) (sa:iA K (.ref C) "__setattr__"=some (some (.builtin "object.__setattr__")))
  (cl:clsIn K C=some cd) (ob:K.lookup C=some (kO nm q C N bs bm true sn sub ab col dd k0 k1 k2 k3 k5 "ValueError.__new__")) (mr:cd.mro=.ref C::bm) (tl:tailIn K wW bm=true)
  (ha:iA K (.ref C) "__class__"=some (some (.builtin "object.__class__"))) (hn:specialIn K (.builtin "object.__class__") "__get__"=some (some (.builtin "getset_descriptor.__get__")))
  (NN:takesIn K (.builtin "object.__class__")=some true) (hm:mroIn K C (.type "object")=some true):XF K C bm:=
 #[#[ga,gh,hb,hd,sa,cd,bm,cl,mr,tl],#[#[ga,gh,hb,hd,sa,cd,bm,cl,mr,tl],ha,hn,NN,hm],#[#[nm,q,N,bs,sn,sub,ab,col,dd,k0,k1,k2,k3,k5,ob],tl]]
theorem Qw{K:Frag}{C:Addr}{b1 b2:List Value}(h1:oh K C b1)(h2:oh K C b2):b1=b2:=by
 obtain⟨nm,q,N,bs,sn,sub,ab,col,dd,k0,k1,k2,k3,k5,e1⟩:=h1.ob;obtain⟨nm',q',N',bs',sn',sub',ab',col',dd',k0',k1',k2',k3',k5',e2⟩:=h2.ob;have e:=e1.symm.trans e2;unfold kO at e;cases e
 rfl
abbrev UU:=String×Addr×List Value
structure Xq(K:Frag)(fl:List String)(p:UU):Prop where
 ns:nsIn K bu (b8 p.1)=some (some (.ref p.2.1))
 xf:XF K p.2.1 p.2.2
 na:fl.map (λf=>iA K (.ref p.2.1) (b8 f))=fl.map λ_=>some none
noncomputable def zB(EA:List UU)(x:String):Option Addr:=(EA.lookup x).map (·.1)
structure Xs(K:Frag)(fl:List String)(EA:List UU):Prop where
 xs:∀p∈EA,Xq K fl p
 q:EA.map (λp=>EA.map λr=>qZ K (.ref p.2.1) (.ref r.2.1))=EA.map λp=>EA.map λr=>some ((PL.oj p.1).contains r.1)
 v:EA.map (λp=>qZ K (.ref p.2.1) (.type "ValueError"))=EA.map λ_=>some true
 u:EA.map (λp=>EA.map λr=>!(PL.oj p.1).contains r.1||(aV p.2.1::p.2.2).contains (.ref r.2.1))=EA.map λ_=>EA.map λ_=>true
section
variable{K:Frag}{fl:List String}{EA:List UU}{x y:String}{C D:Addr}
theorem kG(h:zB EA x=some C):∃bm,(x,C,bm)∈EA:=by
 obtain⟨p,e,rfl⟩:=ag.mp h;exact#[p.2,oC e]
variable(X:Xs K fl EA)
include X
theorem Xs.exc(x:String)(C:Addr)(h:zB EA x=some C):XGet K C/\QG K C/\(∃bm,oh K C bm)/\∀f∈fl,fA K C (nm f):=by
 obtain⟨bm,m⟩:=kG h;have:=X.xs _ m;exact#[this.xf.get,this.xf.is,#[_,this.xf.cls],M6 this.na]
theorem Xs.ns(h:zB EA x=some C):nsIn K bu (b8 x)=some (some (.ref C)):=by
 obtain⟨bm,m⟩:=kG h;exact(X.xs _ m).ns
theorem Xs.WX(x:String)(C:Addr)(y:String)(D:Addr)(h:zB EA x=some C)(h':zB EA y=some D):qZ K (.ref C) (.ref D)=some ((PL.oj x).contains y):=by
 obtain⟨bm,m⟩:=kG h;obtain⟨bn,n⟩:=kG h';exact eJ.mp (eJ.mp X.q _ m) _ n
theorem Xs.WY(x:String)(C:Addr)(h:zB EA x=some C):qZ K (.ref C) (.type "ValueError")=some true:=by
 obtain⟨bm,m⟩:=kG h;exact eJ.mp X.v _ m
theorem Xs.up(x:String)(C:Addr)(bm:List Value)(y:String)(D:Addr)(h:zB EA x=some C)(h':zB EA y=some D)(hc:oh K C bm)(hu:(PL.oj x).contains y=true):(aV C::bm).contains (.ref D)=true:=by
 obtain⟨bm',m⟩:=kG h;obtain⟨bn,n⟩:=kG h';have:=eJ.mp (eJ.mp X.u _ m) _ n;rw[Qw hc (X.xs _ m).xf.cls]
 rw[hu] at this;exact this
end
theorem tV(h:c.mg (nm x)=some (.str s t))(e:s=tx l):∃v u,c.mg (nm x)=some u/\RelV v u/\∀ρ H,Rep c ρ H (.str l) v:=
 #[.str (tx l),_,h,#[t,by rw[e]],λ_ _=>bq.mpr rfl]
theorem AZ{K:Frag}{a:Addr}:∀(kvs:List (Str×Str)),(∀p∈kvs,∃t,nsIn K a p.1=some (some (.str p.2 t)))->∀k v,(kvs.map λp=>(p.1,V.str p.2)).lookup k=some v->∃u,RelV v u/\nsIn K a k=some (some u)
 |[],_,k,v,h=>by simp at h
 |p::r,hp,k,v,h=>by
  rw[aF,ba] at h;split at h
  .rename_i e
   have e:k=p.1:=eq_of_beq e;cases h;obtain⟨t,z⟩:=hp p (bf ..);exact#[_,#[t,rfl],by rw[e];exact z]
  .exact AZ r (λq hq=>hp q (aU _ hq)) k v h
noncomputable def Fm:Value->Option Str
 |.str s _=>some s
 |_=>none
theorem DX(k:Str):∀(es:List DictEntry)(ks:List Str),es.map (λe=>Fm e.key)=ks.map some->k∉ks->es.find? (·.key.isStr k)=none/\es.any (·.refKey)=false
 |[],_,_,_=>#[rfl,rfl]
 |e::r,[],h,_=>by cases h
 |⟨hs,ky,vl⟩::r,q::ks,h,n=>by
  rw[aF,aF,dW] at h;obtain⟨i,j⟩:=DX k r ks h.2 λz=>n (aU _ z)
  have h1:Fm ky=some q:=h.1;cases ky with
  |str s t=>
   have e:s=q:=aH h1;subst e;have ne:(s==k)=false:=by
    rw[beq_eq_false_iff_ne];exact λz=>n (z▸bf ..)
   exact#[by rw[fS];show(match (s==k) with|true=>_|false=>_)=_;rw[ne];exact i,by rw[cR,j];rfl]
  |_=>cases h1
theorem Mo(h:c.mg (nm x)=some (.ref a))(l:c.K.lookup a=some #[.type "dict",none,.dict es n,#[]])(kl:A8 c.w.params es.toList)
  (ky:es.toList.map (λe=>Fm e.key)=(kvs.map λp=>tx p.1).map some) (ns:(a==dE)=false)
  (hk:∀p∈kvs,∃t,nsIn c.K a (tx p.1)=some (some (.str (tx p.2) t))):∃v u,c.mg (nm x)=some u/\RelV v u/\∀ρ H,Rep c ρ H (.tab kvs) v:=by
 refine#[.ref a,_,h,rfl,λρ H=>tJ.mpr #[a,rfl,#[es,n,l,kl],λk v e=>?_,λk e=>?_,ns]]
 .refine AZ (kvs.map λp=>(tx p.1,tx p.2)) ?_ k v (by rw[bM];exact e)
  intro p hp;obtain⟨q,hq,rfl⟩:=bx.mp hp;exact hk q hq
 .have nm:k∉kvs.map λp=>tx p.1:=λz=>by
   obtain⟨q,hq,rfl⟩:=bx.mp z;have:=List.lookup_eq_none_iff.mp e (tx q.1,V.str (tx q.2)) (bx.mpr #[q,hq,rfl]);simp at this
  obtain⟨i,j⟩:=DX k _ _ ky nm;unfold nsIn;rw[l]
  show(match es.toList.find? (·.key.isStr k) with|some e=>some (some e.val)|none=>if es.toList.any (·.refKey) then none else some none)=some none
  rw[i,j]
  rfl
theorem UW(h:c.mg (nm x)=some (.ref a))(l:c.K.lookup a=some #[.type "dict",none,.dict es n,#[]])(kl:A8 c.w.params es.toList)
  (ky:es.toList.map (λe=>Fm e.key)= [some k0,some k1,some k2]) (ns:(a==dE)=false) (c0:k0=tx l0) (c1:k1=tx l1) (c2:k2=tx l2)
  (r0:nsIn c.K a k0=some (some (.str z0 t0))) (e0:z0=tx m0) (r1:nsIn c.K a k1=some (some (.str z1 t1))) (e1:z1=tx m1) (r2:nsIn c.K a k2=some (some (.str z2 t2))) (e2:z2=tx m2):
  ∃v u,c.mg (nm x)=some u/\RelV v u/\∀ρ H,Rep c ρ H (.tab [(l0,m0),(l1,m1),(l2,m2)]) v:=by
 subst c0 c1 c2 e0 e1 e2;refine Mo h l kl ky ns ?_;exact az.mpr #[#[t0,r0],az.mpr #[#[t1,r1],az.mpr #[#[t2,r2],λ_ h=>(bP h).elim]]]
theorem Vu{c:Ctx}{EA:List UU}{x:String}{C f:Addr}{st:Stmt}{ps:List Str}(hx:c.exc x=some C)(kc:lR c.K (.ref C)=true)(a:iA c.K (.ref C) "__init__"=some (some (.ref f)))(i:isFn c.K (.ref f)=true){q:Str}(F:vz c.K "__init__" q st f)
  (bd:∀(x qual:Str)(kV dc pm:Value)(an:Option Addr)(cd ct:Value)(us:List Value),us.length=ps.length->Bh (fnOf x qual (jU st) (dM st) (bc st) .none kV dc pm an cd ct) #[us,[]]=pure (ps.zip us)) (hp:ps.length<=1000)
  (h:∀fd,BK c.K "__init__" q st f fd->iI c.P c.w c.K c.mg c.base (pU c.P c.w) 1 f fd ps (yZ C ((PL.cJ x).map nm))):pI c 1 x:=by
 obtain⟨fd,F,kp⟩:=F.fn;exact#[#[C,f,fd,ps,hx,kc,a,i,h fd F,F.binds λkV dc pm an cd ct us hl=>bd _ _ kV dc pm an cd ct us hl,hp]]
open PL (U SO bI Xn KU KX bY)
theorem fX.mono(G:fX c T Γ j)(h:j<=k):fX c T Γ k:=
 #[λx hx=>let ⟨f,a,b,d⟩:=G.fns x hx;#[f,a,b,d.mono h],λp hp=>let ⟨C,f,a,b,d⟩:=G.QM p hp;#[C,f,a,b,d.mono h],λx hx=>let ⟨C,f,a,b,e,d⟩:=G.cls x hx;#[C,f,a,b,e,d.mono h]]
theorem fX.mix(G1:fX c T Γ1 k)(G2:fX c T Γ2 k)(h:∀x,Γ x=Γ1 x\/Γ x=Γ2 x):fX c T Γ k:=by
 refine#[λx hx=>?_,λp hp=>?_,λx hx=>?_]
 .rcases h x with e|e<;>rw[e]
  .exact G1.fns x hx
  .exact G2.fns x hx
 .rcases h (p.2++"."++p.1) with e|e<;>rw[e]
  .exact G1.QM p hp
  .exact G2.QM p hp
 .rcases h (x++".__init__") with e|e<;>rw[e]
  .exact G1.cls x hx
  .exact G2.cls x hx
theorem GS.mono(G:GS c T kx Γ j)(h:j<=k):GS c T kx Γ k:=#[aS G.le h,fX.mono G.ok h]
structure Qx(c:Ctx)(T:Tab):Prop where
 written:fH c T "written" 1 0 PL.oV
 row:fH c T "row_text" 1 0 PL.mV
 rep:fH c T "repeat_text" 1 2 PL.ji
 atom:fH c T "atom_text" 1 0 PL.k9
 place:fH c T "place_text" 1 0 PL.jW
 sign:fH c T "sign_text" 2 0 PL.lg
 texts:fH c T "class_texts" 1 1 PL.jj
 guarded:fH c T "guarded" 1 0 PL.oW
 items:fH c T "class_items" 1 2 PL.jk
 runs:fH c T "runs" 1 3 PL.yR
 Xr:fH c T "run_items" 1 2 PL.lh
open PL.jL in
structure Mp(c:Ctx)(T:Tab):Prop where
 po:fH c T "places_of" 2 4 lu
 to:fH c T "tree_of" 2 1 oX
 mem:fH c T "members" 1 0 oY
 pt:fH c T "Part.__init__" 4 0 ly
 YH:fH c T "one_behind_other" 2 2 fB
 YI:fH c T "one_or_other" 2 0 iP
 li:fH c T "Layout.__init__" 1 0 jm
 hm:fH c T "Layout.how_many" 1 0 fW
 cr:fH c T "Layout.close_rule" 2 0 eS
 lk:fH c T "Layout.link" 3 1 jo
 lay:fH c T "Layout.lay" 2 0 jX
 lp:fH c T "Layout.lay_place" 2 1 fD
 lr:fH c T "Layout.lay_row" 2 3 gH
 lc:fH c T "Layout.lay_choice" 2 2 eT
 lq:fH c T "Layout.lay_repeat" 2 4 eU
 us:fH c T "useful_places" 1 5 iu
 Zr:fH c T "places_that_take" 2 0 fE
 pi:fH c T "Places.__init__" 2 1 jq
 Zs:fH c T "Places.beyond" 2 2 iw
 fr:fH c T "Places.first_rule" 2 2 eV
 wi:fH c T "Walk.__init__" 2 0 lz
 wm:fH c T "Walk.may_go_on" 1 0 gI
 al:fH c T "Walk.along" 2 0 jY
 ws:fH c T "Walk.step" 2 2 lA
 lx:fH c T "Lexer.__init__" 2 0 jZ
 ci:fH c T "Cutter.__init__" 2 0 PL.qT.js
 ta:fH c T "Cutter.take" 2 0 PL.qT.jt
 en:fH c T "Cutter.end" 1 0 PL.qT.j9
 st:fH c T "Cutter.sure_tokens" 2 2 PL.qT.d7
 ns:fH c T "Cutter.next_is_sure" 2 0 PL.qT.dP
 pv:fH c T "Cutter.pass_over" 2 0 PL.qT.fF
open PL.jL in
structure CH(c:Ctx)(T:Tab):Prop where
 cell:fH c T "_law_cell" 2 0 PL.tI.lj
 mix:fH c T "_law_mix" 2 1 PL.tI.mW
 all:fH c T "_law_all" 0 1 PL.tI.mX
 no:fH c T "_law_nothing" 1 0 iQ
 be:fH c T "_law_behind" 2 4 jr
 re:fH c T "_law_rests" 2 3 j0
 ed:fH c T "_law_ends" 1 0 om
 tk:fH c T "_law_token" 3 4 j6
 sm:fH c T "_law_small" 3 3 j7
 tr:fH c T "_law_trees" 4 3 j8
 tx:fH c T "_law_text" 3 0 lB
 li:fH c T "_law_lives" 1 0 PL.qT.kb
 mo:fH c T "_law_more" 1 0 PL.qT.lC
 op:fH c T "_law_open" 2 2 PL.qT.lD
 Zt:fH c T "_law_asked" 2 3 PL.qT.ke
 su:fH c T "_law_sure" 4 2 PL.qT.lE
open PL PL.jL in
theorem A0(us:List U)(S:bI)(Q:KU)(E:KX)(h:DV D f us S Q E):us.length=1:=by
 obtain⟨_,rfl,_⟩:=h;rfl
open PL PL.jL in
theorem xS(us:List U)(S:bI)(Q:KU)(E:KX)(h:hU D us S Q E):us.length=2:=by
 obtain⟨_,_,_,_,_,_,rfl,_⟩:=h;rfl
open PL PL.jL in
theorem tW(W:Qx c T)(B:Base c T kx)(G:GS c T kx Γ j)(k:Nat)(hk:k<=10)(D:Tr->Prop)(hD:∀t,bG t<=k->AW t->D t)(hp:Γ "place_text"=Mb)(hw:Γ "written"=DV D wr):
  ∃Γ',GS c T kx Γ' (j+8)/\Γ' "place_text"=Mb/\Γ' "written"=DV (λt=>bG t<=k\/(AW t/\bG t<=k+1)) wr:=by
 have g1:=W.atom.up B G (Qp _ k D hD hp hw) A0;have g2:=W.rep.up B g1 (Qq _ k hk aY) A0;have g3:=W.row.up B g2 (Qr _ k aY) A0;have g4:=W.written.up B g3 (Qs _ k aY) A0;exact#[_,g4,hp,aY]
open PL PL.jL in
theorem UX(R:Fj c T)(W:Qx c T)(B:Base c T kx)(G:GS c T kx Γ j):∃Γ',GS c T kx Γ' (j+50)/\Γ' "written"=DV (λt=>bG t<=3\/(AW t/\bG t<=3+1)) wr:=by
 have a0:=R.Cn.up B G (u6 _) len_T;have a1:=W.sign.up B a0 (UB _) (λus S Q E h=>by obtain⟨_,_,rfl,_⟩:=h;rfl);have a2:=W.Xr.up B a1 (UD _ aY) (λus S Q E h=>by obtain⟨_,rfl,_⟩:=h;rfl);have a3:=W.runs.up B a2 (UG _) (λus S Q E h=>by obtain⟨_,rfl,_⟩:=h;rfl);have a4:=W.items.up B a3 (UI _ rfl rfl) (λus S Q E h=>by obtain⟨_,rfl,_⟩:=h;rfl);have a5:=W.guarded.up B a4 (UK _) (λus S Q E h=>by obtain⟨_,_,rfl,_⟩:=h;rfl);have a6:=W.texts.up B a5 (UM _ rfl rfl rfl) (λus S Q E h=>by obtain⟨_,rfl,_⟩:=h;rfl);have a7:=W.place.up B a6 (UN _ rfl rfl rfl) (λus S Q E h=>by obtain⟨_,rfl,_⟩:=h;rfl);have a8:=W.written.up B a7 (sp:=DV (λ_=>False) wr) (λus S Q E h=>by obtain⟨_,_,h,_⟩:=h;exact h.elim) A0;obtain⟨Γ1,G1,p1,w1⟩:=tW W B a8 0 ∅ _ (λt d r=>by cases t<;>first|exact r.elim|exact absurd d (Nat.not_succ_le_zero _)) rfl aY;obtain⟨Γ2,G2,p2,w2⟩:=tW W B G1 1 ∅ _ (λt d r=>.inr #[r,d]) p1 w1;obtain⟨Γ3,G3,p3,w3⟩:=tW W B G2 2 ∅ _ (λt d r=>.inr #[r,d]) p2 w2;obtain⟨Γ4,G4,p4,w4⟩:=tW W B G3 3 ∅ _ (λt d r=>.inr #[r,d]) p3 w3;exact#[Γ4,G4,w4]
section
open PL PL.jL
structure GP(Γ:bY):Prop where
 mem:Γ "members"=AG
 pt:Γ "Part.__init__"=zh
 YH:Γ "one_behind_other"=qb rQ
 YI:Γ "one_or_other"=qb Tq
 li:Γ "Layout.__init__"=PJ
 hm:Γ "Layout.how_many"=PK
 cr:Γ "Layout.close_rule"=PM
 lk:Γ "Layout.link"=IC
 lp:Γ "Layout.lay_place"=hU λt u=>∃n l,t=.one n l/\u=.str l
variable{c:Ctx}{T:Tab}{Γ:bY}{j kx:Nat}
theorem Mq(P:Mp c T)(B:Base c T kx)(G:GS c T kx Γ j):∃Γ',GS c T kx Γ' (j+20)/\GP Γ'/\Γ' "Layout.lay"=hU (Tu 0):=by
 have g1:=P.mem.up B G (PD _) (λus S Q E h=>by obtain⟨_,rfl,_⟩:=h;rfl);have g2:=P.pt.up B g1 (Tp _) (λus S Q E h=>by obtain⟨_,_,_,_,rfl,_⟩:=h;rfl);have g3:=P.YH.up B g2 (PF _ aY) (λus S Q E h=>by obtain⟨_,_,_,_,_,_,_,_,rfl,_⟩:=h;rfl);have g4:=P.YI.up B g3 (Ts _ rfl) (λus S Q E h=>by obtain⟨_,_,_,_,_,_,_,_,rfl,_⟩:=h;rfl);have g5:=P.li.up B g4 (Tt _) (λus S Q E h=>by obtain⟨_,rfl,_⟩:=h;rfl);have g6:=P.hm.up B g5 (Tv _) (λus S Q E h=>by obtain⟨_,_,_,_,rfl,_⟩:=h;rfl);have g7:=P.cr.up B g6 (Tw _) (λus S Q E h=>by obtain⟨_,_,_,_,_,_,_,_,_,_,rfl,_⟩:=h;rfl);have g8:=P.lk.up B g7 (TB _ rfl) (λus S Q E h=>by obtain⟨_,_,_,_,_,_,rfl,_⟩:=h;rfl);have g9:=P.lp.up B g8 (TC _ rfl) xS;have ga:=P.lay.up B g9 (sp:=hU (Tu 0)) (λus S Q E h=>by obtain⟨_,_,_,_,_,_,_,h,_⟩:=h;exact absurd h.1 (iK _)) xS;exact#[_,ga,#[rfl,rfl,rfl,rfl,rfl,rfl,rfl,rfl,rfl],aY]
theorem qO(P:Mp c T)(B:Base c T kx)(G:GS c T kx Γ j)(g:GP Γ)(d:Nat)(hd:d<=100)(hl:Γ "Layout.lay"=hU (Tu d)):∃Γ',GS c T kx Γ' (j+8)/\GP Γ'/\Γ' "Layout.lay"=hU (Tu (d+1)):=by
 obtain⟨e1,e2,e3,e4,e5,e6,e7,e8,e9⟩:=g;have g1:=P.lr.up B G (TJ _ d e2 hl e8 e3) xS;have g2:=P.lc.up B g1 (TK _ d e2 hl e4) xS;have g3:=P.lq.up B g2 (TL _ d hd e2 hl e8) xS;have g4:=P.lay.up B g3 (PV _ d e9 rfl rfl rfl) xS;exact#[_,g4,#[e1,e2,e3,e4,e5,e6,e7,e8,e9],aY]
theorem UY(P:Mp c T)(B:Base c T kx)(G:GS c T kx Γ j):∃Γ',GS c T kx Γ' (j+95)/\GP Γ'/\Γ' "Layout.lay"=hU (Tu 4)/\Γ' "Places.__init__"=PZ/\Γ' "Cutter.__init__"=Qb/\Γ' "Cutter.take"=Qd/\Γ' "Cutter.end"=Qe:=by
 obtain⟨Γ0,G0,p0,l0⟩:=Mq P B G;obtain⟨Γ1,G1,p1,l1⟩:=qO P B G0 p0 0 ∅ l0;obtain⟨Γ2,G2,p2,l2⟩:=qO P B G1 p1 1 ∅ l1;obtain⟨Γ3,G3,p3,l3⟩:=qO P B G2 p2 2 ∅ l2;obtain⟨Γ4,G4,p4,l4⟩:=qO P B G3 p3 3 ∅ l3;obtain⟨e1,e2,e3,e4,e5,e6,e7,e8,e9⟩:=p4;have g1:=P.us.up B G4 (TN _ e1) (λus S Q E h=>by obtain⟨_,_,_,_,rfl,_⟩:=h;rfl);have g2:=P.Zr.up B g1 (PX _) (λus S Q E h=>by obtain⟨_,_,_,_,_,rfl,_⟩:=h;rfl);have g3:=P.pi.up B g2 (TR _ rfl aY) (λus S Q E h=>by obtain⟨_,_,_,_,_,rfl,_⟩:=h;rfl);have g4:=P.Zs.up B g3 (TV _ e1) (λus S Q E h=>by obtain⟨_,_,_,_,_,rfl,_⟩:=h;rfl);have g5:=P.fr.up B g4 (TZ _) (λus S Q E h=>by obtain⟨_,_,_,_,_,rfl,_⟩:=h;rfl);have g6:=P.wi.up B g5 (T3 _ rfl) (λus S Q E h=>by obtain⟨_,_,_,_,_,rfl,_⟩:=h;rfl);have g7:=P.wm.up B g6 (T4 _) (λus S Q E h=>by obtain⟨_,_,_,_,_,rfl,_⟩:=h;rfl);have g8:=P.ws.up B g7 (T6 _ rfl rfl) (λus S Q E h=>by obtain⟨_,_,_,_,_,_,_,_,_,rfl,_⟩:=h;rfl);have g9:=P.al.up B g8 (T9 _ rfl aY) (λus S Q E h=>by obtain⟨_,_,_,_,_,_,_,_,rfl,_⟩:=h;rfl);have ga:=P.ns.up B g9 (Us _ aY rfl) (λus S Q E h=>by obtain⟨_,_,_,_,_,_,_,rfl,_⟩:=h;rfl);have gb:=P.pv.up B ga (Uu _ rfl) (λus S Q E h=>by obtain⟨_,_,_,_,_,_,_,rfl,_⟩:=h;rfl);have gc:=P.st.up B gb (Uv _ rfl aY) (λus S Q E h=>by obtain⟨_,_,_,_,_,_,_,rfl,_⟩:=h;rfl);have gd:=P.ta.up B gc (Uw _ aY) (λus S Q E h=>by obtain⟨_,_,_,_,_,_,_,rfl,_⟩:=h;rfl);have ge:=P.en.up B gd (Ux _ rfl) (λus S Q E h=>by obtain⟨_,_,_,_,_,_,rfl,_⟩:=h;rfl);have gf:=P.ci.up B ge (Uq _ rfl) (λus S Q E h=>by obtain⟨_,_,_,rfl,_⟩:=h;rfl);exact#[_,gf.mono ∅,#[e1,e2,e3,e4,e5,e6,e7,e8,e9],l4,rfl,aY,rfl,rfl]
theorem lO(us:List U)(S:bI)(Q:KU)(E:KX)(h:DN f fR d us S Q E):us.length=1:=by
 obtain⟨_,rfl,_⟩:=h;rfl
theorem Qy{f:Tr->Bool}{fR:List Tr->Bool}{P:Prop}{us:List U}{S:bI}{Q:KU}{E:KX}(h:DN f fR 0 us S Q E):P:=by
 obtain⟨_,_,⟨_,_,h,_⟩|⟨_,_,h,_⟩⟩:=h
 .exact absurd h (iK _)
 .exact absurd h (iK _)
theorem qP(L:CH c T)(B:Base c T kx)(G:GS c T kx Γ j)(d:Nat)(hd:d<=100)(h1:Γ "_law_nothing"=zq d)(h2:Γ "_law_behind"=Cu d):∃Γ',GS c T kx Γ' (j+4)/\Γ' "_law_nothing"=zq (d+1)/\Γ' "_law_behind"=Cu (d+1):=by
 have g1:=L.be.up B G (Uk _ d hd h2 h1) (λus S Q E h=>by obtain⟨_,_,rfl,_⟩:=h;rfl);have g2:=L.no.up B g1 (Uj _ d h1) lO;exact#[_,g2,aY,rfl]
theorem UZ(L:CH c T)(B:Base c T kx)(G:GS c T kx Γ j):∃Γ',GS c T kx Γ' (j+100)/\Γ' "_law_mix"=tI.xE/\Γ' "_law_trees"=Qm/\Γ' "_law_text"=Qn/\Γ' "_law_sure"=Qf:=by
 have a1:=L.no.up B G (sp:=zq 0) (λus S Q E h=>Qy h) lO;have a2:=L.be.up B a1 (sp:=Cu 0) (λus S Q E h=>by
  obtain⟨_,_,_,⟨_,_,h,_⟩|⟨_,_,h,_⟩⟩:=h
  .exact absurd h (iK _)
  .exact absurd h (iK _)) (λus S Q E h=>by obtain⟨_,_,rfl,_⟩:=h;rfl)
 obtain⟨Γ1,G1,n1,b1⟩:=qP L B a2 0 ∅ rfl aY;obtain⟨Γ2,G2,n2,b2⟩:=qP L B G1 1 ∅ n1 b1;obtain⟨Γ3,G3,n3,b3⟩:=qP L B G2 2 ∅ n2 b2;obtain⟨Γ4,G4,n4,b4⟩:=qP L B G3 3 ∅ n3 b3;obtain⟨Γ5,G5,n5,b5⟩:=qP L B G4 4 ∅ n4 b4;have c1:=L.cell.up B G5 (sp:=tI.Cp) (tI.LK _) (λus S Q E h=>by obtain⟨_,_,rfl,_⟩:=h;rfl);have c2:=L.mix.up B c1 (sp:=tI.xE) (tI.Px _ aY) (λus S Q E h=>by obtain⟨_,_,rfl,_⟩:=h;rfl);have c3:=L.all.up B c2 (sp:=tI.Iu) (tI.Py _) (λus S Q E h=>by obtain⟨rfl,_⟩:=h;rfl);have c4:=L.sm.up B c3 (sp:=Md 0) (λus S Q E h=>by obtain⟨_,_,_,_,_,h,_⟩:=h;exact absurd h (iK _)) (λus S Q E h=>by obtain⟨_,_,_,rfl,_⟩:=h;rfl);have c5:=L.sm.up B c4 (IW _ 0 rfl rfl aY) (λus S Q E h=>by obtain⟨_,_,_,rfl,_⟩:=h;rfl);have c6:=L.sm.up B c5 (IW _ 1 rfl rfl aY) (λus S Q E h=>by obtain⟨_,_,_,rfl,_⟩:=h;rfl);have c7:=L.sm.up B c6 (IW _ 2 rfl rfl aY) (λus S Q E h=>by obtain⟨_,_,_,rfl,_⟩:=h;rfl);have c8:=L.tr.up B c7 (UO _ aY n5) (λus S Q E h=>by obtain⟨_,_,rfl,_⟩:=h;rfl);have c9:=L.tx.up B c8 (UP _ rfl) (λus S Q E h=>by obtain⟨_,_,_,rfl,_⟩:=h;rfl);have cc:=L.re.up B c9 (Ul _ b5) (λus S Q E h=>by obtain⟨_,_,_,_,_,_,rfl,_⟩:=h;rfl);have cd:=L.ed.up B cc (Um _ n5) (λus S Q E h=>by obtain⟨_,_,_,_,rfl,_⟩:=h;rfl);have ce:=L.tk.up B cd (Qa _ rfl aY) (λus S Q E h=>by obtain⟨_,_,_,_,rfl,_⟩:=h;rfl);have d0:=L.li.up B ce (sp:=DN live dk 0) (λus S Q E h=>Qy h) lO;have d1:=L.li.up B d0 (AQ _ 0 aY) lO;have d2:=L.li.up B d1 (AQ _ 1 aY) lO;have d3:=L.li.up B d2 (AQ _ 2 aY) lO;have d4:=L.li.up B d3 (AQ _ 3 aY) lO;have d5:=L.li.up B d4 (AQ _ 4 aY) lO;have f0:=L.mo.up B d5 (sp:=DN sI mB 0) (λus S Q E h=>Qy h) lO;have f1:=L.mo.up B f0 (AR _ 0 ∅ aY rfl) lO;have f2:=L.mo.up B f1 (AR _ 1 ∅ aY rfl) lO;have f3:=L.mo.up B f2 (AR _ 2 ∅ aY rfl) lO;have f4:=L.mo.up B f3 (AR _ 3 ∅ aY rfl) lO;have f5:=L.mo.up B f4 (AR _ 4 ∅ aY rfl) lO;have h1:=L.op.up B f5 (Up _ rfl aY) (λus S Q E h=>by obtain⟨_,_,_,rfl,_⟩:=h;rfl);have h2:=L.su.up B h1 (UA _ aY rfl) (λus S Q E h=>by obtain⟨_,_,_,_,_,rfl,_⟩:=h;rfl);exact#[_,h2.mono ∅,rfl,rfl,rfl,aY]
theorem zC(l:List String)(G1:GS c T kx Γ1 j)(G2:GS c T kx Γ2 j):GS c T kx (λx=>if x∈l then Γ1 x else Γ2 x) j:=#[G1.le,fX.mix G1.ok G2.ok λx=>by
 by_cases h:x∈l
 .exact .inl (if_pos h)
 .exact .inr (if_neg h)]
theorem Ja{xs qual:Str}{st:Stmt}{f:Addr}{fd:dQ}{N ps:List Str}(R:Fj c T)(W:Qx c T)(P:Mp c T)(L:CH c T)(F:BK c.K xs qual st f fd)(S:fV N ps (bc st))(tx:Jr T 60 #[(bc st).names,N,true] (dM st)=some PL.qT.Dj)(hm:N.length=ps.length+11)(hp:ps.length=1)(B:Base c T 1)(G:fX c T (λ_=>wb) 1):iI c.P c.w c.K c.mg c.base (pU c.P c.w) 200 f fd ps (lift c Ci):=by
 have G:GS c T 1 (λ_=>wb) 1:=#[ax _,G]
 obtain⟨Γr,Gr,-,hr,-⟩:=CC R B G;obtain⟨Γw,Gw,hw⟩:=UX R W B G;obtain⟨Γp,Gp,gp,pl,pi,pk,pt,pe⟩:=UY P B G;obtain⟨Γl,Gl,l1,l2,l3,l4⟩:=UZ L B G;obtain⟨e1,e2,e3,e4,e5,e6,e7,e8,e9⟩:=gp;have m1:=zC ["read"] Gr (Gp.mono (k:=1+130) ∅);have g1:=P.to.up B m1 (Uc _ hr) (λus S Q E h=>by obtain⟨_,_,_,_,rfl,_⟩:=h;rfl);have g2:=P.po.up B g1 (Ue _ e5 pl aY e6 e7 pi) (λus S Q E h=>by obtain⟨_,_,_,rfl,_⟩:=h;rfl);have g3:=P.lx.up B g2 (Uh _ aY) (λus S Q E h=>by obtain⟨_,_,_,_,rfl,_⟩:=h;rfl);have g4:=L.Zt.up B g3 (Uz _ pt pe) (λus S Q E h=>by obtain⟨_,_,_,_,_,_,_,_,_,rfl,_⟩:=h;rfl);have m2:=zC ["written"] (Gw.mono (k:=139) ∅) (g4.mono ∅);have m3:=zC ["_law_mix","_law_trees","_law_text","_law_sure"] (Gl.mono (k:=139) ∅) m2;have h:=MP F S B m3.le m3.ok tx (sp:=Ci) (Mh _ l1 l2 l3 hw rfl pk l4 rfl) hm (λus S Q E h=>by obtain⟨_,rfl,_⟩:=h;exact hp.symm);exact h.mono ∅
end
end L2
section
set_option autoImplicit false
namespace CI
open PySem PySem.Spec PyProof.Rows PySem.W L2
noncomputable def top(i:Nat):Stmt:=PySem.Challenge.pw_tokenwright_k12_whole_pieces.main.body.getD i (.Pass #[0,0,0,0])
noncomputable def rows:List wd:=
 #["in_order","in_order","",top 11,["signs"],["signs"],PL.mT]::
 #["all_but","all_but","",top 12,["signs"],["signs"],PL.oS]::
 #["is_ahead","is_ahead","",top 13,["one","other"],["one","other"],PL.mU]::
 #["stretch","stretch","",top 14,["first","last"],["first","last"],PL.oU]::
 #["read","read","",top 19,["text","reader","tree"],["text"],PL.yQ]::
 #["joined","joined","",top 20,["kind","trees"],["kind","trees"],PL.qz]::
 #["Reader.__init__","__init__","Reader",inClass (top 21) 0,["self","text"],["self","text"],PL.jd]::
 #["Reader.sees","sees","Reader",inClass (top 21) 1,["self","signs"],["self","signs"],PL.je]::
 #["Reader.passes","passes","Reader",inClass (top 21) 2,["self","signs"],["self","signs"],PL.ik]::
 #["Reader.choice","choice","Reader",inClass (top 21) 3,["self","trees"],["self"],PL.iq]::
 #["Reader.row","row","Reader",inClass (top 21) 4,["self","trees"],["self"],PL.jV]::
 #["Reader.repeat","repeat","Reader",inClass (top 21) 5,["self","tree"],["self"],PL.ir]::
 #["Reader.atom","atom","Reader",inClass (top 21) 6,["self"],["self"],PL.jf]::
 #["Reader.bracket","bracket","Reader",inClass (top 21) 7,["self","tree"],["self"],PL.gG]::
 #["Reader.sign_class","sign_class","Reader",inClass (top 21) 8,["self","turned","taken"],["self"],PL.eR]::
 #["Reader.item","item","Reader",inClass (top 21) 9,["self","first","second_at","second"],["self"],PL.jh]::
 #["Reader.written_sign","written_sign","Reader",inClass (top 21) 10,["self","marked","sign"],["self","marked"],PL.dN]::
 #["written","written","",top 42,["tree"],["tree"],PL.oV]::
 #["row_text","row_text","",top 43,["tree"],["tree"],PL.mV]::
 #["repeat_text","repeat_text","",top 44,["tree","marks","inner"],["tree"],PL.ji]::
 #["atom_text","atom_text","",top 45,["tree"],["tree"],PL.k9]::
 #["place_text","place_text","",top 46,["signs"],["signs"],PL.jW]::
 #["sign_text","sign_text","",top 47,["sign","marked"],["sign","marked"],PL.lg]::
 #["class_texts","class_texts","",top 48,["signs","texts"],["signs"],PL.jj]::
 #["guarded","guarded","",top 49,["items"],["items"],PL.oW]::
 #["class_items","class_items","",top 50,["signs","items","run"],["signs"],PL.jk]::
 #["runs","runs","",top 51,["signs","found","run","sign"],["signs"],PL.yR]::
 #["run_items","run_items","",top 52,["run","singles","whole"],["run"],PL.lh]::
 #["places_of","places_of","",top 25,["rules","most","layout","number","rule","part"],["rules","most"],PL.jL.lu]::
 #["tree_of","tree_of","",top 26,["rule","number","fault"],["rule","number"],PL.jL.oX]::
 #["members","members","",top 27,["bits"],["bits"],PL.jL.oY]::
 #["Part.__init__","__init__","Part",inClass (top 28) 0,["self","empty","firsts","lasts"],["self","empty","firsts","lasts"],PL.jL.ly]::
 #["one_behind_other","one_behind_other","",top 29,["one","other","firsts","lasts"],["one","other"],PL.jL.fB]::
 #["one_or_other","one_or_other","",top 30,["one","other"],["one","other"],PL.jL.iP]::
 #["Layout.__init__","__init__","Layout",inClass (top 31) 0,["self"],["self"],PL.jL.jm]::
 #["Layout.how_many","how_many","Layout",inClass (top 31) 1,["self"],["self"],PL.jL.fW]::
 #["Layout.close_rule","close_rule","Layout",inClass (top 31) 2,["self","part"],["self","part"],PL.jL.eS]::
 #["Layout.link","link","Layout",inClass (top 31) 3,["self","lasts","firsts","place"],["self","lasts","firsts"],PL.jL.jo]::
 #["Layout.lay","lay","Layout",inClass (top 31) 4,["self","tree"],["self","tree"],PL.jL.jX]::
 #["Layout.lay_place","lay_place","Layout",inClass (top 31) 5,["self","signs","place"],["self","signs"],PL.jL.fD]::
 #["Layout.lay_row","lay_row","Layout",inClass (top 31) 6,["self","trees","whole","tree","part"],["self","trees"],PL.jL.gH]::
 #["Layout.lay_choice","lay_choice","Layout",inClass (top 31) 7,["self","trees","whole","tree"],["self","trees"],PL.jL.eT]::
 #["Layout.lay_repeat","lay_repeat","Layout",inClass (top 31) 8,["self","tree","marks","inner","part","empty"],["self","tree"],PL.jL.eU]::
 #["useful_places","useful_places","",top 32,["layout","takes_some","grown","lasts","useful","place"],["layout"],PL.jL.iu]::
 #["places_that_take","places_that_take","",top 33,["layout","sign"],["layout","sign"],PL.jL.fE]::
 #["Places.__init__","__init__","Places",inClass (top 34) 0,["self","layout","useful"],["self","layout"],PL.jL.jq]::
 #["Places.beyond","beyond","Places",inClass (top 34) 1,["self","held","reached","place"],["self","held"],PL.jL.iw]::
 #["Places.first_rule","first_rule","Places",inClass (top 34) 2,["self","held","number","lasts"],["self","held"],PL.jL.eV]::
 #["Walk.__init__","__init__","Walk",inClass (top 37) 0,["self","places"],["self","places"],PL.jL.lz]::
 #["Walk.may_go_on","may_go_on","Walk",inClass (top 37) 1,["self"],["self"],PL.jL.gI]::
 #["Walk.along","along","Walk",inClass (top 37) 2,["self","text"],["self","text"],PL.jL.jY]::
 #["Walk.step","step","Walk",inClass (top 37) 3,["self","sign","held","rule"],["self","sign"],PL.jL.lA]::
 #["Lexer.__init__","__init__","Lexer",inClass (top 38) 0,["self","rules"],["self","rules"],PL.jL.jZ]::
 #["Cutter.__init__","__init__","Cutter",inClass (top 39) 0,["self","lexer"],["self","lexer"],PL.qT.js]::
 #["Cutter.take","take","Cutter",inClass (top 39) 1,["self","piece"],["self","piece"],PL.qT.jt]::
 #["Cutter.end","end","Cutter",inClass (top 39) 2,["self"],["self"],PL.qT.j9]::
 #["Cutter.sure_tokens","sure_tokens","Cutter",inClass (top 39) 3,["self","ended","told","size"],["self","ended"],PL.qT.d7]::
 #["Cutter.next_is_sure","next_is_sure","Cutter",inClass (top 39) 4,["self","ended"],["self","ended"],PL.qT.dP]::
 #["Cutter.pass_over","pass_over","Cutter",inClass (top 39) 5,["self","size"],["self","size"],PL.qT.fF]::
 #["_law_cell","_law_cell","",top 54,["_law_script","_law_k"],["_law_script","_law_k"],PL.tI.lj]::
 #["_law_mix","_law_mix","",top 55,["_law_script","_law_k","_law_number"],["_law_script","_law_k"],PL.tI.mW]::
 #["_law_all","_law_all","",top 58,["_law_low"],[],PL.tI.mX]::
 #["_law_nothing","_law_nothing","",top 59,["_law_tree"],["_law_tree"],PL.jL.iQ]::
 #["_law_behind","_law_behind","",top 60,["_law_tree","_law_sign","_law_found","_law_part","_law_k","_law_more_here"],["_law_tree","_law_sign"],PL.jL.jr]::
 #["_law_rests","_law_rests","",top 61,["_law_rows","_law_sign","_law_found","_law_row","_law_rest"],["_law_rows","_law_sign"],PL.jL.j0]::
 #["_law_ends","_law_ends","",top 62,["_law_rows"],["_law_rows"],PL.jL.om]::
 #["_law_token","_law_token","",top 66,["_law_trees_here","_law_text_here","_law_at","_law_found","_law_rows","_law_size","_law_good"],["_law_trees_here","_law_text_here","_law_at"],PL.jL.j6]::
 #["_law_small","_law_small","",top 68,["_law_script","_law_base","_law_deep","_law_number","_law_way","_law_parts"],["_law_script","_law_base","_law_deep"],PL.jL.j7]::
 #["_law_trees","_law_trees","",top 69,["_law_script","_law_base","_law_many","_law_deep","_law_found","_law_k","_law_tree"],["_law_script","_law_base","_law_many","_law_deep"],PL.jL.j8]::
 #["_law_text","_law_text","",top 70,["_law_script","_law_base","_law_many"],["_law_script","_law_base","_law_many"],PL.jL.lB]::
 #["_law_lives","_law_lives","",top 63,["_law_tree"],["_law_tree"],PL.qT.kb]::
 #["_law_more","_law_more","",top 64,["_law_tree"],["_law_tree"],PL.qT.lC]::
 #["_law_open","_law_open","",top 67,["_law_trees_here","_law_text_here","_law_rows","_law_sign"],["_law_trees_here","_law_text_here"],PL.qT.lD]::
 #["_law_asked","_law_asked","",top 71,["_law_cutter","_law_piece","_law_found","_law_place","e"],["_law_cutter","_law_piece"],PL.qT.ke]::
 #["_law_sure","_law_sure","",top 72,["_law_trees_here","_law_text_here","_law_past","_law_last","_law_found","_law_one_here"],["_law_trees_here","_law_text_here","_law_past","_law_last"],PL.qT.lE]::[]
noncomputable def T:Tab where
 const:=[("SIGNS",.str PL.SG),("MARKED_OUTSIDE",.str [46,124,40,41,91,93,42,43,63,92]),("MARKED_WITHIN",.str [93,45,92]),("DEEPEST",.int 6),("REPEATS",.tab [([42],[115,116,97,114]),([43],[112,108,117,115]),([63],[109,97,121,98,101])]),("BEHIND_BACKSLASH",.str [46,124,40,41,91,93,42,43,63,92,45,94,110]),("MOST_RULES",.int 6),("AHEAD",.int 1),("MOST_PLACES",.int 24),("MARKS",.tab [([115,116,97,114],[42]),([112,108,117,115],[43]),([109,97,121,98,101],[63])])]
 fns:=I0 rows
 pX:=["Reader","Part","Layout","Places","Walk","Lexer","Cutter"]
 pY:=I9 rows
 uO:=["text","at","depth","rule","empty","firsts","lasts","signs","behind","ends","takers","places","reach","passed","found","rest","walk"]
 yS:=["TokenError","BadRule","TakesNothing","TooMany","NoToken"]
 fL:=["len","tuple","list","int","bool","dict","sum","min","all","any","isinstance","range","enumerate","ValueError"]
theorem Xt:rows.all Fl=true:=by decide +kernel
theorem Xu:rows.all (Qt T)=true:=by decide +kernel
theorem Xv:rows.map (λr=>Jr T 60 #[(bc r.st).names,r.N,true] (dM r.st))=rows.map λr=>some r.b:=by kernel_rfl
theorem U0:∀r∈rows,zA r:=by
 unfold rows
 repeat' refine az.mpr #[?_,?_]
 all_goals first|exact λ_ h=>(bP h).elim|exact Zn rfl λ_ _ _ _ _ _ _ _ _=>rfl|exact Zo rfl λ_ _ _ _ _ _ _ _ _ _=>rfl|exact Zp rfl λ_ _ _ _ _ _ _ _ _ _ _=>rfl|exact Zm rfl λ_ _ _ _ _ _ _ _=>rfl|exact Zq rfl λ_ _ _ _ _ _ _ _ _ _ _ _=>rfl
noncomputable abbrev sL:Stmt:=top 73
theorem Qz:fV ["_law_script","_law_trees_here","_law_text_here","_law_cutter","_law_past","_law_come","_law_wrong","_law_k","_law_size","_law_piece","_law_due","_law_found"] ["_law_script"] (bc sL):=#[rfl,rfl,rfl,by decide +kernel,rfl,by decide +kernel,by decide +kernel]
theorem QC:Jr T 60 #[(bc sL).names,["_law_script","_law_trees_here","_law_text_here","_law_cutter","_law_past","_law_come","_law_wrong","_law_k","_law_size","_law_piece","_law_due","_law_found"],true] (dM sL)=some PL.qT.Dj:=by kernel_rfl
noncomputable abbrev xT:Stmt:=inClass (top 3) 0
theorem CJ:fV ["self","rule","at"] ["self","rule","at"] (bc xT):=#[rfl,rfl,rfl,by decide +kernel,rfl,by decide +kernel,by decide +kernel]
noncomputable abbrev oE:Stmt:=inClass (top 4) 0
theorem tf:fV ["self","rule"] ["self","rule"] (bc oE):=#[rfl,rfl,rfl,by decide +kernel,rfl,by decide +kernel,by decide +kernel]
noncomputable abbrev xU:Stmt:=inClass (top 5) 0
theorem CK:fV ["self","rule"] ["self","rule"] (bc xU):=#[rfl,rfl,rfl,by decide +kernel,rfl,by decide +kernel,by decide +kernel]
noncomputable abbrev xV:Stmt:=inClass (top 6) 0
theorem CM:fV ["self","at"] ["self","at"] (bc xV):=#[rfl,rfl,rfl,by decide +kernel,rfl,by decide +kernel,by decide +kernel]
end CI
end
section
set_option autoImplicit true
namespace CI
open PySem PySem.Spec PyProof.Rows PySem.W L2
theorem all_mk{l:FU}{w:bZ}{K:Frag}{h:Heap}{mg:Str->Option Value}{fa:Addr}(X:K.In h)(G:h.Ns bu mg)(hfa:mg "law"=some (.ref fa))
  (a_law:nsIn K bu "law"=some (some (.ref fl)))
  (f_law:vz K "law" "law" sL fl)
  (hC:∀p∈([("Reader",C_Reader),("Part",C_Part),("Layout",C_Layout),("Places",C_Places),("Walk",C_Walk),("Lexer",C_Lexer),("Cutter",C_Cutter)]:List (String×Addr)),Mm K p T.uO)
  (hR:∀r∈rows,AY K [("Reader",C_Reader),("Part",C_Part),("Layout",C_Layout),("Places",C_Places),("Walk",C_Walk),("Lexer",C_Lexer),("Cutter",C_Cutter)] r)
  (hE:Xs K T.uO [("TokenError",X_TokenError,b_TokenError),("BadRule",X_BadRule,b_BadRule),("TakesNothing",X_TakesNothing,b_TakesNothing),("TooMany",X_TooMany,b_TooMany),("NoToken",X_NoToken,b_NoToken)])
  (k_BadRule:lR K (.ref X_BadRule)=true)
  (a_BadRule:iA K (.ref X_BadRule) "__init__"=some (some (.ref f_BadRule)))
  (i_BadRule:isFn K (.ref f_BadRule)=true)
  (f_BadRule:vz K "__init__" "BadRule.__init__" xT f_BadRule)
  (k_TakesNothing:lR K (.ref X_TakesNothing)=true)
  (a_TakesNothing:iA K (.ref X_TakesNothing) "__init__"=some (some (.ref f_TakesNothing)))
  (i_TakesNothing:isFn K (.ref f_TakesNothing)=true)
  (f_TakesNothing:vz K "__init__" "TakesNothing.__init__" oE f_TakesNothing)
  (k_TooMany:lR K (.ref X_TooMany)=true)
  (a_TooMany:iA K (.ref X_TooMany) "__init__"=some (some (.ref f_TooMany)))
  (i_TooMany:isFn K (.ref f_TooMany)=true)
  (f_TooMany:vz K "__init__" "TooMany.__init__" xU f_TooMany)
  (k_NoToken:lR K (.ref X_NoToken)=true)
  (a_NoToken:iA K (.ref X_NoToken) "__init__"=some (some (.ref f_NoToken)))
  (i_NoToken:isFn K (.ref f_NoToken)=true)
  (f_NoToken:vz K "__init__" "NoToken.__init__" xV f_NoToken)
  (a_SIGNS:nsIn K bu "SIGNS"=some (some (.str z_SIGNS t_SIGNS)))
  (e_SIGNS:z_SIGNS=tx PL.SG)
  (a_MARKED_OUTSIDE:nsIn K bu "MARKED_OUTSIDE"=some (some (.str z_MARKED_OUTSIDE t_MARKED_OUTSIDE)))
  (e_MARKED_OUTSIDE:z_MARKED_OUTSIDE=tx [46,124,40,41,91,93,42,43,63,92])
  (a_MARKED_WITHIN:nsIn K bu "MARKED_WITHIN"=some (some (.str z_MARKED_WITHIN t_MARKED_WITHIN)))
  (e_MARKED_WITHIN:z_MARKED_WITHIN=tx [93,45,92])
  (a_DEEPEST:nsIn K bu "DEEPEST"=some (some (.int 6 t_DEEPEST)))
  (a_REPEATS:nsIn K bu "REPEATS"=some (some (.ref r_REPEATS)))
  (l_REPEATS:K.lookup r_REPEATS=some #[.type "dict",none,.dict es_REPEATS ec_REPEATS,#[]])
  (kl_REPEATS:A8 w.params es_REPEATS.toList)
  (ky_REPEATS:es_REPEATS.toList.map (λe=>Fm e.key)= [some ("*":Str),some ("+":Str),some ("?":Str)])
  (sm_REPEATS:(r_REPEATS==dE)=false)
  (r_REPEATS0:nsIn K r_REPEATS "*"=some (some (.str z_REPEATS0 t_REPEATS0)))
  (re_REPEATS0:z_REPEATS0=tx [115,116,97,114])
  (r_REPEATS1:nsIn K r_REPEATS "+"=some (some (.str z_REPEATS1 t_REPEATS1)))
  (re_REPEATS1:z_REPEATS1=tx [112,108,117,115])
  (r_REPEATS2:nsIn K r_REPEATS "?"=some (some (.str z_REPEATS2 t_REPEATS2)))
  (re_REPEATS2:z_REPEATS2=tx [109,97,121,98,101])
  (a_BEHIND_BACKSLASH:nsIn K bu "BEHIND_BACKSLASH"=some (some (.str z_BEHIND_BACKSLASH t_BEHIND_BACKSLASH)))
  (e_BEHIND_BACKSLASH:z_BEHIND_BACKSLASH=tx [46,124,40,41,91,93,42,43,63,92,45,94,110])
  (a_MOST_RULES:nsIn K bu "MOST_RULES"=some (some (.int 6 t_MOST_RULES)))
  (a_AHEAD:nsIn K bu "AHEAD"=some (some (.int 1 t_AHEAD)))
  (a_MOST_PLACES:nsIn K bu "MOST_PLACES"=some (some (.int 24 t_MOST_PLACES)))
  (a_MARKS:nsIn K bu "MARKS"=some (some (.ref r_MARKS)))
  (l_MARKS:K.lookup r_MARKS=some #[.type "dict",none,.dict es_MARKS ec_MARKS,#[]])
  (kl_MARKS:A8 w.params es_MARKS.toList)
  (ky_MARKS:es_MARKS.toList.map (λe=>Fm e.key)= [some ("star":Str),some ("plus":Str),some ("maybe":Str)])
  (sm_MARKS:(r_MARKS==dE)=false)
  (r_MARKS0:nsIn K r_MARKS "star"=some (some (.str z_MARKS0 t_MARKS0)))
  (re_MARKS0:z_MARKS0=tx [42])
  (r_MARKS1:nsIn K r_MARKS "plus"=some (some (.str z_MARKS1 t_MARKS1)))
  (re_MARKS1:z_MARKS1=tx [43])
  (r_MARKS2:nsIn K r_MARKS "maybe"=some (some (.str z_MARKS2 t_MARKS2)))
  (re_MARKS2:z_MARKS2=tx [63])
  (hz:∀b∈T.fL,nsIn K bu (b8 b)=some none)
  : ∃fd:dQ,(∀(s:ak)(v:Value),A3 s fd #[[v],[]] [("_law_script",v)])/\∀base:Heap,K.In base->base.Ns bu mg->iI l.prog w K mg base (pU l.prog w) 200 fa fd ["_law_script"] (y0 K):=by
 have e:=hfa.symm.trans (kR X G a_law);cases e;obtain⟨oc,od,kV,dc,pm,an,cd,ct,sl,h1,h2,h3⟩:=f_law;refine#[fnOf "law" "law" (jU sL) (dM sL) (bc sL) .none kV dc pm an cd ct,λs v=>.of_eq rfl,λbase _ _=>?_]
 let c:L2.Ctx:=#[l.prog,w,K,mg,base,λx=>([("Reader",C_Reader),("Part",C_Part),("Layout",C_Layout),("Places",C_Places),("Walk",C_Walk),("Lexer",C_Lexer),("Cutter",C_Cutter)]:List (String×Addr)).lookup x,zB [("TokenError",X_TokenError,b_TokenError),("BadRule",X_BadRule,b_BadRule),("TakesNothing",X_TakesNothing,b_TakesNothing),("TooMany",X_TooMany,b_TooMany),("NoToken",X_NoToken,b_NoToken)]]
 have hT:Dr c T:=by
  refine#[?_,λx hx=>mg_none_of X G (hz x hx),Qv rfl hC,hE.exc,hE.WX,hE.WY,?_]
  .exact(az.mpr #[tV (kR X G a_SIGNS) e_SIGNS,(az.mpr #[tV (kR X G a_MARKED_OUTSIDE) e_MARKED_OUTSIDE,(az.mpr #[tV (kR X G a_MARKED_WITHIN) e_MARKED_WITHIN,(az.mpr #[#[.int 6,_,kR X G a_DEEPEST,#[t_DEEPEST,rfl],λ_ _=>aN.mpr rfl],(az.mpr #[UW (kR X G a_REPEATS) l_REPEATS kl_REPEATS ky_REPEATS sm_REPEATS (by kernel_rfl:("*":Str)=tx [42]) (by kernel_rfl:("+":Str)=tx [43]) (by kernel_rfl:("?":Str)=tx [63]) r_REPEATS0 re_REPEATS0 r_REPEATS1 re_REPEATS1 r_REPEATS2 re_REPEATS2,(az.mpr #[tV (kR X G a_BEHIND_BACKSLASH) e_BEHIND_BACKSLASH,(az.mpr #[#[.int 6,_,kR X G a_MOST_RULES,#[t_MOST_RULES,rfl],λ_ _=>aN.mpr rfl],(az.mpr #[#[.int 1,_,kR X G a_AHEAD,#[t_AHEAD,rfl],λ_ _=>aN.mpr rfl],(az.mpr #[#[.int 24,_,kR X G a_MOST_PLACES,#[t_MOST_PLACES,rfl],λ_ _=>aN.mpr rfl],(az.mpr #[UW (kR X G a_MARKS) l_MARKS kl_MARKS ky_MARKS sm_MARKS (by kernel_rfl:("star":Str)=tx [115,116,97,114]) (by kernel_rfl:("plus":Str)=tx [112,108,117,115]) (by kernel_rfl:("maybe":Str)=tx [109,97,121,98,101]) r_MARKS0 re_MARKS0 r_MARKS1 re_MARKS1 r_MARKS2 re_MARKS2,(λ_ h=>(bP h).elim)])])])])])])])])])])
  .exact(az.mpr #[#[X_TokenError,rfl,kR X G (hE.ns rfl)],(az.mpr #[#[X_BadRule,rfl,kR X G (hE.ns rfl)],(az.mpr #[#[X_TakesNothing,rfl,kR X G (hE.ns rfl)],(az.mpr #[#[X_TooMany,rfl,kR X G (hE.ns rfl)],(az.mpr #[#[X_NoToken,rfl,kR X G (hE.ns rfl)],(λ_ h=>(bP h).elim)])])])])])
 have x_BadRule:pI c 1 "BadRule":=Vu (EA:=[("TokenError",X_TokenError,b_TokenError),("BadRule",X_BadRule,b_BadRule),("TakesNothing",X_TakesNothing,b_TakesNothing),("TooMany",X_TooMany,b_TooMany),("NoToken",X_NoToken,b_NoToken)]) rfl k_BadRule a_BadRule i_BadRule f_BadRule (ps:=["self","rule","at"]) (λ_ _ _ _ _ _ _ _ us hl=>match us,hl with|[_,_,_],_=>rfl) ⋯ λfd F=>Td F CJ rfl (hE.exc "BadRule" _ rfl).1 ((hE.exc "BadRule" _ rfl).2.2.2 "rule" ⋯) ((hE.exc "BadRule" _ rfl).2.2.2 "at" ⋯) (by decide +kernel) (si (by decide +kernel)) (si (by decide +kernel)) (si (by decide +kernel)) (by decide +kernel) (by decide +kernel) (by decide +kernel) (by decide +kernel) (by decide +kernel) (by decide +kernel)
 have x_TakesNothing:pI c 1 "TakesNothing":=Vu (EA:=[("TokenError",X_TokenError,b_TokenError),("BadRule",X_BadRule,b_BadRule),("TakesNothing",X_TakesNothing,b_TakesNothing),("TooMany",X_TooMany,b_TooMany),("NoToken",X_NoToken,b_NoToken)]) rfl k_TakesNothing a_TakesNothing i_TakesNothing f_TakesNothing (ps:=["self","rule"]) (λ_ _ _ _ _ _ _ _ us hl=>match us,hl with|[_,_],_=>rfl) ⋯ λfd F=>H8 F tf rfl (hE.exc "TakesNothing" _ rfl).1 ((hE.exc "TakesNothing" _ rfl).2.2.2 "rule" ⋯) (si (by decide +kernel)) (si (by decide +kernel)) (by decide +kernel) (by decide +kernel) (by decide +kernel) (by decide +kernel)
 have x_TooMany:pI c 1 "TooMany":=Vu (EA:=[("TokenError",X_TokenError,b_TokenError),("BadRule",X_BadRule,b_BadRule),("TakesNothing",X_TakesNothing,b_TakesNothing),("TooMany",X_TooMany,b_TooMany),("NoToken",X_NoToken,b_NoToken)]) rfl k_TooMany a_TooMany i_TooMany f_TooMany (ps:=["self","rule"]) (λ_ _ _ _ _ _ _ _ us hl=>match us,hl with|[_,_],_=>rfl) ⋯ λfd F=>H8 F CK rfl (hE.exc "TooMany" _ rfl).1 ((hE.exc "TooMany" _ rfl).2.2.2 "rule" ⋯) (si (by decide +kernel)) (si (by decide +kernel)) (by decide +kernel) (by decide +kernel) (by decide +kernel) (by decide +kernel)
 have x_NoToken:pI c 1 "NoToken":=Vu (EA:=[("TokenError",X_TokenError,b_TokenError),("BadRule",X_BadRule,b_BadRule),("TakesNothing",X_TakesNothing,b_TakesNothing),("TooMany",X_TooMany,b_TooMany),("NoToken",X_NoToken,b_NoToken)]) rfl k_NoToken a_NoToken i_NoToken f_NoToken (ps:=["self","at"]) (λ_ _ _ _ _ _ _ _ us hl=>match us,hl with|[_,_],_=>rfl) ⋯ λfd F=>H8 F CM rfl (hE.exc "NoToken" _ rfl).1 ((hE.exc "NoToken" _ rfl).2.2.2 "at" ⋯) (si (by decide +kernel)) (si (by decide +kernel)) (by decide +kernel) (by decide +kernel) (by decide +kernel) (by decide +kernel)
 have hB:Base c T 1:=by
  refine#[hT,?_,hE.up];exact(az.mpr #[λh=>absurd rfl h,(az.mpr #[λ_=>x_BadRule,(az.mpr #[λ_=>x_TakesNothing,(az.mpr #[λ_=>x_TooMany,(az.mpr #[λ_=>x_NoToken,(λ_ h=>(bP h).elim)])])])])])
 have G0:fX c T (λ_=>wb) 1:=Qu X G rfl hC hR U0 rfl rfl (az.mpr #[#[rows[6],bH _,rfl,rfl,rfl],(az.mpr #[#[rows[31],bH _,rfl,rfl,rfl],(az.mpr #[#[rows[34],bH _,rfl,rfl,rfl],(az.mpr #[#[rows[45],bH _,rfl,rfl,rfl],(az.mpr #[#[rows[48],bH _,rfl,rfl,rfl],(az.mpr #[#[rows[52],bH _,rfl,rfl,rfl],(az.mpr #[#[rows[53],bH _,rfl,rfl,rfl],(λ_ h=>(bP h).elim)])])])])])])]);have R:=Mn (c:=c) X G rfl hC hR U0 Xt Xu Xv;exact Ly (Ja #[R 0 _ rfl,R 1 _ rfl,R 2 _ rfl,R 3 _ rfl,R 4 _ rfl,R 5 _ rfl,R 6 _ rfl,R 7 _ rfl,R 8 _ rfl,R 9 _ rfl,R 10 _ rfl,R 11 _ rfl,R 12 _ rfl,R 13 _ rfl,R 14 _ rfl,R 15 _ rfl,R 16 _ rfl] #[R 17 _ rfl,R 18 _ rfl,R 19 _ rfl,R 20 _ rfl,R 21 _ rfl,R 22 _ rfl,R 23 _ rfl,R 24 _ rfl,R 25 _ rfl,R 26 _ rfl,R 27 _ rfl] #[R 28 _ rfl,R 29 _ rfl,R 30 _ rfl,R 31 _ rfl,R 32 _ rfl,R 33 _ rfl,R 34 _ rfl,R 35 _ rfl,R 36 _ rfl,R 37 _ rfl,R 38 _ rfl,R 39 _ rfl,R 40 _ rfl,R 41 _ rfl,R 42 _ rfl,R 43 _ rfl,R 44 _ rfl,R 45 _ rfl,R 46 _ rfl,R 47 _ rfl,R 48 _ rfl,R 49 _ rfl,R 50 _ rfl,R 51 _ rfl,R 52 _ rfl,R 53 _ rfl,R 54 _ rfl,R 55 _ rfl,R 56 _ rfl,R 57 _ rfl,R 58 _ rfl] #[R 59 _ rfl,R 60 _ rfl,R 61 _ rfl,R 62 _ rfl,R 63 _ rfl,R 64 _ rfl,R 65 _ rfl,R 66 _ rfl,R 67 _ rfl,R 68 _ rfl,R 69 _ rfl,R 70 _ rfl,R 71 _ rfl,R 72 _ rfl,R 73 _ rfl,R 74 _ rfl] (Gu h1 h2 h3) Qz QC rfl rfl hB G0)
theorem walk{l:FU}{q:bC}{loose:List Str}{XP:(Str->Option Value)->Heap->Prop}{YP:bZ->Heap->Prop}{d:DefRec}{K:FR->Frag}(hn:l.most=some 63)(hdf:d.params.defaults=[])
  (hY:∀(w:bZ)(h:Heap),YP w h->(K w.params).In h)
  (F:∀(w:bZ)(mg:Str->Option Value)(fa:Addr)(h:Heap),(K w.params).In h->h.Ns bu mg->mg d.name=some (.ref fa) ->
   ∃fd:dQ,(∀(s:ak)(u:Value),A3 s fd #[[u],[]] [("_law_script",u)])/\∀base:Heap,(K w.params).In base->base.Ns bu mg->iI l.prog w (K w.params) mg base (pU l.prog w) 200 fa fd ["_law_script"] (y0 (K w.params))):
  WalkO q loose XP YP l.row.toRowW d [] (λf vs=>D3 f vs):=
 L2.Ki (n:=63) (k:=200) (x:="_law_script") (CX:=λw=>pU l.prog w) (sp:=λw=>y0 (K w.params)) hn ⋯ hdf #[rfl,⋯,⋯] hY F (λ_ _ a ns hl o hS=>#[a,ns,rfl,hl,Ia o hS,λ_=>rfl]) λ_ _ _ _ _ z=>Pn z
end CI
end
end
section
structure PySem.W.Fast:Prop where(tw15516639872087289992 tw4717101730777738742 tw17156083941682103000 tw7341212159990151790 tw8880891781028464398 tw10643352214816247272 tw11287072517103446273 tw2400512356872234532 tw5983970888535700599 tw2559682482036506355 tw1871246254792213129 tw16946310882390814704 tw3787779984776211799 tw8666348935912407203 tw15515658266363577161 tw16959579490566962672 tw9987453696604620451 tw3628615352240009736 tw9114730991390185500 tw10441891818978727112 tw16603334006846796633 tw10169938007152787930 tw4359537765365223321 tw11123151553581920069 tw4537922102791603543 tw9767447635694763539 tw4331618429104798098 tw14386546008276183040 tw13441372932399989795 tw13005964995752047468 tw11887894690405387387 tw8843190160033646991 tw12482932530635787629 tw3356599460982581162 tw2065425506488961353 tw18176411803077620916 tw1056255686006436053 tw16858973760773139831 tw7707071117058231033 tw8856444325531514839 tw2986263890193868579 tw4937795756397745405 tw7623945252581907503 tw5807587187103680553 tw8458861785639507359 tw1208778589104494316 tw6480365314918077685 tw18034072160913512837 tw12132418328292876975 tw7523124952878349157 tw4588192483537962255 tw5818816709864387664 tw18205622775181274505 tw3439797662824571027 tw12823581317521879735 tw6571742879183487089 tw14422436810733732347 tw4550426222895209123 tw2861280336357130255 tw6236875093147992690 tw11708100446606116276 tw17319400052804178060 tw11548538783270776722 tw406099267062181029 tw1232967279561899244 tw12123779515603489261 tw9589795899734731898 tw9165783805414184897 tw15105419842062935916 tw13855792922841304290 tw10634740510341184352 tw4384355220976683808 tw3732157728619817358 tw10622137586393451064 tw864450090841093593 tw18058329733858577903 tw14727285935188466877 tw10324929481730221378 tw4604268627751774627 tw8253666858569467251 tw9801221263386363641 tw2614480244715807232 tw1846289833248766089 tw7442574638802679680 tw3935767720493215123 tw5310369487100725655 tw8805177432125639726 tw11576475419637586964 tw807800452951355399 tw10616547087053884142 tw338279213484322862 tw5570534683123574803 tw4165650807977044570 tw6099156026763208747 tw11586105503032965692 tw15841051070954529847 tw10742470701221824466 tw15805052389043009768 tw7132650183779493256 tw13826996289225854139 tw18221099289529474782 tw12588766924654029135 tw13582292733941139448 tw14227651869817010574 tw12147389355274633121 tw1678906918333444405 tw9887217183629822588 tw7402549307644767677 tw1100906574853588771 tw6354236366990982996 tw8919287463066216468 tw10932441723362784376 tw7903279575615586022 tw14090351793762482653 tw4335047151415982234 tw3270245304585265909 tw1348246281430968362 tw11998660513074927304 tw4207275427928325922 tw3618291428175195162 tw14844312308128623504 tw498496841187069063 tw7377470432851332977 tw5594450721311487184 tw11956794163685677196 tw1849123142670069667 tw10005636362649921013 tw11109452481865631611 tw15969900301586653154 tw1111027655920824524 tw4190179159373666790 tw14784158113358301051 tw2682266843202467953 tw8233519818432559869 tw6640998584651364352 tw10823155321027536142 tw13785105171591430378 tw60520954207393145 tw12369295637031625693 tw2751319217106392906 tw11366684357587941334 tw8813966200761670578 tw1058139550707931004 tw8909204067026959706 tw6301933136493389296 tw13680142108834838647 tw7058585560968943933 tw14015464102564226696 tw11727825900260276289 tw12920316651921739315 tw1967941519652509668 tw9931271587006712521 tw751290403850855075 tw16279253209760174910 tw15185735922794547032 tw17459293507290253735 tw12541594613982322448 tw7169644100214979198 tw6506717522027957856 tw1054802638798452890 tw11363357759549510397 tw16052086667739207904 tw702059977989348513 tw9044304468035386349 tw12190630415922758527 tw17979383117726311879 tw12747663190408504986 tw14882391470772847232 tw16838081537180834215 tw8767756181083679520 tw17548304960970570659 tw1235206739708239597 tw11267449807202690867 tw14464091979650044171 tw3865662608805550257 tw15510305765949066183 tw13965832966517749713 tw5230220654122055424 tw5551731420182498282 tw3792121053690090637 tw12927967501472695319 tw14822952884141086251 tw8702564431999211944 tw6040550838582536071 tw4249435050876508578 tw3679942233735170779 tw14137486343899315816 tw10036280889299123279 tw2626211298047105136 tw5879150361419347971 tw11181111798012436502 tw7266846259993728504 tw8820252389710351948 tw261794352045239292 tw11654498033386286050 tw9505923783198527949 tw13784248880359562718 tw1340088861221106396 tw13443864262273302038 tw10169621163812463622 tw3731160615129827128 tw1611410172869589797 tw9754008252615803493 tw1176666596194888219 tw11542835813364007196 tw10120147393324973210 tw4464775222648470951 tw9296954779512378698 tw15491740759723245542 tw6209348146617777845 tw7049053804104391356 tw11079067445565344938 tw13796206637659915924 tw8559379895799757310 tw8910139301008795261 tw5562277700480684958 tw2760132150162210213 tw17370782635340521811 tw591589513473983953 tw2542915495002302991 tw11479181742975992575 tw3947187790848316598 tw14266619289680997086 tw18298258803013983899 tw10607463558420148651 tw4509197975034629971 tw6340412145079591627 tw9929310660041714727 tw14458243818186192510 tw272663361131533823 tw12135453518569900764 tw8791564046239117441 tw8388038937019413274 tw17519105414226400178 tw7706368884824182667 tw235891380704812971 tw17142704074446082352 tw6454122089438430882 tw10370103577757697364 tw11747603835613198595 tw14163322876526722895 tw502243725877604877 tw1266183669473772002 tw4000031319728622444 tw14288697068714236080 tw14634264254033282899 tw10994288177520593616 tw2624051504531205205 tw1621473208265997072 tw16776874530399435402 tw7562699024108086450 tw6947487965283200071 tw3582583260268408566 tw7581381583051676403 tw3921676082025657548 tw2733373233180534501 tw4069899642757758159 tw16805636864599856946 tw17030463523521583859 tw7086878226549795827 tw4440069105536634325 tw16346815647455887394 tw14405211578570752919 tw10404741191278244762 tw1602687999120156673 tw11688382517349614872 tw1760596718774878867 tw6248333450359836140 tw5144660847182459215 tw10331708856178015151 tw17066950422783585809 tw3203254752846221105 tw600283459195444857 tw10271908998284442672 tw7057936240171863866 tw2231479443899813996 tw2549588950543445113 tw7818564791564365475 tw10414824350622818312 tw13443143118354490499 tw8775960428048015675 tw13411156620918350558 tw3398269198751730142 tw14471606796085101693 tw14313800172033525740 tw1810289488731149460 tw4361318189917326526 tw10769974815375700123 tw10163461172891236268 tw12789916213372812594 tw16061109824460596182 tw18089425676055065379 tw6077064233125455559 tw14856107686845019777 tw1331725722790128854 tw12308026345012263141 tw12798294329897537763 tw4197576744982849255 tw7801382014828569786 tw6890160642475682734 tw8698344679435791902 tw812261628395412902 tw9636174259669649157 tw6049644658120069011 tw4706001671119720090 tw3818818151437160097 tw16091619948140976282 tw15724141924957047281 tw13622150327188825486 tw11450459217708431257 tw12697571795266031269 tw10990237401605461224 tw11624629988418722803 tw7601276734743486033 tw8597399433827902938 tw14870327694220257469 tw8562055880314965690 tw6178533929061525286 tw4551428377258532170 tw2314369423049103354 tw3305100173135473444 tw11301867538158451056 tw16373056474333066877 tw4054998084006638183 tw18440520461737619876 tw11285329618173618943 tw12278566369635327734 tw6486748594734145791 tw8470287661619281185 tw14826469692019822176 tw10211163886134059188 tw5485100183858345118 tw9002746550822142258 tw15521540212496962430 tw13946126083268716229 tw5808600390658614211 tw18392477863583580313 tw15633903841708826913 tw10674728376938575014 tw859132072842126563 tw8498146594421469327 tw8028698263924388067 tw5177397160376622059 tw4573372312347704814 tw17515819985171690553 tw15410940196296938196 tw14603806614219007015 tw14302885721300597285 tw14074226306872455531 tw13731130306359236865 tw13530800778343360565 tw12976494669151523001 tw12769347086024678364 tw10859119661687480675 tw12319555925719457726 tw5611566437030929490 tw6436132040464078330 tw16681195279003901776 tw12846176180463445937 tw6968254122962648352 tw3291139498650669579 tw7671727173783651130 tw6752455871982898910 tw10756176062198217464 tw8655373298627243733 tw4621235248444264962 tw322237770077439370 tw2836528865847422071 tw17211255842882475238 tw16676851003236928318 tw12183275748643824901 tw10483352407302359900 tw7227111724123121422 tw12660804059649745327 tw1606439507325034381 tw17461529729760381877 tw9067967306151611802 tw15821364838662385110 tw7968919297865539958 tw16739708339900268230 tw16155634866189037016 tw8326898509430195619 tw5117030933202472042 tw5101513823236286809 tw5024102916977392867 tw16602137120986126804 tw15018184121183271939 tw14718344582919250084 tw12127563286479092554 tw12086326146870956403 tw1460551077498507801 tw9120385683954426936 tw979672300410290420 tw9205662457395613801 tw8770828963702672661 tw797031538716429809 tw7309213288558264060 tw7187920336169260014 tw6577942244954363880 tw599901784685409426 tw5774208178392034350 tw5631796298646063846 tw3767037329800976362 tw3645226085412535885 tw2951474343451578415 tw2181120888310643063 tw205200569166140555 tw17292239200420912204 tw17145967978298570389 tw17095659867522811323 tw14810250339125986849 tw13752120277069561445 tw12607028999827976022 tw12374995646624475500 tw11768410096779096453 tw11659015142059079672 tw4885163014718285803 tw13504736821526985908:True)
open PySem PySem.W PyProof.Rows
set_option maxRecDepth 100000 in
set_option maxHeartbeats 0 in
theorem PySem.Challenge.cw_tokenwright_k12_whole_pieces_holds : PySem.Challenge.rw_tokenwright_k12_whole_pieces.Holds := by
 w_on;o_law;k_head;(case hw=>w_witness2)
 k_fill
 refine CI.walk (l:=PySem.Challenge.rw_tokenwright_k12_whole_pieces) rfl rfl (fun w h Y=>PySem.W.kIn_of Y) ?F
 case F=>
  intro w mg fa h KX G hmg;refine' CI.all_mk KX G hmg ?a_law ?f_law ?hC ?hR ?hE ?k_BadRule ?a_BadRule ?i_BadRule ?f_BadRule ?k_TakesNothing ?a_TakesNothing ?i_TakesNothing ?f_TakesNothing ?k_TooMany ?a_TooMany ?i_TooMany ?f_TooMany ?k_NoToken ?a_NoToken ?i_NoToken ?f_NoToken ?a_SIGNS ?e_SIGNS ?a_MARKED_OUTSIDE ?e_MARKED_OUTSIDE ?a_MARKED_WITHIN ?e_MARKED_WITHIN ?a_DEEPEST ?a_REPEATS ?l_REPEATS ?kl_REPEATS ?ky_REPEATS ?sm_REPEATS ?r_REPEATS0 ?re_REPEATS0 ?r_REPEATS1 ?re_REPEATS1 ?r_REPEATS2 ?re_REPEATS2 ?a_BEHIND_BACKSLASH ?e_BEHIND_BACKSLASH ?a_MOST_RULES ?a_AHEAD ?a_MOST_PLACES ?a_MARKS ?l_MARKS ?kl_MARKS ?ky_MARKS ?sm_MARKS ?r_MARKS0 ?re_MARKS0 ?r_MARKS1 ?re_MARKS1 ?r_MARKS2 ?re_MARKS2 ?hz
  (case a_law=>k_is)
  (case f_law=>exact⟨_,_,_,_,_,_,_,_,_,by k_is,by k_is,by k_is⟩)
  (case hC=>(repeat' refine az.mpr ⟨?_,?_⟩);all_goals first | exact fun _ h=>(bP h).elim | exact⟨(by(try dsimp only);k_is),⟨(by(try dsimp only);k_is),(by(try dsimp only);k_is),(by(try dsimp only);k_is),(by(try dsimp only);k_is)⟩,(by(try dsimp only);k_is),(by(try dsimp only);k_is),(by kernel_rfl)⟩)
  (case hR=>unfold CI.rows;(repeat' refine az.mpr ⟨?_,?_⟩);all_goals first | exact fun _ h=>(bP h).elim | exact .fn (by k_is) ⟨_,_,_,_,_,_,_,_,_,by k_is,by k_is,by k_is⟩ | exact .mt rfl rfl (by k_is) (by k_is) ⟨_,_,_,_,_,_,_,_,_,by k_is,by k_is,by k_is⟩)
  (case hE=>refine' ⟨?hx,?hq,?hv,?hu⟩;(case hx=>(repeat' refine az.mpr ⟨?_,?_⟩);all_goals first | exact fun _ h=>(bP h).elim | exact⟨(by(try dsimp only);k_is),L2.UT (by(try dsimp only);k_is) (by(try dsimp only);k_is) (by(try dsimp only);k_is) (by(try dsimp only);k_is) (by(try dsimp only);k_is) (by(try dsimp only);k_is) (by(try dsimp only);k_is) rfl (by kernel_rfl) (by(try dsimp only);k_is) (by(try dsimp only);k_is) (by(try dsimp only);k_is) (by(try dsimp only);k_is),(by kernel_rfl)⟩);all_goals kernel_rfl)
  (case k_BadRule=>k_is)
  (case a_BadRule=>k_is)
  (case i_BadRule=>k_is)
  (case f_BadRule=>exact⟨_,_,_,_,_,_,_,_,_,by k_is,by k_is,by k_is⟩)
  (case k_TakesNothing=>k_is)
  (case a_TakesNothing=>k_is)
  (case i_TakesNothing=>k_is)
  (case f_TakesNothing=>exact⟨_,_,_,_,_,_,_,_,_,by k_is,by k_is,by k_is⟩)
  (case k_TooMany=>k_is)
  (case a_TooMany=>k_is)
  (case i_TooMany=>k_is)
  (case f_TooMany=>exact⟨_,_,_,_,_,_,_,_,_,by k_is,by k_is,by k_is⟩)
  (case k_NoToken=>k_is)
  (case a_NoToken=>k_is)
  (case i_NoToken=>k_is)
  (case f_NoToken=>exact⟨_,_,_,_,_,_,_,_,_,by k_is,by k_is,by k_is⟩)
  (case a_SIGNS=>k_is)
  (case e_SIGNS=>kernel_rfl)
  (case a_MARKED_OUTSIDE=>k_is)
  (case e_MARKED_OUTSIDE=>kernel_rfl)
  (case a_MARKED_WITHIN=>k_is)
  (case e_MARKED_WITHIN=>kernel_rfl)
  (case a_DEEPEST=>k_is)
  (case a_REPEATS=>k_is)
  (case l_REPEATS=>k_is)
  (case kl_REPEATS=>exact⟨⟨_,_,rfl,rfl⟩,⟨⟨_,_,rfl,rfl⟩,⟨⟨_,_,rfl,rfl⟩,trivial⟩⟩⟩)
  (case ky_REPEATS=>kernel_rfl)
  (case sm_REPEATS=>kernel_rfl)
  (case r_REPEATS0=>k_is)
  (case re_REPEATS0=>kernel_rfl)
  (case r_REPEATS1=>k_is)
  (case re_REPEATS1=>kernel_rfl)
  (case r_REPEATS2=>k_is)
  (case re_REPEATS2=>kernel_rfl)
  (case a_BEHIND_BACKSLASH=>k_is)
  (case e_BEHIND_BACKSLASH=>kernel_rfl)
  (case a_MOST_RULES=>k_is)
  (case a_AHEAD=>k_is)
  (case a_MOST_PLACES=>k_is)
  (case a_MARKS=>k_is)
  (case l_MARKS=>k_is)
  (case kl_MARKS=>exact⟨⟨_,_,rfl,rfl⟩,⟨⟨_,_,rfl,rfl⟩,⟨⟨_,_,rfl,rfl⟩,trivial⟩⟩⟩)
  (case ky_MARKS=>kernel_rfl)
  (case sm_MARKS=>kernel_rfl)
  (case r_MARKS0=>k_is)
  (case re_MARKS0=>kernel_rfl)
  (case r_MARKS1=>k_is)
  (case re_MARKS1=>kernel_rfl)
  (case r_MARKS2=>k_is)
  (case re_MARKS2=>kernel_rfl)
  (case hz=>unfold CI.T;(repeat' refine az.mpr ⟨?_,?_⟩);all_goals first | exact fun _ h=>(bP h).elim | k_is)
end
