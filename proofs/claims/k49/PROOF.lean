import PyProof.Rows.All
import Wide.All
import OpenK.AllK
import Wide.FinOn
import PyProof.EqAt
import PyProof.EqKinds
import PyProof.TupleCall
import PySem.Challenge.RW_trueline_k49_whole_fits_leave_nothing_to
set_option Elab.async false
set_option linter.all false
set_option maxRecDepth 100000
set_option bootstrap.genMatcherCode false
set_option genSizeOfSpec false
set_option genInjectivity false
set_option compiler.extract_closed false
noncomputable section
open And renaming intro->gk
open Array renaming getElem?_eq_some_iff->ni,length_toList->jdV,forIn_toList->jeg
open Bool renaming and_eq_true->bg,noConfusion->bK,not_eq_true'->b8,false_eq_true->dF,false_ne_true->dY,eq_iff_iff->nJ,or_eq_true->tG,or_true->jcn
open False renaming elim->mL
open ForInStep renaming yield->je6
open Function renaming comp->sQ
open Int renaming toNat_natCast->bZ,mul_le_mul_of_nonneg_right->gS,emod_lt_of_pos->gV,gcd->gY,emod_nonneg->g7,natAbs_mul->mr,mul_comm->mO,mul_fdiv_cancel->mX,pow_add->m7,natAbs_pow->nY,natAbs_natCast->pf,pow_succ->pj,gcd_pos_of_ne_zero_left->pP,le_of_lt->pZ,mul_ediv_cancel_left->sW,mul_ne_zero->tH,lt_or_le->tY,lt_trichotomy->tZ,mul_zero->t6,le_ediv_of_mul_le->wa,mul_le_mul_of_nonneg_left->wW,mul_lt_mul_of_pos_right->jcs,le_total->jct,zero_add->jcu,mul_neg_of_pos_of_neg->jcH,one_mul->jcK,mul_pos->jcN,gcd_dvd_natAbs_right->jcX,natCast_dvd_natCast->jc6,sign_eq_one_of_pos->jdj,ediv_nonneg->jdo,ediv_mul_le->jdq,ediv_lt_of_lt_mul->jdx,fdiv->jdM,mul_ediv_cancel->jdW,lt_or_eq_of_le->jes,lt_or_gt_of_ne->jet,zero_mul->jeI,zero_sub->jeJ
open List renaming length_map->bj,mem_cons_of_mem->bo,range->bw,map_cons->bz,mem_cons_self->bB,mem_cons->bD,getElem?_eq_getElem->bE,getElem?_eq_none->bG,getD_eq_getElem?_getD->bH,mem_map->bI,map_map->bL,not_mem_nil->bM,map_congr_left->bP,mem_append_right->bR,cons_append->bS,getElem?_map->bW,getElem?_set_ne->bX,map_append->b6,length_append->df,size_toArray->di,mem_range->dw,getElem?_append_left->dz,getElem_map->dC,getElem?_set_self->dE,nil_append->dG,getElem_mem->dH,mem_append_left->dI,append_nil->dM,sum_cons->dN,getElem?_append_right->dO,mem_append->dP,map_nil->dR,drop_succ_cons->dZ,getD_cons_zero->d7,getD_cons_succ->d8,zipWith_cons_cons->d9,replicate->gc,length_cons->gf,zipWith_nil_right->gm,mem_of_getElem?->gq,lookup_cons->gv,isEmpty_iff->gw,drop_zero->gC,mem_singleton->gD,zipWith_nil_left->gE,getElem?_eq_some_iff->gH,drop_eq_getElem_cons->gI,length_take->gK,mem_of_mem_drop->gO,length_set->g6,take_succ_cons->mf,of_mem_zip->mw,sum_append->my,length_drop->mz,sum_nil->mH,range_succ->mK,all_eq_true->m9,take_zero->nk,exists_cons_of_ne_nil->nr,getElem_range->nu,length_singleton->nz,nodup_cons->nK,length_nil->nL,mem_of_mem_take->nR,length_range->nS,getElem?_take_of_lt->nV,eq_nil_of_length_eq_zero->n8,contains_cons->pA,forIn_cons->pG,length_zip->pJ,forIn_nil->pS,filter_cons->se,filterMap_cons->sr,replicate_succ->su,replicate_zero->sv,length_pos_iff->sH,set_eq_of_length_le->sR,mem_filter->tf,mem_filterMap->tJ,drop_of_length_le->tT,drop_eq_nil_of_le->tW,range_succ_eq_map->t5,append_assoc->t7,length_replicate->t8,ext_getElem->wA,range'_succ->wB,contains_eq_mem->wU,foldl_cons->w5,range_zero->jcj,map_eq_nil_iff->jck,getD->jcv,zip_cons_cons->jcD,getElem?_drop->jcE,map_singleton->jcG,all_cons->jcR,getElem?_replicate->jcZ,filter_cons_of_pos->jc7,filter_cons_of_neg->jc8,sum->jc9,take_of_length_le->jdm,not_of_lt_findIdx->jdn,range'->jdN,findIdx_getElem->jdO,pairwise_append->jdP,dropLast_concat->jdQ,length_zipWith->jd1,getElem?_range->jd2,any_cons->jd3,map_take->jd7,drop_nil->jd8,set_cons_zero->jen,set_cons_succ->jeo,nodup_append->jeB,ext_getElem?->jeG,getElem?_set->jeH,flatten_cons->jeK,zipWith->jeL,findIdx_cons->jeM,zipIdx_cons->jeS,drop_length->jeW,mem_flatten->jeX,length->jeY,map->jfg
open List.cons renaming injEq->bO,inj->sZ
open Nat renaming lt_or_ge->bU,le_refl->bV,le_trans->dg,lt_of_lt_of_le->dh,lt_irrefl->gG,ne_of_lt->gN,two_pow_pos->gR,pow_le_pow_right->mB,zero_le->mI,pow_succ->mM,mul_le_mul_right->mQ,ne_of_gt->pd,mul_le_mul_left->sJ,sub_self->tX,lt_succ_self->wm,min_eq_left->jci,gcd_comm->jco,not_lt->jcy,eq_zero_or_pos->jcF,pow_lt_pow_iff_right->jcS,mul_div_cancel_left->jc5,le_of_eq->jdg,div_div_eq_div_mul->jdh,succ_mul->jdl,testBit_and->jdp,pow_add->jdy,pow_lt_pow_right->jdz,eq_of_testBit_eq->jdA,le_of_dvd->jd5,gcd_zero_right->jee,eq_or_lt_of_le->jef,le_of_lt->jeu,gcd->jeA,lt_succ_of_lt->jeD,mul_pos->jeZ,gcd_rec->je0,le_succ->je1,Coprime->je4,mod_lt->jfh
open Ne renaming symm->gX
open Option renaming isSome_some->ph,map_some->tu,isSome_iff_exists->jcQ,some->jdG,getD_none->jeP,bind_some->jeV
open Option.some renaming injEq->gy,inj->gJ
open Prod.mk renaming injEq->wG
open PyProof.Rows renaming boot_isinstance->mV,callWith_type1->mY,boot_list->mZ,boot_int->t9,callWith_builtin1->wg,AllBare->jcl,subscriptTail_builtinR->jdd,IntsAre->jfb
open PySem renaming wpAny_bind->bh,Value->bq,wpAny_pure->bJ,starEach->bQ,wpAny_holding->dS,Program->dW,wpAny_setField_rec->gj,mainGlobals->gn,wpAny_loadPart_at->gz,wpAny_mono->gA,wpAny_field->gF,Spec->gP,Heap->gQ,excClassObj->gZ,wpAny_nextOf_list_item->g8,Around->mq,codeAny_call_builtin->mC,wpAny_truthy_bool->mF,typeLookup->mG,wpAny_of_eq->mJ,wpAny_seqItems->mR,foldedSetIterable->mS,mem_of_lookup->mW,assignEach->nc,NameKind->nh,Obj->nv,wpAny_nextOf_list_end->nE,compareOp->nG,wpAny_passesOwn->nH,behindInMarks->nU,GenState->nX,wpAny_callSpecial?_slot->nZ,wpAny_call_entry->n5,sizeLine_eq->n6,letOwnedTupleGo->pE,FuncData->pF,wpAny_standAt->pK,wpAny_attempt->pM,wpAny_pyIter_list->pO,wpAny_letGo->pT,bootBuiltins->pX,swapsWith->pY,checkBuiltinCall->sf,wpAny_isSubtype_exc->sM,ExceptHandler->sP,holding->tj,Builtin->tE,wpAny_call->tK,wpAny_Call_Name_kw->tL,sliceBounds->tN,setField->tU,cellsFrom->we,isInstance->wq,quietNames->wu,attributeBase->wC,codeAny->wF,wpAny_onRaise->wJ,Builtin->wM,lookup_relabel_local->wN,wpAny_updateSeq_pair->wQ,unbindBehindTheSuite->wR,wpAny_execs_nil->wX,codeAny_builtin->wY,wpAny_updateSeq->wZ,getAttrByItsOwn->w8,codeAny_mono->jcm,relabel->jcp,ExcBaseFacts->jcr,recursionLimit->jcx,wpAny_tryCatch->jcz,wpAny_assign_Name->jcJ,wpAny_newObj_type->jcL,swapsWithSole->jcP,plainId_quiet->jcT,binaryOp->jcY,noteFrame->jc0,wpAny_pyNext_list_item->jda,leaving->jdb,callerA->jdf,wpAny_isTrue_Compare1->jdr,wpAny_pyNext_list_end->jds,codeAny_handlers_test->jdu,loadIfAlive->jdC,wpAny_newTuple->jdD,wpAny_setField->jdE,boundAndCalled->jdI,pushCells->jdT,OsState->jdU,Comprehension->jd4,Paired->jec,fastLookup->jep,standAt->jev,Operator->jew,seqIndex_neg->jez,DictEntry->jeQ,seqItems?->jeR,setFlight->jeT,ClassData->jeU,getAttr->je9,Keyword->jfa,OwnTail->jfc,call->jfe,Moved->jfj,Fin->jfs
open PySem.Around renaming under_plainId->wO,under->jex
open PySem.AutoSeq1 renaming wpAny_loadPart'->jcU
open PySem.Bind renaming checkArgs->jdB
open PySem.Builtin renaming bitAnd->pR,bitNot->jfi
open PySem.Builtin.Builtins renaming bindParams->jcq
open PySem.Builtin.Getset_descriptor renaming descrGet->jej
open PySem.Builtin.Int renaming intBits->g9,intTooBig->jdw
open PySem.Builtin.List renaming listTooLong->nW
open PySem.Builtin.ObjectAttr renaming find->jc2,dataDescriptor?->jei,attrName->jfd,getOf->jfp
open PySem.Builtin.Range renaming rangeSize->tO,small->jd0
open PySem.Builtin.SmallTypes renaming ownedTupleIsFree->dU,nextOf->dX,ownedTupleHandOut->ma
open PySem.Calls renaming Name_function_global->jcw,callWith_builtin->jde
open PySem.Code renaming quiet_builtin->jcA,isFrame->jey
open PySem.EntryCells renaming newEntry->jdY
open PySem.Env renaming kindOf->jfl
open PySem.Expr renaming casesOn->jek
open PySem.F renaming plainAttrs_list->mE,plain_min_loop->m8,slot_enumerate_next->nF,excBase_ValueError->pW,slot_list_append->sT,type_list_append->sU,slot_zip_next->tF,slot_list_extend->jcV,entry_min_loop->jc1,attr_ValueError->jc3,args_enumerate_next_1->jc4,entry_enumerate_next->jdi,slot_enumerate_iter->jdv
open PySem.Heap renaming get?_push_of_some->bC,lt_size->bN,get?_push_size->dJ,get?_update_other->dQ,get?_update_self->mh,SameBut->nP,FlyingW->pB,get?_none_of_le->pQ,MadeExcOf->pU,size_push->tQ,get?_push_at->jcM,get?_update_ne->jdZ
open PySem.Heap.Ns renaming of_isNs->je8
open PySem.Heap.SameBut renaming refl->mU
open PySem.Manifest renaming signature?->jdX
open PySem.Moved renaming trans->je2
open PySem.NameKind renaming cell->sN,free->wH
open PySem.Obj renaming mapSeq->wj,mapFields->wK,isFreed_of_fields->jdt,data_mapFields->jeh
open PySem.PassesOwn renaming never->pH
open PySem.PyData renaming strOk->pq,eqvAll->wI,bool->wV,canLayAll0->jeC,depthAll->je7
open PySem.SeqAt.EqAt renaming int_str->jd9,str_int->jea
open PySem.Stmt renaming casesOn->jel
open PySem.Str renaming ofString->tV
open PySem.Value renaming ref->gT,none->n9,builtin->pN,bool->jeb,int->jeN,str->jeO
open PySem.Value.ref renaming inj->jfq
open PySem.W renaming Frag->bp,nsIn->gh,keepIn->mP,kia_one->nM,fnOf->nQ,mg_of->pL,kitOne->pV,looks_findIn->sj,mroIn->sV,mg_none_of->tM,codeIn->tP,findIn->jcB,methodObj->jcI,subIn->jcW,cellsFrom_some->jdc,hideAll_get->jdF,Looks->jdH,typeIn->jdJ,callWith_K->jed,hideAll->jeE,OpenLaw->je5,kIn_of->jff,kitCls->jfm,nsOkIn->jfn,WalkO->jfo,clsIn->jfr
open PySem.W.Looks renaming ld->jeF
open PySem.Walks renaming list->jfk
open Rat renaming intCast_mul->bY,divInt->gW,intCast_lt_intCast->pC,intCast_neg->pI,mul_comm->sk,intCast_inj->tI,intCast_add->w9,intCast_sub->jch,den_divInt->jcC,divInt_eq_div->jcO,intCast_le_intCast->jdk,num_divInt->jdK,mul_pos->jdL,mul_assoc->jd6,num_divInt_den->jeq,div_mul_cancel->jer,le_refl->je3,abs->jft
open Sum renaming inl->jdR,inr->jdS
open True renaming intro->jem
local macro_rules | `(command|def $i:declId $s:optDeclSig $v:declVal)=>`(command|noncomputable def $i:declId $s:optDeclSig $v:declVal)
theorem zff{P:Prop}(h:false=true):P:=nomatch h
namespace L2
open PySem PySem.Spec PyProof.Rows
abbrev Key:=Sum Int Str
def keyIs:Key->bq->Bool
 |.inl k,v=>Value.isInt k v
 |.inr x,v=>Value.isStrOf x v
def keyH(w:World):Key->Int
 |.inl k=>hashInt k
 |.inr x=>hashStr w x
theorem ke:∀ {k:Key} {v:bq},keyIs k v=true->(∃i t,k=jdR i/\v=jeN i t)\/(∃x t,k=jdS x/\v=jeO x t)
 |.inl i,v,h=>by
  obtain⟨t,e⟩:=Value.isInt_shape (k:=i) (v:=v) h
  exact .inl ⟨i,t,rfl,e⟩
 |.inr x,v,h=>by
  obtain⟨t,e⟩:=Value.isStrOf_shape (x:=x) (v:=v) h;exact .inr ⟨x,t,rfl,e⟩
theorem key_ll(a b:Int):decide ((jdR a:Key)=jdR b)=(a == b):=by
 by_cases e:a=b
 ·subst e;simp
 ·have h:¬ (jdR a:Key)=jdR b:=λq=>e (Sum.inl.inj q)
  rw[decide_eq_false h];exact(beq_eq_false_iff_ne.mpr e).symm
theorem key_rr(a b:Str):decide ((jdS a:Key)=jdS b)=decide (a=b):=by
 by_cases e:a=b
 ·subst e;simp
 ·have h:¬ (jdS a:Key)=jdS b:=λq=>e (Sum.inr.inj q)
  rw[decide_eq_false h,decide_eq_false e]
theorem key_lr(a:Int)(b:Str):decide ((jdR a:Key)=jdS b)=false:=decide_eq_false (λq=>nomatch q)
theorem key_rl(a:Str)(b:Int):decide ((jdS a:Key)=jdR b)=false:=decide_eq_false (λq=>nomatch q)
def Zo(prog:dW)(w:World):PySem.KeyKind prog w Key where
 is:=keyIs
 hash:=keyH w
 inj:=λv a b ha hb=>by
  rcases ke ha with⟨i,t,rfl,rfl⟩|⟨x,t,rfl,rfl⟩
  ·rcases ke hb with⟨j,u,rfl,e⟩|⟨y,u,rfl,e⟩
   ·injection e with e1 _;rw[e1]
   ·exact nomatch e
  ·rcases ke hb with⟨j,u,rfl,e⟩|⟨y,u,rfl,e⟩
   ·exact nomatch e
   ·injection e with e1 _;rw[e1]
 byValue:=λk v h=>by
  rcases ke h with⟨i,t,rfl,rfl⟩|⟨x,t,rfl,rfl⟩<;>rfl
 pyHash:=λhv h=>by
  rcases ke hv with⟨i,t,rfl,rfl⟩|⟨x,t,rfl,rfl⟩
  ·exact wpAny_pyHash_int h
  ·exact wpAny_pyHash_str h
 eqBool:=λhu hv h=>by
  rcases ke hu with⟨i,t,rfl,rfl⟩|⟨x,t,rfl,rfl⟩
  ·rcases ke hv with⟨j,u,rfl,rfl⟩|⟨y,u,rfl,rfl⟩
   ·rw[key_ll]at h;exact wpAny_eqBool_int h
   ·rw[key_lr]at h;exact jd9 i t y u _ _ _ _ h
  ·rcases ke hv with⟨j,u,rfl,rfl⟩|⟨y,u,rfl,rfl⟩
   ·rw[key_rl]at h;exact jea x t j u _ _ _ _ h
   ·rw[key_rr]at h;exact wpAny_eqBool_str h
 «strs»:=λk x t v h=>by
  rcases ke h with⟨i,u,rfl,e⟩|⟨y,u,rfl,e⟩
  ·exact nomatch e
  ·injection e with e1 _;subst e1
   cases v<;>rfl
set_option genInjectivity true in
inductive V where
 |non|bl (b:Bool)|int (i:Int)|str (x:Str)|byt (b:Array UInt8)|flt (b:UInt64)|ref (a:Addr)|ty (n:String)
 deriving DecidableEq
def jS:V->bq->Prop
 |.non,u=>u=n9
 |.bl b,u=>u=jeb b
 |.int i,u=>∃t,u=jeN i t
 |.str x,u=>∃t,u=jeO x t
 |.byt b,u=>∃t,u=Value.bytes b t
 |.flt b,u=>∃t,u=Value.float b t
 |.ref a,u=>u=gT a
 |.ty n,u=>u=Value.type n
abbrev jJ:List V->List bq->Prop:=jec jS
variable{us:List bq}
theorem jJ.length{xs:List V}(r:jJ xs us):xs.length=us.length:=Paired.length r
theorem jJ.get:∀ {xs:List V} {us:List bq} {i:Nat} {x:V},jJ xs us->xs[i]?=some x->∃u,us[i]?=some u/\jS x u
 |_,_,_,_,.nil,e=>by simp at e
 |_,_,0,_,.cons r _,e=>by simp at e;subst e;exact⟨_,rfl,r⟩
 |_,_,i+1,x,.cons _ t,e=>by
  obtain⟨u,h1,h2⟩:=jJ.get (i:=i) (x:=x) t (by simpa using e);exact⟨u,by simpa using h1,h2⟩
theorem jJ.set{x:V}{u:bq}(r:jS x u):∀ {xs:List V} {us:List bq} (i:Nat),jJ xs us->jJ (xs.set i x) (us.set i u)
 |_,_,_,.nil=>.nil
 |_,_,0,.cons _ t=>.cons r t
 |_,_,i+1,.cons q t=>.cons q (jJ.set r i t)
theorem jJ.append:∀ {xs ys:List V} {us ws:List bq},jJ xs us->jJ ys ws->jJ (xs++ys) (us++ws)
 |_,_,_,_,.nil,s=>s
 |_,_,_,_,.cons r t,s=>.cons r (jJ.append t s)
theorem jJ.take:∀ {xs:List V} {us:List bq} (n:Nat),jJ xs us->jJ (xs.take n) (us.take n)
 |_,_,0,_=>.nil
 |_,_,_+1,.nil=>.nil
 |_,_,n+1,.cons r t=>.cons r (jJ.take n t)
theorem jJ.drop:∀ {xs:List V} {us:List bq} (n:Nat),jJ xs us->jJ (xs.drop n) (us.drop n)
 |_,_,0,r=>r
 |_,_,_+1,.nil=>.nil
 |_,_,n+1,.cons _ t=>jJ.drop n t
def RelO:Option V->Option bq->Prop
 |some v,some u=>jS v u
 |none,none=>True
 |_,_=>False
def KV{κ:Type}:List (κ×V)->List (κ×bq)->Prop:=jec λ(p:κ×V) (q:κ×bq)=>p.1=q.1/\jS p.2 q.2
def kV:Key->V
 |.inl i=>.int i
 |.inr x=>.str x
inductive HO where
 |lst (xs:List V)
 |tup (xs:List V)
 |dK (kvs:List (Key×V))|dT (kvs:List (List Key×V))
 |set (S:Int->Bool) (n:Nat)
 |ins (C dx:Addr) (fs:List (Str×V))
 |own (x:Addr)
 |xd (fs:List (Str×V))
 |met (f x:Addr)
 |rng (lo hi:Int)
 |frz (o:nv) (u:HO)
 |tbl (ps:Array bq)
 |ext (φ:gQ->Prop)
abbrev Hp:=Addr->Option HO
def upd(H:Hp)(a:Addr)(o:HO):Hp:=λb=>if b=a then some o else H b
variable{H:Hp}{a:Addr}{o:HO}
theorem jm:upd H a o a=some o:=by unfold upd;rw[if_pos rfl]
theorem jh{b:Addr}(h:b≠a):upd H a o b=H b:=by unfold upd;rw[if_neg h]
theorem qa{b:Addr}(h:H a=some o)(h':H b=none):a≠b:=by
 intro e;subst e;rw[h]at h';cases h'
section
variable (P:dW) (w:World)
def qS(H:Hp)(h:gQ)(a:Addr):HO->Prop
 |.lst xs=>xs.length<=sizeLine/\∃(its:List bq) (n:Nat),jJ xs its/\h.get? a=some { cls:=.type "list",data:=.seq its.toArray n }
 |.tup xs=>xs.length<=sizeLine/\∃its:List bq,jJ xs its/\IsTup h a its.toArray
 |.dK kvs=>kvs.length<=sizeLine/\(a == sysModules)=false/\∃vs,KV kvs vs/\h.DictOf (Zo P w) a vs
 |.dT kvs=>kvs.length<=sizeLine/\(a == sysModules)=false/\∃xs:List (List Key×Addr×bq),
  jec (λ(p:List Key×V) (q:List Key×Addr×bq)=>p.1=q.1/\H q.2.1=some (.tup (p.1.map kV))/\jS p.2 q.2.2) kvs xs /\
  ∃o es ep,h.get? a=some o/\o.ExactDict/\o.data=.dict es ep/\es.toList=xs.map (entryOfKey (tupleKind (Zo P w)))/\(xs.map (·.1)).Nodup
 |.set S n=>h.SetOf (intKind P w) a S n
 |.ins C dx fs=>H dx=some (.own a)/\fs.length<=1000/\dx≠a/\h.get? a=some (PySem.W.instObj C dx) /\
  ∃mA,h.Ns1 dx mA/\(∀f,RelO (fs.lookup f) (mA f))/\PySem.Within mA (fs.map (·.1))
 |.own _=>∃o,h.get? a=some o
 |.xd fs=>∃mA,h.Ns1 a mA/\∀f,RelO (fs.lookup f) (mA f)
 |.rng lo hi=>∃t u v,h.get? a=some { cls:=.type "range",data:=.fields #[.int lo t,.int hi u,.int 1 v] }
 |.frz o u=>h.get? a=some o/\qS H h a u
 |.tbl ps=>h.get? a=some { cls:=.none,data:=.fields ps }
 |.met f x=>h.get? a=some (jcI (.ref f) (.ref x))
 |.ext φ=>φ h/\(∃o,h.get? a=some o)/\∀h1 h2:gQ,φ h1->(∀o,h1.get? a=some o->h2.get? a=some o)->φ h2
def HOk(H:Hp)(h:gQ):Prop:=∀a o,H a=some o->qS P w H h a o
end
section
variable {P:dW} {w:World} {H H':Hp} {h h':gQ} {a:Addr} {o:HO}
theorem qS.lt(x:qS P w H h a o):a<h.objs.size:=by
 cases o with
 |lst xs=>obtain⟨_,_,_,_,e⟩:=x;exact bN e
 |tup xs=>obtain⟨_,_,_,p⟩:=x;exact p.lt
 |dK kvs=>obtain⟨_,_,_,_,o,_,_,e,_⟩:=x;exact bN e
 |dT kvs=>obtain⟨_,_,_,_,o,_,_,e,_⟩:=x;exact bN e
 |set S n=>obtain⟨o,_,_,_,e,_⟩:=x;exact bN e
 |ins C dx fs=>obtain⟨_,_,_,e,_⟩:=x;exact bN e
 |own y=>obtain⟨_,e⟩:=x;exact bN e
 |xd fs=>obtain⟨_,⟨_,_,_,e,_⟩,_⟩:=x;exact bN e
 |rng lo hi=>obtain⟨_,_,_,e⟩:=x;exact bN e
 |frz ob u=>obtain⟨e,_⟩:=x;exact bN e
 |tbl ps=>exact bN (show h.get? a=some _ from x)
 |met f y=>exact bN (show h.get? a=some _ from x)
 |ext φ=>obtain⟨_,⟨_,e⟩,_⟩:=x;exact bN e
theorem Paired.mapP{α β:Type}{F G:α->β->Prop}:∀ {l₁:List α} {l₂:List β},jec F l₁ l₂->(∀a b,F a b->G a b)->jec G l₁ l₂
 |_,_,.nil,_=>.nil
 |_,_,.cons r t,f=>.cons (f _ _ r) (Paired.mapP t f)
theorem qS.stay(x:qS P w H h a o)(k:∀b u,(b=a\/H b=some (.own a))->h.get? b=some u->h'.get? b=some u)
 (ho:∀b,H b=some (.own a)->H' b=some (.own a)) (ht:∀b xs,H b=some (.tup xs)->H' b=some (.tup xs)):qS P w H' h' a o:=by
 induction o with
 |lst xs=>obtain⟨z,its,n,r,e⟩:=x;exact⟨z,its,n,r,k _ _ (.inl rfl) e⟩
 |tup xs=>obtain⟨z,its,r,ob,e,c⟩:=x;exact⟨z,its,r,ob,k _ _ (.inl rfl) e,c⟩
 |dK kvs=>obtain⟨z,y,vs,r,ob,es,ep,e,c⟩:=x;exact⟨z,y,vs,r,ob,es,ep,k _ _ (.inl rfl) e,c⟩
 |dT kvs =>
  obtain⟨z,y,xs,r,ob,es,ep,e,c⟩:=x
  exact⟨z,y,xs,Paired.mapP r λp q z=>⟨z.1,ht _ _ z.2.1,z.2.2⟩,ob,es,ep,k _ _ (.inl rfl) e,c⟩
 |set S n=>obtain⟨ob,es,ep,t,e,c⟩:=x;exact⟨ob,es,ep,t,k _ _ (.inl rfl) e,c⟩
 |ins C dx fs =>
  obtain⟨d,z,ne,e,mA,⟨od,es,ep,e2,c⟩,r⟩:=x
  exact⟨ho _ d,z,ne,k _ _ (.inl rfl) e,mA,⟨od,es,ep,k _ _ (.inr d) e2,c⟩,r⟩
 |own y=>obtain⟨ob,e⟩:=x;exact⟨ob,k _ _ (.inl rfl) e⟩
 |xd fs=>obtain⟨mA,⟨od,es,ep,e,c⟩,r⟩:=x;exact⟨mA,⟨od,es,ep,k _ _ (.inl rfl) e,c⟩,r⟩
 |rng lo hi=>obtain⟨t,u,v,e⟩:=x;exact⟨t,u,v,k _ _ (.inl rfl) e⟩
 |frz ob u ih=>obtain⟨e,q⟩:=x;exact⟨k _ _ (.inl rfl) e,ih q⟩
 |tbl ps =>
  have e:h.get? a=some { cls:=.none,data:=.fields ps }:=x;show h'.get? a=some { cls:=.none,data:=.fields ps }
  exact k a _ (.inl rfl) e
 |met f y =>
  have e:h.get? a=some (jcI (.ref f) (.ref y)):=x;show h'.get? a=some (jcI (.ref f) (.ref y))
  exact k a _ (.inl rfl) e
 |ext φ=>obtain⟨p,⟨o,e⟩,st⟩:=x;exact⟨st _ _ p λo q=>k _ _ (.inl rfl) q,⟨o,k _ _ (.inl rfl) e⟩,st⟩
theorem HOk.lt(x:HOk P w H h)(e:H a=some o):a<h.objs.size:=(x a o e).lt
theorem HOk.fresh(x:HOk P w H h)(e:h.objs.size<=a):H a=none:=by
 cases q:H a with
 |none=>rfl
 |some u=>exact absurd (dh (x.lt q) e) (gG _)
theorem HOk.kept(x:HOk P w H h)(k:∀b u,h.get? b=some u->h'.get? b=some u):HOk P w H h':=λa o e =>
 (x a o e).stay (λb u _ q=>k b u q) (λ_ q=>q) λ_ _ q=>q
theorem HOk.laid(x:HOk P w H h)(k:∀b u,h.get? b=some u->h'.get? b=some u)(hp:h.objs.size<=a)(new:qS P w (upd H a o) h' a o):HOk P w (upd H a o) h':=λb u e=>by
 have hn:=x.fresh hp;by_cases hb:b=a
 ·subst hb;rw[jm]at e;cases e;exact new
 ·rw[jh hb]at e
  exact(x b u e).stay (λc v _ q=>k c v q) (λc q=>by rw[jh (qa q hn)];exact q) λc xs q=>by rw[jh (qa q hn)];exact q
end
def Rd(H:Hp)(a:Addr)(u:HO):Prop:=H a=some u\/∃o,H a=some (.frz o u)
variable{P:dW}{w:World}{h:gQ}{u:bq}
theorem Rd.ok{u:HO}(r:Rd H a u)(x:HOk P w H h):qS P w H h a u:=by
 rcases r with r|⟨o,r⟩
 ·exact x a u r
 ·obtain⟨_,q⟩:=x a _ r;exact q
def Mut:Option HO->Prop
 |some (.lst _)=>True
 |some (.dK _)=>True
 |some (.dT _)=>True
 |some (.set _ _)=>True
 |some (.ins _ _ _)=>True
 |some (.ext _)=>True
 |_=>False
section
variable {P:dW} {w:World} {H:Hp} {h h':gQ} {x e:Addr} {o':HO}
theorem HOk.write(ok:HOk P w H h)(mu:Mut (H x))(he:e=x\/H e=some (.own x))(k:∀b u,b≠e->h.get? b=some u->h'.get? b=some u)(heo:∃u,h'.get? e=some u)
 (new:qS P w (upd H x o') h' x o'):HOk P w (upd H x o') h':=λb u q=>by
 have nown:∀c y,H c=some (.own y)->c≠x:=λc y r z=>by subst z;rw[r]at mu;exact mu
 have ntup:∀c xs,H c=some (.tup xs)->c≠x:=λc xs r z=>by subst z;rw[r]at mu;exact mu
 by_cases hb:b=x
 ·subst hb;rw[jm]at q;cases q;exact new
 ·rw[jh hb]at q;by_cases hbe:b=e
  ·have q':H b=some (.own x):=by
    rcases he with z|z
    ·exact absurd (hbe.trans z) hb
    ·rw[hbe];exact z
   rw[q]at q';cases q';obtain⟨v,hv⟩:=heo;exact⟨v,by rw[hbe];exact hv⟩
  ·refine(ok b u q).stay (λc v hc r=>k c v ?_ r) (λc r=>by rw[jh (nown c b r)];exact r) λc xs r=>by rw[jh (ntup c xs r)];exact r
   rcases hc with rfl|hc
   ·exact hbe
   ·rintro rfl;rcases he with z|z
    ·exact nown c b hc z
    ·rw[hc]at z;cases z;exact hb rfl
end
structure Un (fs ex:List Addr) (H H':Hp) (h h':gQ):Prop where
 keep:∀b o,h.get? b=some o->H b=none->b ∉ fs->b ∉ ex->h'.get? b=some o
 slot:∀b o,h.get? b=some o->H b=none->b∈fs->b ∉ ex->∃sl,h'.get? b=some { o with slots:=sl }
 free:∀b o,h.get? b=some o->H b=none->b ∉ ex->H' b=none
 there:∀b o,h.get? b=some o->b ∉ ex->∃o',h'.get? b=some o'
 tups:∀b xs,H b=some (.tup xs)->H' b=some (.tup xs)
 frzs:∀b o u,H b=some (.frz o u)->H' b=some (.frz o u)
 tbls:∀b ps,H b=some (.tbl ps)->∃more,H' b=some (.tbl (ps++more))
section
variable {fs fs' ex ex':List Addr} {H H1 H2:Hp} {h h1 h2 h':gQ} {a x e:Addr} {o:HO}
theorem Un.any(u:Un fs ex H H1 h h1){b:Addr}{ob:nv}(q:h.get? b=some ob)(n:H b=none)(hx:b ∉ ex):∃sl,h1.get? b=some { ob with slots:=sl }:=by
 by_cases hb:b∈fs
 ·exact u.slot b ob q n hb hx
 ·exact⟨ob.slots,u.keep b ob q n hb hx⟩
theorem Un.kept(k:∀b u,h.get? b=some u->h'.get? b=some u):Un fs ex H H h h' :=
 ⟨λb ob q _ _ _=>k b ob q,λb ob q _ _ _=>⟨ob.slots,k b ob q⟩,λ_ _ _ n _=>n,λb ob q _=>⟨ob,k b ob q⟩,λ_ _ q=>q,λ_ _ _ q=>q,λ_ ps q=>⟨#[],by rw[q];simp⟩⟩
theorem Un.refl:Un fs ex H H h h:=Un.kept λ_ _ q=>q
theorem Un.laid(k:∀b u,h.get? b=some u->h'.get? b=some u)(hp:h.objs.size<=a)(hn:H a=none):Un fs ex H (upd H a o) h h' where
 keep:=λb u q _ _ _=>k b u q
 slot:=λb u q _ _ _=>⟨u.slots,k b u q⟩
 free:=λb u q n _=>by rw[jh (gN (dh (bN q) hp))];exact n
 there:=λb u q _=>⟨u,k b u q⟩
 tups:=λb xs q=>by rw[jh (qa q hn)];exact q
 frzs:=λb u xs q=>by rw[jh (qa q hn)];exact q
 tbls:=λb ps q=>⟨#[],by rw[jh (qa q hn),q];simp⟩
theorem Un.write(mu:Mut (H x))(he:e=x\/H e=some (.own x))(k:∀b u,b≠e->h.get? b=some u->h'.get? b=some u)(heo:∃u,h'.get? e=some u):Un fs ex H (upd H x o) h h':=by
 have hx:∀b,H b=none->b≠x:=λb n z=>by subst z;rw[n]at mu;exact mu
 have hb:∀b,H b=none->b≠e:=λb n z=>by
  subst z;rcases he with r|r
  ·exact hx b n r
  ·rw[n]at r;cases r
 have hm:∀b u,H b=some u->¬ Mut (some u)->b≠x:=λb u q nm z=>by subst z;rw[q]at mu;exact nm mu
 refine⟨λb u q n _ _=>k b u (hb b n) q,λb u q n _ _=>⟨u.slots,k b u (hb b n) q⟩,λb u q n _=>by rw[jh (hx b n)];exact n,λb u q _=>?_,
  λb xs q=>by rw[jh (hm b _ q λz=>z)];exact q,λb u xs q=>by rw[jh (hm b _ q λz=>z)];exact q,λb ps q=>⟨#[],by rw[jh (hm b _ q λz=>z),q];simp⟩⟩
 by_cases hbe:b=e
 ·subst hbe;exact heo
 ·exact⟨u,k b u hbe q⟩
end
def trk(h:gQ)(H:Hp):List Addr:=(bw h.objs.size).filter λa=>(H a).isSome
def Qh(h:gQ)(H:Hp):gQ:=PySem.W.hideAll h (trk h H)
theorem Vt(h:gQ)(H:Hp):(Qh h H).objs.size=h.objs.size:=PySem.W.hideAll_size _ _
variable{o:nv}
theorem jaQ{b:Addr}(e:h.get? b=some o)(n:H b=none):(Qh h H).get? b=some o :=
 PySem.W.hideAll_get _ e λhm=>by
  have q:(H b).isSome=true:=(tf.mp hm).2;rw[n]at q;simp at q
theorem of_hidT{b:Addr}(e:(Qh h H).get? b=some o):h.get? b=some o/\H b=none:=by
 have e':h.get? b=some o:=PySem.W.of_hideAll (trk h H) e;refine⟨e',?_⟩
 cases q:H b with
 |none=>rfl
 |some x =>
  have hm:b∈trk h H:=tf.mpr ⟨dw.mpr (bN e'),by simp[q]⟩;have z:(Qh h H).get? b=none:=PySem.W.hideAll_none (trk h H) hm;rw[z]at e;cases e
structure Mod (K:bp) (mg:Str->Option bq) (base:gQ):Prop where
 kin:K.In base
 glob:base.Ns gn mg
 blt:∃mb,base.Ns builtinsNs mb/\∀x:Str,x ≠ "__name__"->mb x=pX x
 nolimit:base.NoLimit/\base.NoDigits
structure Cx where
 prog:dW
 w:World
 K:bp
 mg:Str->Option bq
 base:gQ
 A:mq
 N:List Str
 s₀:Shared
 H₀:Hp
 env:Env
 outer:List Env
 stack:List Env
 ex:List Addr
 fn:Str->Bool
 calm:Bool
 pn:List (Addr×nv)
 xe:bq->Shared->Prop
def frs(l:List Env):List Addr:=l.filterMap (·.frame)
abbrev Cx.fs(X:Cx):List Addr:=frs X.outer
def Vis(sc:Scope)(x:Str):Prop:=sc.names.lookup x=some .local\/sc.names.lookup x=some .cell\/sc.names.lookup x=some .free
def Loc(sc:Scope)(x:Str):Prop:=sc.names.lookup x=some .local\/sc.names.lookup x=some .cell
def Look(env:Env)(h:gQ)(m:Str->Option bq)(x:Str)(u:bq):Prop :=
 (env.kindOf x=some .local/\m x=some u)\/((env.kindOf x=some .cell\/env.kindOf x=some .free)/\∃c,env.cells.lookup x=some c/\h.IsCell c (some u))
structure Cx.Ok (X:Cx):Prop where
 mod:Mod X.K X.mg X.base
 kind:X.env.scope.kind=.function
 glob:X.env.globals=gn
 blt:X.env.builtins=builtinsNs
 above:X.s₀.heap.objs.size<=X.env.locals
 inj:∀x y c,X.env.cells.lookup x=some c->X.env.cells.lookup y=some c->x=y
 has:∀x,(X.env.kindOf x=some .cell\/X.env.kindOf x=some .free)->∃c,X.env.cells.lookup x=some c
 cab:∀x c,X.fn x=true->X.env.cells.lookup x=some c->X.s₀.heap.objs.size<=c
 hd:X.calm=true->X.A.handled=none
 frames:X.A.frames=some X.stack
 stk:X.stack=X.outer\/(X.stack=X.env::X.outer/\X.env.frame=some X.env.locals)
 exf:∀b∈X.ex,b≠X.env.locals/\∀x c,X.env.cells.lookup x=some c->c≠b
 bs:∀b o,X.base.get? b=some o->X.s₀.heap.get? b=some o/\X.H₀ b=none
 bsz:X.base.objs.size<=X.s₀.heap.objs.size
 noex:∀b o,X.base.get? b=some o->b ∉ X.ex
 exfs:∀b∈X.ex,b ∉ X.fs
 funs:X.s₀.heap.FunFrames X.base X.outer
 frf:∀b∈X.fs,X.H₀ b=none
structure Inv (X:Cx) (pins:List (Addr×nv)) (σ:List (Option V)) (H:Hp) (s:Shared):Prop where
 ok:X.Ok
 os:s.os=X.s₀.os
 bare:jcl s.gens
 base:Un X.fs X.ex X.H₀ H X.s₀.heap s.heap
 loc:∃m,s.heap.Ns X.env.locals m/\∀(i:Nat) (x:Str) (v:V),X.N[i]?=some x->σ[i]?=some (some v)->Vis X.env.scope x->∃u,jS v u/\Look X.env s.heap m x u
 cell:∀x c,X.env.cells.lookup x=some c->∃v,s.heap.IsCell c v
 free:H X.env.locals=none
 freeC:∀x c,X.env.cells.lookup x=some c->H c=none
 pin:∀p∈X.pn++pins,s.heap.get? p.1=some p.2/\H p.1=none/\p.1≠X.env.locals/\p.1 ∉ X.fs/\∀v,p.2.data ≠ .cell v
 hok:HOk X.prog X.w H s.heap
 len:σ.length=X.N.length
variable{g':Array nX}{t' i j:Nat}{d':Drawn}{ch:List Addr}{it:Addr}{x:Str}{e:Expr}{N:List Str}{M:Model}{A:mq}{E:bq->Shared->Prop}{Q:Unit->Shared->Prop}{s':Shared}
section
variable {X:Cx} {pins:List (Addr×nv)} {σ:List (Option V)} {H H':Hp} {s:Shared} {h':gQ}
theorem Cx.Ok.nofr(ok:X.Ok){b:Addr}(e:X.base.get? b=some o):b ∉ X.fs:=λhb=>by
 have:=(ok.funs.mem hb).1;rw[e]at this;cases this
theorem Inv.bs(I:Inv X pins σ H s):∀b o,X.base.get? b=some o->s.heap.get? b=some o/\H b=none:=λb o e =>
 ⟨I.base.keep b o (I.ok.bs b o e).1 (I.ok.bs b o e).2 (I.ok.nofr e) (I.ok.noex b o e),I.base.free b o (I.ok.bs b o e).1 (I.ok.bs b o e).2 (I.ok.noex b o e)⟩
theorem Inv.bk(I:Inv X pins σ H s):∀b o,X.base.get? b=some o->s.heap.get? b=some o:=λb o e=>(I.bs b o e).1
theorem Inv.mod(I:Inv X pins σ H s):Mod X.K X.mg X.base:=I.ok.mod
theorem Inv.kIn(I:Inv X pins σ H s):X.K.In s.heap:=I.ok.mod.kin.keeps I.bk
theorem Inv.lt(I:Inv X pins σ H s):X.env.locals<s.heap.objs.size:=let ⟨_,hn,_⟩:=I.loc;hn.lt
theorem Inv.sz(I:Inv X pins σ H s):X.s₀.heap.objs.size<=s.heap.objs.size:=dg I.ok.above (jeu I.lt)
theorem Inv.nofs(I:Inv X pins σ H s)(h:s.heap.objs.size<=a):a ∉ X.fs:=λhb=>by
 obtain⟨_,o,ho,_⟩:=I.ok.funs.mem hb;exact absurd (dh (bN ho) (dg I.sz h)) (gG _)
theorem Inv.cne(I:Inv X pins σ H s):∀x c,X.env.cells.lookup x=some c->c≠X.env.locals:=λx c e z=>by
 obtain⟨v,o,ho,hd⟩:=I.cell x c e;obtain⟨m,⟨o',es,ep,ho',hd',_⟩,_⟩:=I.loc;rw[z,ho']at ho;cases ho;rw[hd']at hd;cases hd
theorem Inv.funs(I:Inv X pins σ H s):s.heap.FunFrames X.base X.outer:=by
 have all:∀(l:List Env),(∀b∈frs l,b∈X.fs)->X.s₀.heap.FunFrames X.base l->s.heap.FunFrames X.base l:=by
  intro l
  induction l with
  |nil=>intro _ _;trivial
  |cons env r ih =>
   intro hs hl;obtain⟨hk,⟨L,o,hf,hn,ho,hd⟩,hr⟩:=hl;have hL:L∈X.fs:=hs L (by unfold frs;rw[sr,hf];exact bB)
   obtain⟨sl,e⟩:=I.base.slot L o ho (I.ok.frf L hL) hL λz=>I.ok.exfs L z hL
   exact⟨hk,⟨L,_,hf,hn,e,hd⟩,ih (λb hb=>hs b (by unfold frs;rw[sr,hf];exact bo _ hb)) hr⟩
 exact all X.outer (λ_ hb=>hb) I.ok.funs
theorem Inv.stack(I:Inv X pins σ H s):s.heap.FunFrames X.base X.stack:=by
 rcases I.ok.stk with e|⟨e,hf⟩
 ·rw[e];exact I.funs
 ·rw[e];obtain⟨m,hn,_⟩:=I.loc;refine .cons (by rw[I.ok.kind];decide) hf hn ?_ I.funs;exact pQ (dg I.ok.bsz I.ok.above)
theorem Inv.stkSub(I:Inv X pins σ H s):∀b∈frs X.stack,b∈X.env.locals::X.fs:=λb hb=>by
 rcases I.ok.stk with e|⟨e,hf⟩
 ·rw[e]at hb;exact bo _ hb
 ·rw[e]at hb;unfold frs at hb;rw[sr,hf]at hb;exact hb
theorem Inv.stkFree(I:Inv X pins σ H s):∀b∈frs X.stack,H b=none:=λb hb=>by
 rcases bD.mp (I.stkSub b hb) with e|hb
 ·rw[e];exact I.free
 ·obtain⟨_,o,ho,_⟩:=I.ok.funs.mem hb
  exact I.base.free b o ho (I.ok.frf b hb) λz=>I.ok.exfs b z hb
theorem Inv.step(I:Inv X pins σ H s)
 (hch:∀b∈ch,(b∈X.ex\/X.s₀.heap.objs.size<=b)/\b≠X.env.locals/\(∀x c,X.env.cells.lookup x=some c->c≠b)/\∀p∈X.pn++pins,p.1≠b)
 (keep:∀b o,b≠X.env.locals->b ∉ X.fs->b ∉ ch->s.heap.get? b=some o->H b=none->h'.get? b=some o)
 (slot:∀b o,b≠X.env.locals->b∈X.fs->b ∉ ch->s.heap.get? b=some o->H b=none->∃sl,h'.get? b=some { o with slots:=sl }) (free:∀b o,b ∉ ch->s.heap.get? b=some o->H b=none->H' b=none)
 (there:∀b o,b ∉ ch->s.heap.get? b=some o->∃o',h'.get? b=some o')
 (tups:∀b xs,H b=some (.tup xs)->H' b=some (.tup xs)) (frzs:∀b o u,H b=some (.frz o u)->H' b=some (.frz o u)) (tbls:∀b ps,H b=some (.tbl ps)->∃more,H' b=some (.tbl (ps++more)))
 (ns:∀m,s.heap.Ns X.env.locals m->h'.Ns X.env.locals m) (hok:HOk X.prog X.w H' h') (hg:jcl g') :
 Inv X pins σ H' { s with heap:=h',gens:=g',drawn:=d',toks:=t' }:=by
 have neL:∀b o,X.s₀.heap.get? b=some o->b≠X.env.locals:=λb o e=>gN (dh (bN e) I.ok.above)
 have neC:∀b o,X.s₀.heap.get? b=some o->b ∉ X.ex->b ∉ ch:=λb o e hx hb=>by
  rcases(hch b hb).1 with z|z
  ·exact hx z
  ·exact absurd (dh (bN e) z) (gG _)
 have cellK:∀x c,X.env.cells.lookup x=some c->∀v,s.heap.IsCell c v->h'.IsCell c v:=λx c e v ⟨o,ho,hd⟩=>by
  have nch:c ∉ ch:=λz=>(hch c z).2.2.1 x c e rfl
  by_cases hc:c∈X.fs
  ·obtain⟨sl,q⟩:=slot c o (I.cne x c e) hc nch ho (I.freeC x c e);exact⟨_,q,hd⟩
  ·exact⟨o,keep c o (I.cne x c e) hc nch ho (I.freeC x c e),hd⟩
 refine⟨I.ok,I.os,hg,⟨λb o e n hb hx=>?_,λb o e n hb hx=>?_,λb o e n hx=>?_,λb o e hx=>?_,λb xs e=>tups b xs (I.base.tups b xs e),λb o xs e=>frzs b o xs (I.base.frzs b o xs e),λb ps e=>?_⟩,?_,λx c e=>?_,?_,λx c e=>?_,λp hp=>?_,hok,I.len⟩
 ·exact keep b o (neL b o e) hb (neC b o e hx) (I.base.keep b o e n hb hx) (I.base.free b o e n hx)
 ·obtain⟨sl,e1⟩:=I.base.slot b o e n hb hx;obtain⟨sl',e2⟩:=slot b _ (neL b o e) hb (neC b o e hx) e1 (I.base.free b o e n hx);exact⟨sl',e2⟩
 ·obtain⟨o',e1⟩:=I.base.there b o e hx;exact free b o' (neC b o e hx) e1 (I.base.free b o e n hx)
 ·obtain⟨o',e1⟩:=I.base.there b o e hx;exact there b o' (neC b o e hx) e1
 ·obtain⟨m1,e1⟩:=I.base.tbls b ps e;obtain⟨m2,e2⟩:=tbls b _ e1;exact⟨m1++m2,by rw[e2,Array.append_assoc]⟩
 ·obtain⟨m,hn,hl⟩:=I.loc;refine⟨m,ns m hn,λi x v e1 e2 e3=>?_⟩;obtain⟨u,r,l⟩:=hl i x v e1 e2 e3;refine⟨u,r,?_⟩;rcases l with l|⟨k,c,e,z⟩
  ·exact .inl l
  ·exact .inr ⟨k,c,e,cellK x c e _ z⟩
 ·obtain⟨v,z⟩:=I.cell x c e;exact⟨v,cellK x c e v z⟩
 ·obtain⟨m,⟨o,_,_,ho,_⟩,_⟩:=I.loc;exact free _ o (λz=>(hch _ z).2.1 rfl) ho I.free
 ·obtain⟨v,o,ho,hd⟩:=I.cell x c e;exact free c o (λz=>(hch c z).2.2.1 x c e rfl) ho (I.freeC x c e)
 ·obtain⟨e,n,ne,nf,d⟩:=I.pin p hp
  have nch:p.1 ∉ ch:=λz=>(hch p.1 z).2.2.2 p hp rfl
  exact⟨keep p.1 p.2 ne nf nch e n,free p.1 p.2 nch e n,ne,nf,d⟩
theorem Inv.un(I:Inv X pins σ H s)(u:Un X.fs [] H H' s.heap h')(hok:HOk X.prog X.w H' h'):Inv X pins σ H' { s with heap:=h',toks:=t' }:=by
 obtain⟨m,⟨o,es,ep,ho,r⟩,_⟩:=id I.loc;obtain⟨sl,hL⟩:=u.any ho I.free (by simp)
 exact I.step (g':=s.gens) (d':=s.drawn) (ch:=[]) (λ_ z=>nomatch z) (λb o _ hb _ e n=>u.keep b o e n hb (by simp)) (λb o _ hb _ e n=>u.slot b o e n hb (by simp)) (λb o _ e n=>u.free b o e n (by simp)) (λb o _ e=>u.there b o e (by simp)) u.tups u.frzs u.tbls (λm' hm=>by
  obtain⟨o',es',ep',ho',r'⟩:=hm;rw[ho]at ho';cases ho'
  exact⟨_,es',ep',hL,r'⟩) hok I.bare
theorem Inv.call(I:Inv X pins σ H s)(u:Un (frs X.stack) ch H H' s.heap h')(hok:HOk X.prog X.w H' h')(hg:jcl g')
 (hch:∀b∈ch,(b∈X.ex\/X.s₀.heap.objs.size<=b)/\b≠X.env.locals/\(∀x c,X.env.cells.lookup x=some c->c≠b)/\∀p∈X.pn++pins,p.1≠b) :
 Inv X pins σ H' { s with heap:=h',gens:=g',drawn:=d',toks:=t' }:=by
 obtain⟨m,⟨o,es,ep,ho,r⟩,_⟩:=id I.loc
 obtain⟨sl,hL⟩:=u.any ho I.free λz=>(hch _ z).2.1 rfl
 exact I.step (ch:=ch) hch (λb o hL hb hc e n=>u.keep b o e n (λz=>(bD.mp (I.stkSub b z)).elim hL hb) hc) (λb o _ _ hc e n=>u.any e n hc) (λb o hc e n=>u.free b o e n hc) (λb o hc e=>u.there b o e hc) u.tups u.frzs u.tbls (λm' hm=>by
  obtain⟨o',es',ep',ho',r'⟩:=hm;rw[ho]at ho';cases ho'
  exact⟨_,es',ep',hL,r'⟩) hok hg
theorem Inv.turned(I:Inv X pins σ H s)(k:∀b o,b≠it->s.heap.get? b=some o->h'.get? b=some o)(hn:H it=none)(hL:it≠X.env.locals)
 (h1:it∈X.ex\/X.s₀.heap.objs.size<=it) (h2:∀x c,X.env.cells.lookup x=some c->c≠it) (h3:∀p∈X.pn++pins,p.1≠it):Inv X pins σ H { s with heap:=h',toks:=t' }:=by
 have nit:∀b u,H b=some u->b≠it:=λb u e z=>by rw[z,hn]at e;cases e
 refine I.step (g':=s.gens) (d':=s.drawn) (ch:=[it]) (λb hb=>?_) (λb o _ _ hc e _=>k b o (λz=>hc (by simp[z])) e) (λb o _ _ hc e _=>⟨o.slots,k b o (λz=>hc (by simp[z])) e⟩) (λ_ _ _ _ n=>n)
  (λb o hc e=>⟨o,k b o (λz=>hc (by simp[z])) e⟩) (λ_ _ e=>e) (λ_ _ _ e=>e) (λb ps e=>⟨#[],by rw[e];simp⟩) (λm hm=>?_) (λb u e=>?_) I.bare
 ·have e:b=it:=by simpa using hb
  subst e;exact⟨h1,hL,h2,h3⟩
 ·obtain⟨o,es,ep,ho,r⟩:=hm;exact⟨o,es,ep,k _ o (gX hL) ho,r⟩
 ·refine(I.hok b u e).stay (λc v hc q=>k c v ?_ q) (λ_ q=>q) λ_ _ q=>q
  rcases hc with z|z
  ·rw[z];exact nit b u e
  ·exact nit c _ z
theorem Inv.tok(I:Inv X pins σ H s)(t:Nat):Inv X pins σ H { s with toks:=t }:=I.un (h':=s.heap) (t':=t) Un.refl I.hok
theorem Inv.kept(I:Inv X pins σ H s)(k:∀b u,s.heap.get? b=some u->h'.get? b=some u):Inv X pins σ H { s with heap:=h',toks:=t' }:=I.un (Un.kept k) (I.hok.kept k)
theorem Inv.laid{o:HO}(I:Inv X pins σ H s)(k:∀b u,s.heap.get? b=some u->h'.get? b=some u)(hp:s.heap.objs.size<=a)(new:qS X.prog X.w (upd H a o) h' a o) :
 Inv X pins σ (upd H a o) { s with heap:=h',toks:=t' }:=I.un (Un.laid k hp (I.hok.fresh hp)) (I.hok.laid k hp new)
theorem Inv.write{x e:Addr}{o:HO}(I:Inv X pins σ H s)(mu:Mut (H x))(he:e=x\/H e=some (.own x))(k:∀b u,b≠e->s.heap.get? b=some u->h'.get? b=some u)(heo:∃u,h'.get? e=some u)
 (new:qS X.prog X.w (upd H x o) h' x o):Inv X pins σ (upd H x o) { s with heap:=h',toks:=t' }:=I.un (Un.write mu he k heo) (I.hok.write mu he k heo new)
theorem Inv.pins_of{pins':List (Addr×nv)}(I:Inv X pins σ H s)(h:∀p∈pins',s.heap.get? p.1=some p.2/\H p.1=none/\p.1≠X.env.locals/\p.1 ∉ X.fs/\∀v,p.2.data ≠ .cell v):Inv X pins' σ H s :=
 ⟨I.ok,I.os,I.bare,I.base,I.loc,I.cell,I.free,I.freeC,λp hp=>(dP.mp hp).elim (λz=>I.pin p (dI _ z)) (h p),I.hok,I.len⟩
theorem QV(hN:N.Nodup)(a:N[i]?=some x)(b:N[j]?=some x):i=j:=by
 obtain⟨h1,e1⟩:=gH.mp a;obtain⟨h2,e2⟩:=gH.mp b;exact(List.getElem_inj hN).mp (e1.trans e2.symm)
theorem Kl{v:V}(I:Inv X pins σ H s)(hN:X.N.Nodup)(hi:X.N[i]?=some x)(hx:Loc X.env.scope x)(r:jS v u)
 (h:∀s',Inv X pins (σ.set i (some v)) H s'->(∃a,nP a s.heap s'.heap/\(a=X.env.locals\/X.env.cells.lookup x=some a))->Q () s') (hf:X.fn x=true\/X.env.scope.names.lookup x=some .local:=by first|exact .inl rfl|exact .inr rfl|assumption):wpAny M A (storeName X.env x u) Q E s:=by
 obtain⟨m,hn,hl⟩:=id I.loc
 have hcls:(X.env.scope.kind == .class ||(X.env.scope.kind == .module&&X.env.locals != X.env.globals))=false:=by rw[I.ok.kind];rfl
 have hiσ:i<σ.length:=by rw[I.len];exact(gH.mp hi).1
 have cne:=I.cne
 have tracked:∀ {a:Addr} {h':gQ},(∃o,s.heap.get? a=some o/\H a=none)->nP a s.heap h'->HOk X.prog X.w H h':=λ{a h'} ha hs b ob e=>by
  obtain⟨_,_,hfree⟩:=ha
  refine(I.hok b ob e).stay (λc w' hc q=>(hs.2 c ?_).trans q) (λ_ q=>q) λ_ _ q=>q
  rintro rfl;rcases hc with rfl|hc
  ·rw[hfree]at e;cases e
  ·rw[hfree]at hc;cases hc
 rcases hx with hk|hk
 ·refine wpAny_storeName_local hk hn (λh' hn' hs=>?_) hcls;obtain⟨oL,_,_,hoL,_⟩:=id hn;refine h _ ⟨I.ok,I.os,I.bare,⟨λb o e n hb hx=>?_,λb o e n hb hx=>?_,I.base.free,λb o e hx=>?_,I.base.tups,I.base.frzs,I.base.tbls⟩,⟨_,hn',λj y v' e1 e2 e3=>?_⟩,λy c e=>?_,I.free,I.freeC,λp hp=>?_,tracked ⟨oL,hoL,I.free⟩ hs,by simpa using I.len⟩ ⟨_,hs,.inl rfl⟩
  ·exact(hs.2 b (gN (dh (bN e) I.ok.above))).trans (I.base.keep b o e n hb hx)
  ·obtain⟨sl,e1⟩:=I.base.slot b o e n hb hx;exact⟨sl,(hs.2 b (gN (dh (bN e) I.ok.above))).trans e1⟩
  ·obtain⟨o',e1⟩:=I.base.there b o e hx;exact⟨o',(hs.2 b (gN (dh (bN e) I.ok.above))).trans e1⟩
  ·by_cases hj:j=i
   ·subst hj;rw[hi]at e1;cases e1;rw[dE hiσ]at e2;cases e2;exact⟨u,r,.inl ⟨hk,by simp⟩⟩
   ·rw[bX (gX hj)]at e2;obtain⟨u',r',q⟩:=hl j y v' e1 e2 e3;refine⟨u',r',?_⟩;rcases q with⟨k,e⟩|⟨k,c,e,z⟩
    ·refine .inl ⟨k,?_⟩
     have:y≠x:=λe=>hj (QV hN e1 (e ▸ hi))
     simp[this,e]
    ·exact .inr ⟨k,c,e,z.sameBut hs (cne y c e)⟩
  ·obtain⟨w',z⟩:=I.cell y c e;exact⟨w',z.sameBut hs (cne y c e)⟩
  ·obtain⟨e,n,ne,nf,d⟩:=I.pin p hp;exact⟨(hs.2 p.1 ne).trans e,n,ne,nf,d⟩
 ·have hfn:X.fn x=true:=by
   rcases hf with z|z
   ·exact z
   ·rw[z]at hk;cases hk
  obtain⟨c,hc⟩:=I.ok.has x (.inl hk);obtain⟨w',z⟩:=I.cell x c hc;refine wpAny_storeName_cell I.ok.kind hk hc z (λh' hc' hs=>?_);obtain⟨oc,hoc,hocd⟩:=id z;refine h { s with heap:=h' } ⟨I.ok,I.os,I.bare,⟨λb o e n hb hx=>?_,λb o e n hb hx=>?_,I.base.free,λb o e hx=>?_,I.base.tups,I.base.frzs,I.base.tbls⟩,⟨m,hn.sameBut hs (gX (cne x c hc)),λj y v' e1 e2 e3=>?_⟩,λy c' e=>?_,I.free,I.freeC,λp hp=>?_,tracked ⟨oc,hoc,I.freeC x c hc⟩ hs,by simpa using I.len⟩ ⟨c,hs,.inr hc⟩
  ·exact(hs.2 b (gN (dh (bN e) (I.ok.cab x c hfn hc)))).trans (I.base.keep b o e n hb hx)
  ·obtain⟨sl,e1⟩:=I.base.slot b o e n hb hx;exact⟨sl,(hs.2 b (gN (dh (bN e) (I.ok.cab x c hfn hc)))).trans e1⟩
  ·obtain⟨o',e1⟩:=I.base.there b o e hx;exact⟨o',(hs.2 b (gN (dh (bN e) (I.ok.cab x c hfn hc)))).trans e1⟩
  ·by_cases hj:j=i
   ·subst hj;rw[hi]at e1;cases e1;rw[dE hiσ]at e2;cases e2;exact⟨u,r,.inr ⟨.inl hk,c,hc,hc'⟩⟩
   ·rw[bX (gX hj)]at e2;obtain⟨u',r',q⟩:=hl j y v' e1 e2 e3;refine⟨u',r',?_⟩;rcases q with q|⟨k,c',e,z'⟩
    ·exact .inl q
    ·refine .inr ⟨k,c',e,z'.sameBut hs ?_⟩;rintro rfl;exact hj (QV hN e1 (I.ok.inj _ _ _ e hc ▸ hi))
  ·by_cases hcc:c'=c
   ·subst hcc;exact⟨_,hc'⟩
   ·obtain⟨w2,z2⟩:=I.cell y c' e;exact⟨w2,z2.sameBut hs hcc⟩
  ·obtain⟨e,n,ne,nf,d⟩:=I.pin p hp;refine⟨(hs.2 p.1 ?_).trans e,n,ne,nf,d⟩;intro q;rw[q,hoc]at e;have q':oc=p.2:=gJ e;exact d w' (by rw[<- q'];exact hocd)
theorem um{v:V}(I:Inv X pins σ H s)(hN:X.N.Nodup)(hi:X.N[i]?=some x)(hx:Loc X.env.scope x)(r:jS v u)
 (h:∀s',Inv X pins (σ.set i (some v)) H s'->Q () s') (hf:X.fn x=true\/X.env.scope.names.lookup x=some .local:=by first|exact .inl rfl|exact .inr rfl|assumption):wpAny M A (storeName X.env x u) Q E s :=
 Kl I hN hi hx r (λs' I' _=>h s' I') hf
theorem Inv.call'(I:Inv X pins σ H s)(ho:s'.os=s.os)(u:Un (frs X.stack) ch H H' s.heap s'.heap)(hok:HOk X.prog X.w H' s'.heap)(hg:jcl s'.gens)
 (hch:∀b∈ch,(b∈X.ex\/X.s₀.heap.objs.size<=b)/\b≠X.env.locals/\(∀x c,X.env.cells.lookup x=some c->c≠b)/\∀p∈X.pn++pins,p.1≠b):Inv X pins σ H' s':=by
 obtain⟨h',g',d',t',o'⟩:=s';have e:o'=s.os:=ho;subst e;exact I.call (g':=g') (t':=t') (d':=d') u hok hg hch
end
abbrev XK:=bq->Option Addr->Hp->Prop
abbrev St:=List (Option V)
abbrev VK:=V->Hp->Prop
abbrev TE:=St->Hp->VK->Prop
abbrev TT:=St->Hp->(Bool->Hp->Prop)->Prop
abbrev TA:=St->Hp->(List V->Hp->Prop)->Prop
structure Ends where
 nx:St->Hp->Prop
 rt:VK
 bk:St->Hp->Prop:=λ_ _=>False
 ct:St->Hp->Prop:=λ_ _=>False
abbrev TS:=Ends->St->Hp->Prop
def EP(X:Cx)(pins:List (Addr×nv))(σ:St)(Q:VK)(u:bq)(s':Shared):Prop:=∃v H',Inv X pins σ H' s'/\jS v u/\Q v H'
def TP(X:Cx)(pins:List (Addr×nv))(σ:St)(Q:Bool->Hp->Prop)(b:Bool)(s':Shared):Prop:=∃H',Inv X pins σ H' s'/\Q b H'
def AP(X:Cx)(pins:List (Addr×nv))(σ:St)(Q:List V->Hp->Prop)(us:List bq)(s':Shared):Prop:=∃vs H',Inv X pins σ H' s'/\jJ vs us/\Q vs H'
def SP(X:Cx)(pins:List (Addr×nv))(D:Ends)(f:Flow)(s':Shared):Prop :=
 match f with
 |.next=>∃σ' H',Inv X pins σ' H' s'/\D.nx σ' H'
 |.brk=>∃σ' H',Inv X pins σ' H' s'/\D.bk σ' H'
 |.cont=>∃σ' H',Inv X pins σ' H' s'/\D.ct σ' H'
 |.ret u=>∃v σ' H',Inv X pins σ' H' s'/\jS v u/\D.rt v H'
def PE(X:Cx)(e:Expr)(t:TE):Prop :=
 ∀(pins:List (Addr×nv)) (s:Shared) (σ:St) (H:Hp) (Q:VK),Inv X pins σ H s->t σ H Q->wpAny (model X.prog X.w) X.A (eval e X.env) (EP X pins σ Q) X.xe s
def PT(X:Cx)(e:Expr)(t:TT):Prop :=
 ∀(pins:List (Addr×nv)) (s:Shared) (σ:St) (H:Hp) (Q:Bool->Hp->Prop),Inv X pins σ H s->t σ H Q->wpAny (model X.prog X.w) X.A (isTrue e X.env (eval e X.env)) (TP X pins σ Q) X.xe s
def PW(X:Cx)(e:Expr)(t:TT):Prop :=
 ∀(whole:Sem bq) (pins:List (Addr×nv)) (s:Shared) (σ:St) (H:Hp) (Q:Bool->Hp->Prop),Inv X pins σ H s->t σ H Q->wpAny (model X.prog X.w) X.A (isTrue e X.env whole) (TP X pins σ Q) X.xe s
variable{X:Cx}{t:TE}
theorem PW.pt{t:TT}(h:PW X e t):PT X e t:=h _
def PA(X:Cx)(es:List Expr)(t:TA):Prop :=
 ∀(pos:Pos) (pins:List (Addr×nv)) (s:Shared) (σ:St) (H:Hp) (Q:List V->Hp->Prop),Inv X pins σ H s->t σ H Q->wpAny (model X.prog X.w) X.A (spliced (backTo pos (bQ es X.env))) (AP X pins σ Q) X.xe s
def PS(X:Cx)(st:Stmt)(t:TS):Prop :=
 ∀(pins:List (Addr×nv)) (s:Shared) (σ:St) (H:Hp) (D:Ends),Inv X pins σ H s->t D σ H->wpAny (model X.prog X.w) X.A (exec st X.env) (SP X pins D) X.xe s
def PSs(X:Cx)(st:List Stmt)(t:TS):Prop :=
 ∀(pins:List (Addr×nv)) (s:Shared) (σ:St) (H:Hp) (D:Ends),Inv X pins σ H s->t D σ H->wpAny (model X.prog X.w) X.A (execs st X.env) (SP X pins D) X.xe s
theorem thn{α:Type}{t:Sem α}{Q Q':α->Shared->Prop}{s:Shared}(h:wpAny M A t Q E s)(hQ:∀a s,Q a s->Q' a s):wpAny M A t Q' E s:=gA h hQ λ_ _ x=>x
variable{Q:bq->Shared->Prop}{pos:Pos}{pins:List (Addr×nv)}{σ:St}{op:CmpOp}{c:Expr}
section
variable {X:Cx}
def XM(i:Nat):TE:=λσ H Q=>∃v,σ[i]?=some (some v)/\Q v H
def tC(v:V):TE:=λ_ H Q=>Q v H
theorem kh(hN:X.N[i]?=some x)(hv:Vis X.env.scope x)(hd:(x == ("__debug__":Str))=false:=by decide)(hcd:(x == ("__classdict__":Str))=false:=by decide):PE X (.Name x pos) (XM i):=by
 intro pins s σ H Q I h;obtain⟨v,e,h⟩:=h;obtain⟨m,hn,hl⟩:=I.loc;obtain⟨u,r,l⟩:=hl i x v hN e hv
 have fin:EP X pins σ Q u s:=⟨v,H,I,r,h⟩
 rcases l with⟨hk,hm⟩|⟨hk,c,hc,hcell⟩
 ·exact wpAny_Name (wpAny_loadName_local I.ok.kind hk hn hm fin) hd
 ·rcases hk with hk|hk
  ·exact wpAny_Name (wpAny_loadName_cell I.ok.kind hk hc hcell fin) hd
  ·exact wpAny_Name (wpAny_loadName_free I.ok.kind hk hc hcell fin hcd) hd
theorem KW{i j pos}:PE X (.Constant (.int i) j pos) (tC (.int i)):=λ_ _ _ H _ I h=>wpAny_Constant_int ⟨.int i,H,I.tok _,⟨_,rfl⟩,h⟩
theorem jbi{b j pos}:PE X (.Constant (.bool b) j pos) (tC (.bl b)):=λ_ _ _ H _ I h=>Constant_bool ⟨.bl b,H,I,rfl,h⟩
theorem pe_non{j pos}:PE X (.Constant .none j pos) (tC .non):=λ_ _ _ H _ I h=>Constant_none ⟨.non,H,I,rfl,h⟩
theorem Jr{x j pos}:PE X (.Constant (.str x) j pos) (tC (.str x)):=λ_ _ _ H _ I h=>Calls.Constant_str ⟨.str x,H,I.tok _,⟨_,rfl⟩,h⟩
def Gl(X:Cx)(x:Str):Prop:=X.env.kindOf x=some .globalImplicit
theorem zg{s:Shared}(I:Inv X pins σ H s)(hg:Gl X x)(hm:X.mg x=some u)(h:Q u s)
 (hd:(x == ("__debug__":Str))=false:=by decide):wpAny (model X.prog X.w) X.A (eval (.Name x pos) X.env) Q E s :=
 jcw I.ok.kind hg (Calls.loadGlobal_global (by rw[I.ok.glob];exact I.mod.glob.keeps I.bk) hm h) hd
theorem uU{s:Shared}(I:Inv X pins σ H s)(hg:Gl X x)(hm:X.mg x=none)(hv:pX x=some u)(h:Q u s)
 (hn:x ≠ "__name__":=by decide) (hd:(x == ("__debug__":Str))=false:=by decide):wpAny (model X.prog X.w) X.A (eval (.Name x pos) X.env) Q E s:=by
 obtain⟨mb,h1,h2⟩:=I.mod.blt;exact jcw I.ok.kind hg (Calls.loadGlobal_builtin (by rw[I.ok.glob];exact I.mod.glob.keeps I.bk) hm (by rw[I.ok.blt];exact h1.keeps I.bk) ((h2 x hn).trans hv) h) hd
theorem K9{v:V}(hg:Gl X x)(hm:X.mg x=some u)(r:jS v u)(hd:(x == ("__debug__":Str))=false:=by decide):PE X (.Name x pos) (tC v) :=
 λ_ _ _ H _ I h=>zg I hg hm ⟨v,H,I,r,h⟩ hd
theorem Zw{v:V}(hg:Gl X x)(hm:X.mg x=none)(hv:pX x=some u)(r:jS v u)(hn:x ≠ "__name__":=by decide)(hd:(x == ("__debug__":Str))=false:=by decide):PE X (.Name x pos) (tC v) :=
 λ_ _ _ H _ I h=>uU I hg hm hv ⟨v,H,I,r,h⟩ hn hd
variable {a b:Expr} {ta tb:TE} {pos:Pos}
def PC(X:Cx)(op:CmpOp)(a b:Expr)(t:TE):Prop :=
 ∀(pins:List (Addr×nv)) (s:Shared) (σ:St) (H:Hp) (Q:VK),Inv X pins σ H s->t σ H Q ->
  wpAny (model X.prog X.w) X.A (eval a X.env) (λv s₁=>wpAny (model X.prog X.w) X.A (eval b X.env) (λu s₂=>wpAny (model X.prog X.w) X.A (nG op v u) (EP X pins σ Q) X.xe s₂) X.xe s₁) X.xe s
theorem jaf(b:Expr)(h:op ≠ .In)(h2:op ≠ .NotIn):nU op b=false:=by
 have e1:(op == CmpOp.In)=false:=by cases op<;>first|rfl|exact absurd rfl h
 have e2:(op == CmpOp.NotIn)=false:=by cases op<;>first|rfl|exact absurd rfl h2
 cases b<;>simp[nU,e1,e2]
def tIsN(ta:TE):TE:=λσ H Q=>ta σ H λx H1=>Q (.bl (decide (x=.non))) H1
theorem jS.none_iff{x:V}{v:bq}(r:jS x v):(v == n9)=decide (x=.non):=by
 cases x with
 |non=>cases r;rfl
 |bl _=>cases r;rfl
 |int _=>obtain⟨t,rfl⟩:=r;rfl
 |str _=>obtain⟨t,rfl⟩:=r;rfl
 |byt _=>obtain⟨t,rfl⟩:=r;rfl
 |flt _=>obtain⟨t,rfl⟩:=r;rfl
 |ref _=>cases r;rfl
 |ty _=>cases r;rfl
theorem pc_isN{j pos'}(ha:PE X a ta):PC X .Is a (.Constant .none j pos') (tIsN ta):=by
 intro pins s σ H Q I h
 refine thn (ha pins s σ H _ I h) λv s1 ⟨x,H1,I1,r1,q1⟩=>?_
 exact Constant_none (is_none_gen ⟨.bl _,H1,I1,by rw[r1.none_iff];rfl,q1⟩)
def tB(t:TE):TT:=λσ H Q=>t σ H λx H1=>∃c,x=.bl c/\Q c H1
theorem pt_cmp(h:PC X op a b t)(h1:nU op b=false:=by first|exact jaf _ (by decide) (by decide)|rfl):PT X (.Compare a [op] [b] pos) (tB t):=by
 intro pins s σ H Q I hw;refine jdr (thn (h pins s σ H _ I hw) λv s1 h1=>thn h1 λu s2 h2=>thn h2 λc s3 ⟨x,H1,I1,r1,q1⟩=>?_) h1;obtain⟨d,rfl,q⟩:=q1;cases r1;exact mF ⟨H1,I1,q⟩
theorem pt_val(h:PE X e t)(he:∀whole,isTrue e X.env whole=(do let v <- whole;jev e.pos;tj [v] (truthy v)):=by intro _;rfl):PT X e (tB t):=by
 intro pins s σ H Q I hw;refine isTrue_plain (thn (h pins s σ H _ I hw) λv s1 ⟨x,H1,I1,r1,q1⟩=>?_) (he _);obtain⟨d,rfl,q⟩:=q1;cases r1;exact mF ⟨H1,I1,q⟩
variable {tA tB':TT} {rest:List Expr}
def tAnd(t u:TT):TT:=λσ H Q=>t σ H λc H1=>if c=true then u σ H1 Q else Q false H1
def tOr(t u:TT):TT:=λσ H Q=>t σ H λc H1=>if c=true then Q true H1 else u σ H1 Q
def tNot(t:TT):TT:=λσ H Q=>t σ H λc H1=>Q (!c) H1
theorem pw_and1(ha:PT X a tA):PW X (.BoolOp .And [a] pos) tA:=by
 intro wh pins s σ H Q I h;refine isTrue_and (thn (ha pins s σ H Q I h) λc s1 e=>?_)
 cases c with
 |true=>exact isTrue_and_nil e
 |false=>exact e
theorem pw_or1(ha:PT X a tA):PW X (.BoolOp .Or [a] pos) tA:=by
 intro wh pins s σ H Q I h;refine isTrue_or (thn (ha pins s σ H Q I h) λc s1 e=>?_)
 cases c with
 |false=>exact isTrue_or_nil e
 |true=>exact e
theorem pw_and(ha:PT X a tA)(hb:PW X (.BoolOp .And (b::rest) pos) tB'):PW X (.BoolOp .And (a::b::rest) pos) (tAnd tA tB'):=by
 intro wh pins s σ H Q I h;refine isTrue_and (thn (ha pins s σ H _ I h) λc s1 ⟨H1,I1,q1⟩=>?_)
 cases c with
 |true=>exact hb wh pins s1 σ H1 Q I1 q1
 |false=>exact⟨H1,I1,q1⟩
theorem pw_or(ha:PT X a tA)(hb:PW X (.BoolOp .Or (b::rest) pos) tB'):PW X (.BoolOp .Or (a::b::rest) pos) (tOr tA tB'):=by
 intro wh pins s σ H Q I h;refine isTrue_or (thn (ha pins s σ H _ I h) λc s1 ⟨H1,I1,q1⟩=>?_)
 cases c with
 |true=>exact⟨H1,I1,q1⟩
 |false=>exact hb wh pins s1 σ H1 Q I1 q1
theorem pt_not(ha:PT X a tA):PT X (.UnaryOp .Not a pos) (tNot tA):=by
 intro pins s σ H Q I h;exact isTrue_not (ha pins s σ H (λc H1=>Q (!c) H1) I h)
def tAndV(ta tb:TE):TE:=λσ H Q=>ta σ H λx H1=>∃c,x=.bl c/\if c=true then tb σ H1 Q else Q (.bl false) H1
def tOrV(ta tb:TE):TE:=λσ H Q=>ta σ H λx H1=>∃c,x=.bl c/\if c=true then Q (.bl true) H1 else tb σ H1 Q
def tNotV(ta:TE):TE:=λσ H Q=>ta σ H λx H1=>∃c,x=.bl c/\Q (.bl (!c)) H1
theorem X6{op}(h:PE X a t):PE X (.BoolOp op [a] pos) t:=λpins s σ H Q I hw=>BoolOp_one (h pins s σ H Q I hw)
theorem YW(ha:PE X a ta)(hb:PE X (.BoolOp .And (b::rest) pos) tb):PE X (.BoolOp .And (a::b::rest) pos) (tAndV ta tb):=by
 intro pins s σ H Q I h;refine BoolOp_and (thn (ha pins s σ H _ I h) λv s1 ⟨x,H1,I1,r1,q1⟩=>?_);obtain⟨c,rfl,q1⟩:=q1;cases r1;refine mF ?_
 cases c with
 |true=>exact hb pins s1 σ H1 Q I1 q1
 |false=>exact⟨.bl false,H1,I1,rfl,q1⟩
theorem pe_or(ha:PE X a ta)(hb:PE X (.BoolOp .Or (b::rest) pos) tb):PE X (.BoolOp .Or (a::b::rest) pos) (tOrV ta tb):=by
 intro pins s σ H Q I h;refine BoolOp_or (thn (ha pins s σ H _ I h) λv s1 ⟨x,H1,I1,r1,q1⟩=>?_);obtain⟨c,rfl,q1⟩:=q1;cases r1;refine mF ?_
 cases c with
 |false=>exact hb pins s1 σ H1 Q I1 q1
 |true=>exact⟨.bl true,H1,I1,rfl,q1⟩
theorem jac(ha:PE X a ta):PE X (.UnaryOp .Not a pos) (tNotV ta):=by
 intro pins s σ H Q I h;refine UnaryOp_ (thn (ha pins s σ H _ I h) λv s1 ⟨x,H1,I1,r1,q1⟩=>?_);obtain⟨c,rfl,q1⟩:=q1;cases r1;exact not_of (mF ⟨.bl (!c),H1,I1,rfl,q1⟩)
def tIf(t:TT)(ta tb:TE):TE:=λσ H Q=>t σ H λc H1=>if c=true then ta σ H1 Q else tb σ H1 Q
theorem QJ(hc:PT X c tA)(ha:PE X a ta)(hb:PE X b tb):PE X (.IfExp c a b pos) (tIf tA ta tb):=by
 intro pins s σ H Q I h;refine wpAny_IfExp (thn (hc pins s σ H _ I h) λd s1 ⟨H1,I1,q1⟩=>?_)
 cases d with
 |true=>exact ha pins s1 σ H1 Q I1 q1
 |false=>exact hb pins s1 σ H1 Q I1 q1
end
def SqL(K:bp)(H:Hp)(a:Addr)(xs:List V):Prop :=
 Rd H a (.lst xs) \/
  ∃(o:nv) (its:Array bq) (n:Nat),K.lookup a=some o/\o.cls=.type "list" /\ o.dict=none/\o.data=.seq its n/\its.size<=sizeLine/\jJ xs its.toList
def SqT(K:bp)(H:Hp)(a:Addr)(xs:List V):Prop :=
 Rd H a (.tup xs) \/
  ∃(o:nv) (its:Array bq) (n:Nat),K.lookup a=some o/\o.cls=.type "tuple" /\ o.data=.seq its n/\its.size<=sizeLine/\jJ xs its.toList
def absV:bq->Option V
 |.none=>some .non
 |.bool b=>some (.bl b)
 |.int i _=>some (.int i)
 |.str x _=>some (.str x)
 |.bytes b _=>some (.byt b)
 |.float b _=>some (.flt b)
 |.ref a=>some (.ref a)
 |.type n=>some (.ty n)
 |_=>none
theorem jS.abs{x:V}(r:jS x u):absV u=some x:=by
 cases x with
 |non=>cases r;rfl
 |bl _=>cases r;rfl
 |int _=>obtain⟨t,rfl⟩:=r;rfl
 |str _=>obtain⟨t,rfl⟩:=r;rfl
 |byt _=>obtain⟨t,rfl⟩:=r;rfl
 |flt _=>obtain⟨t,rfl⟩:=r;rfl
 |ref _=>cases r;rfl
 |ty _=>cases r;rfl
variable{y:V}
theorem jS.inj{x:V}(r:jS x u)(q:jS y u):x=y:=gJ (r.abs.symm.trans q.abs)
theorem jJ.inj:∀ {xs ys:List V} {us:List bq},jJ xs us->jJ ys us->xs=ys
 |_,_,_,.nil,.nil=>rfl
 |_,_,_,.cons r t,.cons r' t'=>by rw[r.inj r',jJ.inj t t']
variable{K:bp}
section
variable {X:Cx} {pins:List (Addr×nv)} {σ:St} {H:Hp} {s:Shared} {a:Addr} {xs ys:List V}
theorem SqL.of(h:H a=some (.lst xs)):SqL K H a xs:=.inl (.inl h)
theorem SqT.of(h:H a=some (.tup xs)):SqT K H a xs:=.inl (.inl h)
theorem Inv.list(I:Inv X pins σ H s)(h:SqL X.K H a xs):∃its:List bq,jJ xs its/\PlainL s.heap a its.toArray/\xs.length<=sizeLine:=by
 rcases h with h|⟨o,its,n,hk,hc,hd,hs,hz,r⟩
 ·obtain⟨z,its,n,r,e⟩:=h.ok I.hok;exact⟨its,r,⟨_,n,e,rfl,rfl,rfl⟩,z⟩
 ·refine⟨its.toList,r,⟨o,n,I.kIn a o hk,hc,hd,by simpa using hs⟩,?_⟩;have e:=r.length;simp only[jdV]at e;omega
theorem Inv.tuple(I:Inv X pins σ H s)(h:SqT X.K H a xs):∃its:List bq,jJ xs its/\IsTup s.heap a its.toArray/\xs.length<=sizeLine:=by
 rcases h with h|⟨o,its,n,hk,hc,hs,hz,r⟩
 ·obtain⟨z,its,r,p⟩:=h.ok I.hok;exact⟨its,r,p,z⟩
 ·refine⟨its.toList,r,⟨o,I.kIn a o hk,hc,n,by simpa using hs⟩,?_⟩;have e:=r.length;simp only[jdV]at e;omega
theorem Inv.list_inj(I:Inv X pins σ H s)(h:SqL X.K H a xs)(h':SqL X.K H a ys):xs=ys:=by
 obtain⟨its,r,⟨o,n,e,_,_,d⟩,_⟩:=I.list h;obtain⟨its',r',⟨o',n',e',_,_,d'⟩,_⟩:=I.list h';rw[e]at e';cases e';rw[d]at d';injection d' with d1 _
 have:its=its':=by simpa using congrArg Array.toList d1
 subst this;exact r.inj r'
theorem Inv.tuple_inj(I:Inv X pins σ H s)(h:SqT X.K H a xs)(h':SqT X.K H a ys):xs=ys:=by
 obtain⟨its,r,⟨o,e,_,n,d⟩,_⟩:=I.tuple h;obtain⟨its',r',⟨o',e',_,n',d'⟩,_⟩:=I.tuple h';rw[e]at e';cases e';rw[d]at d';injection d' with d1 _
 have:its=its':=by simpa using congrArg Array.toList d1
 subst this;exact r.inj r'
end
abbrev Cx.wish(X:Cx)(E:bq->Shared->Prop):Cx:={ X with xe:=E }
abbrev Cx.nox(X:Cx):Cx:=X.wish λ_ _=>False
theorem Cx.Ok.wish(ok:X.Ok)(E:bq->Shared->Prop):(X.wish E).Ok :=
 ⟨ok.mod,ok.kind,ok.glob,ok.blt,ok.above,ok.inj,ok.has,ok.cab,ok.hd,ok.frames,ok.stk,ok.exf,ok.bs,ok.bsz,ok.noex,ok.exfs,ok.funs,ok.frf⟩
theorem Cx.Ok.unwish(ok:(X.wish E).Ok):X.Ok :=
 ⟨ok.mod,ok.kind,ok.glob,ok.blt,ok.above,ok.inj,ok.has,ok.cab,ok.hd,ok.frames,ok.stk,ok.exf,ok.bs,ok.bsz,ok.noex,ok.exfs,ok.funs,ok.frf⟩
variable{f:bq->bq->Sem bq}
section
variable {X:Cx} {pins:List (Addr×nv)} {σ:St} {H:Hp} {s:Shared} {E:bq->Shared->Prop}
theorem Inv.wish(I:Inv X pins σ H s)(E:bq->Shared->Prop):Inv (X.wish E) pins σ H s:=⟨I.ok.wish E,I.os,I.bare,I.base,I.loc,I.cell,I.free,I.freeC,I.pin,I.hok,I.len⟩
theorem Inv.unwish(I:Inv (X.wish E) pins σ H s):Inv X pins σ H s:=⟨I.ok.unwish,I.os,I.bare,I.base,I.loc,I.cell,I.free,I.freeC,I.pin,I.hok,I.len⟩
theorem SP.unwish{D:Ends}{f:Flow}(h:SP (X.wish E) pins D f s'):SP X pins D f s':=by
 cases f with
 |next=>obtain⟨σ',H',I,q⟩:=h;exact⟨σ',H',I.unwish,q⟩
 |brk=>obtain⟨σ',H',I,q⟩:=h;exact⟨σ',H',I.unwish,q⟩
 |cont=>obtain⟨σ',H',I,q⟩:=h;exact⟨σ',H',I.unwish,q⟩
 |ret u=>obtain⟨v,σ',H',I,r,q⟩:=h;exact⟨v,σ',H',I.unwish,r,q⟩
theorem PT.nox{t:TT}(h:PT X.nox e t):PT X e t:=λpins s σ H Q I hw =>
 gA (h pins s σ H Q (I.wish _) hw) (λ_ _ ⟨H',I',q⟩=>⟨H',I'.unwish,q⟩) λ_ _ z=>mL z
theorem PSs.nox{st:List Stmt}{t:TS}(h:PSs X.nox st t):PSs X st t:=λpins s σ H D I hw =>
 gA (h pins s σ H D (I.wish _) hw) (λ_ _ q=>q.unwish) λ_ _ z=>mL z
end
variable{tc:TT}
section
variable {X:Cx} {st:Stmt} {rest:List Stmt} {t u:TS} {e:Expr} {te:TE} {pos:Pos}
def va:TS:=λD σ H=>D.nx σ H
def tSeq(t u:TS):TS:=λD σ H=>t { D with nx:=u D } σ H
theorem kl:PSs X [] va:=λ_ _ σ H _ I h=>wX ⟨σ,H,I,h⟩
theorem jB(h1:PS X st t)(h2:PSs X rest u):PSs X (st::rest) (tSeq t u):=by
 intro pins s σ H D I h;refine wpAny_execs_cons (thn (h1 pins s σ H { D with nx:=u D } I h) λf s1 q=>?_)
 cases f with
 |next =>
  obtain⟨σ',H',I',q⟩:=q
  exact h2 pins s1 σ' H' D I' q
 |ret v=>exact q
 |brk=>exact q
 |cont=>exact q
theorem Zy(h1:PS X st t):PSs X [st] t:=by
 intro pins s σ H D I h;refine wpAny_execs_cons (thn (h1 pins s σ H D I h) λf s1 q=>?_)
 cases f with
 |next=>exact wX q
 |ret v=>exact q
 |brk=>exact q
 |cont=>exact q
def tBreak:TS:=λD σ H=>D.bk σ H
def tCont:TS:=λD σ H=>D.ct σ H
theorem jaM:PS X (.Break pos) tBreak:=λ_ _ σ H _ I h=>wpAny_Break ⟨σ,H,I,h⟩
theorem QY:PS X (.Continue pos) tCont:=λ_ _ σ H _ I h=>wpAny_Continue ⟨σ,H,I,h⟩
theorem Inv.quiet{s:Shared}(I:Inv X pins σ H s):interactive X.env=false:=by simp[interactive,I.ok.kind]
def tDrop(te:TE):TS:=λD σ H=>te σ H λ_ H1=>D.nx σ H1
theorem zJ(he:PE X e te)(hs:pY e none pos.line X.env=pure false:=by rfl):PS X (.Expr e pos) (tDrop te):=by
 intro pins s σ H D I h;exact wpAny_Expr_any (thn (he pins s σ H _ I h) λv s1 ⟨x,H1,I1,r1,q1⟩=>⟨σ,H1,I1,q1⟩) I.quiet hs
def tRet(te:TE):TS:=λD σ H=>te σ H D.rt
theorem xM(he:PE X e te):PS X (.Return (some e) pos) (tRet te):=by
 intro pins s σ H D I h;exact wpAny_Return_some (thn (he pins s σ H _ I h) λv s1 ⟨x,H1,I1,r1,q1⟩=>⟨x,σ,H1,I1,r1,q1⟩)
def Vq(c:TT)(t u:TS):TS:=λD σ H=>c σ H λb H1=>if b=true then t D σ H1 else u D σ H1
theorem Q4{a b:List Stmt}(hc:PT X c tc)(ha:PSs X a t)(hb:PSs X b u):PS X (.If c a b pos) (Vq tc t u):=by
 intro pins s σ H D I h;refine wpAny_If (thn (hc pins s σ H _ I h) λd s1 ⟨H1,I1,q1⟩=>?_)
 cases d with
 |true=>exact ha pins s1 σ H1 D I1 q1
 |false=>exact hb pins s1 σ H1 D I1 q1
def tNever:TS:=λ_ _ _=>False
theorem jbv:PS X st tNever:=λ_ _ _ _ _ _ h=>h.elim
end
abbrev TG:=V->St->Hp->(St->Hp->Prop)->Prop
abbrev TGs:=List V->St->Hp->(St->Hp->Prop)->Prop
def PG(X:Cx)(target:Expr)(t:TG):Prop :=
 ∀(pins:List (Addr×nv)) (s:Shared) (σ:St) (H:Hp) (v:V) (u:bq) (Q:St->Hp->Prop),Inv X pins σ H s->jS v u->t v σ H Q ->
  wpAny (model X.prog X.w) X.A (assign target X.env u) (λ_ s'=>∃σ' H',Inv X pins σ' H' s'/\Q σ' H') X.xe s
def PGs(X:Cx)(ts:List Expr)(t:TGs):Prop :=
 ∀(pins:List (Addr×nv)) (s:Shared) (σ:St) (H:Hp) (vs:List V) (us:List bq) (Q:St->Hp->Prop),Inv X pins σ H s->jJ vs us->t vs σ H Q ->
  wpAny (model X.prog X.w) X.A (assignInOrder ((nc ts X.env).map (·.2)) us) (λ_ s'=>∃σ' H',Inv X pins σ' H' s'/\Q σ' H') X.xe s
abbrev TSet:=V->V->V->Hp->(Hp->Prop)->Prop
def PSet(X:Cx)(t:TSet):Prop :=
 ∀(pins:List (Addr×nv)) (s:Shared) (σ:St) (H:Hp) (o i v:V) (ov iv u:bq) (Q:Hp->Prop),Inv X pins σ H s->jS o ov->jS i iv->jS v u->t o i v H Q ->
  wpAny (model X.prog X.w) X.A (setItem ov iv u) (λ_ s'=>∃H',Inv X pins σ H' s'/\Q H') X.xe s
variable{es:List Expr}{k n:Nat}{tg:Expr}{te:TE}{g:TG}
section
variable {X:Cx} {pos:Pos}
def qA(i:Nat):TG:=λv σ H Q=>Q (σ.set i (some v)) H
theorem yq(hN:X.N.Nodup)(hi:X.N[i]?=some x)(hx:Loc X.env.scope x)(hf:X.fn x=true\/X.env.scope.names.lookup x=some .local:=by first|exact .inl rfl|exact .inr rfl|assumption):PG X (.Name x pos) (qA i):=by
 intro pins s σ H v u Q I r h;exact jcJ (um I hN hi hx r (λs' I'=>⟨_,H,I',h⟩) hf)
def gNil:TGs:=λvs σ H Q=>vs=[]/\Q σ H
def JL(t:TG)(u:TGs):TGs:=λvs σ H Q=>∃v r,vs=v::r/\t v σ H λσ' H'=>u r σ' H' Q
theorem QI:PGs X [] gNil:=by
 intro pins s σ H vs us Q I r h;obtain⟨e,h⟩:=h;subst e;cases r;exact assignInOrder_nil ⟨σ,H,I,h⟩
theorem xS{t:TG}{u:TGs}(h1:PG X e t)(h2:PGs X es u)
 (hs:(nc (e::es) X.env).map (·.2)=assign e X.env::(nc es X.env).map (·.2):=by rfl):PGs X (e::es) (JL t u):=by
 intro pins s σ H vs us Q I r h;obtain⟨v,vr,e1,h⟩:=h;subst e1
 cases r with
 |cons r rr =>
  rw[hs];refine assignInOrder_cons (thn (h1 pins s σ H _ _ _ I r h) λ_ s1 ⟨σ1,H1,I1,q1⟩=>?_);exact h2 pins s1 σ1 H1 _ _ Q I1 rr q1
def gTup(K:bp)(n:Nat)(t:TGs):TG:=λv σ H Q=>∃a xs,v=.ref a/\SqT K H a xs/\xs.length=n/\t xs σ H Q
theorem Y9{t:TGs}(hc:X.calm=true)(h:PGs X es t)
 (hn:(nc es X.env).length=n:=by rfl) (hst:(nc es X.env).findIdx? (·.1)=none:=by rfl):PG X (.Tuple es k pos) (gTup X.K n t):=by
 intro pins s σ H v u Q I r hw;obtain⟨a,xs,e1,hq,hl,hw⟩:=hw;subst e1;cases r;obtain⟨its,rv,ht,hz⟩:=I.tuple hq
 refine assign_Tuple_tuple (I.ok.hd hc) ht (by simp[hn,<- hl,rv.length]) hst λh' hx=>?_
 have I1:Inv X pins σ H { s with heap:=h' }:=I.kept (t':=s.toks) λb o e=>hx b o (gN (bN e)) e
 exact h pins _ σ H xs _ Q I1 (by simpa using rv) hw
def gSub(to ti:TE)(t:TSet):TG:=λv σ H Q=>to σ H λo H1=>ti σ H1 λi H2=>t o i v H2 λH3=>Q σ H3
theorem jbl{o i:Expr}{to ti:TE}{t:TSet}(ho:PE X o to)(hi:PE X i ti)(hs:PSet X t)
 (ha:∀v,assign (.Subscript o i pos) X.env v=(do
  let ov <- tj [v] (eval o X.env)
  let iv <- tj [v,ov] (eval i X.env)
  jev pos
  tj [v,ov,iv] (setItem ov iv v)
  release [v,ov,iv] []):=by intro _;rfl):PG X (.Subscript o i pos) (gSub to ti t):=by
 intro pins s σ H v u Q I r h;rw[ha];refine bh (dS (thn (ho pins s σ H _ I h) λov s1 ⟨x,H1,I1,r1,q1⟩=>?_));refine bh (dS (thn (hi pins s1 σ H1 _ I1 q1) λiv s2 ⟨y,H2,I2,r2,q2⟩=>?_));refine bh (pK (bh (dS (thn (hs pins s2 σ H2 x y v ov iv u _ I2 r1 r2 r q2) λ_ s3 ⟨H3,I3,q3⟩=>?_))));exact wpAny_release ⟨σ,H3,I3,q3⟩
def Qe(te:TE)(g:TG):TS:=λD σ H=>te σ H λx H1=>g x σ H1 D.nx
theorem vZ(he:PE X e te)(hg:PG X tg g)(hs:jcP [tg] e pos.line X.env=pure false:=by rfl)(hw:swappedStores [tg] e X.env=pure none:=by rfl)
 (h1:(nc [tg] X.env).map (·.2)=[assign tg X.env]:=by rfl):PS X (.Assign [tg] e pos) (Qe te g):=by
 intro pins s σ H D I h;refine wpAny_Assign_stores (thn (he pins s σ H _ I h) λv s1 ⟨x,H1,I1,r1,q1⟩=>?_) hs hw;rw[h1]
 exact thn (hg pins s1 σ H1 x v _ I1 r1 q1) λ_ s2 q=>q
theorem xK{pos':Pos}(hN:X.N.Nodup)(hi:X.N[i]?=some x)(hx:Loc X.env.scope x)(he:PE X e te)(hs:pY e (some (.Name x pos')) pos.line X.env=pure false:=by rfl)(hf:X.fn x=true\/X.env.scope.names.lookup x=some .local:=by first|exact .inl rfl|exact .inr rfl|assumption) :
 PS X (.Assign [.Name x pos'] e pos) (Qe te (qA i)):=by
 intro pins s σ H D I h;refine wpAny_Assign_Name (thn (he pins s σ H _ I h) λv s1 ⟨y,H1,I1,r1,q1⟩=>?_) hs;exact um I1 hN hi hx r1 (λs2 I2=>⟨_,H1,I2,q1⟩) hf
end
variable{body:List Stmt}{tb:TS}
section
variable {X:Cx} {pos:Pos}
def tWhile(c:TT)(tb:TS):TS:=λD σ H=>∃W:Nat->St->Hp->Prop,(∃m,W m σ H)/\∀m σ H,W m σ H ->
 c σ H λb H1=>if b=true then ∃N:St->Hp->Prop,(∀σ' H',N σ' H'->∃m',m'<m/\W m' σ' H')/\tb { D with nx:=N,ct:=N,bk:=D.nx } σ H1 else D.nx σ H1
theorem jbh(hp:PassesOwn (model X.prog X.w) X.A X.env X.xe)(hc:PT X c tc)(hb:PSs X body tb):PS X (.While c body [] pos) (tWhile tc tb):=by
 intro pins s σ H D I h;obtain⟨W,⟨m0,w0⟩,turn⟩:=h;refine wpAny_While (codeAny_whileLoop (λn s'=>∃σ' H',Inv X pins σ' H' s'/\W n σ' H') ?_ m0 ⟨σ,H,I,w0⟩);rintro n s1 ⟨σ1,H1,I1,w1⟩;refine nH hp (thn (hc pins s1 σ1 H1 _ I1 (turn n σ1 H1 w1)) λb s2 ⟨H2,I2,q2⟩=>?_)
 cases b with
 |true =>
  obtain⟨N,hN,q2⟩:=q2;rw[if_pos rfl];refine nH hp (thn (hb pins s2 σ1 H2 _ I2 q2) λf s3 q3=>?_)
  cases f with
  |next =>
   obtain⟨σ3,H3,I3,n3⟩:=q3;obtain⟨m',hm,w3⟩:=hN σ3 H3 n3
   exact⟨m',hm,σ3,H3,I3,w3⟩
  |cont =>
   obtain⟨σ3,H3,I3,n3⟩:=q3;obtain⟨m',hm,w3⟩:=hN σ3 H3 n3
   exact⟨m',hm,σ3,H3,I3,w3⟩
  |brk=>exact q3
  |ret v=>exact q3
 |false =>
  rw[if_neg dY];exact wX ⟨σ1,H2,I2,q2⟩
end
structure It where
 go:Nat->Hp->Prop
 yld:Nat->Hp->V->Hp->Prop
 stop:Nat->Hp->Prop
def uI(X:Cx)(pins:List (Addr×nv))(H:Hp)(b:Addr):Prop :=
 H b=none/\b≠X.env.locals/\b ∉ X.fs/\(b∈X.ex\/X.s₀.heap.objs.size<=b)/\(∀x c,X.env.cells.lookup x=some c->c≠b)/\∀p∈X.pn++pins,p.1≠b
theorem Inv.fpOk{H':Hp}{s:Shared}{b:Addr}(I:Inv X pins σ H s)(hb:s.heap.objs.size<=b)(hn:H' b=none):uI X pins H' b:=by
 refine⟨hn,pd (dh I.lt hb),I.nofs hb,.inr (dg I.sz hb),λx c e z=>?_,λp hp z=>?_⟩
 ·obtain⟨v,q⟩:=I.cell x c e;exact absurd (dh q.lt (by rw[z];exact hb)) (gG _)
 ·exact absurd (dh (bN (I.pin p hp).1) (by rw[z];exact hb)) (gG _)
structure Turn (P:dW) (w:World) (K:bp) (tg:Expr) (J:It) (fp:List Addr) (it:Addr) (tn:Nat->gQ->Prop):Prop where
 mem:it∈fp
 obj:∀i h,tn i h->∀b∈fp,∃o,h.get? b=some o/\∀v,o.data ≠ .cell v
 keep:∀i h h',tn i h->(∀b∈fp,∀o,h.get? b=some o->h'.get? b=some o)->tn i h'
 item:∀(X:Cx),X.prog=P->X.w=w->X.K=K->X.calm=true->∀(i:Nat) (pins:List (Addr×nv)) (s:Shared) (σ:St) (H:Hp) (E:bq->Shared->Prop),Inv X pins σ H s->(∀b∈fp,uI X pins H b)->tn i s.heap->J.go i H ->
  wpAny (model P w) X.A (pyNext (.ref it)) (λr s1=>∃u,r=some u /\
   wpAny (model P w) X.A (pE tg (.ref it) u) (λ_ s2=>∃x H',Inv X pins σ H' s2/\jS x u/\J.yld i H x H'/\tn (i+1) s2.heap/\∀b∈fp,H' b=none) E s1) E s
 done:∀(X:Cx),X.prog=P->X.w=w->X.K=K->X.calm=true->∀(i:Nat) (pins:List (Addr×nv)) (s:Shared) (σ:St) (H:Hp) (E:bq->Shared->Prop),Inv X pins σ H s->(∀b∈fp,uI X pins H b)->tn i s.heap->J.stop i H ->
  wpAny (model P w) X.A (pyNext (.ref it)) (λr s1=>r=none/\Inv X pins σ H s1) E s
 self:∀(A:mq) (i:Nat) (s:Shared) (Q:bq->Shared->Prop) (E:bq->Shared->Prop),tn i s.heap->Q (.ref it) s->wpAny (model P w) A (pyIter (.ref it)) Q E s
abbrev TI:=St->Hp->(It->Hp->Prop)->Prop
def PIE(X:Cx)(pins:List (Addr×nv))(σ:St)(tg:Expr)(R:It->Hp->Prop)(itv:bq)(s2:Shared):Prop :=
 ∃(it:Addr) (fp:List Addr) (tn:Nat->gQ->Prop) (J:It) (H':Hp),itv=.ref it/\Inv X pins σ H' s2/\Turn X.prog X.w X.K tg J fp it tn/\tn 0 s2.heap/\(∀b∈fp,uI X pins H' b)/\R J H'
def PI(X:Cx)(tg iter:Expr)(wi:TI):Prop :=
 ∀(pins:List (Addr×nv)) (s:Shared) (σ:St) (H:Hp) (R:It->Hp->Prop),Inv X pins σ H s->wi σ H R ->
  wpAny (model X.prog X.w) X.A (eval iter X.env) (λv s1=>wpAny (model X.prog X.w) X.A (pyIter v) (PIE X pins σ tg R) X.xe s1) X.xe s
variable{vs:List V}
theorem jbj{s:Shared}{n:String}{vs:Array bq}{Q:Unit->Shared->Prop}(ho:s.heap.get? it=some o)(hc:o.cls=.type n)(hd:o.data=.fields vs)
 (hn:["enumerate","zip","dict_itemiterator","dict_reverseitemiterator","odict_iterator","itertools.zip_longest","itertools.pairwise"].contains n=false) (hQ:Q () s):wpAny M A (pE tg (.ref it) u) Q E s:=by
 unfold pE
 cases tg<;>first
  |exact bJ hQ
  |(cases u<;>first
   |exact bJ hQ
   |(refine bh (wpAny_load ho ?_)
     rw[hc,hd];show wpAny M A (if (["enumerate","zip","dict_itemiterator","dict_reverseitemiterator","odict_iterator","itertools.zip_longest","itertools.pairwise"].contains n&&vs[0]? == some (rawInt _))=true then _ else _) Q E s;rw[if_neg (by intro h;rw[hn,Bool.false_and]at h;cases h)]
     exact bJ hQ))
def Itl(K:bp)(a:Addr):It :=
 ⟨λi H=>∃xs x,SqL K H a xs/\xs[i]?=some x,λi H x H'=>H'=H/\∀xs,SqL K H a xs->xs[i]?=some x,λi H=>∃xs,SqL K H a xs/\xs.length<=i⟩
def Itt(K:bp)(a:Addr):It :=
 ⟨λi H=>∃xs x,SqT K H a xs/\xs[i]?=some x,λi H x H'=>H'=H/\∀xs,SqT K H a xs->xs[i]?=some x,λi H=>∃xs,SqT K H a xs/\xs.length<=i⟩
theorem Vb(a it:Addr):Turn P w K tg (Itl K a) [it] it (λi h=>h.IsListIter it a i) where
 mem:=by simp
 obj:=λi h st b hb=>by
  have e:b=it:=by simpa using hb
  subst e;obtain⟨o,e,c,d⟩:=st;exact⟨o,e,λv z=>by rw[d]at z;cases z⟩
 keep:=λi h h' st k=>st.at λo e=>k it (by simp) o e
 item:=by
  intro X hP hw hK hc i pins s σ H E I hf st hg;subst hP hw hK;obtain⟨xs,x,hq,hx⟩:=hg;obtain⟨its,rv,p,hz⟩:=I.list hq;obtain⟨u,hu,ru⟩:=rv.get hx;obtain⟨f0,f1,f2,f3,f4,f5⟩:=hf it (by simp)
  refine jda st p.isList (x:=u) (by simpa using hu) λh' st' sb=>?_
  have I1:Inv X pins σ H { s with heap:=h' }:=I.turned (t':=s.toks) (λb o hb e=>(sb.2 b hb).trans e) f0 f1 f3 f4 f5;obtain⟨o,e,c,d⟩:=id st';exact⟨u,rfl,jbj (s:={ s with heap:=h' }) e c d (by decide) ⟨x,H,I1,ru,⟨rfl,λys hy=>by rw[I.list_inj hy hq];exact hx⟩,st',λb hb=>(hf b hb).1⟩⟩
 done:=by
  intro X hP hw hK hc i pins s σ H E I hf st hg;subst hP hw hK;obtain⟨xs,hq,hx⟩:=hg;obtain⟨its,rv,p,hz⟩:=I.list hq;obtain⟨f0,f1,f2,f3,f4,f5⟩:=hf it (by simp);have hl:=rv.length
  exact jds (I.ok.hd hc) st p.isList (by simp;omega) λh' eb=>⟨rfl,I.turned (t':=s.toks) (λb o hb e=>eb b o hb e) f0 f1 f3 f4 f5⟩
 self:=λ_ _ _ _ _ st h=>wpAny_pyIter_listiter st h
theorem Y6(a it:Addr):Turn P w K tg (Itt K a) [it] it (λi h=>h.IsTupleIter it a i) where
 mem:=by simp
 obj:=λi h st b hb=>by
  have e:b=it:=by simpa using hb
  subst e;obtain⟨o,e,c,d⟩:=st;exact⟨o,e,λv z=>by rw[d]at z;cases z⟩
 keep:=λi h h' st k=>st.at λo e=>k it (by simp) o e
 item:=by
  intro X hP hw hK hc i pins s σ H E I hf st hg;subst hP hw hK;obtain⟨xs,x,hq,hx⟩:=hg;obtain⟨its,rv,p,hz⟩:=I.tuple hq;obtain⟨u,hu,ru⟩:=rv.get hx;obtain⟨f0,f1,f2,f3,f4,f5⟩:=hf it (by simp)
  refine wpAny_pyNext_tuple_item st (show s.heap.IsTuple a its.toArray from p) (x:=u) (by simpa using hu) λh' st' sb=>?_
  have I1:Inv X pins σ H { s with heap:=h' }:=I.turned (t':=s.toks) (λb o hb e=>(sb.2 b hb).trans e) f0 f1 f3 f4 f5;obtain⟨o,e,c,d⟩:=id st';exact⟨u,rfl,jbj (s:={ s with heap:=h' }) e c d (by decide) ⟨x,H,I1,ru,⟨rfl,λys hy=>by rw[I.tuple_inj hy hq];exact hx⟩,st',λb hb=>(hf b hb).1⟩⟩
 done:=by
  intro X hP hw hK hc i pins s σ H E I hf st hg;subst hP hw hK;obtain⟨xs,hq,hx⟩:=hg;obtain⟨its,rv,p,hz⟩:=I.tuple hq;obtain⟨f0,f1,f2,f3,f4,f5⟩:=hf it (by simp);have hl:=rv.length
  exact wpAny_pyNext_tuple_end (I.ok.hd hc) st (show s.heap.IsTuple a its.toArray from p) (by simp;omega) λh' eb=>⟨rfl,I.turned (t':=s.toks) (λb o hb e=>eb b o hb e) f0 f1 f3 f4 f5⟩
 self:=λ_ _ _ _ _ st h=>wpAny_pyIter_tupleiter st h
variable{fp:List Addr}
section
variable {X:Cx} {tg:Expr}
def tFor(wi:TI)(g:TG)(tb:TS):TS:=λD σ H=>wi σ H λJ H1=>∃W:Nat->Nat->St->Hp->Prop,(∃m,W 0 m σ H1)/\∀i m σ H,W i m σ H ->
 (J.stop i H/\D.nx σ H)\/(J.go i H/\∃N:St->Hp->Prop,(∀σ' H',N σ' H'->∃m',m'<m/\W (i+1) m' σ' H')/\∀x H',J.yld i H x H'->g x σ H' λσ2 H2=>tb { D with nx:=N,ct:=N,bk:=D.nx } σ2 H2)
def QG(fp:List Addr)(h:gQ):List (Addr×nv):=fp.filterMap λb=>(h.get? b).map λo=>(b,o)
theorem qF{b:Addr}(hb:b∈fp)(e:h.get? b=some o):(b,o)∈QG fp h:=tJ.mpr ⟨b,hb,by rw[e];rfl⟩
theorem Uw{p:Addr×nv}(hp:p∈QG fp h):p.1∈fp/\h.get? p.1=some p.2:=by
 obtain⟨b,hb,e⟩:=tJ.mp hp
 cases q:h.get? b with
 |none=>rw[q]at e;cases e
 |some o =>
  rw[q]at e;have e':(b,o)=p:=gJ e;subst e';exact⟨hb,q⟩
theorem Inv.pinned{s:Shared}(I:Inv X pins σ H s)(hf:∀b∈fp,uI X pins H b)(ho:∀b∈fp,∃o,s.heap.get? b=some o/\∀v,o.data ≠ .cell v):Inv X (pins++QG fp s.heap) σ H s :=
 I.pins_of λp hp=>(dP.mp hp).elim (λz=>I.pin p (bR _ z)) λz=>by
  obtain⟨hb,e⟩:=Uw z;obtain⟨f0,f1,f2,_⟩:=hf p.1 hb;obtain⟨o,e',d⟩:=ho p.1 hb;rw[e]at e';cases e';exact⟨e,f0,f1,f2,d⟩
theorem Inv.unpinned{pl:List (Addr×nv)}{s:Shared}(I:Inv X (pins++pl) σ H s):Inv X pins σ H s:=I.pins_of λp hp=>I.pin p (bR _ (dI _ hp))
theorem vH{iter:Expr}{wi:TI}(hp:PassesOwn (model X.prog X.w) X.A X.env X.xe)(hc:X.calm=true)(hi:PI X tg iter wi)(hg:PG X tg g)(hb:PSs X body tb)
 (hs:∀x,mS iter X.env x=pure x:=by intro _;rfl):PS X (.For tg iter body [] pos) (tFor wi g tb):=by
 intro pins s σ H D I h;refine wpAny_For (thn (hi pins s σ H _ I h) λv s1 h1=>thn h1 λitv s2 h2=>?_) hs;obtain⟨it,fp,tn,J,H2,e,I2,T,st2,f2,W,⟨m0,w0⟩,turn⟩:=h2;subst e
 have stat:∀ {H':Hp},(∀b∈fp,H' b=none)->∀b∈fp,uI X pins H' b:=λhn b hb=>⟨hn b hb,(f2 b hb).2⟩
 refine codeAny_forLoop_any (λn s'=>∃i σ' H',Inv X pins σ' H' s'/\tn i s'.heap/\(∀b∈fp,H' b=none)/\W i n σ' H') ?_ m0 ⟨0,σ,H2,I2,st2,λb hb=>(f2 b hb).1,w0⟩;rintro n s3 ⟨i,σ3,H3,I3,st3,fr3,w3⟩;rcases turn i n σ3 H3 w3 with⟨stop,qn⟩|⟨go,N,hN,step⟩
 ·refine nH hp (thn (T.done X rfl rfl rfl hc i pins s3 σ3 H3 X.xe I3 (stat fr3) st3 stop) λr s4 ⟨hr,I4⟩=>?_);subst hr;exact wX ⟨σ3,H3,I4,qn⟩
 ·refine nH hp (thn (T.item X rfl rfl rfl hc i pins s3 σ3 H3 X.xe I3 (stat fr3) st3 go) λr s4 ⟨u,hr,h4⟩=>?_);subst hr;refine nH hp (thn h4 λ_ s5 ⟨x,H5,I5,r5,y5,st5,fr5⟩=>?_);have I5':=I5.pinned (stat fr5) (T.obj _ _ st5);refine nH hp (thn (hg _ s5 σ3 H5 x u _ I5' r5 (step x H5 y5)) λ_ s6 ⟨σ6,H6,I6,q6⟩=>?_);refine nH hp (thn (hb _ s6 σ6 H6 _ I6 q6) λf s7 q7=>?_)
  have again:∀ {σ7:St} {H7:Hp},Inv X (pins++QG fp s5.heap) σ7 H7 s7->N σ7 H7->∃m,m<n/\∃i σ' H',Inv X pins σ' H' s7/\tn i s7.heap/\(∀b∈fp,H' b=none)/\W i m σ' H':=λ{σ7 H7} I7 n7=>by
   obtain⟨m',hm,w7⟩:=hN σ7 H7 n7;refine⟨m',hm,i+1,σ7,H7,I7.unpinned,T.keep _ _ _ st5 λb hb o e=>(I7.pin (b,o) (bR _ (bR _ (qF hb e)))).1,λb hb=>?_,w7⟩;obtain⟨o,e,d⟩:=T.obj _ _ st5 b hb;exact(I7.pin (b,o) (bR _ (bR _ (qF hb e)))).2.1
  cases f with
  |next=>obtain⟨σ7,H7,I7,n7⟩:=q7;exact again I7 n7
  |cont=>obtain⟨σ7,H7,I7,n7⟩:=q7;exact again I7 n7
  |brk=>obtain⟨σ7,H7,I7,q7⟩:=q7;exact⟨σ7,H7,I7.unpinned,q7⟩
  |ret v=>obtain⟨x7,σ7,H7,I7,r7,q7⟩:=q7;exact⟨x7,σ7,H7,I7.unpinned,r7,q7⟩
end
abbrev R2:=V->V->Hp->VK->Prop
def OpR(X:Cx)(f:bq->bq->Sem bq)(r:R2):Prop :=
 ∀(pins:List (Addr×nv)) (s:Shared) (σ:St) (H:Hp) (x y:V) (v u:bq) (Q:VK),Inv X pins σ H s->jS x v->jS y u->r x y H Q ->
  wpAny (model X.prog X.w) X.A (f v u) (EP X pins σ Q) X.xe s
def UnR(X:Cx)(f:bq->Sem bq)(r:V->Hp->VK->Prop):Prop :=
 ∀(pins:List (Addr×nv)) (s:Shared) (σ:St) (H:Hp) (x:V) (v:bq) (Q:VK),Inv X pins σ H s->jS x v->r x H Q ->
  wpAny (model X.prog X.w) X.A (f v) (EP X pins σ Q) X.xe s
def xD(X:Cx)(f:bq)(r:List V->Hp->VK->Prop):Prop :=
 ∀(pins:List (Addr×nv)) (s:Shared) (σ:St) (H:Hp) (xs:List V) (us:List bq) (Q:VK),Inv X pins σ H s->jJ xs us->r xs H Q ->
  wpAny (model X.prog X.w) X.A (call f us) (EP X pins σ Q) X.xe s
def tOp(r:R2)(ta tb:TE):TE:=λσ H Q=>ta σ H λx H1=>tb σ H1 λy H2=>r x y H2 Q
def tUn(r:V->Hp->VK->Prop)(ta:TE):TE:=λσ H Q=>ta σ H λx H1=>r x H1 Q
def rI0(g:Int->Int->V):R2:=λx y H Q=>∃i j,x=.int i/\y=.int j/\Q (g i j) H
def rU(g:Int->V):V->Hp->VK->Prop:=λx H Q=>∃i,x=.int i/\Q (g i) H
variable{r:R2}
section
variable {X:Cx} {a b c:Expr} {ta tb tc:TE} {pos:Pos}
theorem binT(ha:PE X a ta)(hb:PE X b tb){s:Shared}{R:V->V->Hp->Prop}(I:Inv X pins σ H s)
 (h:ta σ H λx H1=>tb σ H1 λy H2=>R x y H2)  
 (hf:∀v u s2 x y H2,Inv X pins σ H2 s2->jS x v->jS y u->R x y H2->wpAny (model X.prog X.w) X.A (f v u) Q X.xe s2) :
 wpAny (model X.prog X.w) X.A (eval a X.env) (λv s₁=>wpAny (model X.prog X.w) X.A (eval b X.env) (λu s₂=>wpAny (model X.prog X.w) X.A (f v u) Q X.xe s₂) X.xe s₁) X.xe s:=by
 refine thn (ha pins s σ H _ I h) λv s1 ⟨x,H1,I1,r1,q1⟩=>?_
 refine thn (hb pins s1 σ H1 _ I1 q1) λu s2 ⟨y,H2,I2,r2,q2⟩=>?_
 exact hf v u s2 x y H2 I2 r1 r2 q2
theorem jaI{op:jew}(ho:OpR X (jcY op) r)(ha:PE X a ta)(hb:PE X b tb):PE X (.BinOp a op b pos) (tOp r ta tb):=by
 intro pins s σ H Q I h;exact wpAny_BinOp (binT ha hb I h λv u s2 x y H2 I2 rx ry q=>ho pins s2 σ H2 x y v u Q I2 rx ry q)
theorem pe_un{op:UnaryOp}{r:V->Hp->VK->Prop}(ho:UnR X (unaryOp op) r)(ha:PE X a ta):PE X (.UnaryOp op a pos) (tUn r ta):=by
 intro pins s σ H Q I h;exact UnaryOp_ (thn (ha pins s σ H _ I h) λv s1 ⟨x,H1,I1,r1,q1⟩=>ho pins s1 σ H1 x v Q I1 r1 q1)
theorem opI0{g:Int->Int->Int}
 (rule:∀(i j:Int) (t u:Tok) (s:Shared) (Q:bq->Shared->Prop) (E:bq->Shared->Prop),Q (.int (g i j) s.toks) { s with toks:=s.toks+1 }->wpAny (model X.prog X.w) X.A (f (.int i t) (.int j u)) Q E s) :
 OpR X f (rI0 λi j=>.int (g i j)):=by
 intro pins s σ H x y v u Q I rx ry h;obtain⟨i,j,rfl,rfl,q⟩:=h;obtain⟨t,rfl⟩:=rx;obtain⟨t',rfl⟩:=ry;exact rule i j t t' s _ _ ⟨.int (g i j),H,I.tok _,⟨_,rfl⟩,q⟩
theorem opB0{g:Int->Int->Bool}
 (rule:∀(i j:Int) (t u:Tok) (s:Shared) (Q:bq->Shared->Prop) (E:bq->Shared->Prop),Q (.bool (g i j)) s->wpAny (model X.prog X.w) X.A (f (.int i t) (.int j u)) Q E s) :
 OpR X f (rI0 λi j=>.bl (g i j)):=by
 intro pins s σ H x y v u Q I rx ry h;obtain⟨i,j,rfl,rfl,q⟩:=h;obtain⟨t,rfl⟩:=rx;obtain⟨t',rfl⟩:=ry;exact rule i j t t' s _ _ ⟨.bl (g i j),H,I,rfl,q⟩
theorem op_and:OpR X (jcY .BitAnd) (rI0 λi j=>.int (pR i j)):=opI0 λ_ _ _ _ _ _ _ q=>and_int q
theorem unI{f:bq->Sem bq}{g:Int->Int}
 (rule:∀(i:Int) (t:Tok) (s:Shared) (Q:bq->Shared->Prop) (E:bq->Shared->Prop),Q (.int (g i) s.toks) { s with toks:=s.toks+1 }->wpAny (model X.prog X.w) X.A (f (.int i t)) Q E s) :
 UnR X f (rU λi=>.int (g i)):=by
 intro pins s σ H x v Q I rx h;obtain⟨i,rfl,q⟩:=h;obtain⟨t,rfl⟩:=rx;exact rule i t s _ _ ⟨.int (g i),H,I.tok _,⟨_,rfl⟩,q⟩
theorem un_neg:UnR X (unaryOp .USub) (rU λi=>.int (-i)):=unI λ_ _ _ _ _ q=>neg_int q
end
def scal:V->V->Bool
 |.non,.non=>true|.non,.int _=>true|.int _,.non=>true|.non,.bl _=>true|.bl _,.non=>true|.non,.str _=>true|.str _,.non=>true
 |.int _,.int _=>true|.bl _,.bl _=>true|.str _,.str _=>true|.byt _,.byt _=>true
 |.int _,.str _=>true|.str _,.int _=>true|.bl _,.str _=>true|.str _,.bl _=>true
 |_,_=>false
def rEq:R2:=λx y H Q=>scal x y=true/\Q (.bl (decide (x=y))) H
theorem dec_int{i j:Int}:decide (V.int i=V.int j)=(i == j):=by
 rw[nJ];simp
theorem dec_bl{i j:Bool}:decide (V.bl i=V.bl j)=(i == j):=by
 rw[nJ];simp
theorem dec_str{i j:Str}:decide (V.str i=V.str j)=(i == j):=by
 rw[nJ];simp
theorem jcg{i j:Array UInt8}:decide (V.byt i=V.byt j)=(i.toList == j.toList):=by
 rw[nJ];cases i;cases j;simp
section
variable {X:Cx} {a b c:Expr} {ta tb tc:TE} {pos:Pos}
theorem kX{s:Shared}{Q:VK}{k k':Bool}(I:Inv X pins σ H s)(q:Q (.bl k) H)(e:k=k'):EP X pins σ Q (.bool k') s:=by
 subst e;exact⟨.bl k,H,I,rfl,q⟩
theorem op_eq:OpR X (nG .Eq) rEq:=by
 intro pins s σ H x y v u Q I rx ry h;obtain⟨hs,q⟩:=h
 cases x with
 |non =>
  cases rx
  cases y with
  |non=>cases ry;exact PySem.EqNone.eq_none_none (kX I q (by simp))
  |bl j=>cases ry;exact PySem.EqNone.eq_none_bool (kX I q (by simp))
  |int j=>obtain⟨t',rfl⟩:=ry;exact PySem.EqNone.eq_none_int (kX I q (by simp))
  |str j=>obtain⟨t',rfl⟩:=ry;exact PySem.EqNone.eq_none_str (kX I q (by simp))
  |_=>exact absurd (show false=true from hs) dY
 |bl i =>
  cases rx
  cases y with
  |non=>cases ry;exact PySem.EqNone.eq_bool_none (kX I q (by simp))
  |bl j=>cases ry;exact eq_bool (kX I q dec_bl)
  |str j=>obtain⟨t',rfl⟩:=ry;exact PySem.EqMixed.eq_bool_str (kX I q (by simp))
  |_=>exact absurd (show false=true from hs) dY
 |int i =>
  obtain⟨t,rfl⟩:=rx
  cases y with
  |non=>cases ry;exact PySem.EqNone.eq_int_none (kX I q (by simp))
  |int j=>obtain⟨t',rfl⟩:=ry;exact eq_int (kX I q dec_int)
  |str j=>obtain⟨t',rfl⟩:=ry;exact PySem.EqMixed.eq_int_str (kX I q (by simp))
  |_=>exact absurd (show false=true from hs) dY
 |str i =>
  obtain⟨t,rfl⟩:=rx
  cases y with
  |non=>cases ry;exact PySem.EqNone.eq_str_none (kX I q (by simp))
  |bl j=>cases ry;exact PySem.EqMixed.eq_str_bool (kX I q (by simp))
  |int j=>obtain⟨t',rfl⟩:=ry;exact PySem.EqMixed.eq_str_int (kX I q (by simp))
  |str j=>obtain⟨t',rfl⟩:=ry;exact eq_str (kX I q dec_str)
  |_=>exact absurd (show false=true from hs) dY
 |byt i =>
  obtain⟨t,rfl⟩:=rx
  cases y with
  |byt j=>obtain⟨t',rfl⟩:=ry;exact PySem.W.eq_bytes (kX I q jcg)
  |_=>exact absurd (show false=true from hs) dY
 |_=>cases y<;>exact absurd (show false=true from hs) dY
theorem op_lt:OpR X (nG .Lt) (rI0 λi j=>.bl (decide (i<j))):=opB0 λ_ _ _ _ _ _ _ q=>lt_int q
theorem op_le:OpR X (nG .LtE) (rI0 λi j=>.bl (decide (i<=j))):=opB0 λ_ _ _ _ _ _ _ q=>le_int q
theorem op_gt:OpR X (nG .Gt) (rI0 λi j=>.bl (decide (j<i))):=opB0 λ_ _ _ _ _ _ _ q=>gt_int q
theorem op_ge:OpR X (nG .GtE) (rI0 λi j=>.bl (decide (j<=i))):=opB0 λ_ _ _ _ _ _ _ q=>ge_int q
theorem nomark(b:Expr)(h:op ≠ .In:=by decide)(h2:op ≠ .NotIn:=by decide):nU op b=false:=by
 have e1:(op == CmpOp.In)=false:=by cases op<;>first|rfl|exact absurd rfl h
 have e2:(op == CmpOp.NotIn)=false:=by cases op<;>first|rfl|exact absurd rfl h2
 cases b<;>simp[nU,e1,e2]
theorem Z8(ho:OpR X (nG op) r)(ha:PE X a ta)(hb:PE X b tb)(hm:nU op b=false):PE X (.Compare a [op] [b] pos) (tOp r ta tb):=by
 intro pins s σ H Q I h;exact wpAny_Compare1 (binT ha hb I h λv u s2 x y H2 I2 rx ry q=>ho pins s2 σ H2 x y v u Q I2 rx ry q) hm
def tTest(t:TE):TT:=λσ H Q=>t σ H λx H'=>∃k,x=.bl k/\Q k H'
theorem pt_cmpR(ho:OpR X (nG op) r)(ha:PE X a ta)(hb:PE X b tb)(hm:nU op b=false):PT X (.Compare a [op] [b] pos) (tTest (tOp r ta tb)):=by
 intro pins s σ H Q I h
 refine jdr (thn (ha pins s σ H _ I h) λv s1 ⟨x,H1,I1,r1,q1⟩=>thn (hb pins s1 σ H1 _ I1 q1) λu s2 ⟨y,H2,I2,r2,q2⟩ =>
  thn (ho pins s2 σ H2 x y v u _ I2 r1 r2 q2) λc s3 ⟨z,H3,I3,r3,k,e,q3⟩=>?_) hm
 subst e;cases r3;exact mF ⟨H3,I3,q3⟩
theorem QB:(sizeLine:Nat)<2^63:=by rw[n6];decide
theorem zZ{x:V}(r:jJ [x] us):∃u,us=[u]/\jS x u:=by
 cases r with
 |cons r1 r2=>cases r2;exact⟨_,rfl,r1⟩
theorem Xq{x:V}(r:jJ [x,y] us):∃u w',us=[u,w']/\jS x u/\jS y w':=by
 cases r with
 |cons r1 r2 =>
  cases r2 with
  |cons r3 r4=>cases r4;exact⟨_,_,rfl,r1,r3⟩
theorem VT:xD X (.builtin "abs") (λxs H Q=>∃i,xs=[.int i]/\Q (.int (if i<0 then -i else i)) H):=by
 intro pins s σ H xs us Q I r h;obtain⟨i,rfl,q⟩:=h;obtain⟨u,rfl,t,rfl⟩:=zZ r
 exact call_abs_int λu tk=>⟨.int (if i<0 then -i else i),H,I.tok _,⟨_,rfl⟩,q⟩
theorem Vh(hc:X.calm=true):xD X (.builtin "max") (λxs H Q=>∃i j,xs=[.int i,.int j]/\Q (.int (if j > i then j else i)) H):=by
 intro pins s σ H xs us Q I r h;obtain⟨i,j,rfl,q⟩:=h;obtain⟨u,w',rfl,⟨t,rfl⟩,⟨t',rfl⟩⟩:=Xq r
 refine max_two_ints (I.ok.hd hc) λh' tk k=>⟨_,H,I.kept k,?_,q⟩
 by_cases hj:j > i
 ·rw[if_pos hj,if_pos hj];exact⟨_,rfl⟩
 ·rw[if_neg hj,if_neg hj];exact⟨_,rfl⟩
theorem Um(hc:X.calm=true):xD X (.builtin "min") (λxs H Q=>∃i j,xs=[.int i,.int j]/\Q (.int (if j<i then j else i)) H):=by
 intro pins s σ H xs us Q I r h;obtain⟨i,j,rfl,q⟩:=h;obtain⟨u,w',rfl,⟨t,rfl⟩,⟨t',rfl⟩⟩:=Xq r
 refine min_two_ints (I.ok.hd hc) λh' tk k=>⟨_,H,I.kept k,?_,q⟩
 by_cases hj:j<i
 ·rw[if_pos hj,if_pos hj];exact⟨_,rfl⟩
 ·rw[if_neg hj,if_neg hj];exact⟨_,rfl⟩
theorem uF:xD X (.type "int") (λxs H Q=>(∃i,xs=[.int i]/\Q (.int i) H)\/∃k,xs=[.bl k]/\Q (.int (if k then 1 else 0)) H):=by
 intro pins s σ H xs us Q I r h;rcases h with⟨i,rfl,q⟩|⟨k,rfl,q⟩
 ·obtain⟨u,rfl,t,rfl⟩:=zZ r;exact call_int_int ⟨.int i,H,I,⟨_,rfl⟩,q⟩
 ·obtain⟨u,rfl,r1⟩:=zZ r;cases r1;exact call_int_bool ⟨.int (if k then 1 else 0),H,I.tok _,⟨_,rfl⟩,q⟩
end
section
variable {X:Cx} {pins:List (Addr×nv)} {σ:St} {H:Hp} {s:Shared} {a C dx:Addr} {fs:List (Str×V)} {f:Str} {v:V} {A:mq} {E:bq->Shared->Prop}
theorem attr_of{prog:dW}{env:Env}{f:Str}{s:Shared}(hb:wC e f env (eval e env)=eval e env)
 (h:wpAny (model prog w) A (eval e env) (λo s₁=>wpAny (model prog w) A (je9 o f true) Q E s₁) E s):wpAny (model prog w) A (eval (.Attribute e f pos) env) Q E s :=
 Attribute_any_ h (by rw[arm_eval_Attribute,hb])
end
structure Room (k:Nat) (A:mq):Prop where
 hd:2<=k->A.handled=none
 dp:A.depth+3*k+5<jcx
 un:A.units+16*k+200<cLine
theorem Room.mono(r:Room k A)(h:j<=k):Room j A:=⟨λz=>r.hd (by omega),by have:=r.dp;omega,by have:=r.un;omega⟩
theorem Room.deeper(r:Room (k+1) A)(env:Env):Room k (A.deeper env) :=
 ⟨λz=>r.hd (by omega),by have:=r.dp;show A.depth+1+3*k+5<_;omega,by have:=r.un;show A.units+3+16*k+200<_;omega⟩
variable{kw:List (Str×bq)}
theorem Yg{C:Addr}:(A.under (.builtin "type.__call__" ⟨.ref C::us,kw⟩)).depth=A.depth+1:=by
 first|rfl|simp[jex,Code.weight,Code.isCreation,Code.isGuard,Code.isCaller,Code.frames,jey,guardIds]
theorem YQ{C:Addr}:(A.under (.builtin "type.__call__" ⟨.ref C::us,kw⟩)).units=A.units+1:=by
 first|rfl|simp[jex,Code.cUnits,Code.frames,jey]
theorem Room.make(r:Room (k+1) A)(C:Addr)(us:List bq)(kw:List (Str×bq)):Room k (A.under (.builtin "type.__call__" ⟨.ref C::us,kw⟩)) :=
 ⟨λz=>r.hd (by omega),by have:=r.dp;rw[Yg];omega,by have:=r.un;rw[YQ];omega⟩
theorem Room.depth(r:Room k A):A.depth<jcx:=by have:=r.dp;omega
def jb1:TA:=λ_ H Q=>Q [] H
def vb(ta:TE)(tr:TA):TA:=λσ H Q=>ta σ H λx H1=>tr σ H1 λxs H2=>Q (x::xs) H2
section
variable {X:Cx} {e:Expr} {es:List Expr} {te:TE} {t:TA} {pos:Pos}
theorem jX:PA X [] jb1:=λ_ _ _ _ H Q I h=>Calls.spliced_nil ⟨[],H,I,.nil,h⟩
theorem jw(ha:PE X e te)(hr:PA X es t)(hs:bQ (e::es) X.env=(false,eval e X.env)::bQ es X.env:=by rfl):PA X (e::es) (vb te t):=by
 intro pos pins s σ H Q I h;rw[hs];show wpAny _ _ (spliced ((false,eval e X.env)::backTo pos (bQ es X.env))) _ _ s;refine Calls.spliced_cons (thn (ha pins s σ H _ I h) λu s1 ⟨x,H1,I1,r1,q1⟩=>?_)
 exact thn (hr pos pins s1 σ H1 _ I1 q1) λus s2 ⟨xs,H2,I2,r2,q2⟩=>⟨x::xs,H2,I2,.cons r1 r2,q2⟩
def tTup(t:TA):TE:=λσ H Q=>t σ H λxs H1=>xs.length<=sizeLine/\∀p,H1 p=none->Q (.ref p) (upd H1 p (.tup xs))
def tLst(t:TA):TE:=λσ H Q=>t σ H λxs H1=>xs.length<=sizeLine/\∀p,H1 p=none->Q (.ref p) (upd H1 p (.lst xs))
theorem K7{x1}(h:PA X es t):PE X (.Tuple es x1 pos) (tTup t):=by
 intro pins s σ H Q I hq;refine wpAny_Tuple_spliced (thn (h pos pins s σ H _ I hq) λus s1 ⟨xs,H1,I1,r,z,q⟩=>⟨by rw[<- r.length];exact z,?_⟩);have hf:H1 s1.heap.objs.size=none:=I1.hok.fresh (bV _);refine⟨.ref s1.heap.objs.size,upd H1 s1.heap.objs.size (.tup xs),I1.laid (t':=s1.toks) (λb u e=>bC _ e) (bV _) ?_,rfl,q _ hf⟩;exact⟨z,us,r,⟨_,dJ _ rfl,rfl,_,rfl⟩⟩
theorem Jt(h:PA X es t):PE X (.List es pos) (tLst t):=by
 intro pins s σ H Q I hq;refine wpAny_List_spliced (thn (h pos pins s σ H _ I hq) λus s1 ⟨xs,H1,I1,r,z,q⟩=>⟨by rw[<- r.length];exact z,?_⟩);have hf:H1 s1.heap.objs.size=none:=I1.hok.fresh (bV _);refine⟨.ref s1.heap.objs.size,upd H1 s1.heap.objs.size (.lst xs),I1.laid (t':=s1.toks) (λb u e=>bC _ e) (bV _) ?_,rfl,q _ hf⟩;exact⟨z,us,0,r,dJ _ rfl⟩
end
abbrev Sp:=List V->Hp->VK->XK->Prop
abbrev CXT:=List Env->Hp->Shared->XK->bq->Shared->Prop
structure Env0 (P:dW) (w:World) (K:bp) (mg:Str->Option bq) (base:gQ) (A:mq) (outer:List Env) (s:Shared) (H:Hp):Prop where
 frames:A.frames=some outer
 mod:Mod K mg base
 bs:∀b o,base.get? b=some o->s.heap.get? b=some o/\H b=none
 bsz:base.objs.size<=s.heap.objs.size
 funs:s.heap.FunFrames base outer
 frf:∀b∈frs outer,H b=none
 hok:HOk P w H s.heap
 bare:jcl s.gens
def CE(outer:List Env)(P:dW)(w:World)(H:Hp)(s:Shared)(Q:VK)(u:bq)(s':Shared):Prop :=
 ∃v H',s'.os=s.os/\jcl s'.gens/\Un (frs outer) [] H H' s.heap s'.heap/\HOk P w H' s'.heap/\jS v u/\Q v H'
def CR(CX:CXT)(outer:List Env)(P:dW)(w:World)(H:Hp)(s:Shared)(Q:VK)(E:XK)(r:Result)(s':Shared):Prop :=
 match r with
 |.ok (.ret u)=>CE outer P w H s Q u s'
 |.ok _=>False
 |.error e=>CX outer H s E e s'
structure FnOk (P:dW) (w:World) (K:bp) (mg:Str->Option bq) (base:gQ) (CX:CXT) (k:Nat) (f:Addr) (fd:pF) (ps:List Str) (sp:Sp):Prop where
 len:∀vs H Q E,sp vs H Q E->vs.length=ps.length
 run:∀(A:mq) (outer:List Env) (s:Shared) (H:Hp) (args:Args) (us:List bq) (vs:List V) (Q:VK) (E:XK),Room k A->Env0 P w K mg base A outer s H->BindsTo s fd args (ps.zip us)->jJ vs us->sp vs H Q E ->
  wF (model P w) A (.call (.ref f) args) (CR CX outer P w H s Q E) s
variable{f:Addr}{mg:Str->Option bq}{base:gQ}{CX:CXT}{fd:pF}{ps:List Str}{sp:Sp}
theorem FnOk.mono(F:FnOk P w K mg base CX j f fd ps sp)(h:j<=k) :
 FnOk P w K mg base CX k f fd ps sp:=⟨F.len,λA outer s H args us vs Q E hr=>F.run A outer s H args us vs Q E (hr.mono h)⟩
theorem Env0.make{outer:List Env}{s:Shared}(e:Env0 P w K mg base A outer s H)(C:Addr)(us:List bq)(kw:List (Str×bq)) :
 Env0 P w K mg base (A.under (.builtin "type.__call__" ⟨.ref C::us,kw⟩)) outer s H:=⟨by first|exact e.frames|(simpa[jex,Code.envs,jey,pushEnvs]using e.frames),e.mod,e.bs,e.bsz,e.funs,e.frf,e.hok,e.bare⟩
variable{Q:VK}
section
variable {X:Cx} {pins:List (Addr×nv)} {σ:St} {H:Hp} {s s':Shared}
theorem Inv.env0(I:Inv X pins σ H s):Env0 X.prog X.w X.K X.mg X.base X.A X.stack s H :=
 ⟨I.ok.frames,I.ok.mod,I.bs,dg I.ok.bsz I.sz,I.stack,I.stkFree,I.hok,I.bare⟩
theorem Inv.after(I:Inv X pins σ H s)(h:CE X.stack X.prog X.w H s Q u s'):EP X pins σ Q u s':=by
 obtain⟨v,H',os,bare,un,hok,r,q⟩:=h;obtain⟨hh,g,d,t,os'⟩:=s';obtain rfl:os'=s.os:=os;exact⟨v,H',I.call (h':=hh) (g':=g) (d':=d) (t':=t) (ch:=[]) un hok bare (λb z=>absurd z (by simp)),r,q⟩
end
def tCall(sp:Sp)(dvs:List V)(E:XK)(t:TA):TE:=λσ H Q=>t σ H λvs H1=>sp (vs++dvs) H1 Q E
def zm(K:bp)(fd:pF)(ps:List Str)(ds:List bq):Prop :=
 ∀(s:Shared) (us:List bq),K.In s.heap->(us++ds).length=ps.length->BindsTo s fd ⟨us,[]⟩ (ps.zip (us++ds))
theorem zm.all(h:∀us:List bq,us.length=ps.length->bindArgs fd ⟨us,[]⟩=pure (ps.zip us)):zm K fd ps []:=λs us _ hl=>by
 rw[dM]at hl ⊢;exact .of_eq (h us hl)
def Qp(CX:CXT)(X:Cx)(E:XK):Prop:=∀(pins:List (Addr×nv)) (σ:St) (H:Hp) (s:Shared) (e:bq) (s':Shared),Inv X pins σ H s->CX X.stack H s E e s'->X.xe e s'
section
variable {X:Cx} {CX:CXT} {k:Nat} {f C:Addr} {fd:pF} {ps:List Str} {sp:Sp} {dvs:List V} {ds:List bq} {E:XK} {x m:Str} {p pos apos:Pos} {e o:Expr} {es:List Expr} {ta:TE} {t:TA}
theorem run_fn{s:Shared}(F:FnOk X.prog X.w X.K X.mg X.base CX k f fd ps sp)(hr:Room k X.A)(hb:zm X.K fd ps ds)(hd:jJ dvs ds)(hx:Qp CX X E)
 (I:Inv X pins σ H s) (r:jJ vs us) (h:sp (vs++dvs) H Q E):wpAny (model X.prog X.w) X.A (call (.ref f) us) (EP X pins σ Q) X.xe s:=by
 have r2:jJ (vs++dvs) (us++ds):=r.append hd
 have hl:(us++ds).length=ps.length:=by rw[<- r2.length];exact F.len _ _ _ _ h
 refine tK (jcm (F.run X.A X.stack s H ⟨us,[]⟩ (us++ds) (vs++dvs) Q E hr I.env0 (hb s us I.kIn hl) r2 h) λr s' hq=>?_)
 cases r with
 |error e=>exact hx pins σ H s e s' I hq
 |ok fl =>
  cases fl with
  |ret u=>exact I.after hq
  |next=>exact mL hq
  |brk=>exact mL hq
  |cont=>exact mL hq
theorem y8(F:FnOk X.prog X.w X.K X.mg X.base CX k f fd ps sp)(hr:Room k X.A)(hg:Gl X x)(hm:X.mg x=some (.ref f))(hk:mP X.K (.ref f)=true)(hb:zm X.K fd ps ds)(hd:jJ dvs ds)(hx:Qp CX X E)
 (ha:PA X (e::es) t) (hdb:(x == ("__debug__":Str))=false:=by decide) (he:bQ (e::es) X.env=(false,eval e X.env)::bQ es X.env:=by rfl) (hpl:(backTo pos (bQ es X.env)).any (·.1)=false:=by rfl) :
 PE X (.Call (.Name x p) (e::es) [] pos) (tCall sp dvs E t):=by
 intro pins s σ H Q I h;refine tL (zg I hg hm ?_ hdb);refine jed (h₀:=X.base) I.ok.mod.kin hk (thn (ha pos pins s σ H _ I h) λus s1 ⟨vs,H1,I1,r,q⟩=>⟨I1.kIn,?_⟩) he hpl;exact run_fn F hr hb hd hx I1 r q
end
structure FnScope (N P:List Str) (sc:Scope):Prop where
 kind:sc.kind=.function
 co:sc.isCoroutine=false
 gen:sc.isGenerator=false
 nd:N.Nodup
 pre:N.take P.length=P
 par:∀x∈P,sc.names.lookup x=some .local\/sc.names.lookup x=some .cell
 nofree:∀y∈sc.names,y.2 ≠ .free
theorem JY{kindOf:Str->Option nh}{x:Str}:∀ {binds:List (Str×bq)} {m:Str->Option bq},(∀v,(x,v) ∉ binds)->bindL kindOf binds m x=m x
 |[],_,_=>rfl
 |(n,v)::r,m,h=>by
  unfold bindL;rw[JY λw hw=>h w (bo _ hw)];split
  ·have:x≠n:=by rintro rfl;exact h v bB
   simp[this]
  ·rfl
theorem KC{kindOf:Str->Option nh}{x:Str}:∀ {binds:List (Str×bq)} {m:Str->Option bq},(∀v,(x,v) ∉ binds)->bindC kindOf binds m x=m x
 |[],_,_=>rfl
 |(n,v)::r,m,h=>by
  unfold bindC;rw[KC λw hw=>h w (bo _ hw)];split
  ·rfl
  ·have:x≠n:=by rintro rfl;exact h v bB
   simp[this]
theorem JW{kindOf:Str->Option nh}{x:Str}{v:bq}:∀ {P:List Str} {vs:List bq} {i:Nat} {m:Str->Option bq},P.Nodup->P[i]?=some x->vs[i]?=some v->kindOf x=some .local ->
 bindL kindOf (P.zip vs) m x=some v
 |[],_,_,_,_,h,_,_=>by simp at h
 |_::_,[],_,_,_,_,h,_=>by simp at h
 |p::P,w::vs,0,m,nd,h1,h2,hk=>by
  simp at h1 h2;subst h1;subst h2;show bindL kindOf ((p,w)::P.zip vs) m p=_;unfold bindL;rw[JY λv hv=>(nK.mp nd).1 (mw hv).1,if_pos hk]
  simp
 |p::P,w::vs,i+1,m,nd,h1,h2,hk=>by
  show bindL kindOf ((p,w)::P.zip vs) m x=_;unfold bindL;exact JW (i:=i) (nK.mp nd).2 (by simpa using h1) (by simpa using h2) hk
theorem Kn{kindOf:Str->Option nh}{x:Str}{v:bq}:∀ {P:List Str} {vs:List bq} {i:Nat} {m:Str->Option bq},P.Nodup->P[i]?=some x->vs[i]?=some v->kindOf x≠some .local ->
 bindC kindOf (P.zip vs) m x=some v
 |[],_,_,_,_,h,_,_=>by simp at h
 |_::_,[],_,_,_,_,h,_=>by simp at h
 |p::P,w::vs,0,m,nd,h1,h2,hk=>by
  simp at h1 h2;subst h1;subst h2;show bindC kindOf ((p,w)::P.zip vs) m p=_;unfold bindC;rw[KC λv hv=>(nK.mp nd).1 (mw hv).1,if_neg hk]
  simp
 |p::P,w::vs,i+1,m,nd,h1,h2,hk=>by
  show bindC kindOf ((p,w)::P.zip vs) m x=_;unfold bindC;exact Kn (i:=i) (nK.mp nd).2 (by simpa using h1) (by simpa using h2) hk
def start(N:List Str)(vs:List V):St:=vs.map some++gc (N.length-vs.length) none
def uV(CX:CXT)(P:dW)(w:World)(K:bp)(mg:Str->Option bq)(base:gQ)(N:List Str)(qual:Str)(scope:Scope)(f:Addr)(cd:bq)(A:mq)(outer:List Env)(s:Shared)(H:Hp)(E:XK):Cx where
 prog:=P
 w:=w
 K:=K
 mg:=mg
 base:=base
 A:=A.deeper (envOfC qual scope s.heap.objs.size f cd)
 N:=N
 s₀:=s
 H₀:=H
 env:=envOfC qual scope s.heap.objs.size f cd
 outer:=outer
 stack:=envOfC qual scope s.heap.objs.size f cd::outer
 ex:=[]
 calm:=A.handled.isNone
 fn:=λ_=>true
 pn:=[]
 xe:=λe s'=>wpAny (model P w) (A.deeper (envOfC qual scope s.heap.objs.size f cd)) (jdb (envOfC qual scope s.heap.objs.size f cd) e) (λ_ s''=>CX outer H s E e s'') (λe' s''=>CX outer H s E e' s'') s'
theorem Xp{sc:Scope}(h:sc.names.lookup x=some .cell):∃c,(we n sc.names []).lookup x=some c:=by
 have q:=jdc sc.names n [] (.inl h);exact jcQ.mp q
variable{qual:Str}
theorem UU{scope:Scope}{cd:bq}{outer:List Env}{s s1:Shared}{E:XK}
 (S:FnScope N ps scope) (hd:A.handled.isNone=true->A.handled=none) (e0:Env0 P w K mg base A outer s H) (hl:vs.length=ps.length) (r:jJ vs us)
 (x:InCallC s s.heap.objs.size (bindL (envOfC qual scope s.heap.objs.size f cd).kindOf (ps.zip us) λ_=>none) (we (s.heap.objs.size+1) scope.names []) (bindC (envOfC qual scope s.heap.objs.size f cd).kindOf (ps.zip us) λ_=>none) s1) :
 Inv (uV CX P w K mg base N qual scope f cd A outer s H E) [] (start N vs) H s1:=by
 have hpl:ps.length<=N.length:=by have:=congrArg jeY S.pre;rw[gK]at this;omega
 obtain⟨h1,tk,rfl,hk⟩:=x.done
 have noA:∀b:Addr,b ∉ (uV CX P w K mg base N qual scope f cd A outer s H E).ex:=λb z=>absurd (show b∈([]:List Addr) from z) (by simp)
 refine⟨⟨e0.mod,S.kind,rfl,rfl,bV _,λy z c h1 h2=>?_,λy hy=>?_,λy c _ h=>?_,hd,Around.frames_deeper e0.frames,.inr ⟨rfl,rfl⟩,λb z=>absurd z (noA b),e0.bs,e0.bsz,λb _ _=>noA b,λb z=>absurd z (noA b),e0.funs,e0.frf⟩,
  rfl,e0.bare,Un.kept hk,⟨_,x.toInCall.ns,λi y v h1 h2 h3=>?_⟩,λy c h=>⟨_,x.cell y c h⟩,e0.hok.fresh (bV _),λy c h=>?_,λp hp=>absurd (show p∈([]:List (Addr×nv)) from hp) (by simp),e0.hok.kept hk,?_⟩
 ·exact name_of_addr x.apart (mW h1) (mW h2)
 ·have hy:scope.names.lookup y=some .cell\/scope.names.lookup y=some .free:=hy;rcases hy with hy|hy
  ·exact Xp hy
  ·exact absurd rfl (S.nofree _ (mW hy))
 ·exact jeu (x.above y c (mW h))
 ·have hi:i<vs.length:=by
   unfold start at h2;by_cases hi:i<vs.length
   ·exact hi
   ·rw[dO (by simpa using hi)]at h2;rw[jcZ]at h2
    split at h2<;>cases h2
  have ha:vs[i]?=some v:=by
   unfold start at h2;rw[dz (by simpa using hi),bW]at h2
   cases e:vs[i]? with
   |none=>rw[e]at h2;cases h2
   |some a=>rw[e]at h2;cases h2;rfl
  obtain⟨u,hu,rv⟩:=r.get ha
  have hp:ps[i]?=some y:=by
   rw[<- S.pre,nV (by omega)];exact h1
  have ndP:ps.Nodup:=by rw[<- S.pre];exact S.nd.sublist (List.take_sublist _ _)
  refine⟨u,rv,?_⟩;rcases S.par y (gq hp) with k|k
  ·exact .inl ⟨k,JW ndP hp hu k⟩
  ·obtain⟨c,e⟩:=Xp (n:=s.heap.objs.size+1) k;refine .inr ⟨.inl k,c,e,?_⟩;have q:=x.cell y c e;rw[Kn ndP hp hu (by show scope.names.lookup y≠_;rw[k];decide)]at q;exact q
 ·exact e0.hok.fresh (jeu (x.above y c (mW h)))
 ·unfold start;show _=N.length;rw[df,bj,t8];omega
theorem VL{name:Str}{params:Arguments}{scope:Scope}{dV kV doc pm cdv ct oc:bq}{an od:Option Addr}
 {osl:Array (Option bq)}   (lk:K.lookup f=some ⟨oc,od,.func (nQ name qual params body scope dV kV doc pm an cdv ct),osl⟩) (hcd:tP K cdv qual=true) (S:FnScope N ps scope)
 (len:∀vs H Q E,sp vs H Q E->vs.length=ps.length)
 (hbody:∀(A:mq) (outer:List Env) (s:Shared) (H:Hp) (vs:List V) (Q:VK) (E:XK),Room k (A.deeper (envOfC qual scope s.heap.objs.size f cdv))->sp vs H Q E ->
  ∃t,PSs (uV CX P w K mg base N qual scope f cdv A outer s H E) body t/\t { nx:=λ_ H'=>Q .non H',rt:=Q } (start N vs) H) :
 FnOk P w K mg base CX (k+1) f (nQ name qual params body scope dV kV doc pm an cdv ct) ps sp:=by
 refine⟨len,λA outer s H args us vs Q E hr e0 hb r hsp=>?_⟩;have hl:=len _ _ _ _ hsp
 have KX:K.In s.heap:=e0.mod.kin.keeps λb o e=>(e0.bs b o e).1
 have lim:s.heap.NoLimit:=e0.mod.nolimit.1.keeps λb o e=>(e0.bs b o e).1
 have hkind:∀y∈ps.zip us,scope.names.lookup y.1=some .local\/(scope.names.lookup y.1=some .cell/\((we (s.heap.objs.size+1) scope.names []).lookup y.1).isSome=true):=λ⟨n,v⟩ hy=>by
  rcases S.par n (mw hy).1 with q|q
  ·exact .inl q
  ·exact .inr ⟨q,jdc _ _ _ (.inl q)⟩
 refine codeAny_call_function hr.depth (KX _ _ lk) rfl S.co S.gen rfl (PySem.W.codeRec_of KX hcd) (hb _ _ _ _ ?_)
 refine wpAny_newFunctionEnv_cells S.kind hkind λenv he s1 x=>?_
 subst he;refine⟨lim.keeps x.toInCall.keep,codeAny_func ?_⟩;obtain⟨t,ht,hq⟩:=hbody A outer s H vs Q E (hr.deeper _) hsp;have I:Inv (uV CX P w K mg base N qual scope f cdv A outer s H E) [] (start N vs) H s1:=UU S (λz=>by simpa using z) e0 hl r x
 refine gA (ht [] s1 (start N vs) H _ I hq) (λfl s' hs=>?_) λe s' hs=>hs
 have fin:∀ {σ':St} {H':Hp} {v:V} {u:bq},Inv (uV CX P w K mg base N qual scope f cdv A outer s H E) [] σ' H' s'->jS v u->Q v H'->CE outer P w H s Q u s' :=
  λ{σ' H' v u} J rv q=>⟨v,H',J.os,J.bare,J.base,J.hok,rv,q⟩
 cases fl with
 |ret u =>
  obtain⟨v,σ',H',J,rv,q⟩:=hs
  exact fin J rv q
 |next =>
  obtain⟨σ',H',J,q⟩:=hs
  exact fin (v:=V.non) (u:=n9) J rfl q
 |brk =>
  obtain⟨_,_,_,q⟩:=hs
  exact mL q
 |cont =>
  obtain⟨_,_,_,q⟩:=hs;exact mL q
section
variable {X:Cx} {x:Str} {p pos:Pos} {e:Expr} {es:List Expr} {t:TA} {id T:String} {r:List V->Hp->VK->Prop}
def tCB(r:List V->Hp->VK->Prop)(t:TA):TE:=λσ H Q=>t σ H λvs H1=>r vs H1 Q
theorem kR(hc:xD X (.builtin id) r)(hg:Gl X x)(hm:X.mg x=none)(hv:pX x=some (.builtin id))(ha:PA X (e::es) t)(hn:x ≠ "__name__":=by decide)(hdb:(x == ("__debug__":Str))=false:=by decide)
 (he:bQ (e::es) X.env=(false,eval e X.env)::bQ es X.env:=by rfl) (hpl:(backTo pos (bQ es X.env)).any (·.1)=false:=by rfl):PE X (.Call (.Name x p) (e::es) [] pos) (tCB r t):=by
 intro pins s σ H Q I h;refine tL (uU I hg hm hv ?_ hn hdb);exact wg (thn (ha pos pins s σ H _ I h) λus s1 ⟨vs,H1,I1,r1,q1⟩=>hc pins s1 σ H1 vs us Q I1 r1 q1) he hpl
theorem xh(hc:xD X (.type T) r)(hg:Gl X x)(hm:X.mg x=none)(hv:pX x=some (.type T))(ha:PA X (e::es) t)(hn:x ≠ "__name__":=by decide)(hdb:(x == ("__debug__":Str))=false:=by decide)
 (he:bQ (e::es) X.env=(false,eval e X.env)::bQ es X.env:=by rfl) (hpl:(backTo pos (bQ es X.env)).any (·.1)=false:=by rfl):PE X (.Call (.Name x p) (e::es) [] pos) (tCB r t):=by
 intro pins s σ H Q I h;refine tL (uU I hg hm hv ?_ hn hdb);exact mY (thn (ha pos pins s σ H _ I h) λus s1 ⟨vs,H1,I1,r1,q1⟩=>hc pins s1 σ H1 vs us Q I1 r1 q1) he hpl
end
end L2
namespace HT
open PySem PyProof.Rows
section
open PySem.SeqAt
open PySem.AutoSeq1 (wpAny_loadPart')
open PySem.MeetsSeq PySem.MeetsSeq2 PySem.MeetsSeq3
end
section
variable {prog:dW} {w:World} {A:mq} {E:bq->Shared->Prop} {s:Shared}
def sIx(n d:Nat):Option Int->Nat
 |none=>d
 |some v=>if v<0 then (v+(n:Int)).toNat else min v.toNat n
end
end HT
namespace L2
open PySem PySem.Spec PyProof.Rows
abbrev TO:=St->Hp->(Option Int->Hp->Prop)->Prop
def PO(X:Cx)(e:Option Expr)(t:TO):Prop :=
 ∀(pins:List (Addr×nv)) (s:Shared) (σ:St) (H:Hp) (Q:Option Int->Hp->Prop),Inv X pins σ H s->t σ H Q ->
  wpAny (model X.prog X.w) X.A (evalPart e X.env) (λu s'=>∃o H',Inv X pins σ H' s'/\IsPart u o/\Q o H') X.xe s
def tNoPart:TO:=λ_ H Q=>Q none H
def tPart(t:TE):TO:=λσ H Q=>t σ H λx H1=>∃i,x=.int i/\Q (some i) H1
section
variable {X:Cx} {e:Expr} {te:TE} {lo hi:Option Expr} {tl th:TO} {pos p2:Pos}
theorem po_none:PO X none tNoPart:=by
 intro pins s σ H Q I h;rw[evalPart_none];exact bJ ⟨none,H,I,.none,h⟩
theorem po_some(h:PE X e te):PO X (some e) (tPart te):=by
 intro pins s σ H Q I hw;rw[evalPart_some]
 refine thn (h pins s σ H _ I hw) λu s1 ⟨x,H1,I1,r1,q1⟩=>?_
 obtain⟨i,rfl,q⟩:=q1;obtain⟨t,rfl⟩:=r1;exact⟨some i,H1,I1,.int i t,q⟩
def SlR(X:Cx)(r:V->Option Int->Option Int->Hp->VK->Prop):Prop :=
 ∀(pins:List (Addr×nv)) (s:Shared) (σ:St) (H:Hp) (x:V) (v vl vu:bq) (lo hi:Option Int) (sl:Addr) (Q:VK),Inv X pins σ H s->jS x v->s.heap.IsSliceOf sl vl vu .none->IsPart vl lo->IsPart vu hi->r x lo hi H Q ->
  ∃T id,mG (.type T) "__getitem__"=pure (some (.builtin id))/\s.TypeIs v T/\wpAny (model X.prog X.w) X.A (getItem v (.ref sl)) (EP X pins σ Q) X.xe s
def tSl(r:V->Option Int->Option Int->Hp->VK->Prop)(te:TE)(tl th:TO):TE:=λσ H Q=>te σ H λx H1=>tl σ H1 λl H2=>th σ H2 λu H3=>r x l u H3 Q
theorem Xl{r:V->Option Int->Option Int->Hp->VK->Prop}(hr:SlR X r)(he:PE X e te)(hl:PO X lo tl)(hu:PO X hi th):PE X (.Subscript e (.Slice lo hi none p2) pos) (tSl r te tl th):=by
 intro pins s σ H Q I h;refine Subscript_ (thn (he pins s σ H _ I h) λv s1 ⟨x,H1,I1,r1,q1⟩=>?_);refine wpAny_Slice (thn (hl pins s1 σ H1 _ I1 q1) λvl s2 ⟨l,H2,I2,pl,q2⟩=>thn (hu pins s2 σ H2 _ I2 q2) λvu s3 ⟨u,H3,I3,pu,q3⟩=>?_);rw[evalPart_none];refine bJ ?_
 have I4:Inv X pins σ H3 { s3 with heap:=s3.heap.push { cls:=.type "slice",data:=.fields #[vl,vu,.none] } }:=I3.kept (t':=s3.toks) λb ob q=>bC _ q
 obtain⟨T,id,hT,ht,hg⟩:=hr pins { s3 with heap:=s3.heap.push { cls:=.type "slice",data:=.fields #[vl,vu,.none] } } σ H3 x v vl vu l u s3.heap.objs.size Q I4 r1 (Heap.IsSliceOf.new ..) pl pu q3;show wpAny (model X.prog X.w) X.A (subscriptTail e (.Slice lo hi none p2) v (.ref s3.heap.objs.size)) (EP X pins σ Q) X.xe { s3 with heap:=s3.heap.push { cls:=.type "slice",data:=.fields #[vl,vu,.none] } };exact tail_any (ops:=[.ref s3.heap.objs.size,v]) ht hT hg (by with_unfolding_all rfl)
def UE(xs:List V)(lo hi:Option Int):List V:=(xs.drop (HT.sIx xs.length 0 lo)).take (HT.sIx xs.length xs.length hi-HT.sIx xs.length 0 lo)
theorem QX(xs:List V)(lo hi:Option Int):(UE xs lo hi).length<=xs.length:=by
 unfold UE;rw[gK,mz];omega
end
def ixN(n:Nat)(i:Int):Option Nat:=if 0<=i then (if i<n then some i.toNat else none) else if -(n:Int)<=i then some (i+n).toNat else none
variable{α:Type}
def atI(xs:List α)(i:Int):Option α:=(ixN xs.length i).bind λj=>xs[j]?
variable{n:Nat}{i:Int}
theorem Zk{j:Nat}(h:ixN n i=some j):seqIndex? i n=some j/\j<n /\ -(n:Int)<=i/\i<n:=by
 unfold ixN at h;by_cases h0:0<=i
 ·rw[if_pos h0]at h;by_cases h1:i<n
  ·rw[if_pos h1]at h;have e:i.toNat=j:=gJ h;exact⟨by rw[seqIndex_of h0 h1,e],by omega,by omega,h1⟩
  ·rw[if_neg h1]at h;cases h
 ·rw[if_neg h0]at h;by_cases h1:-(n:Int)<=i
  ·rw[if_pos h1]at h;have e:(i+n).toNat=j:=gJ h;exact⟨by rw[jez (by omega) h1,e],by omega,h1,by omega⟩
  ·rw[if_neg h1]at h;cases h
theorem ZR{xs:List α}{v:α}(h:atI xs i=some v):∃j,seqIndex? i xs.length=some j/\xs[j]?=some v/\j<xs.length /\ -(xs.length:Int)<=i/\i<xs.length:=by
 unfold atI at h
 cases e:ixN xs.length i with
 |none=>rw[e]at h;cases h
 |some j =>
  rw[e]at h;obtain⟨h1,h2,h3,h4⟩:=Zk e;exact⟨j,h1,h,h2,h3,h4⟩
def ZJ(b:Expr):Prop:=∀o i,subscripted b false o i=operate [o,i] (getItem o i)
def IxR(X:Cx)(r:R2):Prop :=
 ∀(value slice:Expr) (pins:List (Addr×nv)) (s:Shared) (σ:St) (H:Hp) (x y:V) (v u:bq) (Q:VK),Inv X pins σ H s->jS x v->jS y u->r x y H Q ->
  subscripted slice false v u=operate [v,u] (getItem v u)->wpAny (model X.prog X.w) X.A (subscriptTail value slice v u) (EP X pins σ Q) X.xe s
def MtR(X:Cx)(id:String)(r:V->List V->Hp->VK->Prop):Prop :=
 ∀(pins:List (Addr×nv)) (s:Shared) (σ:St) (H:Hp) (x:V) (xs:List V) (v:bq) (us:List bq) (Q:VK),Inv X pins σ H s->jS x v->jJ xs us->r x xs H Q ->
  wpAny (model X.prog X.w) X.A (call (.builtin id) (v::us)) (EP X pins σ Q) X.xe s
variable{pins:List (Addr×nv)}{σ:St}{H:Hp}{p:Addr}{xs:List V}{its its':List bq}{y x:V}{u:bq}
section
variable {X:Cx} {a b:Expr} {ta tb:TE} {pos:Pos}
theorem jbo{r:R2}(hr:IxR X r)(ha:PE X a ta)(hb:PE X b tb)(hs:ZJ b):PE X (.Subscript a b pos) (tOp r ta tb):=by
 intro pins s σ H Q I h;exact Subscript_ (binT ha hb I h λv u s2 x y H2 I2 rx ry q=>hr a b pins s2 σ H2 x y v u Q I2 rx ry q (hs _ _))
def rIxL(K:bp):R2:=λx y H Q=>∃p xs i v,x=.ref p/\y=.int i/\SqL K H p xs/\atI xs i=some v/\Q v H
def rIxT(K:bp):R2:=λx y H Q=>∃p xs i v,x=.ref p/\y=.int i/\SqT K H p xs/\atI xs i=some v/\Q v H
theorem ix_list:IxR X (rIxL X.K):=by
 intro value slice pins s σ H x y v u Q I rx ry h hs;obtain⟨p,xs,i,z,rfl,rfl,hq,he,q⟩:=h;cases rx;obtain⟨t,rfl⟩:=ry;obtain⟨its,r,pl,hz⟩:=I.list hq;obtain⟨j,h1,h2,h3,h4,h5⟩:=ZR he;obtain⟨w,ew,rw'⟩:=r.get h2;have hl:=r.length;have hn:=QB
 have fin:EP X pins σ Q w s:=⟨z,H,I,rw',q⟩
 by_cases h0:0<=i
 ·have hj:i.toNat=j:=by
   rw[seqIndex_of h0 h5]at h1;exact gJ h1
  exact item_listR pl.isList h0 (by omega) (by rw[hj];simpa using ew) fin hs
 ·have hj:(i+(its.toArray.size:Int)).toNat=j:=by
   rw[jez (by omega) h4]at h1;rw[di,<- hl];exact gJ h1
  exact jdd (x:=w) pl.isList.typeIs slot_list_getitem.lookup
   (wpAny_getItem_list_neg (Q:=λr s'=>r=w/\EP X pins σ Q r s') pl.isList (by omega) (by rw[di]<;>omega) (by omega) (by rw[hj];simpa using ew) ⟨rfl,fin⟩) hs
theorem ix_tup:IxR X (rIxT X.K):=by
 intro value slice pins s σ H x y v u Q I rx ry h hs;obtain⟨p,xs,i,z,rfl,rfl,hq,he,q⟩:=h;cases rx;obtain⟨t,rfl⟩:=ry;obtain⟨its,r,pl,hz⟩:=I.tuple hq;obtain⟨j,h1,h2,h3,h4,h5⟩:=ZR he;obtain⟨w,ew,rw'⟩:=r.get h2;have hl:=r.length;have hn:=QB
 have fin:EP X pins σ Q w s:=⟨z,H,I,rw',q⟩
 exact jdd (x:=w) pl.typeIs slot_tuple_getitem.lookup
  (getItem_tuple (j:=j) (Q:=λr s'=>r=w/\EP X pins σ Q r s') pl (by omega) (by omega) (by rw[di,<- hl];exact h1) (by simpa using ew) ⟨rfl,fin⟩) hs
theorem X5(its:List bq)(n j:Nat)(u:bq):wj (·.setIfInBounds j u) { cls:=.type "list",data:=.seq its.toArray n }={ cls:=.type "list",data:=.seq (its.set j u).toArray n }:=by
 simp[wj]
theorem Inv.lst{s:Shared}(I:Inv X pins σ H s)(h:H p=some (.lst xs)) :
 ∃(its:List bq) (n:Nat),jJ xs its/\s.heap.get? p=some { cls:=.type "list",data:=.seq its.toArray n }/\xs.length<=sizeLine:=by
 obtain⟨z,its,n,r,e⟩:=I.hok p _ h;exact⟨its,n,r,e,z⟩
theorem Inv.lstUpd{s:Shared}{ys:List V}{n':Nat}{f:nv->nv}(I:Inv X pins σ H s)(h:H p=some (.lst xs))
 (ho:s.heap.get? p=some { cls:=.type "list",data:=.seq its.toArray n }) (hf:f { cls:=.type "list",data:=.seq its.toArray n }={ cls:=.type "list",data:=.seq its'.toArray n' }) (r:jJ ys its') (hz:ys.length<=sizeLine) (t:Nat) :
 Inv X pins σ (upd H p (.lst ys)) { s with heap:=s.heap.update p f,toks:=t }:=by
 have e:(s.heap.update p f).get? p=some { cls:=.type "list",data:=.seq its'.toArray n' }:=by
  rw[mh f ho (by rw[hf]<;>rfl),hf]
 refine I.write (x:=p) (e:=p) (by rw[h];trivial) (.inl rfl) (λb u hb q=>(dQ _ _ (gX hb)).trans q) ⟨_,e⟩ ?_;exact⟨hz,its',n',r,e⟩
def rSetL:V->V->V->Hp->(Hp->Prop)->Prop:=λo i v H Q=>∃p xs k j,o=.ref p/\i=.int k/\H p=some (.lst xs)/\ixN xs.length k=some j/\Q (upd H p (.lst (xs.set j v)))
theorem XJ:PSet X rSetL:=by
 intro pins s σ H o i v ov iv u Q I ro ri rv h;obtain⟨p,xs,k,j,rfl,rfl,hp,hj,q⟩:=h;cases ro;obtain⟨t,rfl⟩:=ri;obtain⟨its,n,r,ho,hz⟩:=I.lst hp;obtain⟨h1,h2,h3,h4⟩:=Zk hj;have hl:=r.length;have hn:=QB
 have I':Inv X pins σ (upd H p (.lst (xs.set j v))) { s with heap:=s.heap.update p (wj (·.setIfInBounds j u)) } :=
  I.lstUpd hp ho (X5 its n j u) (r.set rv j) (by rw[g6];exact hz) s.toks
 by_cases h0:0<=k
 ·have hk:k.toNat=j:=by
   rw[seqIndex_of h0 h4]at h1;exact gJ h1
  exact PySem.W.ki_setAt ho h0 (by omega) (by rw[di,<- hl];exact h4) (by rw[hk];exact⟨_,I',q⟩)
 ·have hk:(k+(its.toArray.size:Int)).toNat=j:=by
   rw[jez (by omega) h3]at h1;rw[di,<- hl];exact gJ h1
  exact PySem.W.ki_setBack ho (by omega) (by rw[di,<- hl];exact h3) (by omega) (by rw[hk];exact⟨_,I',q⟩)
theorem KE(lo hi:Option Int)(n:Nat):(tN lo hi none n).1=((HT.sIx n 0 lo:Nat):Int)/\(tN lo hi none n).2.1=((HT.sIx n n hi:Nat):Int)/\(tN lo hi none n).2.2=1:=by
 refine⟨?_,?_,rfl⟩
 ·cases lo with
  |none=>simp[tN,HT.sIx]
  |some i =>
   simp only[tN,HT.sIx,jeP,show (1:Int) > 0 by decide,if_true];by_cases h:i<0
   ·simp only[h,if_true]<;>omega
   ·simp only[h,if_false]<;>omega
 ·cases hi with
  |none=>simp[tN,HT.sIx]
  |some i =>
   simp only[tN,HT.sIx,jeP,show (1:Int) > 0 by decide,if_true];by_cases h:i<0
   ·simp only[h,if_true]<;>omega
   ·simp only[h,if_false]<;>omega
theorem JN(its:List bq)(lo hi:Option Int):slicePick its.toArray lo hi none=((its.drop (HT.sIx its.length 0 lo)).take (HT.sIx its.length its.length hi-HT.sIx its.length 0 lo)).toArray:=by
 obtain⟨h1,h2,h3⟩:=KE lo hi its.toArray.size;unfold slicePick;rw[h1,h2,h3]
 simp only[sliceRange_one,pick_run,di]<;>rfl
def rSlL(K:bp):V->Option Int->Option Int->Hp->VK->Prop:=λx lo hi H Q=>∃a xs,x=.ref a/\SqL K H a xs/\∀p,H p=none->Q (.ref p) (upd H p (.lst (UE xs lo hi)))
theorem Ub:SlR X (rSlL X.K):=by
 intro pins s σ H x v vl vu lo hi sl Q I rx hs pl pu h;obtain⟨a,xs,rfl,hx,q⟩:=h;cases rx;obtain⟨its,r,ht,hz⟩:=I.list hx;have hlen:=r.length;refine⟨"list",_,slot_list_getitem.lookup,ht.isList.typeIs,?_⟩;refine wpAny_getItem_list_slice ht.isList hs pl pu .none (by simp) ?_ (by rw[di]<;>omega);rw[JN,<- hlen];refine⟨.ref s.heap.objs.size,_,I.laid (t':=s.toks) (o:=.lst (UE xs lo hi)) (λb ob q=>bC _ q) (bV _) ?_,rfl,q _ (I.hok.fresh (bV _))⟩;exact⟨dg (QX xs lo hi) hz,_,0,(r.drop (HT.sIx xs.length 0 lo)).take (HT.sIx xs.length xs.length hi-HT.sIx xs.length 0 lo),dJ _ rfl⟩
def zN:V->Bool
 |.non=>true
 |.bl _=>true
 |.int _=>true
 |.str _=>true
 |_=>false
def eqV:V->V->Bool
 |.non,.non=>true
 |.bl a,.bl b=>a == b
 |.bl a,.int b=>(if a then 1 else 0) == b
 |.int a,.bl b=>a == (if b then 1 else 0)
 |.int a,.int b=>a == b
 |.str a,.str b=>a == b
 |_,_=>false
theorem eqAt_V{A:mq}{s:Shared}{v:bq}(ry:jS y u)(rx:jS x v)(fy:zN y=true)(fx:zN x=true):SeqAt.EqAt A s u v (eqV y x):=by
 cases y with
 |non =>
  cases ry
  cases x with
  |non=>cases rx;exact SeqAt.EqAt.same _
  |bl b=>cases rx;exact SeqAt.EqAt.none_bool b
  |int b=>obtain⟨t,rfl⟩:=rx;exact SeqAt.EqAt.none_int b t
  |str b=>obtain⟨t,rfl⟩:=rx;exact SeqAt.EqAt.none_str b t
  |_=>exact absurd (show false=true from fx) dY
 |bl a =>
  cases ry
  cases x with
  |non=>cases rx;exact SeqAt.EqAt.bool_none a
  |bl b=>cases rx;exact SeqAt.EqAt.bool_bool a b
  |int b=>obtain⟨t,rfl⟩:=rx;exact SeqAt.EqAt.bool_int a b t
  |str b=>obtain⟨t,rfl⟩:=rx;exact SeqAt.EqAt.bool_str a b t
  |_=>exact absurd (show false=true from fx) dY
 |int a =>
  obtain⟨t',rfl⟩:=ry
  cases x with
  |non=>cases rx;exact SeqAt.EqAt.int_none a t'
  |bl b=>cases rx;exact SeqAt.EqAt.int_bool a t' b
  |int b=>obtain⟨t,rfl⟩:=rx;exact SeqAt.EqAt.int_int a t' b t
  |str b=>obtain⟨t,rfl⟩:=rx;exact jd9 a t' b t
  |_=>exact absurd (show false=true from fx) dY
 |str a =>
  obtain⟨t',rfl⟩:=ry
  cases x with
  |non=>cases rx;exact SeqAt.EqAt.str_none a t'
  |bl b=>cases rx;exact SeqAt.EqAt.str_bool a t' b
  |int b=>obtain⟨t,rfl⟩:=rx;exact jea a t' b t
  |str b=>obtain⟨t,rfl⟩:=rx;exact SeqAt.EqAt.str_str a t' b t
  |_=>exact absurd (show false=true from fx) dY
 |_=>exact absurd (show false=true from fy) dY
def eqU(x:V)(u:bq):Bool:=match u with
 |.none=>eqV .non x
 |.bool b=>eqV (.bl b) x
 |.int i _=>eqV (.int i) x
 |.str z _=>eqV (.str z) x
 |_=>false
theorem jbz(r:jS y u)(f:zN y=true):eqU x u=eqV y x:=by
 cases y with
 |non=>cases r;rfl
 |bl b=>cases r;rfl
 |int i=>obtain⟨t,rfl⟩:=r;rfl
 |str z=>obtain⟨t,rfl⟩:=r;rfl
 |_=>exact absurd (show false=true from f) dY
theorem zV{x:V}:∀ {xs:List V} {us:List bq},jJ xs us->xs.all zN=true->us.any (eqU x)=xs.any λy=>eqV y x
 |_,_,.nil,_=>rfl
 |y::xs,u::us,.cons r t,f=>by
  rw[jcR,bg]at f;rw[jd3,jd3,jbz r f.1,zV t f.2]
theorem yY{A:mq}{s:Shared}{x:V}{v:bq}(rx:jS x v)(fx:zN x=true):∀ {xs:List V} {us:List bq},jJ xs us->xs.all zN=true->∀u∈us,SeqAt.EqAt A s u v (eqU x u)
 |_,_,.nil,_=>λu hu=>by cases hu
 |y::xs,u::us,.cons r t,f=>λu' hu=>by
  rw[jcR,bg]at f;rcases bD.mp hu with rfl|hu
  ·rw[jbz r f.1];exact eqAt_V r rx f.1 fx
  ·exact yY rx fx t f.2 u' hu
def inV(x:V)(xs:List V):Bool:=xs.any λy=>eqV y x
def rIn(K:bp)(neg:Bool):R2:=λx y H Q=>∃p xs,y=.ref p/\(SqL K H p xs\/SqT K H p xs)/\zN x=true/\xs.all zN=true/\Q (.bl (if neg then !inV x xs else inV x xs)) H
theorem Ve:OpR X (nG .In) (rIn X.K false):=by
 intro pins s σ H x y v u Q I rx ry h;obtain⟨p,xs,rfl,hq,fx,fs,q⟩:=h;cases ry;rcases hq with hq|hq
 ·obtain⟨its,r,pl,hz⟩:=I.list hq;refine SeqAt.in_listAt (eqU x) pl.isList (λw hw=>yY rx fx r fs w (by simpa using hw)) ⟨.bl _,H,I,rfl,?_⟩;rw[show its.toArray.any (eqU x)=its.any (eqU x) by simp,zV r fs];exact q
 ·obtain⟨its,r,pl,hz⟩:=I.tuple hq;refine SeqAt.in_tupleAt (eqU x) pl (λw hw=>yY rx fx r fs w (by simpa using hw)) ⟨.bl _,H,I,rfl,?_⟩;rw[show its.toArray.any (eqU x)=its.any (eqU x) by simp,zV r fs];exact q
theorem Qn:OpR X (nG .NotIn) (rIn X.K true):=by
 intro pins s σ H x y v u Q I rx ry h;obtain⟨p,xs,rfl,hq,fx,fs,q⟩:=h;cases ry;rcases hq with hq|hq
 ·obtain⟨its,r,pl,hz⟩:=I.list hq;refine SeqAt.notIn_listAt (eqU x) pl.isList (λw hw=>yY rx fx r fs w (by simpa using hw)) ⟨.bl _,H,I,rfl,?_⟩;rw[show its.toArray.any (eqU x)=its.any (eqU x) by simp,zV r fs];exact q
 ·obtain⟨its,r,pl,hz⟩:=I.tuple hq;refine SeqAt.notIn_tupleAt (eqU x) pl (λw hw=>yY rx fx r fs w (by simpa using hw)) ⟨.bl _,H,I,rfl,?_⟩;rw[show its.toArray.any (eqU x)=its.any (eqU x) by simp,zV r fs];exact q
theorem zU:xD X (.builtin "len") (λxs H Q=>∃p ys,xs=[.ref p]/\(SqL X.K H p ys\/SqT X.K H p ys)/\Q (.int ys.length) H):=by
 intro pins s σ H xs us Q I r h;obtain⟨p,ys,rfl,hq,q⟩:=h;obtain⟨u,rfl,rx⟩:=zZ r;cases rx;have hn:=QB;rcases hq with hq|hq
 ·obtain⟨its,r',pl,hz⟩:=I.list hq;have hlen:=r'.length;exact Calls.call_len_list pl.isList (by simp only[di]<;>omega) ⟨.int ys.length,H,I.tok _,⟨s.toks+1,by rw[di,hlen]⟩,q⟩
 ·obtain⟨its,r',pl,hz⟩:=I.tuple hq;have hlen:=r'.length;exact len_tuple pl (by simp only[di]<;>omega) ⟨.int ys.length,H,I.tok _,⟨s.toks+1,by rw[di,hlen]⟩,q⟩
theorem qk:xD X (.type "list") (λxs H Q=>∃p ys,xs=[.ref p]/\(SqL X.K H p ys\/SqT X.K H p ys)/\∀l,H l=none->Q (.ref l) (upd H l (.lst ys))):=by
 intro pins s σ H xs us Q I r h;obtain⟨p,ys,rfl,hq,q⟩:=h;obtain⟨u,rfl,rx⟩:=zZ r;cases rx
 have fin:∀(its:List bq),jJ ys its->ys.length<=sizeLine->∀(h':gQ) (c':Nat),(∀b o',s.heap.get? b=some o'->h'.get? b=some o') ->
  h'.get? s.heap.objs.size=some { cls:=.type "list",dict:=none,data:=.seq its.toArray c',slots:=#[] }->EP X pins σ Q (.ref s.heap.objs.size) { s with heap:=h' }:=λits r' hz h' c' kp e =>
  ⟨.ref s.heap.objs.size,_,I.laid (t':=s.toks) kp (bV _) (show qS X.prog X.w _ h' _ (.lst ys) from ⟨hz,its,c',r',e⟩),rfl,q _ (I.hok.fresh (bV _))⟩
 rcases hq with hq|hq
 ·obtain⟨its,r',pl,hz⟩:=I.list hq;have hlen:=r'.length;obtain⟨o,ho,hc,n,hd⟩:=pl.isList;exact call_list_seq p (.inl rfl) ho hc hd (λh' c' kp e=>fin its r' hz h' c' kp e) (by simp only[di]<;>omega)
 ·obtain⟨its,r',pl,hz⟩:=I.tuple hq;have hlen:=r'.length;obtain⟨o,ho,hc,n,hd⟩:=pl;exact call_list_seq p (.inr rfl) ho hc hd (λh' c' kp e=>fin its r' hz h' c' kp e) (by simp only[di]<;>omega)
def tyV(K:bp)(T:String)(x:V)(H:Hp):Prop:=match x with
 |.str _=>T="str"
 |.int _=>T="int"
 |.ref p=>(T="list" /\ ∃xs,SqL K H p xs)\/(T="tuple" /\ ∃o,K.lookup p=some o/\o.cls=.type "tuple" /\ o.dict=none) \/
  (T="dict" /\ ((∃kvs,H p=some (.dK kvs))\/∃kvs,H p=some (.dT kvs)))\/(T="set" /\ ∃S n,H p=some (.set S n))
 |_=>False
theorem jbe{s:Shared}{T:String}{v:bq}(I:Inv X pins σ H s)(r:jS x v)(ty:tyV X.K T x H) :
 s.TypeIs v T/\∀a,v=.ref a->∃ob,s.heap.get? a=some ob/\ob.dict=none:=by
 cases x with
 |str z =>
  obtain⟨t,rfl⟩:=r;cases (show T="str" from ty)
  exact⟨typeIs_str s z t,λ_ e=>nomatch e⟩
 |int i =>
  obtain⟨t,rfl⟩:=r;cases (show T="int" from ty)
  exact⟨typeIs_int s i t,λ_ e=>nomatch e⟩
 |ref p =>
  cases r;rcases ty with⟨rfl,xs,hq⟩|⟨rfl,o,hk,hc,hd⟩|⟨rfl,hk⟩|⟨rfl,S,n,hk⟩
  ·obtain⟨its,_,pl,_⟩:=I.list hq;refine⟨pl.isList.typeIs,λa e=>?_⟩;cases e;obtain⟨o,n,e,c,hd,_⟩:=pl;exact⟨o,e,hd⟩
  ·refine⟨⟨o,I.kIn p o hk,hc⟩,λa e=>?_⟩;cases e;exact⟨o,I.kIn _ o hk,hd⟩
  ·have z:∃o,s.heap.get? p=some o/\o.ExactDict:=by
    rcases hk with⟨kvs,hk⟩|⟨kvs,hk⟩
    ·obtain⟨_,_,_,_,o,_,_,e,ex,_⟩:=I.hok p _ hk;exact⟨o,e,ex⟩
    ·obtain⟨_,_,_,_,o,_,_,e,ex,_⟩:=I.hok p _ hk;exact⟨o,e,ex⟩
   obtain⟨o,e,ex⟩:=z;refine⟨⟨o,e,ex.1⟩,λa e2=>?_⟩;cases e2;exact⟨o,e,ex.2.1⟩
  ·obtain⟨o,_,_,_,e,ex,_⟩:=I.hok p _ hk;refine⟨⟨o,e,ex.1⟩,λa e2=>?_⟩;cases e2
   exact⟨o,e,ex.2.1⟩
 |_=>exact mL ty
def tBM0(K:bp)(T:String)(r:V->List V->Hp->VK->Prop)(to:TE):TE:=λσ H Q=>to σ H λx H1=>tyV K T x H1/\r x [] H1 Q
def tBM(K:bp)(T:String)(r:V->List V->Hp->VK->Prop)(to:TE)(t:TA):TE:=λσ H Q=>to σ H λx H1=>tyV K T x H1/\t σ H1 λxs H2=>r x xs H2 Q
variable {o e:Expr} {es:List Expr} {to:TE} {t:TA} {name:Str} {apos cpos:Pos} {T id:String} {r:V->List V->Hp->VK->Prop}
theorem pe_bm0(pa:PlainAttrs T)(slot:Slot T name id)(hty:typeOf (.builtin id)=pure (.type "method_descriptor"))(hm:MtR X id r)(ho:PE X o to)
 (hbase:wC o name X.env (eval o X.env)=eval o X.env:=by rfl) (hline:(apos.endLine == cpos.line)=true:=by rfl):PE X (.Call (.Attribute o name apos) [] [] cpos) (tBM0 X.K T r to):=by
 intro pins s σ H Q I h;refine wpAny_Call_method0_late hbase hline (thn (ho pins s σ H _ I h) λv s1 ⟨x,H1,I1,r1,ty,q1⟩=>?_);obtain⟨h1,h2⟩:=jbe I1 r1 ty;exact⟨T,id,pa,slot,hty,h1,h2,jde rfl (PySem.evalArgs_none (hm pins s1 σ H1 x [] v [] Q I1 r1 .nil q1))⟩
theorem Ka(pa:PlainAttrs T)(slot:Slot T name id)(hty:typeOf (.builtin id)=pure (.type "method_descriptor"))(hm:MtR X id r)(ho:PE X o to)(ha:PA X (e::es) t)
 (hbase:wC o name X.env (eval o X.env)=eval o X.env:=by rfl)
 (hfew:((backTo cpos (bQ (e::es) X.env)).all (λx=>!x.1)&&(backToKw cpos (keywordEach [] X.env)).all (λx=>x.1.isSome)
  && decide ((e::es).length+([]:List jfa).length+(if ([]:List jfa).isEmpty then 0 else 1)<30))=true:=by rfl)
 (hline:(apos.endLine == cpos.line)=true:=by rfl) (hs:bQ (e::es) X.env=(false,eval e X.env)::bQ es X.env:=by rfl) (hplain:(backTo cpos (bQ es X.env)).any (·.1)=false:=by rfl) :
 PE X (.Call (.Attribute o name apos) (e::es) [] cpos) (tBM X.K T r to t):=by
 intro pins s σ H Q I h;refine wpAny_Call_method_late hbase hfew hline rfl (thn (ho pins s σ H _ I h) λv s1 ⟨x,H1,I1,r1,ty,q1⟩=>?_);obtain⟨h1,h2⟩:=jbe I1 r1 ty;refine⟨T,id,pa,slot,hty,h1,h2,?_⟩;have hA:=ha cpos pins s1 σ H1 _ I1 q1;rw[hs]at hA ⊢;refine jde (by show (false ||(backTo cpos (bQ es X.env)).any (·.1))=false;rw[hplain]<;>rfl) (Calls.evalArgs_plain ?_)
 exact thn hA λus s2 ⟨vs,H2,I2,r2,q2⟩=>hm pins s2 σ H2 x vs v us Q I2 r1 r2 q2
/- xs.append(e),list.index on a module's tuple .. are MtR facts of 06m -/
end
def MtM(X:Cx)(id:String)(r:V->List V->Hp->VK->Prop):Prop :=
 ∀(pins:List (Addr×nv)) (s:Shared) (σ:St) (H:Hp) (x:V) (xs:List V) (v:bq) (us:List bq) (Q:VK),Inv X pins σ H s->jS x v->jJ xs us->r x xs H Q ->
  wpAny (model X.prog X.w) X.A (call (.builtin id) (v::us)) (EP X pins σ Q) X.xe s
theorem jJ.one{us:List bq}(h:jJ [x] us):∃u,us=[u]/\jS x u:=by
 cases h with|cons r t=>cases t;exact⟨_,rfl,r⟩
variable{t':Nat}
section
variable {X:Cx} {pins:List (Addr×nv)} {σ:St} {H:Hp} {s:Shared} {l b:Addr} {xs ys zs:List V}
theorem Inv.lset{f:Array bq->Array bq}(I:Inv X pins σ H s)(hH:H l=some (.lst xs))
 (e:s.heap.get? l=some { cls:=.type "list",data:=.seq its.toArray n }) (hf:f its.toArray=its'.toArray) (hv:jJ ys its') (hz:ys.length<=sizeLine) :
 Inv X pins σ (upd H l (.lst ys)) { s with heap:=s.heap.update l (wj f),toks:=t' }:=by
 have q:=PySem.IsL.update e f;rw[hf]at q;refine I.write (x:=l) (e:=l) (by rw[hH];exact trivial) (.inl rfl) (λb' u hb hu=>(dQ s.heap (wj f) (gX hb)).trans hu) ⟨_,q⟩ ?_;exact⟨hz,its',_,hv,q⟩
theorem Inv.lnew(I:Inv X pins σ H s)(hv:jJ ys its)(hz:ys.length<=sizeLine) :
 Inv X pins σ (upd H s.heap.objs.size (.lst ys)) { s with heap:=s.heap.push { cls:=.type "list",data:=.seq its.toArray },toks:=t' } :=
 I.laid (λ_ _ q=>bC _ q) (bV _) ⟨hz,its,0,hv,dJ _ rfl⟩
theorem Inv.fresh(I:Inv X pins σ H s):H s.heap.objs.size=none:=I.hok.fresh (bV _)
theorem Inv.lstM(I:Inv X pins σ H s)(hH:H l=some (.lst xs)):xs.length<=sizeLine/\∃(its:List bq) (n:Nat),jJ xs its/\xs.length=its.length/\s.heap.get? l=some { cls:=.type "list",data:=.seq its.toArray n }:=by
 obtain⟨z,its,n,r,e⟩:=I.hok l _ hH;exact⟨z,its,n,r,r.length,e⟩
theorem jak(h:n<=sizeLine):nW n=false:=by
 unfold nW;exact decide_eq_false (by omega)
end
section
variable {X:Cx}
def Uc:V->List V->Hp->VK->Prop:=λx vs H Q=>∃l xs y,x=.ref l/\vs=[y]/\H l=some (.lst xs)/\xs.length<sizeLine/\Q .non (upd H l (.lst (xs ++ [y])))
theorem uW:MtM X "list.append" Uc:=by
 intro pins s σ H x vs v us Q I rx rv h;obtain⟨l,xs,y,rfl,rfl,hH,hz,q⟩:=h;cases rx;obtain⟨u,rfl,ru⟩:=rv.one;obtain⟨z,its,n,r,hl,e⟩:=I.lstM hH;refine call_meets F.slot_list_append ⟨_,e,rfl⟩ F.entry_list_append (F.args_list_append_2 _ _) (PySem.list_append l its.toArray n u (by rw[di];omega)) ⟨e,?_⟩;refine⟨.non,_,I.lset (its':=its ++ [u]) hH e (by simp) (r.append (.cons ru .nil)) ?_,rfl,q⟩;rw[df,nz];omega
end
section
variable {prog:dW} {w:World} {A:mq} {E:bq->Shared->Prop} {s:Shared}
set_option maxRecDepth 100000 in
end
end L2
namespace Att
open PySem PySem.W PySem.Calls PyProof.Rows
variable{P:Params}{h:gQ}
theorem vi:∀(ns:List Int) (vs:List bq),WellAll P h vs (ns.map WData.int)->jfb vs ns:=by
 intro ns
 induction ns with
 |nil =>
  intro vs w;rw[dR]at w;cases w
  exact .nil
 |cons n ns ih =>
  intro vs w;rw[bz]at w
  cases w with
  |cons a b =>
   cases a;exact .cons _ _ (ih _ b)
variable{l:OpenLaw}{n:Nat}
theorem Vm(hn:l.most=some n){args:List WData}{vals:List bq}
 (hpre:l.row.toRowW.claim.pre args=true) (hwl:WellAll P h vals args) :
 ∃a vs ns,vals=[gT a]/\args=[WData.list (ns.map WData.int)]/\h.get? a=some { cls:=.type "list",data:=.seq vs.toArray }/\jfb vs ns/\ns.length<=n:=by
 have hsh:WShape.hasAll [] args [.list .int]=true:=(pre_splitW hpre).1;have hc:l.pre.holds [] { args:=args }=true:=(pre_splitW hpre).2;obtain⟨d,r,rfl,h1,h2⟩:=hasAllW_cons hsh;obtain rfl:=hasAllW_nil h2;obtain⟨xs,rfl,h3⟩:=hasW_list h1;obtain⟨ns,rfl⟩:=items_int h3
 have hlen:ns.length<=n:=by
  unfold OpenLaw.pre at hc
  have h4:(WTm.not (.lt (.lit (.int (n:Int))) (.len (.arg 0)))).holds [] { args:=[.list (ns.map .int)] }=true:=by
   have h4:=(holds_andW hc).1;rw[hn]at h4;exact h4
  have h5:=condW_of h4 (w_not (w_lt w_lit (w_len_list (w_arg rfl))));rw[bj]at h5
  refine Nat.le_of_not_lt λq=>?_
  have q':(n:Int)<((ns.length:Nat):Int):=by omega
  first
   |(rw[decide_eq_true q']at h5;exact absurd h5 (by decide))
   |(simp at h5;omega)
 cases hwl with
 |cons w1 w2 =>
  cases w2
  cases w1 with
  |list ho hall=>exact⟨_,_,ns,rfl,rfl,ho,vi ns _ hall,hlen⟩
theorem UK(l:OpenLaw)(args:List WData):l.row.toRowW.claim.post args (.bool true) args=true :=
 postW_of (r:=l.row.toRowW) (X:=(true == true))
  (show WShape.has [] (.bool true) .bool=true by first|rfl|decide|simp[WShape.has,WShape.arms,WShape.armsAll])
  (show (WTm.eq .res (.lit (.bool true))).value [] { args:=args,res:=some (.bool true),after:=args }=some (.bool (true == true)) from w_eq_bool (w_res rfl) w_lit) rfl
theorem attach_call{q:dW}{loose:List Str}{XP:(Str->Option bq)->gQ->Prop}{YP:World->gQ->Prop}{d:DefRec}
 (hn:l.most=some n) (hdf:d.params.defaults=[])
 (call:∀(w:World) (s₀ s₁:Shared) (mg mb:Str->Option bq) (fa:Addr) (o:nv) (pm cd doc:bq) (a:Addr) (vs:List bq) (ns:List Int),
  Ground q loose [] XP w s₀ mg mb s₁.heap->YP w s₁.heap ->
  s₁.heap.get? fa=some o->o.data=.func (docDef d.name d.params d.body d.scope pm cd doc)->s₁.heap.CodeRec cd d.name->mg d.name=some (.ref fa) ->
  s₁.heap.get? a=some { cls:=.type "list",data:=.seq vs.toArray }->jfb vs ns->ns.length<=n->s₁.gens=#[] ->
  wF (model l.prog w) jdf (.call (.ref fa) ⟨[.ref a],[]⟩) (λr s'=>r=.ok (.ret (.bool true))/\OldK s₁.heap s'.heap/\s'.os=s₁.os/\jcl s'.gens) s₁) :
 WalkO q loose XP YP l.row.toRowW d [] (λf vs=>jfe f vs):=by
 intro w s₀ s₁ mg mb G Y fa o pm cd doc dV kV ho hd hcd hD hmg hg args vals as hpre hlay hrd hwl hlo;obtain rfl:dV=.none:=Dflts.none hD hdf;obtain rfl:kV=.none:=Dflts.noKw hD;obtain⟨a,vs,ns,rfl,rfl,hobj,hints,hlen⟩:=Vm hn hpre hwl;refine enter_call (jcm (call w s₀ s₁ mg mb fa o pm cd doc a vs ns G Y ho (fd_plain hd) hcd hmg hobj hints hlen hg) λr s' hq=>?_);obtain⟨rfl,h2,h3,h4⟩:=hq;exact⟨.inl ⟨.bool true,.bool true,[],rfl,λ_=>rfl,.bool true,UK l _,λ_=>⟨List.Pairwise.nil,λ_ hm=>(nomatch hm)⟩⟩,h2,h3,h4⟩
end Att
namespace L2
open PySem PySem.Spec PyProof.Rows
theorem ye:∀ {vs:List bq} {ns:List Int},jfb vs ns->jJ (ns.map V.int) vs
 |_,_,.nil=>.nil
 |_,_,.cons n t h=>.cons ⟨t,rfl⟩ (ye h)
def Only(H:Hp):Prop:=∀b,H b=none\/∃o xs,H b=some (.frz o (.lst xs))
variable{k:Nat}{x:Str}
theorem jb8{P:dW}{w:World}{K:bp}{mg mb:Str->Option bq}{CX:CXT}{fa a:Addr}{fd:pF}{sp:Sp}{s₁:Shared}{vs:List bq}{ns:List Int}
 (KX:K.In s₁.heap) (hns:s₁.heap.Ns gn mg) (hb:s₁.heap.Ns builtinsNs mb) (hbb:∀x:Str,x ≠ "__name__"->mb x=pX x) (hlim:s₁.heap.NoLimit/\s₁.heap.NoDigits) (hg:s₁.gens=#[])
 (ha:s₁.heap.get? a=some { cls:=.type "list",data:=.seq vs.toArray }) (hi:jfb vs ns) (hl:ns.length<=sizeLine) (hr:Room k jdf)
 (F:∀base:gQ,K.In base->base.Ns gn mg->FnOk P w K mg base CX k fa fd [x] sp) (hbind:∀(s:Shared) (u:bq),BindsTo s fd ⟨[u],[]⟩ [(x,u)])
 (hsp:∀H:Hp,Only H->SqL K H a (ns.map V.int)->sp [.ref a] H (λv _=>v=.bl true) λ_ _ _=>False)
 (hCX:∀H e s',CX [] H s₁ (λ_ _ _=>False) e s'->False) :
 wF (model P w) jdf (.call (.ref fa) ⟨[.ref a],[]⟩) (λr s'=>r=.ok (.ret (.bool true))/\OldK s₁.heap s'.heap/\s'.os=s₁.os/\jcl s'.gens) s₁:=by
 have rv:=ye hi;have lenV:=hi.length
 have core:∀H:Hp,Only H->SqL K H a (ns.map V.int)->HOk P w H s₁.heap->(∀b,H b≠none->b=a)->(H a≠none->K.lookup a=none) ->
  wF (model P w) jdf (.call (.ref fa) ⟨[.ref a],[]⟩) (λr s'=>r=.ok (.ret (.bool true))/\OldK s₁.heap s'.heap/\s'.os=s₁.os/\jcl s'.gens) s₁:=by
  intro H hO hS hok hA hK
  have base_of:∀ {b:Addr} {o:nv},s₁.heap.get? b=some o->H b=none->(Qh s₁.heap H).get? b=some o:=λe n=>jaQ e n
  have noA:∀ {b:Addr} {o:nv} {es:Array jeQ} {ep:Nat},s₁.heap.get? b=some o->o.data=.dict es ep->H b=none:=λ{b o es ep} e d=>by
   cases q:H b with
   |none=>rfl
   |some u =>
    have e':b=a:=hA b (by rw[q];simp);subst e';rw[ha]at e;cases e;have d':Data.seq vs.toArray _=Data.dict es ep:=d;cases d'
  have nsK:∀ {b:Addr} {m:Str->Option bq},s₁.heap.Ns b m->(Qh s₁.heap H).Ns b m:=λ{b m} ⟨o,es,ep,e,d,r⟩=>⟨o,es,ep,base_of e (noA e d),d,r⟩
  have hKb:K.In (Qh s₁.heap H):=λb o e=>base_of (KX b o e) (by
   cases q:H b with
   |none=>rfl
   |some u =>
    have e':b=a:=hA b (by rw[q];simp);subst e'
    rw[hK (by rw[q];simp)]at e;cases e)
  have hM:Mod K mg (Qh s₁.heap H):=⟨hKb,nsK hns,⟨mb,nsK hb,hbb⟩,(let ⟨mc,h1,h2⟩:=hlim.1;⟨mc,nsK h1,h2⟩),(let ⟨mc,h1,h2⟩:=hlim.2;⟨mc,nsK h1,h2⟩)⟩
  have e0:Env0 P w K mg (Qh s₁.heap H) jdf [] s₁ H:=⟨rfl,hM,λb o e=>of_hidT e,jdg (Vt _ _),trivial,λb hb=>absurd (show b∈([]:List Addr) from hb) (by simp),hok,.of_eq hg⟩
  refine jcm ((F _ hKb (nsK hns)).run jdf [] s₁ H ⟨[.ref a],[]⟩ [.ref a] [.ref a] _ _ hr e0 (hbind s₁ (.ref a)) (.cons rfl .nil) (hsp H hO hS)) λr s' h=>?_
  cases r with
  |error e=>exact(hCX H e s' h).elim
  |ok fl =>
   cases fl with
   |next=>exact mL h
   |brk=>exact mL h
   |cont=>exact mL h
   |ret u =>
    obtain⟨v,H',os,bare,un,hok',r',q⟩:=h;have q':v=.bl true:=q;subst q';obtain rfl:u=jeb true:=r';refine⟨rfl,OldK.of_keep λb o e=>?_,os,bare⟩
    cases q:H b with
    |none=>exact un.keep b o e q (by intro z;exact absurd (show b∈([]:List Addr) from z) (by simp)) (by simp)
    |some u =>
     rcases hO b with z|⟨ob,xs,z⟩
     ·rw[q]at z;cases z
     ·have z2:=un.frzs b ob _ z;obtain⟨e1,_⟩:=hok b _ z;obtain⟨e2,_⟩:=hok' b _ z2;rw[e]at e1;cases e1;exact e2
 cases hk:K.lookup a with
 |some o =>
  have e:=KX a o hk;rw[ha]at e;cases e
  refine core (λ_=>none) (λ_=>.inl rfl) (.inr ⟨_,vs.toArray,_,hk,rfl,rfl,rfl,by rw[di,lenV];exact hl,by simpa using rv⟩) (λb u z=>by have z':(none:Option HO)=some u:=z;cases z') (λb z=>absurd rfl z) λz=>absurd rfl z
 |none =>
  refine core (λb=>if b=a then some (.frz { cls:=.type "list",data:=.seq vs.toArray } (.lst (ns.map V.int))) else none) (λb=>?_) (.inl (.inr ⟨{ cls:=.type "list",data:=.seq vs.toArray },if_pos rfl⟩)) (λb u z=>?_) (λb z=>?_) λ_=>hk
  ·by_cases hb:b=a
   ·exact .inr ⟨_,_,if_pos hb⟩
   ·exact .inl (if_neg hb)
  ·by_cases hb:b=a
   ·have z':=(if_pos hb).symm.trans z;cases z';subst hb;exact⟨ha,by rw[bj];exact hl,vs,_,rv,ha⟩
   ·have z':=(if_neg hb).symm.trans z;cases z'
  ·by_cases hb:b=a
   ·exact hb
   ·exact absurd (if_neg hb) z
theorem walk_of{l:je5}{n:Nat}{q:dW}{loose:List Str}{XP:(Str->Option bq)->gQ->Prop}{YP:World->gQ->Prop}{d:DefRec}{K:Params->bp}{CX:World->CXT}{sp:World->Sp}
 (hn:l.most=some n) (hn2:n<=sizeLine) (hdf:d.params.defaults=[]) (hr:Room k jdf)
 (hY:∀(w:World) (h:gQ),YP w h->(K w.params).In h)
 (F:∀(w:World) (mg:Str->Option bq) (fa:Addr) (h:gQ),(K w.params).In h->h.Ns gn mg->mg d.name=some (.ref fa) ->
  ∃fd:pF,(∀(s:Shared) (u:bq),BindsTo s fd ⟨[u],[]⟩ [(x,u)]) /\
   ∀base:gQ,(K w.params).In base->base.Ns gn mg->FnOk l.prog w (K w.params) mg base (CX w) k fa fd [x] (sp w))
 (hsp:∀(w:World) (H:Hp) (a:Addr) (ns:List Int),ns.length<=n->Only H->SqL (K w.params) H a (ns.map V.int)->sp w [.ref a] H (λv _=>v=.bl true) λ_ _ _=>False)
 (hCX:∀(w:World) (H:Hp) (s:Shared) (e:bq) (s':Shared),CX w [] H s (λ_ _ _=>False) e s'->False) :
 jfo q loose XP YP l.row.toRowW d [] (λf vs=>jfe f vs):=by
 refine Att.attach_call hn hdf λw s₀ s₁ mg mb fa o pm cd doc a vs ns G Y ho hd hcd hmg hobj hints hlen hg=>?_
 have KX:=hY w _ Y;obtain⟨fd,hb,hF⟩:=F w mg fa _ KX G.T.g hmg
 exact jb8 KX G.T.g G.T.b G.T.builtins ⟨G.T.nolimit,G.T.nodigits⟩ hg hobj hints (dg hlen hn2) hr hF hb (λH hO hS=>hsp w H a ns hlen hO hS) λH e s'=>hCX w H s₁ e s'
end L2
/- THE LAST THEOREM (shape;LID,My.* are yours):
   My.Adr: a structure of the addresses that your layer names (classes,functions);My.Txt K t: a structure (Prop) of the equations over K;
   My.txt_mk:{K} {implicit addresses ..} (e1:nsIn K gn "law"=some (some (.ref f))) (e2:K.lookup f=some ⟨oc,od,.func (fnOf "law" "law" params body scope dV kV doc pm an cdv ct),sl⟩) (e3:codeIn K cdv "law"=true) ..:∃t,My.Txt K t
set_option maxRecDepth 100000 in
set_option maxHeartbeats 0 in
theorem PySem.Challenge.cw_LID_holds : PySem.Challenge.rw_LID.Holds := by
 w_on;o_law;k_head;(case hw=>w_witness2)
 k_fill
 refine L2.walk_of (l:=PySem.Challenge.rw_LID) (n:=63) (k:=40) (x:="script") (CX:=λw=>..) (sp:=λ_=>My.sp_law) rfl (by decide) rfl ⟨rfl,by decide,by decide⟩ (λw h Y=>jff Y) ?F ?S ?C
 case F =>
  intro w mg fa h KX G hmg
  have T:∃t,My.Txt (L2.KOf KX) t:=by
   dsimp only[L2.KOf]                          -- K must stand as «<heap const> w.params» for k_is
   refine' My.txt_mk ?e1 ?e2 ?e3 ..
   (case e1=>PySem.W.k_is)                    -- in the order: a name -> its address -> its object -> its parts
   (case e2=>PySem.W.k_is)
   ..
  obtain⟨t,T⟩:=T;have e0:=hmg.symm.trans (pL KX G T.law)
  cases e0                                       -- fa is the law's own address
  exact⟨_,λs u=>.of_eq rfl,λbase kb nb=>My.law_fn T kb nb⟩     -- if «.of_eq rfl» comes too early: refine'⟨_,?b,λbase kb nb=>My.law_fn T kb nb⟩;exact λs u=>.of_eq rfl
 case S=>exact λw H a ns hl hO hS=>..
 case C=>exact ..
(the tactic k_is has no namespace: write k_is) -/
namespace L2
open PySem PySem.Spec PyProof.Rows
def qZ(s:Stmt):Arguments:=match s with
 |.FunctionDef _ a _ _ _ _ _ _ _ _=>a
 |_=>{ posonlyargs:=[],args:=[],vararg:=none,kwonlyargs:=[],kw_defaults:=[],kwarg:=none,defaults:=[] }
def jU(s:Stmt):List Stmt:=match s with
 |.FunctionDef _ _ b _ _ _ _ _ _ _=>b
 |_=>[]
def ji(s:Stmt):Scope:=match s with
 |.FunctionDef _ _ _ _ _ _ sc _ _ _=>sc
 |_=>{ kind:=.function,names:=[],isGenerator:=false,isCoroutine:=false }
abbrev E0:XK:=λ_ _ _=>False
structure Fun (K:bp) (x qual:Str) (st:Stmt) (f:Addr) (fd:pF):Prop where
 ex:∃(oc:bq) (od:Option Addr) (kV doc pm:bq) (an:Option Addr) (cdv ct:bq) (osl:Array (Option bq)),
  fd=nQ x qual (qZ st) (jU st) (ji st) .none kV doc pm an cdv ct/\K.lookup f=some ⟨oc,od,.func fd,osl⟩/\tP K cdv qual=true
 kp:mP K (.ref f)=true
section
variable {P:dW} {w:World} {K:bp} {mg:Str->Option bq} {base:gQ}
theorem fun_mk{x qual:Str}{st:Stmt}{f:Addr}{oc:bq}{od an:Option Addr}{osl:Array (Option bq)}{kV doc pm cdv ct:bq}(l:K.lookup f=some ⟨oc,od,.func (nQ x qual (qZ st) (jU st) (ji st) .none kV doc pm an cdv ct),osl⟩)
 (c:tP K cdv qual=true) (k:mP K (.ref f)=true):Fun K x qual st f (nQ x qual (qZ st) (jU st) (ji st) .none kV doc pm an cdv ct):=⟨⟨oc,od,kV,doc,pm,an,cdv,ct,osl,rfl,l,c⟩,k⟩
end
def jf(H H':Hp):Prop:=∀b o,H b=some o->H' b=some o
theorem jf.refl(H:Hp):jf H H:=λ_ _ h=>h
variable{H:Hp}
theorem jf.trans{H1 H2:Hp}(a:jf H H1)(b:jf H1 H2):jf H H2:=λc o h=>b c o (a c o h)
variable{H':Hp}
theorem jf.free(e:jf H H'){l:Addr}(h:H' l=Option.none):H l=Option.none:=by
 cases q:H l with
 |none=>rfl
 |some o =>
  rw[e l o q]at h;cases h
theorem jf.seq{K:bp}{a:Addr}{xs:List V}(e:jf H H')(h:SqL K H a xs):SqL K H' a xs:=by
 rcases h with(h|⟨o,h⟩)|h
 ·exact .inl (.inl (e _ _ h))
 ·exact .inl (.inr ⟨o,e _ _ h⟩)
 ·exact .inr h
end L2
namespace Z
open PySem
set_option genInjectivity true in
inductive D where
 |non|bl (b:Bool)|int (i:Int)|str (x:Str)|tup (xs:List D)|lst (xs:List D)
mutual
noncomputable def eqD:D->D->Bool
 |.non,.non=>true
 |.bl a,.bl b=>a == b
 |.bl a,.int j=>(if a then 1 else 0) == j
 |.int i,.bl b=>i == (if b then 1 else 0)
 |.int i,.int j=>i == j
 |.str x,.str y=>x == y
 |.tup xs,.tup ys=>xO xs ys
 |.lst xs,.lst ys=>xO xs ys
 |_,_=>false
noncomputable def xO:List D->List D->Bool
 |[],[]=>true
 |x::xs,y::ys=>eqD x y&&xO xs ys
 |_,_=>false
end
mutual
noncomputable def qv:D->Nat
 |.tup xs=>xT xs+1
 |.lst xs=>xT xs+1
 |_=>0
noncomputable def xT:List D->Nat
 |[]=>0
 |x::xs=>max (qv x) (xT xs)
end
mutual
noncomputable def nol:D->Bool
 |.tup xs=>Jl xs
 |.lst _=>false
 |_=>true
noncomputable def Jl:List D->Bool
 |[]=>true
 |x::xs=>nol x&&Jl xs
end
structure XD where
 c:Nat
 t:Str
 f:List D
inductive BOp where
 |add|sub|mul|fdiv|mod|shl|band
 deriving DecidableEq
inductive COp where
 |eq|ne|lt|le|gt|ge
 |inn|nin
 deriving DecidableEq
inductive Bi where
 |abs|max|min|len|int|list|sum|all
 deriving DecidableEq
inductive Mt where
 |bitlen
 deriving DecidableEq
inductive Ty where
 |int|bool|tuple|list|str
 deriving DecidableEq
inductive SOp where
 |idx|join|part
 deriving DecidableEq
def SOp.nm:SOp->Str
 |.idx=>"index"
 |.join=>"join"
 |.part=>"partition"
inductive Ex where
 |var (i:Nat)
 |cst (d:D)
 |con (k:Nat)
 |bin (o:BOp) (a b:Ex)
 |neg (a:Ex)
 |not (a:Ex)
 |cmp (o:COp) (a b:Ex)
 |and (a b:Ex)
 |or (a b:Ex)
 |ife (c a b:Ex)
 |tup (es:List Ex)
 |lst (es:List Ex)
 |ix (a b:Ex)
 |call (f:Nat) (es:List Ex)
 |bi (f:Bi) (es:List Ex)
 |meth (m:Mt) (o:Ex)
 |isi (a:Ex) (t:Ty)
 |compR (es:List Ex) (e:Ex)
 |compE (a e:Ex)
 |oix (i:Nat) (e:Ex)
 |compZ (a b e:Ex)
 |compF (a c e:Ex)
 |slc (a l h:Ex)
 |lix (a b:Ex)
inductive RSt where
 |sto (c:Option Ex) (e v:Ex)
 |app (v:Ex)
inductive Sm where
 |nop
 |seq (a b:Sm)
 |set (i:Nat) (e:Ex)
 |unp (is:List Nat) (e:Ex)
 |ret (e:Ex)
 |ite (c:Ex) (a b:Sm)
 |whl (c:Ex) (b:Sm)
 |forR (i:Nat) (es:List Ex) (b:Sm)
 |forE (i:Nat) (e:Ex) (b:Sm)
 |brk|cnt
 |never
 |new (i:Nat)
 |app (i:Nat) (e:Ex)
 |sto (i:Nat) (e v:Ex)
 |shr (i:Nat)
 |raiseA (x:Str) (e:Ex)
 |ext (i:Nat) (e:Ex)
 |forU (i j s:Nat) (e:Ex)
 |retF (e:Ex)
 |retG (e:Ex)
 |setG (i f:Nat) (es:List Ex)
 |retY (f:Nat) (es:List Ex)
 |ownG (i:Nat) (e:Ex)
 |forT (j i:Nat) (ss:List RSt)
 |shrT (i:Nat)
 |hlfT (i:Nat)
 |cpO (j i:Nat) (es:List Ex) (c e:Ex)
 |forN (i:Nat) (e:Ex) (b:Sm)
inductive Sl where
 |sh (d:D)
 |ow (ds:List D)
 |ot (rows:List (List D))
abbrev Sto:=List (Option Sl)
def getS:Sto->Nat->Option Sl
 |[],_=>none
 |x::_,0=>x
 |_::r,i+1=>getS r i
def setS:Sto->Nat->Option Sl->Sto
 |[],_,_=>[]
 |_::r,0,v=>v::r
 |x::r,i+1,v=>x::setS r i v
abbrev bits(i:Int):Nat:=g9 i
def lim:Nat:=16777216
def qh(i j:Int):Prop:=bits i<=64\/bits j<=64\/bits i+bits j<=134217728
def ShlOk(i j:Int):Prop:=0<=j/\(bits i:Int)+j<=134217728
def zy(f:Int->Int->(D->Prop)->Prop):D->D->(D->Prop)->Prop
 |.int i,.int j,Q=>f i j Q
 |_,_,_=>False
def addD:D->D->(D->Prop)->Prop
 |.int i,.int j,Q=>Q (.int (i+j))
 |.lst xs,.lst ys,Q=>xs.length+ys.length<=lim/\Q (.lst (xs++ys))
 |_,_,_=>False
def mulD:D->D->(D->Prop)->Prop
 |.int i,.int j,Q=>qh i j/\Q (.int (i*j))
 |_,_,_=>False
def yB:BOp->D->D->(D->Prop)->Prop
 |.add=>addD
 |.sub=>zy λi j Q=>Q (.int (i-j))
 |.mul=>mulD
 |.fdiv=>zy λi j Q=>(j≠0/\bits j<=9000)/\Q (.int (i.fdiv j))
 |.mod=>zy λi j Q=>j≠0/\Q (.int (i.fmod j))
 |.shl=>zy λi j Q=>ShlOk i j/\Q (.int (i*2^j.toNat))
 |.band=>zy λi j Q=>Q (.int (pR i j))
def lexlt(p q:Int×Int):Bool:=decide (p.1<q.1\/(p.1=q.1/\p.2<q.2))
def prD(p:Int×Int):D:=.tup [.int p.1,.int p.2]
def sortD:D->(D->Prop)->Prop
 |.lst xs,Q=>xs.length<64/\((∃ns:List Int,xs=ns.map D.int/\∀ms:List Int,ms.Perm ns->ms.Pairwise (·<=·)->Q (.lst (ms.map D.int))) \/
  ∃ps:List (Int×Int),xs=ps.map prD/\∀qs:List (Int×Int),qs.Perm ps->qs.Pairwise (λa b=>lexlt b a=false)->Q (.lst (qs.map prD)))
 |_,_=>False
def inD(t:Bool):D->D->(D->Prop)->Prop
 |.int i,.lst ys,Q=>∃ns:List Int,ys=ns.map .int/\ys.length<=lim/\Q (.bl (ns.contains i == t))
 |_,_,_=>False
def uS:COp->D->D->(D->Prop)->Prop
 |.eq=>λx y Q=>min (qv x) (qv y)<=100/\Q (.bl (eqD x y))
 |.ne=>λx y Q=>min (qv x) (qv y)<=100/\Q (.bl (!eqD x y))
 |.lt=>zy λi j Q=>Q (.bl (decide (i<j)))
 |.le=>zy λi j Q=>Q (.bl (decide (i<=j)))
 |.gt=>zy λi j Q=>Q (.bl (decide (j<i)))
 |.ge=>zy λi j Q=>Q (.bl (decide (j<=i)))
 |.inn=>inD true
 |.nin=>inD false
def atD(xs:List D)(i:Int):Option D :=
 if 0<=i then xs[i.toNat]? else if -(xs.length:Int)<=i then xs[(i+xs.length).toNat]? else none
def ixD:D->D->(D->Prop)->Prop
 |.lst xs,.int i,Q=>∃d,atD xs i=some d/\Q d
 |.tup xs,.int i,Q=>∃d,atD xs i=some d/\Q d
 |_,_,_=>False
def tyD:Ty->D->Bool
 |.int,.int _=>true
 |.int,.bl _=>true
 |.bool,.bl _=>true
 |.tuple,.tup _=>true
 |.list,.lst _=>true
 |.str,.str _=>true
 |_,_=>false
def vQ(f:D->(D->Prop)->Prop):List D->(D->Prop)->Prop
 |[x],Q=>f x Q
 |_,_=>False
def two2(f:D->D->(D->Prop)->Prop):List D->(D->Prop)->Prop
 |[x,y],Q=>f x y Q
 |_,_=>False
def absD:D->(D->Prop)->Prop
 |.int i,Q=>Q (.int (if i<0 then -i else i))
 |_,_=>False
def lenD:D->(D->Prop)->Prop
 |.lst xs,Q=>Q (.int xs.length)
 |.tup xs,Q=>Q (.int xs.length)
 |_,_=>False
def toIntD:D->(D->Prop)->Prop
 |.int i,Q=>Q (.int i)
 |.bl b,Q=>Q (.int (if b then 1 else 0))
 |_,_=>False
def toListD:D->(D->Prop)->Prop
 |.lst xs,Q=>Q (.lst xs)
 |.tup xs,Q=>Q (.lst xs)
 |_,_=>False
def yN(f:List D->(D->Prop)->Prop):D->(D->Prop)->Prop
 |.lst xs,Q=>f xs Q
 |_,_=>False
def yR(mx:Bool)(a b:Int):Int:=if mx then (if b > a then b else a) else (if b<a then b else a)
def mmF(mx:Bool)(d:Int):List Int->Int
 |[]=>d
 |n::ns=>ns.foldl (yR mx) n
def minD:List D->(D->Prop)->Prop
 |[x],Q=>yN (λxs Q=>∃ns:List Int,xs=ns.map .int/\ns ≠ []/\Q (.int (mmF false 0 ns))) x Q
 |[x,y],Q=>zy (λi j Q=>Q (.int (if j<i then j else i))) x y Q
 |_,_=>False
def biD:Bi->List D->(D->Prop)->Prop
 |.abs=>vQ absD
 |.max=>two2 (zy λi j Q=>Q (.int (if j > i then j else i)))
 |.min=>minD
 |.len=>vQ lenD
 |.int=>vQ toIntD
 |.list=>vQ toListD
 |.sum=>vQ (yN λxs Q=>∃ns:List Int,xs=ns.map .int/\Q (.int ns.sum))
 |.all=>vQ (yN λxs Q=>∃bs:List Bool,xs=bs.map .bl/\Q (.bl (bs.all id)))
def sIx(n d:Nat):Option Int->Nat
 |none=>d
 |some v=>if v<0 then (v+(n:Int)).toNat else min v.toNat n
def yH(xs:List D)(lo hi:Option Int):List D:=(xs.drop (sIx xs.length 0 lo)).take (sIx xs.length xs.length hi-sIx xs.length 0 lo)
def slD:D->Option Int->Option Int->(D->Prop)->Prop
 |.lst xs,lo,hi,Q=>Q (.lst (yH xs lo hi))
 |_,_,_,_=>False
def kO:Ex->Bool
 |.cst .non=>true
 |_=>false
def Je(R:Option Int->Prop):D->Prop
 |.int i=>R (some i)
 |_=>False
def prt(b:Bool)(w:(D->Prop)->Prop)(R:Option Int->Prop):Prop:=if b=true then R none else w (Je R)
def lstD(x:D)(f:List D->Prop):Prop:=match x with|.lst xs=>f xs|_=>False
def jb7:D->D->(D->Prop)->Prop
 |.lst xs,.int k,Q=>∃(ns:List Int) (j:Nat),xs=ns.map .int/\(ns.length<=lim/\ns[j]?=some k/\∀m,m<j->ns[m]? ≠ some k)/\Q (.int j)
 |_,_,_=>False
def mmD(mx:Bool):D->D->(D->Prop)->Prop
 |.lst xs,.int d,Q=>∃ns:List Int,xs=ns.map .int/\Q (.int (mmF mx d ns))
 |_,_,_=>False
def mtD:Mt->D->(D->Prop)->Prop
 |.bitlen,.int i,Q=>Q (.int (bits i))
 |_,_,_=>False
structure Ctr where
 pre:List D->Prop
 res:List D->D->Prop
 exn:List D->XD->Prop:=λ_ _=>False
structure Cfg where
 ct:Nat->Ctr
 cn:Nat->D
 fr:Nat->Bool:=λ_=>false
 f2:Nat->Bool:=λ_=>false
 E:XD->Prop:=λ_=>False
def Ctr.wp(c:Ctr)(ds:List D)(Q:D->Prop)(E:XD->Prop):Prop:=c.pre ds/\(∀d,c.res ds d->Q d)/\∀x,c.exn ds x->E x
def itemsD:D->Option (List D)
 |.lst xs=>some xs
 |.tup xs=>some xs
 |_=>none
def j3(lo st:Int):Nat->List D
 |0=>[]
 |n+1=>.int lo::j3 (lo+st) st n
def qO(i:Int):Prop:=-4611686018427387904<=i/\i<4611686018427387904
def rgD:List D->(List D->Prop)->Prop
 |[.int hi],Q=>qO hi/\Q (j3 0 1 hi.toNat)
 |_,_=>False
def XR(xs:List D):List D:=xs.zipIdx.map λp=>.tup [.int p.2,p.1]
def zk(xs ys:List D):List D:=(xs.zip ys).map λp=>.tup [p.1,p.2]
def isL(f:List D->Prop):D->Prop
 |.lst xs=>f xs
 |_=>False
def kA(rows:List (List D)):D:=.lst (rows.map .lst)
def jbq(f:List (List D)->Prop)(d:D):Prop:=∃rows,d=kA rows/\f rows
def obD(f:List (List D)->Prop)(p:Prop):Option Sl->Prop
 |some (.ot rows)=>f rows
 |some (.sh _)=>p
 |_=>False
def otD(f:List (List D)->Prop):Option Sl->Prop
 |some (.ot rows)=>f rows
 |_=>False
def isB(Q:Bool->Prop):D->Prop
 |.bl k=>Q k
 |_=>False
def kN(f:D->(D->Prop)->Prop):List D->(List D->Prop)->Prop
 |[],Q=>Q []
 |d::ds,Q=>f d λy=>kN f ds λys=>Q (y::ys)
def kz(p:D->(Bool->Prop)->Prop)(f:D->(D->Prop)->Prop):List D->(List D->Prop)->Prop
 |[],Q=>Q []
 |d::ds,Q=>p d λb=>if b=true then f d λy=>kz p f ds λys=>Q (y::ys) else kz p f ds Q
mutual
noncomputable def wpE(C:Cfg):Ex->Sto->(D->Prop)->Prop
 |.var i,σ,Q=>match getS σ i with|some (.sh d)=>Q d|_=>False
 |.cst d,_,Q=>Q d
 |.con k,_,Q=>Q (C.cn k)
 |.bin o a b,σ,Q=>wpE C a σ λx=>wpE C b σ λy=>yB o x y Q
 |.neg a,σ,Q=>wpE C a σ λx=>match x with|.int i=>Q (.int (-i))|_=>False
 |.not a,σ,Q=>wpE C a σ λx=>match x with|.bl c=>Q (.bl (!c))|_=>False
 |.cmp o a b,σ,Q=>wpE C a σ λx=>wpE C b σ λy=>uS o x y Q
 |.and a b,σ,Q=>wpE C a σ λx=>match x with|.bl k=>if k=true then wpE C b σ Q else Q (.bl false)|_=>False
 |.or a b,σ,Q=>wpE C a σ λx=>match x with|.bl k=>if k=true then Q (.bl true) else wpE C b σ Q|_=>False
 |.ife c a b,σ,Q=>wpE C c σ λx=>match x with|.bl k=>if k=true then wpE C a σ Q else wpE C b σ Q|_=>False
 |.tup es,σ,Q=>wpEs C es σ λds=>Q (.tup ds)
 |.lst es,σ,Q=>wpEs C es σ λds=>Q (.lst ds)
 |.ix a b,σ,Q=>wpE C a σ λx=>wpE C b σ λy=>ixD x y Q
 |.call f es,σ,Q=>wpEs C es σ λds=>(C.ct f).wp ds Q C.E
 |.bi f es,σ,Q=>wpEs C es σ λds=>biD f ds Q
 |.meth m o,σ,Q=>wpE C o σ λx=>mtD m x Q
 |.isi a t,σ,Q=>wpE C a σ λx=>Q (.bl (tyD t x))
 |.compR es e,σ,Q=>wpEs C es σ λds=>rgD ds λxs=>xs.length<=lim/\kN (λd Q=>wpE C e (σ ++ [some (.sh d)]) Q) xs λys=>Q (.lst ys)
 |.compE a e,σ,Q=>wpE C a σ λd=>∃xs,itemsD d=some xs/\xs.length<=lim/\kN (λd Q=>wpE C e (σ ++ [some (.sh d)]) Q) xs λys=>Q (.lst ys)
 |.oix i e,σ,Q=>match getS σ i with|some (.ow ds)=>wpE C e σ λy=>ixD (.lst ds) y Q|_=>False
 |.compZ a b e,σ,Q=>wpE C a σ λx=>wpE C b σ λy=>∃xs ys,(x=.lst xs/\y=.lst ys)/\(zk xs ys).length<=lim/\kN (λd Q=>wpE C e (σ ++ [some (.sh d)]) Q) (zk xs ys) λzs=>Q (.lst zs)
 |.slc a l h,σ,Q=>wpE C a σ λx=>prt (kO l) (λR=>wpE C l σ R) λy=>prt (kO h) (λR=>wpE C h σ R) λz=>slD x y z Q
 |.lix a b,σ,Q=>wpE C a σ λx=>lstD x λxs=>wpE C b σ λy=>jb7 (.lst xs) y Q
 |.compF a c e,σ,Q=>wpE C a σ λd=>∃xs,itemsD d=some xs/\xs.length<=lim/\kz (λd Q=>wpE C c (σ ++ [some (.sh d)]) (isB Q)) (λd Q=>wpE C e (σ ++ [some (.sh d)]) Q) xs λys=>Q (.lst ys)
noncomputable def wpEs(C:Cfg):List Ex->Sto->(List D->Prop)->Prop
 |[],_,Q=>Q []
 |e::es,σ,Q=>wpE C e σ λd=>wpEs C es σ λds=>Q (d::ds)
end
section
variable {C:Cfg} {σ:Sto} {Q:D->Prop}
theorem wE_var:wpE C (.var i) σ Q=(match getS σ i with|some (.sh d)=>Q d|_=>False):=rfl
theorem wE_cst:wpE C (.cst d) σ Q=(Q d):=rfl
theorem wE_con:wpE C (.con k) σ Q=(Q (C.cn k)):=rfl
theorem wE_bin:wpE C (.bin o a b) σ Q=(wpE C a σ λx=>wpE C b σ λy=>yB o x y Q):=rfl
theorem wE_neg:wpE C (.neg a) σ Q=(wpE C a σ λx=>match x with|.int i=>Q (.int (-i))|_=>False):=rfl
theorem wE_not:wpE C (.not a) σ Q=(wpE C a σ λx=>match x with|.bl c=>Q (.bl (!c))|_=>False):=rfl
theorem wE_cmp:wpE C (.cmp o a b) σ Q=(wpE C a σ λx=>wpE C b σ λy=>uS o x y Q):=rfl
theorem wE_and:wpE C (.and a b) σ Q=(wpE C a σ λx=>match x with|.bl k=>if k=true then wpE C b σ Q else Q (.bl false)|_=>False):=rfl
theorem wE_or:wpE C (.or a b) σ Q=(wpE C a σ λx=>match x with|.bl k=>if k=true then Q (.bl true) else wpE C b σ Q|_=>False):=rfl
theorem wE_ife:wpE C (.ife c a b) σ Q=(wpE C c σ λx=>match x with|.bl k=>if k=true then wpE C a σ Q else wpE C b σ Q|_=>False):=rfl
theorem wE_tup:wpE C (.tup es) σ Q=(wpEs C es σ λds=>Q (.tup ds)):=rfl
theorem wE_lst:wpE C (.lst es) σ Q=(wpEs C es σ λds=>Q (.lst ds)):=rfl
theorem wE_ix:wpE C (.ix a b) σ Q=(wpE C a σ λx=>wpE C b σ λy=>ixD x y Q):=rfl
theorem wE_call:wpE C (.call f es) σ Q=(wpEs C es σ λds=>(C.ct f).wp ds Q C.E):=rfl
theorem wE_bi:wpE C (.bi f es) σ Q=(wpEs C es σ λds=>biD f ds Q):=rfl
theorem wE_meth:wpE C (.meth m o) σ Q=(wpE C o σ λx=>mtD m x Q):=rfl
theorem wE_isi:wpE C (.isi a t) σ Q=(wpE C a σ λx=>Q (.bl (tyD t x))):=rfl
theorem wE_compR:wpE C (.compR es e) σ Q=(wpEs C es σ λds=>rgD ds λxs=>xs.length<=lim/\kN (λd Q=>wpE C e (σ ++ [some (.sh d)]) Q) xs λys=>Q (.lst ys)):=rfl
theorem wE_compE:wpE C (.compE a e) σ Q=(wpE C a σ λd=>∃xs,itemsD d=some xs/\xs.length<=lim/\kN (λd Q=>wpE C e (σ ++ [some (.sh d)]) Q) xs λys=>Q (.lst ys)):=rfl
theorem wE_oix:wpE C (.oix i e) σ Q=(match getS σ i with|some (.ow ds)=>wpE C e σ λy=>ixD (.lst ds) y Q|_=>False):=rfl
theorem wE_compZ:wpE C (.compZ a b e) σ Q=(wpE C a σ λx=>wpE C b σ λy=>∃xs ys,(x=.lst xs/\y=.lst ys)/\(zk xs ys).length<=lim/\kN (λd Q=>wpE C e (σ ++ [some (.sh d)]) Q) (zk xs ys) λzs=>Q (.lst zs)):=rfl
theorem wE_slc:wpE C (.slc a l h) σ Q=(wpE C a σ λx=>prt (kO l) (λR=>wpE C l σ R) λy=>prt (kO h) (λR=>wpE C h σ R) λz=>slD x y z Q):=rfl
theorem wE_lix:wpE C (.lix a b) σ Q=(wpE C a σ λx=>lstD x λxs=>wpE C b σ λy=>jb7 (.lst xs) y Q):=rfl
theorem wE_compF:wpE C (.compF a c e) σ Q=(wpE C a σ λd=>∃xs,itemsD d=some xs/\xs.length<=lim/\kz (λd Q=>wpE C c (σ ++ [some (.sh d)]) (isB Q)) (λd Q=>wpE C e (σ ++ [some (.sh d)]) Q) xs λys=>Q (.lst ys)):=rfl
end
structure DE where
 nx:Sto->Prop
 rt:D->Prop
 bk:Sto->Prop:=λ_=>False
 ct:Sto->Prop:=λ_=>False
 rf:List D->Prop:=λ_=>False
 xn:XD->Prop:=λ_=>False
 rg:List (List D)->Prop:=λ_=>False
def setAll:List Nat->List D->Sto->Option Sto
 |[],[],σ=>some σ
 |i::is,d::ds,σ=>setAll is ds (setS σ i (some (.sh d)))
 |_,_,_=>none
def forL(body:DE->Sto->Prop)(i:Nat)(K:DE):List D->Sto->Prop
 |[],σ=>K.nx σ
 |d::ds,σ=>body { K with nx:=forL body i K ds,ct:=forL body i K ds,bk:=K.nx } (setS σ i (some (.sh d)))
def jbx(c:Sto->(Bool->Prop)->Prop)(body:DE->Sto->Prop)(K:DE)(σ:Sto):Prop :=
 ∃W:Nat->Sto->Prop,(∃m,W m σ)/\∀m σ,W m σ->c σ λt=>if t=true then
  body { K with nx:=λσ'=>∃m',m'<m/\W m' σ',ct:=λσ'=>∃m',m'<m/\W m' σ',bk:=K.nx } σ else K.nx σ
def extD(K:DE)(σ:Sto)(i:Nat)(ds:List D):D->Prop
 |.lst xs=>ds.length+xs.length<=lim/\K.nx (setS σ i (some (.ow (ds++xs))))
 |_=>False
def fldOk(x:Str)(d:D):Prop:=x="Dependent"->∃xs,d=.lst xs
def ocD(f:List D->Prop)(g:List (List D)->Prop):Option Sl->Prop
 |some (.ow ds)=>f ds
 |some (.ot rows)=>g rows
 |_=>False
def JI(f:List D->Prop):Option Sl->Prop
 |some (.ow ds)=>f ds
 |_=>False
def insD(K:DE)(σ:Sto)(i:Nat)(ds:List D)(v:D):D->Prop
 |.int k=>(0<=k/\k<=ds.length/\ds.length<lim)/\K.nx (setS σ i (some (.ow (ds.take k.toNat++v::ds.drop k.toNat))))
 |_=>False
def uo(c:Sto->(D->Prop)->Prop)(i s:Nat)(K:DE):List D->Sto->Prop
 |[],σ=>K.nx σ
 |d::ds,σ=>c (setS σ i (some (.sh d))) λy=>uo c i s K ds (setS (setS σ i (some (.sh d))) s (some (.sh y)))
def app2D(K:DE)(σ:Sto)(i:Nat)(rows:List (List D))(w:(D->Prop)->Prop):D->Prop
 |.int k=>∃row,(0<=k/\rows[k.toNat]?=some row/\row.length<lim)/\w λy=>K.nx (setS σ i (some (.ot (rows.set k.toNat (row ++ [y])))))
 |_=>False
def popD(K:DE)(σ:Sto)(i j:Nat)(ms ls:List D):D->Prop
 |.int k=>∃d,(0<=k/\ls[k.toNat]?=some d/\ms.length<lim/\k<16777216)/\K.nx (setS (setS σ j (some (.ow (ls.eraseIdx k.toNat)))) i (some (.ow (ms ++ [d]))))
 |_=>False
def stoR(row:List D)(d:D)(Q:List D->Prop):D->Prop
 |.int k=>(0<=k/\k<row.length)/\Q (row.set k.toNat d)
 |_=>False
def U0(C:Cfg)(j:Nat)(σ:Sto):RSt->List D->(List D->Prop)->Prop
 |.app v,row,Q=>row.length<lim/\wpE C v (setS σ j none) λd=>Q (row ++ [d])
 |.sto none e v,row,Q=>wpE C v (setS σ j (some (.sh (.lst row)))) λd=>nol d=true/\wpE C e (setS σ j none) (stoR row d Q)
 |.sto (some c) e v,row,Q=>wpE C c (setS σ j none) (isB λb=>if b=true then wpE C v (setS σ j (some (.sh (.lst row)))) (λd=>nol d=true/\wpE C e (setS σ j none) (stoR row d Q)) else Q row)
def wpR(C:Cfg)(j:Nat)(σ:Sto):List RSt->List D->(List D->Prop)->Prop
 |[],row,Q=>Q row
 |s::ss,row,Q=>U0 C j σ s row λrow'=>wpR C j σ ss row' Q
def zO(f:List D->(List D->Prop)->Prop):List (List D)->(List (List D)->Prop)->Prop
 |[],Q=>Q []
 |r::rs,Q=>f r λr'=>zO f rs λrs'=>Q (r'::rs')
def VO:Option Sl->Bool
 |some (.ot _)=>false
 |_=>true
def noT:Sto->Nat->Bool
 |[],_=>true
 |_::r,0=>r.all VO
 |x::r,i+1=>VO x&&noT r i
def frIt(C:Cfg):Ex->Bool
 |.call f _=>C.fr f
 |_=>true
def qQ(f:D->(List D->Prop)->Prop):List D->(List (List D)->Prop)->Prop
 |[],Q=>Q []
 |d::ds,Q=>f d λy=>qQ f ds λys=>Q (y::ys)
def wpG(C:Cfg):Ex->Sto->(List (List D)->Prop)->Prop
 |.compR es b,σ,Q=>frIt C b=true/\wpEs C es σ λds=>rgD ds λxs=>xs.length<=lim/\qQ (λd Q=>wpE C b (σ ++ [some (.sh d)]) (isL Q)) xs Q
 |.compE a b,σ,Q=>frIt C b=true/\wpE C a σ λd=>∃xs,itemsD d=some xs/\xs.length<=lim/\qQ (λd Q=>wpE C b (σ ++ [some (.sh d)]) (isL Q)) xs Q
 |_,_,_=>False
def wpS(C:Cfg):Sm->DE->Sto->Prop
 |.nop,K,σ=>K.nx σ
 |.seq a b,K,σ=>wpS C a { K with nx:=λσ'=>wpS C b K σ' } σ
 |.set i e,K,σ=>wpE C e σ λd=>K.nx (setS σ i (some (.sh d)))
 |.unp is e,K,σ=>wpE C e σ λd=>match d with|.tup ds=>∃σ',setAll is ds σ=some σ'/\K.nx σ'|.lst ds=>∃σ',setAll is ds σ=some σ'/\K.nx σ'|_=>False
 |.ret e,K,σ=>wpE C e σ K.rt
 |.ite c a b,K,σ=>wpE C c σ (isB λt=>if t=true then wpS C a K σ else wpS C b K σ)
 |.whl c b,K,σ=>jbx (λσ Q=>wpE C c σ (isB Q)) (λK σ=>wpS C b K σ) K σ
 |.forR i es b,K,σ=>wpEs C es σ λds=>rgD ds λxs=>forL (λK σ=>wpS C b K σ) i K xs σ
 |.forE i e b,K,σ=>wpE C e σ λd=>∃xs,itemsD d=some xs/\forL (λK σ=>wpS C b K σ) i K xs σ
 |.brk,K,σ=>K.bk σ
 |.cnt,K,σ=>K.ct σ
 |.never,_,_=>False
 |.new i,K,σ=>K.nx (setS σ i (some (.ow [])))
 |.ext i e,K,σ=>match getS σ i with|some (.ow ds)=>wpE C e σ (extD K σ i ds)|_=>False
 |.app i e,K,σ=>match getS σ i with|some (.ow ds)=>ds.length<lim/\wpE C e σ λd=>K.nx (setS σ i (some (.ow (ds ++ [d]))))|_=>False
 |.sto i e v,K,σ=>match getS σ i with|some (.ow ds)=>wpE C v σ λd=>wpE C e σ λy=>(match y with|.int k=>(0<=k/\k<ds.length)/\K.nx (setS σ i (some (.ow (ds.set k.toNat d))))|_=>False)|_=>False
 |.shr i,K,σ=>match getS σ i with|some (.ow ds)=>K.nx (setS σ i (some (.sh (.lst ds))))|_=>False
 |.raiseA x e,K,σ=>wpE C e σ λd=>fldOk x d/\K.xn ⟨0,x,[d]⟩
 |.forU i j s e,K,σ=>JI (λds=>uo (λσ Q=>wpE C e σ Q) i s K ds σ) (getS σ j)
 |.retF e,K,σ=>wpE C e σ (isL K.rf)
 |.retG e,K,σ=>wpG C e σ K.rg
 |.setG i f es,K,σ=>wpEs C es σ λds=>((C.fr f=false/\C.f2 f=true)/\noT σ i=true)/\(C.ct f).wp ds (jbq λrows=>K.nx (setS σ i (some (.ot rows)))) C.E
 |.retY f es,K,σ=>wpEs C es σ λds=>C.fr f=true/\(C.ct f).wp ds (isL K.rf) K.xn
 |.ownG i e,K,σ=>noT σ i=true/\wpG C e σ λrows=>K.nx (setS σ i (some (.ot rows)))
 |.forT j i ss,K,σ=>otD (λrows=>zO (wpR C j (setS σ i none) ss) rows λrows'=>K.nx (setS (setS σ i (some (.ot rows'))) j none)) (getS σ i)
 |.shrT i,K,σ=>otD (λrows=>K.nx (setS σ i (some (.sh (kA rows))))) (getS σ i)
 |.cpO j i es c e,K,σ=>JI (λds=>wpEs C es (setS σ j (some (.sh (.lst ds)))) λvs=>rgD vs λxs=>xs.length<=lim/\kz (λd Q=>wpE C c (setS σ j (some (.sh (.lst ds))) ++ [some (.sh d)]) (isB Q)) (λd Q=>wpE C e (setS σ j (some (.sh (.lst ds))) ++ [some (.sh d)]) Q) xs λys=>Jl ys=true/\K.nx (setS σ i (some (.ow ys)))) (getS σ j)
 |.hlfT i,K,σ=>ocD (λ_=>K.nx σ) (λrows=>K.nx (setS σ i (some (.ow (rows.map .lst))))) (getS σ i)
 |.forN i e b,K,σ=>wpE C e σ (isL λxs=>forL (λK σ=>wpS C b K σ) i K (XR xs) σ)
section
variable {C:Cfg} {K:DE} {σ:Sto}
theorem wS_seq:wpS C (.seq a b) K σ=(wpS C a { K with nx:=λσ'=>wpS C b K σ' } σ):=rfl
theorem wS_unp:wpS C (.unp is e) K σ=(wpE C e σ λd=>match d with|.tup ds=>∃σ',setAll is ds σ=some σ'/\K.nx σ'|.lst ds=>∃σ',setAll is ds σ=some σ'/\K.nx σ'|_=>False):=rfl
theorem wS_new:wpS C (.new i) K σ=(K.nx (setS σ i (some (.ow [])))):=rfl
theorem ja1:wpS C (.ext i e) K σ=(match getS σ i with|some (.ow ds)=>wpE C e σ (extD K σ i ds)|_=>False):=rfl
theorem YY:wpS C (.app i e) K σ=(match getS σ i with|some (.ow ds)=>ds.length<lim/\wpE C e σ λd=>K.nx (setS σ i (some (.ow (ds ++ [d]))))|_=>False):=rfl
theorem YC:wpS C (.sto i e v) K σ=(match getS σ i with|some (.ow ds)=>wpE C v σ λd=>wpE C e σ λy=>(match y with|.int k=>(0<=k/\k<ds.length)/\K.nx (setS σ i (some (.ow (ds.set k.toNat d))))|_=>False)|_=>False):=rfl
theorem Za:wpS C (.shr i) K σ=(match getS σ i with|some (.ow ds)=>K.nx (setS σ i (some (.sh (.lst ds))))|_=>False):=rfl
end
variable{f:List (List D)->Prop}{x y:D}{Q Q':D->Prop}
theorem xj{f:Int->Int->(D->Prop)->Prop}(hf:∀i j,f i j Q->f i j Q')(w:zy f x y Q):zy f x y Q':=by
 cases x<;>first|exact w.elim|(cases y<;>first|exact w.elim|exact hf _ _ w)
variable{o:Option Sl}
theorem JU{o:BOp}(h:∀d,Q d->Q' d)(w:yB o x y Q):yB o x y Q':=by
 cases o<;>first|exact xj (λi j z=>h _ z) w|exact xj (λi j z=>⟨z.1,h _ z.2⟩) w|skip
 ·cases x<;>first|exact w.elim|(cases y<;>first|exact w.elim|exact h _ w|exact⟨w.1,h _ w.2⟩)
theorem y7{o:COp}(h:∀d,Q d->Q' d)(w:uS o x y Q):uS o x y Q':=by
 cases o<;>first|exact xj (λi j z=>h _ z) w|exact⟨w.1,h _ w.2⟩|skip
 ·cases x<;>first|exact w.elim|(cases y<;>first|exact w.elim|exact h _ w|exact⟨w.choose,w.choose_spec.1,w.choose_spec.2.1,h _ w.choose_spec.2.2⟩)
 ·cases x<;>first|exact w.elim|(cases y<;>first|exact w.elim|exact h _ w|exact⟨w.choose,w.choose_spec.1,w.choose_spec.2.1,h _ w.choose_spec.2.2⟩)
theorem Ju(h:∀d,Q d->Q' d)(w:ixD x y Q):ixD x y Q':=by
 unfold ixD at *
 split at w<;>first|exact⟨w.choose,w.choose_spec.1,h _ w.choose_spec.2⟩|exact w.elim
variable{xs:List D}
theorem Kw{f:D->(D->Prop)->Prop}(hf:∀x,f x Q->f x Q')(w:vQ f xs Q):vQ f xs Q':=by
 match xs,w with
 |[x],w=>exact hf x w
theorem Kc{f:D->D->(D->Prop)->Prop}(hf:∀x y,f x y Q->f x y Q')(w:two2 f xs Q):two2 f xs Q':=by
 match xs,w with
 |[x,y],w=>exact hf x y w
theorem Vl(h:∀d,Q d->Q' d):∀ {xs:List D},minD xs Q->minD xs Q'
 |[x],w=>by
  cases x<;>first|exact w.elim|exact⟨w.choose,w.choose_spec.1,w.choose_spec.2.1,h _ w.choose_spec.2.2⟩
 |[x,y],w=>xj (λi j z=>h _ z) w
theorem Xg{f:Bi}(h:∀d,Q d->Q' d)(w:biD f xs Q):biD f xs Q':=by
 cases f<;>first|exact Vl h w|exact Kw (f:=sortD) (λx z=>sortD_mono h z) w|exact Kc (λx y z=>xj (λi j z=>⟨z.1,h _ z.2⟩) z) w|exact Kc (λx y z=>xj (λi j z=>h _ z) z) w|refine Kw (λx z=>?_) w
 all_goals cases x<;>first|exact z.elim|exact h _ z|exact gk z.1 (h _ z.2)|exact⟨z.choose,z.choose_spec.1,h _ z.choose_spec.2⟩
theorem V2{f:Mt}(h:∀d,Q d->Q' d)(w:mtD f x Q):mtD f x Q':=by
 unfold mtD at *
 split at w<;>first|exact h _ w|exact⟨w.1,h _ w.2⟩|exact w.elim
variable{c:Ex}{ds:List D}
theorem Ctr.wp_mono{c:Ctr}{E:XD->Prop}(h:∀d,Q d->Q' d)(w:c.wp ds Q E):c.wp ds Q' E:=⟨w.1,λd r=>h d (w.2.1 d r),w.2.2⟩
variable{d:D}
theorem jW{Q Q':Bool->Prop}(h:∀k,Q k->Q' k)(w:isB Q d):isB Q' d:=by
 cases d<;>first|exact h _ w|exact w.elim
theorem ug{Q Q':List D->Prop}(h:∀d,Q d->Q' d)(w:rgD ds Q):rgD ds Q':=by
 unfold rgD at *;split at w
 ·exact⟨w.1,h _ w.2⟩
 ·exact w.elim
theorem jY{f:D->(D->Prop)->Prop}(hf:∀d {Q Q':D->Prop},(∀y,Q y->Q' y)->f d Q->f d Q'):∀(xs:List D) {Q Q':List D->Prop},(∀ys,Q ys->Q' ys)->kN f xs Q->kN f xs Q'
 |[],Q,Q',h,w=>h _ w
 |d::ds,Q,Q',h,w=>hf d (λy wy=>jY hf ds (λys=>h _) wy) w
theorem kE{p:D->(Bool->Prop)->Prop}{f:D->(D->Prop)->Prop}(hp:∀d {Q Q':Bool->Prop},(∀y,Q y->Q' y)->p d Q->p d Q')(hf:∀d {Q Q':D->Prop},(∀y,Q y->Q' y)->f d Q->f d Q') :
 ∀(xs:List D) {Q Q':List D->Prop},(∀ys,Q ys->Q' ys)->kz p f xs Q->kz p f xs Q'
 |[],Q,Q',h,w=>h _ w
 |d::ds,Q,Q',h,w=>hp d (λb wb=>by
  cases b with
  |true=>exact hf d (λy wy=>kE hp hf ds (λys=>h _) wy) wb
  |false=>exact kE hp hf ds h wb) w
theorem VY{l h:Option Int}(k:∀d,Q d->Q' d)(w:slD x l h Q):slD x l h Q':=by
 unfold slD at *
 split at w<;>first|exact w.elim|exact k _ w|exact⟨w.1,k _ w.2⟩
theorem Vr(k:∀d,Q d->Q' d)(w:jb7 x y Q):jb7 x y Q':=by
 unfold jb7 at *;split at w
 ·obtain⟨ns,j,e,a,q⟩:=w;exact⟨ns,j,e,a,k _ q⟩
 ·exact w.elim
variable{R R':Option Int->Prop}
theorem UY(h:∀o,R o->R' o)(w:Je R d):Je R' d:=by
 cases d<;>first|exact w.elim|exact h _ w
theorem xU{b:Bool}{w:(D->Prop)->Prop}(hw:∀ {Q Q':D->Prop},(∀d,Q d->Q' d)->w Q->w Q')(h:∀o,R o->R' o)(k:prt b w R):prt b w R':=by
 unfold prt at *;split
 ·next e=>rw[if_pos e]at k;exact h _ k
 ·next e=>rw[if_neg e]at k;exact hw (λd=>UY h) k
variable{g:List (List D)->Prop}
theorem QP(h:∀rows,f rows->g rows)(w:otD f o):otD g o:=by
 match o,w with
 |some (.ot rows),w=>exact h rows w
theorem Vs(h:∀rows,f rows->g rows)(w:jbq f d):jbq g d:=⟨w.choose,w.choose_spec.1,h _ w.choose_spec.2⟩
mutual
theorem ja{C:Cfg}:∀(e:Ex) {σ:Sto} {Q Q':D->Prop},(∀d,Q d->Q' d)->wpE C e σ Q->wpE C e σ Q'
 |.var i,σ,Q,Q',h,w=>by
  rw[wE_var]at w ⊢
  cases g:getS σ i with
  |none=>rw[g]at w;exact w.elim
  |some z=>rw[g]at w;cases z<;>first|exact h _ w|exact w.elim
 |.cst d,σ,Q,Q',h,w=>by exact h _ w
 |.con k,σ,Q,Q',h,w=>by exact h _ w
 |.bin o a b,σ,Q,Q',h,w=>by
  exact ja a (λx wx=>ja b (λy wy=>JU h wy) wx) w
 |.neg a,σ,Q,Q',h,w=>by
  exact ja a (λx wx=>by cases x<;>first|exact h _ wx|exact wx.elim) w
 |.not a,σ,Q,Q',h,w=>by
  exact ja a (λx wx=>by cases x<;>first|exact h _ wx|exact wx.elim) w
 |.cmp o a b,σ,Q,Q',h,w=>by
  exact ja a (λx wx=>ja b (λy wy=>y7 h wy) wx) w
 |.and a b,σ,Q,Q',h,w=>by
  refine ja a (λx wx=>?_) w
  cases x with
  |bl k=>cases k with
   |true=>exact ja b h wx
   |false=>exact h _ wx
  |_=>exact wx.elim
 |.or a b,σ,Q,Q',h,w=>by
  refine ja a (λx wx=>?_) w
  cases x with
  |bl k=>cases k with
   |true=>exact h _ wx
   |false=>exact ja b h wx
  |_=>exact wx.elim
 |.ife c a b,σ,Q,Q',h,w=>by
  refine ja c (λx wx=>?_) w
  cases x with
  |bl k=>cases k with
   |true=>exact ja a h wx
   |false=>exact ja b h wx
  |_=>exact wx.elim
 |.tup es,σ,Q,Q',h,w=>by exact jr es (λds=>h _) w
 |.lst es,σ,Q,Q',h,w=>by exact jr es (λds=>h _) w
 |.ix a b,σ,Q,Q',h,w=>by
  exact ja a (λx wx=>ja b (λy wy=>Ju h wy) wx) w
 |.call f es,σ,Q,Q',h,w=>by exact jr es (λds=>Ctr.wp_mono h) w
 |.bi f es,σ,Q,Q',h,w=>by exact jr es (λds=>Xg h) w
 |.meth m o,σ,Q,Q',h,w=>by exact ja o (λx=>V2 h) w
 |.isi a t,σ,Q,Q',h,w=>by exact ja a (λx=>h _) w
 |.compR es e,σ,Q,Q',h,w=>by
  exact jr es (λds=>ug λxs wx=>⟨wx.1,jY (f:=λd Q=>wpE C e (σ ++ [some (.sh d)]) Q) (λd _ _ hq=>ja e hq) xs (λys=>h _) wx.2⟩) w
 |.compE a e,σ,Q,Q',h,w=>by
  exact ja a (λd ⟨xs,e1,wx⟩=>⟨xs,e1,wx.1,jY (f:=λd Q=>wpE C e (σ ++ [some (.sh d)]) Q) (λd _ _ hq=>ja e hq) xs (λys=>h _) wx.2⟩) w
 |.slc a l u,σ,Q,Q',h,w=>by
  exact ja a (λx wx=>xU (λhq=>ja l hq) (λy wy=>xU (λhq=>ja u hq) (λz=>VY h) wy) wx) w
 |.lix a b,σ,Q,Q',h,w=>by
  refine ja a (λx wx=>?_) w
  cases x<;>first|exact wx.elim|exact ja b (λy wy=>Vr h wy) wx
 |.oix i e,σ,Q,Q',h,w=>by
  rw[wE_oix]at w ⊢
  cases g:getS σ i with
  |none=>rw[g]at w;exact w.elim
  |some z =>
   rw[g]at w
   cases z with
   |sh d=>exact w.elim
   |ot _=>exact w.elim
   |ow ds=>exact ja e (λy wy=>Ju h wy) w
 |.compZ a b e,σ,Q,Q',h,w=>by
  exact ja a (λx wx=>ja b (λy ⟨xs,ys,e1,wy⟩=>⟨xs,ys,e1,wy.1,jY (f:=λd Q=>wpE C e (σ ++ [some (.sh d)]) Q) (λd _ _ hq=>ja e hq) _ (λys=>h _) wy.2⟩) wx) w
 |.compF a c e,σ,Q,Q',h,w=>by
  exact ja a (λd ⟨xs,e1,wx⟩=>⟨xs,e1,wx.1,kE (p:=λd Q=>wpE C c (σ ++ [some (.sh d)]) (isB Q)) (f:=λd Q=>wpE C e (σ ++ [some (.sh d)]) Q) (λd _ _ hq=>ja c λ_=>jW hq) (λd _ _ hq=>ja e hq) xs (λys=>h _) wx.2⟩) w
theorem jr{C:Cfg}:∀(es:List Ex) {σ:Sto} {Q Q':List D->Prop},(∀d,Q d->Q' d)->wpEs C es σ Q->wpEs C es σ Q'
 |[],σ,Q,Q',h,w=>by unfold wpEs at *;exact h _ w
 |e::es,σ,Q,Q',h,w=>by
  unfold wpEs at *;exact ja e (λd wd=>jr es (λds=>h _) wd) w
end
structure DE.le (K K':DE):Prop where
 nx:∀σ,K.nx σ->K'.nx σ
 rt:∀d,K.rt d->K'.rt d
 bk:∀σ,K.bk σ->K'.bk σ
 ct:∀σ,K.ct σ->K'.ct σ
 rf:∀ds,K.rf ds->K'.rf ds
 xn:∀x,K.xn x->K'.xn x:=by exact λ_ z=>z
 rg:∀rows,K.rg rows->K'.rg rows:=by exact λ_ z=>z
theorem qb{body:DE->Sto->Prop}(hb:∀K K' σ,DE.le K K'->body K σ->body K' σ){i:Nat}{K K':DE}(h:DE.le K K'):∀(xs:List D) {σ:Sto},forL body i K xs σ->forL body i K' xs σ
 |[],σ,w=>h.nx _ w
 |d::ds,σ,w=>by
  unfold forL at *;refine hb _ _ _ ?_ w;exact⟨λ_=>qb hb h ds,h.rt,h.nx,λ_=>qb hb h ds,h.rf,h.xn,h.rg⟩
variable{f:List D->Prop}
theorem jaz{f':List D->Prop}{g':List (List D)->Prop}(h:∀ds,f ds->f' ds)(k:∀rs,g rs->g' rs)(w:ocD f g o):ocD f' g' o:=by
 match o,w with
 |some (.ow ds),w=>exact h ds w
 |some (.ot rows),w=>exact k rows w
variable{g:List D->Prop}
theorem JS(h:∀ds,f ds->g ds)(w:JI f o):JI g o:=by
 match o,w with
 |some (.ow ds),w=>exact h ds w
theorem Jy{c:Sto->(D->Prop)->Prop}(hc:∀σ {Q Q':D->Prop},(∀b,Q b->Q' b)->c σ Q->c σ Q'){i s:Nat}{K K':DE}(h:DE.le K K'):∀(xs:List D) {σ:Sto},uo c i s K xs σ->uo c i s K' xs σ
 |[],σ,w=>h.nx _ w
 |d::ds,σ,w=>hc _ (λy wy=>Jy hc h ds wy) w
theorem qo(h:∀ds,f ds->g ds)(w:isL f d):isL g d:=by
 cases d<;>first|exact w.elim|exact h _ w
theorem qK{f:D->(List D->Prop)->Prop}(hf:∀d {Q Q':List D->Prop},(∀y,Q y->Q' y)->f d Q->f d Q'):∀(xs:List D) {Q Q':List (List D)->Prop},(∀ys,Q ys->Q' ys)->qQ f xs Q->qQ f xs Q'
 |[],Q,Q',h,w=>h _ w
 |d::ds,Q,Q',h,w=>hf d (λy wy=>qK hf ds (λys=>h _) wy) w
variable{Q Q':List D->Prop}{e:Ex}{σ:Sto}
theorem uj{C:Cfg}{Q Q':List (List D)->Prop}(h:∀r,Q r->Q' r)(w:wpG C e σ Q):wpG C e σ Q':=by
 cases e<;>first|exact w.elim|skip
 ·next es b=>exact⟨w.1,jr es (λds=>ug λxs wx=>⟨wx.1,qK (f:=λd Q=>wpE C b (σ ++ [some (.sh d)]) (isL Q)) (λd _ _ hq=>ja b λ_=>qo hq) xs h wx.2⟩) w.2⟩
 ·next a b=>exact⟨w.1,ja a (λd ⟨xs,e1,wx⟩=>⟨xs,e1,wx.1,qK (f:=λd Q=>wpE C b (σ ++ [some (.sh d)]) (isL Q)) (λd _ _ hq=>ja b λ_=>qo hq) xs h wx.2⟩) w.2⟩
theorem Kp{row:List D}(h:∀r,Q r->Q' r)(w:stoR row d Q y):stoR row d Q' y:=by
 cases y<;>first|exact w.elim|exact⟨w.1,h _ w.2⟩
variable{j:Nat}
theorem uL{C:Cfg}{s:RSt}{row:List D}(h:∀r,Q r->Q' r)(w:U0 C j σ s row Q):U0 C j σ s row Q':=by
 cases s with
 |app v=>exact⟨w.1,ja v (λ_=>h _) w.2⟩
 |sto c e v =>
  cases c with
  |none=>exact ja v (λd wd=>⟨wd.1,ja e (λy=>Kp h) wd.2⟩) w
  |some c =>
   refine ja c (λd=>jW λk wk=>?_) w
   cases k with
   |true=>exact ja v (λd wd=>⟨wd.1,ja e (λy=>Kp h) wd.2⟩) wk
   |false=>exact h _ wk
theorem uk{C:Cfg}{j:Nat}{σ:Sto}:∀(ss:List RSt) {row:List D} {Q Q':List D->Prop},(∀r,Q r->Q' r)->wpR C j σ ss row Q->wpR C j σ ss row Q'
 |[],row,Q,Q',h,w=>h _ w
 |s::ss,row,Q,Q',h,w=>uL (λr wr=>uk ss h wr) w
theorem vM{f:List D->(List D->Prop)->Prop}(hf:∀r {Q Q':List D->Prop},(∀y,Q y->Q' y)->f r Q->f r Q'):∀(rs:List (List D)) {Q Q':List (List D)->Prop},(∀r,Q r->Q' r)->zO f rs Q->zO f rs Q'
 |[],Q,Q',h,w=>h _ w
 |r::rs,Q,Q',h,w=>hf r (λy wy=>vM hf rs (λys=>h _) wy) w
theorem js{C:Cfg}:∀(s:Sm) {K K':DE} {σ:Sto},DE.le K K'->wpS C s K σ->wpS C s K' σ
 |.nop,K,K',σ,h,w=>by exact h.nx _ w
 |.seq a b,K,K',σ,h,w=>by
  refine js a ?_ w
  exact⟨λ_=>js b h,h.rt,h.bk,h.ct,h.rf,h.xn,h.rg⟩
 |.set i e,K,K',σ,h,w=>by exact ja e (λ_=>h.nx _) w
 |.unp is e,K,K',σ,h,w=>by
  refine ja e (λd wd=>?_) w
  cases d<;>first|exact⟨wd.choose,wd.choose_spec.1,h.nx _ wd.choose_spec.2⟩|exact wd.elim
 |.ret e,K,K',σ,h,w=>by exact ja e h.rt w
 |.ite c a b,K,K',σ,h,w=>by
  refine ja c (λd=>jW λk wk=>?_) w
  cases k with
  |true=>exact js a h wk
  |false=>exact js b h wk
 |.whl c b,K,K',σ,h,w=>by
  obtain⟨W,w0,turn⟩:=w;refine⟨W,w0,λm σ hW=>ja c (λd=>jW λk wk=>?_) (turn m σ hW)⟩
  cases k with
  |true =>
   refine js b ?_ wk
   exact⟨λ_ z=>z,h.rt,h.nx,λ_ z=>z,h.rf,h.xn,h.rg⟩
  |false=>exact h.nx _ wk
 |.forR i es b,K,K',σ,h,w=>by
  exact jr es (λds=>ug λxs=>qb (body:=λK σ=>wpS C b K σ) (λK K' σ h=>js b h) h xs) w
 |.forE i e b,K,K',σ,h,w=>by
  exact ja e (λd ⟨xs,e1,wx⟩=>⟨xs,e1,qb (body:=λK σ=>wpS C b K σ) (λK K' σ h=>js b h) h xs wx⟩) w
 |.brk,K,K',σ,h,w=>by exact h.bk _ w
 |.cnt,K,K',σ,h,w=>by exact h.ct _ w
 |.never,K,K',σ,h,w=>by exact w.elim
 |.new i,K,K',σ,h,w=>by exact h.nx _ w
 |.ext i e,K,K',σ,h,w=>by
  rw[ja1]at w ⊢
  cases g:getS σ i with
  |none=>rw[g]at w;exact w.elim
  |some z =>
   rw[g]at w
   cases z with
   |sh d=>exact w.elim
   |ot _=>exact w.elim
   |ow ds =>
    refine ja e (λd wd=>?_) w
    cases d<;>first|exact wd.elim|exact⟨wd.1,h.nx _ wd.2⟩
 |.app i e,K,K',σ,h,w=>by
  rw[YY]at w ⊢
  cases g:getS σ i with
  |none=>rw[g]at w;exact w.elim
  |some z =>
   rw[g]at w
   cases z with
   |sh d=>exact w.elim
   |ot _=>exact w.elim
   |ow ds=>exact⟨w.1,ja e (λ_=>h.nx _) w.2⟩
 |.sto i e v,K,K',σ,h,w=>by
  rw[YC]at w ⊢
  cases g:getS σ i with
  |none=>rw[g]at w;exact w.elim
  |some z =>
   rw[g]at w
   cases z with
   |sh d=>exact w.elim
   |ot _=>exact w.elim
   |ow ds =>
    refine ja v (λd wd=>ja e (λy wy=>?_) wd) w
    cases y<;>first|exact⟨wy.1,h.nx _ wy.2⟩|exact wy.elim
 |.shr i,K,K',σ,h,w=>by
  rw[Za]at w ⊢
  cases g:getS σ i with
  |none=>rw[g]at w;exact w.elim
  |some z =>
   rw[g]at w
   cases z with
   |sh d=>exact w.elim
   |ot _=>exact w.elim
   |ow ds=>exact h.nx _ w
 |.raiseA x e,K,K',σ,h,w=>by
  exact ja e (λd q=>⟨q.1,h.xn _ q.2⟩) w
 |.forU i j s e,K,K',σ,h,w=>by exact JS (λds=>Jy (c:=λσ Q=>wpE C e σ Q) (λσ _ _ hq=>ja e hq) h ds) w
 |.retF e,K,K',σ,h,w=>by exact ja e (λd=>qo λxs=>h.rf _) w
 |.retG e,K,K',σ,h,w=>by exact uj (λrows=>h.rg _) w
 |.setG i f es,K,K',σ,h,w=>by exact jr es (λds wd=>⟨wd.1,Ctr.wp_mono (λd=>Vs λrows=>h.nx _) wd.2⟩) w
 |.retY f es,K,K',σ,h,w=>by exact jr es (λds wd=>⟨wd.1,wd.2.1,λd r=>qo (λxs=>h.rf xs) (wd.2.2.1 d r),λy q=>h.xn _ (wd.2.2.2 y q)⟩) w
 |.ownG i e,K,K',σ,h,w=>by exact⟨w.1,uj (λrows=>h.nx _) w.2⟩
 |.forT j i ss,K,K',σ,h,w=>by exact QP (λrows=>vM (f:=wpR C j (setS σ i none) ss) (λr _ _ hq=>uk ss hq) rows λ_=>h.nx _) w
 |.shrT i,K,K',σ,h,w=>by exact QP (λrows=>h.nx _) w
 |.cpO j i es c e,K,K',σ,h,w=>by
  exact JS (λds=>jr es λvs=>ug λxs wx=>⟨wx.1,kE (p:=λd Q=>wpE C c (setS σ j (some (.sh (.lst ds))) ++ [some (.sh d)]) (isB Q)) (f:=λd Q=>wpE C e (setS σ j (some (.sh (.lst ds))) ++ [some (.sh d)]) Q) (λd _ _ hq=>ja c λ_=>jW hq) (λd _ _ hq=>ja e hq) xs (λys q=>⟨q.1,h.nx _ q.2⟩) wx.2⟩) w
 |.hlfT i,K,K',σ,h,w=>by exact jaz (λ_=>h.nx _) (λrows=>h.nx _) w
 |.forN i e b,K,K',σ,h,w=>by
  exact ja e (λd=>qo λxs=>qb (body:=λK σ=>wpS C b K σ) (λK K' σ h=>js b h) h _) w
theorem xx(i:Int):bits i=if i=0 then 0 else i.natAbs.log2+1:=by
 unfold bits g9;by_cases h:i=0
 ·simp[h]
 ·simp[h]
theorem jk{i:Int}{n:Nat}:bits i<=n ↔ i.natAbs<2^n:=by
 rw[xx];by_cases h:i=0
 ·subst h;simp[gR]
 ·rw[if_neg h]
  have h0:i.natAbs≠0:=by omega
  rw[<- Nat.log2_lt h0];omega
theorem zc(i:Int):i.natAbs<2^bits i:=jk.mp (bV _)
theorem yI{i:Int}{n:Nat}:n<bits i ↔ 2^n<=i.natAbs:=by
 have:=@jk i n;omega
variable{i:Int}
theorem Xj(h:i≠0):2^(bits i-1)<=i.natAbs:=by
 refine yI.mp ?_
 have:bits i≠0:=by rw[xx,if_neg h];omega
 omega
theorem Jx(h:i≠0):0<bits i:=by rw[xx,if_neg h];omega
variable{n:Nat}
theorem XQ:bits i=n+1 ↔ 2^n<=i.natAbs/\i.natAbs<2^(n+1):=by
 have h1:=@jk i (n+1);have h2:=@yI i n;constructor
 ·intro h;exact⟨h2.mp (by omega),h1.mp (by omega)⟩
 ·intro ⟨a,b⟩;have:=h1.mpr b;have:=h2.mpr a;omega
theorem xm(i:Int):bits (-i)=bits i:=by
 rw[xx,xx,Int.natAbs_neg];by_cases h:i=0
 ·simp[h]
 ·rw[if_neg h,if_neg (by omega)]
theorem vO(i:Int):bits (i.natAbs:Int)=bits i:=by
 rw[xx,xx,pf];by_cases h:i=0
 ·simp[h]
 ·rw[if_neg h,if_neg (by omega)]
theorem kc(a b:Int):bits (a*b)<=bits a+bits b:=by
 rw[jk,mr,jdy];have h1:=zc a;have h2:=zc b;exact Nat.mul_lt_mul'' h1 h2
theorem QQ(a b:Int):bits (a+b)<=max (bits a) (bits b)+1:=by
 rw[jk,mM];have h1:=zc a;have h2:=zc b;have h3:2^bits a<=2^max (bits a) (bits b):=mB (by decide) (by omega);have h4:2^bits b<=2^max (bits a) (bits b):=mB (by decide) (by omega);omega
theorem uf(a b:Int):bits (a-b)<=max (bits a) (bits b)+1:=by
 have:=QQ a (-b);rw[xm]at this;rw[Int.sub_eq_add_neg];exact this
variable{a:Int}
theorem ku{b:Int}(h:a.natAbs<=b.natAbs):bits a<=bits b:=by
 rw[jk];have:=zc b;omega
theorem qq(n:Nat):bits (2^n:Int)=n+1:=by
 rw[XQ]
 have e:((2:Int)^n).natAbs=2^n:=by rw[nY];rfl
 rw[e];exact⟨bV _,jdz (by decide) (by omega)⟩
theorem xF(h0:0<=i)(h:i<2^n):bits i<=n:=by
 rw[jk]
 have:(i.natAbs:Int)<2^n:=by omega
 exact_mod_cast this
theorem two_pow_pos(n:Nat):(0:Int)<2^n:=by
 have:=gR n
 exact_mod_cast this
theorem ky{b:Int}(h:0<=b):a.fdiv b=a / b:=Int.fdiv_eq_ediv_of_nonneg a h
theorem jD{b:Int}(h:0<=b):a.fmod b=a%b:=Int.fmod_eq_emod_of_nonneg a h
theorem zb{b:Int}(h:0<b):bits (a / b)<=bits a:=by
 refine ku ?_;by_cases h0:0<=a
 ·have h1:0<=a / b:=jdo h0 (pZ h);have h2:a / b<=a:=Int.ediv_le_self b h0;omega
 ·have h1:a / b<0:=Int.ediv_neg_of_neg_of_pos (by omega) h
  have h2:a<=a / b:=by
   have:=Int.le_ediv_iff_mul_le (a:=a) (b:=a) h
   have h3:a*b<=a:=by
    have:=Int.mul_le_mul_of_nonpos_left (a:=a) (b:=b) (c:=1) (by omega) (by omega);omega
   omega
  omega
def startS(n:Nat)(ds:List D):Sto:=ds.map (λd=>some (.sh d))++gc (n-ds.length) none
def jQ(C:Cfg)(n:Nat)(b:Sm)(c:Ctr):Prop:=∀ds,c.pre ds->wpS C b { nx:=λ_=>c.res ds .non,rt:=c.res ds } (startS n ds)
def KeepsF(C:Cfg)(n:Nat)(b:Sm)(c:Ctr):Prop:=∀ds,c.pre ds->wpS C b { nx:=λ_=>False,rt:=λ_=>False,rf:=λxs=>c.res ds (.lst xs) } (startS n ds)
def V1(C:Cfg)(n:Nat)(b:Sm)(c:Ctr):Prop:=∀ds,c.pre ds->wpS C b { nx:=λ_=>False,rt:=λ_=>False,rg:=λrows=>c.res ds (kA rows) } (startS n ds)
def KeepsX(C:Cfg)(n:Nat)(b:Sm)(c:Ctr):Prop:=∀ds,c.pre ds->wpS C b { nx:=λ_=>c.res ds .non,rt:=c.res ds,xn:=c.exn ds } (startS n ds)
def KeepsQ(C:Cfg)(n:Nat)(b:Sm)(c:Ctr):Prop:=∀ds,c.pre ds->wpS C b { nx:=λ_=>False,rt:=λd=>nol d=true/\c.res ds d,rg:=λrows=>c.res ds (kA rows),xn:=c.exn ds } (startS n ds)
def Yh(C:Cfg)(n:Nat)(b:Sm)(c:Ctr):Prop:=∀ds,c.pre ds->wpS C b { nx:=λ_=>False,rt:=λ_=>False,rf:=λxs=>c.res ds (.lst xs),xn:=c.exn ds } (startS n ds)
variable{i:Nat}{es:List Ex}
section
variable {C:Cfg} {K:DE} {σ:Sto}
theorem Uo{x:Str}:wpS C (.raiseA x e) K σ=wpE C e σ λd=>fldOk x d/\K.xn ⟨0,x,[d]⟩:=rfl
theorem xN:wpS C .nop K σ=K.nx σ:=rfl
theorem jI{a b:Sm}:wpS C (.seq a b) K σ=wpS C a { K with nx:=λσ'=>wpS C b K σ' } σ:=rfl
theorem jcc{i:Nat}{e:Ex}:wpS C (.set i e) K σ=wpE C e σ λd=>K.nx (setS σ i (some (.sh d))):=rfl
def unpD(is:List Nat)(K:DE)(σ:Sto):D->Prop
 |.tup ds=>∃σ',setAll is ds σ=some σ'/\K.nx σ'
 |.lst ds=>∃σ',setAll is ds σ=some σ'/\K.nx σ'
 |_=>False
theorem jaq{is:List Nat}{e:Ex}:wpS C (.unp is e) K σ=wpE C e σ (unpD is K σ):=by
 rw[wS_unp];congr 1
theorem YG{e:Ex}:wpS C (.ret e) K σ=wpE C e σ K.rt:=rfl
theorem kC{c:Ex}{a b:Sm}:wpS C (.ite c a b) K σ=wpE C c σ (isB λt=>if t=true then wpS C a K σ else wpS C b K σ):=rfl
theorem jav:wpS C .brk K σ=K.bk σ:=rfl
theorem VM:wpS C .cnt K σ=K.ct σ:=rfl
theorem Xt:wpS C .never K σ=False:=rfl
def appD(K:DE)(σ:Sto)(i:Nat)(w:(D->Prop)->Prop):Option Sl->Prop
 |some (.ow ds)=>ds.length<lim/\w λd=>K.nx (setS σ i (some (.ow (ds ++ [d]))))
 |_=>False
def stoD(K:DE)(σ:Sto)(i:Nat)(ds:List D)(d:D):D->Prop
 |.int k=>(0<=k/\k<ds.length)/\K.nx (setS σ i (some (.ow (ds.set k.toNat d))))
 |_=>False
def stoW(K:DE)(σ:Sto)(i:Nat)(w:(D->Prop)->Prop)(u:(D->Prop)->Prop):Option Sl->Prop
 |some (.ow ds)=>w λd=>u (stoD K σ i ds d)
 |_=>False
theorem appD_ow{i:Nat}{w:(D->Prop)->Prop}{ds:List D}:appD K σ i w (some (.ow ds))=(ds.length<lim/\w λd=>K.nx (setS σ i (some (.ow (ds ++ [d]))))):=rfl
theorem jai{i:Nat}{ds:List D}{d:D}{k:Int}:stoD K σ i ds d (.int k)=((0<=k/\k<ds.length)/\K.nx (setS σ i (some (.ow (ds.set k.toNat d))))):=rfl
theorem stoW_ow{i:Nat}{w u:(D->Prop)->Prop}{ds:List D}:stoW K σ i w u (some (.ow ds))=w λd=>u (stoD K σ i ds d):=rfl
theorem Z6{f:List D->Prop}{ds:List D}:JI f (some (.ow ds))=f ds:=rfl
theorem jao{i:Nat}:wpS C (.new i) K σ=K.nx (setS σ i (some (.ow []))):=rfl
theorem jaD{i:Nat}{e:Ex}:wpS C (.app i e) K σ=appD K σ i (wpE C e σ) (getS σ i):=by
 rw[YY];unfold appD
 cases getS σ i with
 |none=>rfl
 |some z=>cases z<;>rfl
theorem jb3{i:Nat}{e v:Ex}:wpS C (.sto i e v) K σ=stoW K σ i (wpE C v σ) (wpE C e σ) (getS σ i):=by
 rw[YC];unfold stoW
 cases getS σ i with
 |none=>rfl
 |some z=>cases z with
  |sh d=>rfl
  |ot _=>rfl
  |ow ds =>
   simp only[];congr 1
theorem jbC{i:Nat}:wpS C (.shr i) K σ=JI (λds=>K.nx (setS σ i (some (.sh (.lst ds))))) (getS σ i):=by
 rw[Za];unfold JI
 cases getS σ i with
 |none=>rfl
 |some z=>cases z<;>rfl
theorem Y3{i:Nat}{e:Ex}{b:Sm}:wpS C (.seq (.set i e) b) K σ=wpE C e σ λd=>wpS C b K (setS σ i (some (.sh d))):=by rw[jI,jcc]
theorem Yw{is:List Nat}{e:Ex}{b:Sm}:wpS C (.seq (.unp is e) b) K σ=wpE C e σ (unpD is { K with nx:=λσ'=>wpS C b K σ' } σ):=by rw[jI,jaq]
theorem YD{e:Ex}{b:Sm}:wpS C (.seq (.ret e) b) K σ=wpE C e σ K.rt:=by rw[jI,YG]
theorem X2{i:Nat}{b:Sm}:wpS C (.seq (.new i) b) K σ=wpS C b K (setS σ i (some (.ow []))):=by rw[jI,jao]
theorem Yu{i:Nat}{e:Ex}{b:Sm}:wpS C (.seq (.app i e) b) K σ=appD { K with nx:=λσ'=>wpS C b K σ' } σ i (wpE C e σ) (getS σ i):=by rw[jI,jaD]
theorem X7{i:Nat}{e v:Ex}{b:Sm}:wpS C (.seq (.sto i e v) b) K σ=stoW { K with nx:=λσ'=>wpS C b K σ' } σ i (wpE C v σ) (wpE C e σ) (getS σ i):=by rw[jI,jb3]
theorem Yj{i:Nat}{b:Sm}:wpS C (.seq (.shr i) b) K σ=JI (λds=>wpS C b K (setS σ i (some (.sh (.lst ds))))) (getS σ i):=by rw[jI,jbC]
theorem isL_lst{f:List D->Prop}{xs:List D}:isL f (.lst xs)=f xs:=rfl
theorem jb4{i:Nat}{ds:List D}{d:D}{k:Int}:insD K σ i ds d (.int k)=((0<=k/\k<=ds.length/\ds.length<lim)/\K.nx (setS σ i (some (.ow (ds.take k.toNat++d::ds.drop k.toNat))))):=rfl
theorem ws_forU{s:Nat}:wpS C (.forU i j s e) K σ=JI (λds=>uo (λσ Q=>wpE C e σ Q) i s K ds σ) (getS σ j):=rfl
theorem Qa{e:Ex}:wpS C (.retF e) K σ=wpE C e σ (isL K.rf):=rfl
theorem Xa{e:Ex}{b:Sm}:wpS C (.seq (.retF e) b) K σ=wpE C e σ (isL K.rf):=by rw[jI,Qa]
theorem obD_ot{f:List (List D)->Prop}{p:Prop}{rows:List (List D)}:obD f p (some (.ot rows))=f rows:=rfl
theorem obD_sh{f:List (List D)->Prop}{p:Prop}{d:D}:obD f p (some (.sh d))=p:=rfl
theorem ocD_ow{f:List D->Prop}{g:List (List D)->Prop}{ds:List D}:ocD f g (some (.ow ds))=f ds:=rfl
theorem ocD_ot{f:List D->Prop}{g:List (List D)->Prop}{rows:List (List D)}:ocD f g (some (.ot rows))=g rows:=rfl
theorem otD_ot{f:List (List D)->Prop}{rows:List (List D)}:otD f (some (.ot rows))=f rows:=rfl
theorem Vk{i:Nat}{rows:List (List D)}{w:(D->Prop)->Prop}{k:Int}:app2D K σ i rows w (.int k)=∃row,(0<=k/\rows[k.toNat]?=some row/\row.length<lim)/\w λy=>K.nx (setS σ i (some (.ot (rows.set k.toNat (row ++ [y]))))):=rfl
theorem KD{e:Ex}:wpS C (.retG e) K σ=wpG C e σ K.rg:=rfl
theorem Z9{i f:Nat}{es:List Ex}:wpS C (.setG i f es) K σ=wpEs C es σ λds=>((C.fr f=false/\C.f2 f=true)/\noT σ i=true)/\(C.ct f).wp ds (jbq λrows=>K.nx (setS σ i (some (.ot rows)))) C.E:=rfl
theorem jcd{f:Nat}:wpS C (.retY f es) K σ=wpEs C es σ λds=>C.fr f=true/\(C.ct f).wp ds (isL K.rf) K.xn:=rfl
theorem Ug{i:Nat}{e:Ex}:wpS C (.ownG i e) K σ=(noT σ i=true/\wpG C e σ λrows=>K.nx (setS σ i (some (.ot rows)))):=rfl
theorem ws_forT{ss:List RSt}:wpS C (.forT j i ss) K σ=otD (λrows=>zO (wpR C j (setS σ i none) ss) rows λrows'=>K.nx (setS (setS σ i (some (.ot rows'))) j none)) (getS σ i):=rfl
theorem ZK{i:Nat}:wpS C (.shrT i) K σ=otD (λrows=>K.nx (setS σ i (some (.sh (kA rows))))) (getS σ i):=rfl
theorem Ua{i:Nat}:wpS C (.hlfT i) K σ=ocD (λ_=>K.nx σ) (λrows=>K.nx (setS σ i (some (.ow (rows.map .lst))))) (getS σ i):=rfl
theorem ws_forN{b:Sm}:wpS C (.forN i e b) K σ=wpE C e σ (isL λxs=>forL (λK σ=>wpS C b K σ) i K (XR xs) σ):=rfl
theorem jaO{i j:Nat}{ms ls:List D}{k:Int}:popD K σ i j ms ls (.int k)=∃d,(0<=k/\ls[k.toNat]?=some d/\ms.length<lim/\k<16777216)/\K.nx (setS (setS σ j (some (.ow (ls.eraseIdx k.toNat)))) i (some (.ow (ms ++ [d])))):=rfl
theorem ws_cpO:wpS C (.cpO j i es c e) K σ=JI (λds=>wpEs C es (setS σ j (some (.sh (.lst ds)))) λvs=>rgD vs λxs=>xs.length<=lim/\kz (λd Q=>wpE C c (setS σ j (some (.sh (.lst ds))) ++ [some (.sh d)]) (isB Q)) (λd Q=>wpE C e (setS σ j (some (.sh (.lst ds))) ++ [some (.sh d)]) Q) xs λys=>Jl ys=true/\K.nx (setS σ i (some (.ow ys)))) (getS σ j):=rfl
theorem XB{e:Ex}{b:Sm}:wpS C (.seq (.retG e) b) K σ=wpG C e σ K.rg:=by rw[jI,KD]
theorem XE{i f:Nat}{es:List Ex}{b:Sm}:wpS C (.seq (.setG i f es) b) K σ=wpEs C es σ λds=>((C.fr f=false/\C.f2 f=true)/\noT σ i=true)/\(C.ct f).wp ds (jbq λrows=>wpS C b K (setS σ i (some (.ot rows)))) C.E:=by rw[jI,Z9]
theorem XC{i:Nat}{e:Ex}{b:Sm}:wpS C (.seq (.ownG i e) b) K σ=(noT σ i=true/\wpG C e σ λrows=>wpS C b K (setS σ i (some (.ot rows)))):=by rw[jI,Ug]
theorem Xh{i:Nat}{b:Sm}:wpS C (.seq (.shrT i) b) K σ=otD (λrows=>wpS C b K (setS σ i (some (.sh (kA rows))))) (getS σ i):=by rw[jI,ZK]
theorem Xc{i:Nat}{b:Sm}:wpS C (.seq (.hlfT i) b) K σ=ocD (λ_=>wpS C b K σ) (λrows=>wpS C b K (setS σ i (some (.ow (rows.map .lst))))) (getS σ i):=by rw[jI,Ua]
theorem yh{b:Sm}:wpS C (.forE i e b) K σ=wpE C e σ λd=>∃xs,itemsD d=some xs/\forL (λK σ=>wpS C b K σ) i K xs σ:=rfl
theorem vq{b:Sm}:wpS C (.forR i es b) K σ=wpEs C es σ λds=>rgD ds λxs=>forL (λK σ=>wpS C b K σ) i K xs σ:=rfl
end
variable{body:DE->Sto->Prop}{K:DE}
theorem UF:forL body i K (d::ds) σ=body { K with nx:=forL body i K ds,ct:=forL body i K ds,bk:=K.nx } (setS σ i (some (.sh d))):=rfl
theorem KQ{body:DE->Sto->Prop}{i:Nat}{K:DE}(P:List D->Sto->Prop)(hb:∀K K' σ,DE.le K K'->body K σ->body K' σ) :
 ∀(xs:List D) (σ:Sto),P xs σ->(∀d ds σ,P (d::ds) σ->body { K with nx:=P ds,ct:=P ds,bk:=K.nx } (setS σ i (some (.sh d))))->(∀σ,P [] σ->K.nx σ)->forL body i K xs σ
 |[],σ,h0,hs,he=>he σ h0
 |d::ds,σ,h0,hs,he=>by
  rw[UF];refine hb _ _ _ ?_ (hs d ds σ h0);exact⟨λσ' p=>KQ P hb ds σ' p hs he,λ_ z=>z,λ_ z=>z,λσ' p=>KQ P hb ds σ' p hs he,λ_ z=>z,λ_ z=>z,λ_ z=>z⟩
theorem kS{C:Cfg}{b:Sm}(P:List D->Sto->Prop)(h0:P xs σ)(hs:∀d ds σ,P (d::ds) σ->wpS C b { K with nx:=P ds,ct:=P ds,bk:=K.nx } (setS σ i (some (.sh d))))(he:∀σ,P [] σ->K.nx σ) :
 forL (λK σ=>wpS C b K σ) i K xs σ:=KQ (body:=λK σ=>wpS C b K σ) P (λK K' σ h w=>js b h w) xs σ h0 hs he
theorem Vi{c:Sto->(Bool->Prop)->Prop}(P:Sto->Prop)(μ:Sto->Nat)(h0:P σ)
 (hs:∀σ,P σ->c σ λt=>if t=true then body { K with nx:=λσ'=>μ σ'<μ σ/\P σ',ct:=λσ'=>μ σ'<μ σ/\P σ',bk:=K.nx } σ else K.nx σ)
 (hc:∀σ Q Q',(∀t,Q t->Q' t)->c σ Q->c σ Q') (hb:∀K K' σ,DE.le K K'->body K σ->body K' σ):jbx c body K σ:=by
 refine⟨λm σ=>m=μ σ/\P σ,⟨_,rfl,h0⟩,?_⟩;rintro m σ ⟨rfl,p⟩;refine hc σ _ _ (λt w=>?_) (hs σ p)
 cases t with
 |true =>
  refine hb _ _ _ ?_ w
  exact⟨λσ' ⟨l,p'⟩=>⟨_,l,rfl,p'⟩,λ_ z=>z,λ_ z=>z,λσ' ⟨l,p'⟩=>⟨_,l,rfl,p'⟩,λ_ z=>z,λ_ z=>z,λ_ z=>z⟩
 |false=>exact w
theorem Qx{C:Cfg}{b:Sm}(P:Sto->Prop)(μ:Sto->Nat)(h0:P σ)
 (hs:∀σ,P σ->wpE C c σ (isB λt=>if t=true then wpS C b { K with nx:=λσ'=>μ σ'<μ σ/\P σ',ct:=λσ'=>μ σ'<μ σ/\P σ',bk:=K.nx } σ else K.nx σ)):wpS C (.whl c b) K σ:=by
 exact Vi P μ h0 hs (λσ Q Q' h w=>ja c (λd=>jW h) w) λK K' σ h w=>js b h w
theorem Y5:eqD .non .non=true:=rfl
theorem UM{v:Bool}:eqD .non (.bl v)=false:=rfl
theorem X8{v:Int}:eqD .non (.int v)=false:=rfl
theorem YZ{v:Str}:eqD .non (.str v)=false:=rfl
theorem YK{v:List D}:eqD .non (.tup v)=false:=rfl
theorem Yq{v:List D}:eqD .non (.lst v)=false:=rfl
theorem Uu{u:Bool}:eqD (.bl u) .non=false:=rfl
theorem jaV{u:Bool}{v:Bool}:eqD (.bl u) (.bl v)=(u == v):=rfl
theorem Uq{u:Bool}{v:Int}:eqD (.bl u) (.int v)=((if u then 1 else 0) == v):=rfl
theorem Vj{u:Bool}{v:Str}:eqD (.bl u) (.str v)=false:=rfl
theorem Uy{u:Bool}{v:List D}:eqD (.bl u) (.tup v)=false:=rfl
theorem UN{u:Bool}{v:List D}:eqD (.bl u) (.lst v)=false:=rfl
theorem Yv{u:Int}:eqD (.int u) .non=false:=rfl
theorem Vf{u:Int}{v:Bool}:eqD (.int u) (.bl v)=(u == (if v then 1 else 0)):=rfl
theorem vL{u:Int}{v:Int}:eqD (.int u) (.int v)=(u == v):=rfl
theorem eq_int_str{u:Int}{v:Str}:eqD (.int u) (.str v)=false:=rfl
theorem X1{u:Int}{v:List D}:eqD (.int u) (.tup v)=false:=rfl
theorem Yc{u:Int}{v:List D}:eqD (.int u) (.lst v)=false:=rfl
theorem Ys{u:Str}:eqD (.str u) .non=false:=rfl
theorem UA{u:Str}{v:Bool}:eqD (.str u) (.bl v)=false:=rfl
theorem eq_str_int{u:Str}{v:Int}:eqD (.str u) (.int v)=false:=rfl
theorem Zb{u:Str}{v:Str}:eqD (.str u) (.str v)=(u == v):=rfl
theorem Yz{u:Str}{v:List D}:eqD (.str u) (.tup v)=false:=rfl
theorem Zf{u:Str}{v:List D}:eqD (.str u) (.lst v)=false:=rfl
theorem YA{u:List D}:eqD (.tup u) .non=false:=rfl
theorem U6{u:List D}{v:Bool}:eqD (.tup u) (.bl v)=false:=rfl
theorem Yd{u:List D}{v:Int}:eqD (.tup u) (.int v)=false:=rfl
theorem Yf{u:List D}{v:Str}:eqD (.tup u) (.str v)=false:=rfl
theorem XU{u:List D}{v:List D}:eqD (.tup u) (.tup v)=xO u v:=rfl
theorem Y2{u:List D}{v:List D}:eqD (.tup u) (.lst v)=false:=rfl
theorem Y0{u:List D}:eqD (.lst u) .non=false:=rfl
theorem UH{u:List D}{v:Bool}:eqD (.lst u) (.bl v)=false:=rfl
theorem YN{u:List D}{v:Int}:eqD (.lst u) (.int v)=false:=rfl
theorem YU{u:List D}{v:Str}:eqD (.lst u) (.str v)=false:=rfl
theorem YL{u:List D}{v:List D}:eqD (.lst u) (.tup v)=false:=rfl
theorem Jq{u:List D}{v:List D}:eqD (.lst u) (.lst v)=xO u v:=rfl
theorem eqs_nn:xO [] []=true:=rfl
theorem eqs_nc{y:D}{ys:List D}:xO [] (y::ys)=false:=rfl
theorem eqs_cn{y:D}{ys:List D}:xO (y::ys) []=false:=rfl
theorem eqs_cc{x y:D}{xs ys:List D}:xO (x::xs) (y::ys)=(eqD x y&&xO xs ys):=rfl
theorem dep_non:qv .non=0:=rfl
theorem dep_bl{u:Bool}:qv (.bl u)=0:=rfl
theorem vk{u:Int}:qv (.int u)=0:=rfl
theorem dep_str{u:Str}:qv (.str u)=0:=rfl
theorem QE{u:List D}:qv (.tup u)=xT u+1:=rfl
theorem K0{u:List D}:qv (.lst u)=xT u+1:=rfl
theorem uR:xT []=0:=rfl
theorem uG{x:D}{xs:List D}:xT (x::xs)=max (qv x) (xT xs):=rfl
section
variable {Q:D->Prop} {i j:Int}
theorem vF:yB .add (.int i) (.int j) Q=Q (.int (i+j)):=rfl
theorem QL{x y:List D}:yB .add (.lst x) (.lst y) Q=(x.length+y.length<=lim/\Q (.lst (x++y))):=rfl
theorem ZD:yB .sub (.int i) (.int j) Q=Q (.int (i-j)):=rfl
theorem bin_mul:yB .mul (.int i) (.int j) Q=(qh i j/\Q (.int (i*j))):=rfl
theorem jaZ:yB .fdiv (.int i) (.int j) Q=((j≠0/\bits j<=9000)/\Q (.int (i.fdiv j))):=rfl
theorem bin_mod:yB .mod (.int i) (.int j) Q=(j≠0/\Q (.int (i.fmod j))):=rfl
theorem KN:yB .shl (.int i) (.int j) Q=(ShlOk i j/\Q (.int (i*2^j.toNat))):=rfl
theorem jae:yB .band (.int i) (.int j) Q=Q (.int (pR i j)):=rfl
theorem cmp_eq{x y:D}:uS .eq x y Q=(min (qv x) (qv y)<=100/\Q (.bl (eqD x y))):=rfl
theorem cmp_ne{x y:D}:uS .ne x y Q=(min (qv x) (qv y)<=100/\Q (.bl (!eqD x y))):=rfl
theorem cmp_lt:uS .lt (.int i) (.int j) Q=Q (.bl (decide (i<j))):=rfl
theorem cmp_le:uS .le (.int i) (.int j) Q=Q (.bl (decide (i<=j))):=rfl
theorem cmp_gt:uS .gt (.int i) (.int j) Q=Q (.bl (decide (j<i))):=rfl
theorem cmp_ge:uS .ge (.int i) (.int j) Q=Q (.bl (decide (j<=i))):=rfl
theorem jbH{xs:List D}:ixD (.lst xs) (.int i) Q=∃d,atD xs i=some d/\Q d:=rfl
theorem ix_tup{xs:List D}:ixD (.tup xs) (.int i) Q=∃d,atD xs i=some d/\Q d:=rfl
theorem bi_abs:biD .abs [.int i] Q=Q (.int (if i<0 then -i else i)):=rfl
theorem bi_max:biD .max [.int i,.int j] Q=Q (.int (if j > i then j else i)):=rfl
theorem bi_min:biD .min [.int i,.int j] Q=Q (.int (if j<i then j else i)):=rfl
theorem bi_lenl{xs:List D}:biD .len [.lst xs] Q=Q (.int xs.length):=rfl
theorem bi_lent{xs:List D}:biD .len [.tup xs] Q=Q (.int xs.length):=rfl
theorem bi_int:biD .int [.int i] Q=Q (.int i):=rfl
theorem bi_intb{b:Bool}:biD .int [.bl b] Q=Q (.int (if b then 1 else 0)):=rfl
theorem jaS{xs:List D}:biD .list [.lst xs] Q=Q (.lst xs):=rfl
theorem jau{xs:List D}:biD .list [.tup xs] Q=Q (.lst xs):=rfl
theorem kx{α:Type}{f:α->D}(hf:∀a b,f a=f b->a=b):∀ {xs ys:List α},xs.map f=ys.map f->xs=ys
 |[],[],_=>rfl
 |[],_::_,h=>by simp at h
 |_::_,[],h=>by simp at h
 |x::xs,y::ys,h=>by
  simp only[bz,bO]at h;rw[hf _ _ h.1,kx hf h.2]
theorem KU{ns:List Int}{Q:D->Prop}:biD .sum [.lst (ns.map .int)] Q ↔ Q (.int ns.sum):=by
 unfold biD vQ yN;exact⟨λ⟨ms,e,q⟩=>by rw[kx (λa b h=>by injection h) e];exact q,λq=>⟨ns,rfl,q⟩⟩
theorem VN{bs:List Bool}{Q:D->Prop}:biD .all [.lst (bs.map .bl)] Q ↔ Q (.bl (bs.all id)):=by
 unfold biD vQ yN;exact⟨λ⟨ms,e,q⟩=>by rw[kx (λa b h=>by injection h) e];exact q,λq=>⟨bs,rfl,q⟩⟩
theorem mm_ints{mx:Bool}{ns:List Int}{d:Int}{Q:D->Prop}:mmD mx (.lst (ns.map .int)) (.int d) Q ↔ Q (.int (mmF mx d ns)):=by
 unfold mmD;exact⟨λ⟨ms,e,q⟩=>by rw[kx (λa b h=>by injection h) e];exact q,λq=>⟨ns,rfl,q⟩⟩
theorem Qd{ns:List Int}{Q:D->Prop}:biD .min [.lst (ns.map .int)] Q ↔ ns ≠ []/\Q (.int (mmF false 0 ns)):=by
 exact⟨λ⟨ms,e,h,q⟩=>by rw[kx (λa b h=>by injection h) e];exact⟨h,q⟩,λq=>⟨ns,rfl,q.1,q.2⟩⟩
theorem mt_bits:mtD .bitlen (.int i) Q=Q (.int (bits i)):=rfl
theorem jbU{P:Bool->Prop}{b:Bool}:isB P (.bl b)=P b:=rfl
theorem unp_lst{is:List Nat}{K:DE}{σ:Sto}{ds:List D}:unpD is K σ (.lst ds)=∃σ',setAll is ds σ=some σ'/\K.nx σ':=rfl
theorem unp_tup{is:List Nat}{K:DE}{σ:Sto}{ds:List D}:unpD is K σ (.tup ds)=∃σ',setAll is ds σ=some σ'/\K.nx σ':=rfl
theorem rg_1{P:List D->Prop}:rgD [.int i] P=(qO i/\P (j3 0 1 i.toNat)):=rfl
end
theorem XN{x:D}{xs:List D}:atD (x::xs) 0=some x:=rfl
theorem jad{x y:D}{xs:List D}:atD (x::y::xs) 1=some y:=rfl
theorem atD_2{x y z:D}{xs:List D}:atD (x::y::z::xs) 2=some z:=rfl
theorem atD_3{x y z u:D}{xs:List D}:atD (x::y::z::u::xs) 3=some u:=rfl
theorem aI{a b:Prop}(x:a)(y:b):a/\b:=⟨x,y⟩
def zC:=aI @jaO<|aI @otD_ot<|aI @obD_ot<|aI @obD_sh<|aI @Vk<|aI @isL_lst<|aI @jb4<|aI @appD_ow<|aI @jai<|aI @stoW_ow<|aI @Z6<|aI @ocD_ow<|aI @ocD_ot<|aI @vF<|aI @QL<|aI @ZD<|aI @bin_mul<|aI @jaZ<|aI @bin_mod<|aI @KN<|aI @jae<|aI @cmp_eq<|aI @cmp_ne<|aI @cmp_lt<|aI @cmp_le<|aI @cmp_gt<|aI @cmp_ge<|aI @jbH<|aI @ix_tup<|aI @bi_abs<|aI @bi_max<|aI @bi_min<|aI @bi_lenl<|aI @bi_lent<|aI @bi_int<|aI @bi_intb<|aI @jaS<|aI @jau<|aI @KU<|aI @VN<|aI @mm_ints<|aI @mt_bits<|aI @jbU<|aI @unp_tup<|aI @unp_lst<|aI @rg_1<|aI @Y5<|aI @UM<|aI @X8<|aI @YZ<|aI @YK<|aI @Yq<|aI @Uu<|aI @jaV<|aI @Uq<|aI @Vj<|aI @Uy<|aI @UN<|aI @Yv<|aI @Vf<|aI @vL<|aI @eq_int_str<|aI @X1<|aI @Yc<|aI @Ys<|aI @UA<|aI @eq_str_int<|aI @Zb<|aI @Yz<|aI @Zf<|aI @YA<|aI @U6<|aI @Yd<|aI @Yf<|aI @XU<|aI @Y2<|aI @Y0<|aI @UH<|aI @YN<|aI @YU<|aI @YL<|aI @Jq<|aI @eqs_nn<|aI @eqs_nc<|aI @eqs_cn<|aI @eqs_cc<|aI @dep_non<|aI @dep_bl<|aI @vk<|aI @dep_str<|aI @QE<|aI @K0<|aI @uR<|aI @uG<|aI @decide_eq_true_eq<|aI @b8<|aI @bg<|aI @Bool.not_true<|aI @Bool.not_false<|aI @decide_eq_false_iff_not<|aI @false_implies<|aI @and_true<|aI @true_and<|aI @and_false<|aI @false_and<|aI @Nat.min_self<|aI @Nat.max_self<|aI @mI<|aI @Nat.min_zero<|aI @Nat.zero_min<|aI @Nat.max_zero<|aI @Nat.zero_max<|aI @XN<|aI @jad<|aI @atD_2<|aI @atD_3<|aI @Bool.true_eq_false<|aI @dF<|aI @not_false_eq_true<|aI @not_true_eq_false<|aI @Bool.and_true<|aI @Bool.true_and<|aI @Bool.and_false<|aI @Bool.false_and<|aI @jcn<|aI @Bool.true_or<|aI @Bool.or_false<|aI @Bool.false_or<|@Int.cast_ofNat_Int
def zP:=aI @xN<|aI @jI<|aI @jcc<|aI @jaq<|aI @YG<|aI @kC<|aI @jav<|aI @VM<|aI @Xt<|aI @jao<|aI @jaD<|aI @jb3<|aI @jbC<|aI @Qa<|aI @KD<|aI @Z9<|aI @Ug<|aI @ZK<|@Ua
def zS:=aI @Y3<|aI @Yw<|aI @YD<|aI @X2<|aI @Yu<|aI @X7<|aI @Yj<|aI @Xa<|aI @XB<|aI @XE<|aI @XC<|aI @Xh<|aI @Xc<|aI @xN<|aI @YG<|aI @jav<|aI @VM<|aI @Xt<|aI @Qa<|@KD
def Q5(σ:Sto)(i:Nat):Int:=match getS σ i with|some (.sh (.int k))=>k|_=>0
theorem jH{i j:Int}(h:bits i+bits j<=134217728):qh i j:=.inr (.inr h)
def vX:Sm :=
 (.seq (.set 1 (.cst (.int 1)))
 (.seq (.set 2 (.cst (.int 2)))
 (.seq (.set 3 (.var 0))
 (.seq (.whl (.cmp .gt (.var 3) (.cst (.int 0))) (.seq (.ite (.cmp .eq (.bin .mod (.var 3) (.cst (.int 2))) (.cst (.int 1))) (.seq (.set 1 (.bin .mul (.var 1) (.var 2)))
  .nop) .nop)
  (.seq (.set 2 (.bin .mul (.var 2) (.var 2)))
  (.seq (.set 3 (.bin .fdiv (.var 3) (.cst (.int 2))))
  .nop))))
 (.seq (.ret (.var 1))
 .nop)))))
def xR:Ctr where
 pre ds:=match ds with|[.int n]=>0<=n/\n<=1000000|_=>False
 res ds d:=match ds with|[.int n]=>d=.int (2^n.toNat)|_=>False
theorem jbT{C:Cfg}:jQ C 4 vX xR:=by
 rintro ds h;simp only[xR]at h;split at h
 case h_2=>exact h.elim
 next n =>
 obtain⟨n,rfl⟩:∃m:Nat,n=m:=⟨n.toNat,by lia⟩
 have hn:n<=1000000:=by lia
 try simp only[zP,zC,wE_var,wE_cst,wE_con,wE_bin,wE_neg,wE_not,wE_cmp,wE_and,wE_or,wE_ife,wE_tup,wE_lst,wE_ix,wE_call,wE_bi,wE_meth,wE_isi,wE_compR,wE_compE,wE_oix,wE_compZ,wE_slc,wE_lix,wE_compF,wpEs,getS,setS,setAll,tyD,itemsD,Ctr.wp,startS,jfg,gc,Nat.reduceSub,Nat.reduceAdd,reduceIte,Nat.reduceLeDiff,Nat.reduceLT,Int.reduceEq,Int.reduceNeg,Int.reduceLT,Int.reduceLE,Int.reduceSub,Int.reduceAdd,Int.reduceBEq,bz,dR,su,sv,gf,nL,bS,dG,dM,forall_eq,forall_eq',implies_true,if_true,if_false,ite_true,ite_false,gy,exists_eq_left',exists_eq_left,ne_eq,beq_iff_eq,beq_self_eq_true,beq_eq_false_iff_ne,ph,vX,xR,bZ]
 refine Qx (λσ=>∃j:Nat,2^j<=2*n+2/\σ=[some (.sh (.int n)),some (.sh (.int (2^(n%2^j)))),some (.sh (.int (2^(2^j)))),some (.sh (.int ((n / 2^j:Nat):Int)))]) (λσ=>(Q5 σ 3).toNat) ?_ ?_
 ·refine⟨0,by lia,?_⟩;simp[Nat.mod_one]
 ·rintro σ ⟨j,hj,rfl⟩
  try simp only[zP,zC,wE_var,wE_cst,wE_con,wE_bin,wE_neg,wE_not,wE_cmp,wE_and,wE_or,wE_ife,wE_tup,wE_lst,wE_ix,wE_call,wE_bi,wE_meth,wE_isi,wE_compR,wE_compE,wE_oix,wE_compZ,wE_slc,wE_lix,wE_compF,wpEs,getS,setS,setAll,tyD,itemsD,Ctr.wp,startS,jfg,gc,Nat.reduceSub,Nat.reduceAdd,reduceIte,Nat.reduceLeDiff,Nat.reduceLT,Int.reduceEq,Int.reduceNeg,Int.reduceLT,Int.reduceLE,Int.reduceSub,Int.reduceAdd,Int.reduceBEq,bz,dR,su,sv,gf,nL,bS,dG,dM,forall_eq,forall_eq',implies_true,if_true,if_false,ite_true,ite_false,gy,exists_eq_left',exists_eq_left,ne_eq,beq_iff_eq,beq_self_eq_true,beq_eq_false_iff_ne,ph,Q5]
  by_cases h0:0<n / 2^j
  ·rw[if_pos (by lia)]
   have hle:2^j<=n:=by
    rcases bU n (2^j) with h|h
    ·rw[Nat.div_eq_of_lt h]at h0;lia
    ·exact h
   have e1:((n / 2^j:Nat):Int).fmod 2=((n / 2^j%2:Nat):Int):=by rw[jD (by decide)];lia
   have e2:((n / 2^j:Nat):Int).fdiv 2=((n / 2^(j+1):Nat):Int):=by
    rw[ky (by decide),mM,<- jdh];lia
   have e3:(2:Int)^2^j*2^2^j=2^2^(j+1):=by rw[<- m7,mM];congr 1;lia
   have m2:qh ((2:Int)^2^j) (2^2^j):=jH (by rw[qq];lia)
   have lt:(((n / 2^(j+1):Nat):Int)).toNat<(((n / 2^j:Nat):Int)).toNat:=by
    have:n / 2^(j+1)<n / 2^j:=by rw[mM,<- jdh];lia
    lia
   have hj':2^(j+1)<=2*n+2:=by rw[mM];lia
   rw[e1,e2,e3]
   have dec:n%2^(j+1)=n%2^j+2^j*(n / 2^j%2):=by rw[mM,Nat.mod_mul]
   by_cases ho:n / 2^j%2=1
   ·rw[if_pos (by lia)]
    have e4:(2:Int)^(n%2^j)*2^2^j=2^(n%2^(j+1)):=by rw[<- m7,dec,ho];congr 1;lia
    have hm:n%2^j<2^j:=jfh _ (gR j);have m1:qh ((2:Int)^(n%2^j)) (2^2^j):=jH (by rw[qq,qq];lia);exact⟨m1,m2,by decide,lt,j+1,hj',by rw[e4]⟩
   ·rw[if_neg (by lia)]
    have e4:n%2^(j+1)=n%2^j:=by
     have:n / 2^j%2=0:=by lia
     rw[dec,this];lia
    exact⟨m2,by decide,lt,j+1,hj',by rw[e4]⟩
  ·rw[if_neg (by lia)]
   have:n<2^j:=by
    rcases bU n (2^j) with h|h
    ·exact h
    ·have:=Nat.div_pos h (gR j);lia
   rw[Nat.mod_eq_of_lt this]
theorem jV{C:Cfg}{a b:Sm}(P:Sto->Prop)(h1:wpS C a { K with nx:=P } σ)(h2:∀σ',P σ'->wpS C b K σ'):wpS C (.seq a b) K σ:=by
 rw[jI];refine js a ?_ h1;exact⟨λσ' p=>h2 σ' p,λ_ z=>z,λ_ z=>z,λ_ z=>z,λ_ z=>z,λ_ z=>z,λ_ z=>z⟩
theorem Xn{C:Cfg}{e:Ex}{i s:Nat}{K:DE}(P:List D->Sto->Prop):∀(xs:List D) (σ:Sto),P xs σ->(∀d ds σ,P (d::ds) σ->wpE C e (setS σ i (some (.sh d))) λy=>P ds (setS (setS σ i (some (.sh d))) s (some (.sh y))))->(∀σ,P [] σ->K.nx σ)->uo (λσ Q=>wpE C e σ Q) i s K xs σ
 |[],σ,h0,hs,he=>he σ h0
 |d::ds,σ,h0,hs,he=>ja e (λy wy=>Xn P ds _ wy hs he) (hs d ds σ h0)
end Z
local macro_rules | `(tactic|lia)=>`(tactic|lia -abstractProof)
local macro_rules | `(tactic|dsimp! only[$ls,*])=>`(tactic|try simp only[Z.zC,Z.wE_var,Z.wE_cst,Z.wE_con,Z.wE_bin,Z.wE_neg,Z.wE_not,Z.wE_cmp,Z.wE_and,Z.wE_or,Z.wE_ife,Z.wE_tup,Z.wE_lst,Z.wE_ix,Z.wE_call,Z.wE_bi,Z.wE_meth,Z.wE_isi,Z.wE_compR,Z.wE_compE,Z.wE_oix,Z.wE_compZ,Z.wE_slc,Z.wE_lix,Z.wE_compF,Z.wpEs,Z.getS,Z.setS,Z.setAll,Z.tyD,Z.itemsD,Z.startS,jfg,gc,Nat.reduceSub,Nat.reduceAdd,reduceIte,Nat.reduceLeDiff,Nat.reduceLT,Int.reduceEq,Int.reduceNeg,Int.reduceLT,Int.reduceLE,Int.reduceSub,Int.reduceAdd,Int.reduceBEq,bz,dR,su,sv,gf,nL,bS,dG,dM,forall_eq,forall_eq',implies_true,if_true,if_false,ite_true,ite_false,gy,exists_eq_left',exists_eq_left,ne_eq,beq_iff_eq,beq_self_eq_true,beq_eq_false_iff_ne,ph,$ls,*])
local macro_rules | `(tactic|simp_arith only[$ls,*])=>`(tactic|try simp only[Z.zC,Z.wE_var,Z.wE_cst,Z.wE_con,Z.wE_bin,Z.wE_neg,Z.wE_not,Z.wE_cmp,Z.wE_and,Z.wE_or,Z.wE_ife,Z.wE_tup,Z.wE_lst,Z.wE_ix,Z.wE_call,Z.wE_bi,Z.wE_meth,Z.wE_isi,Z.wE_compR,Z.wE_compE,Z.wE_oix,Z.wE_compZ,Z.wE_slc,Z.wE_lix,Z.wE_compF,Z.wpEs,Z.getS,Z.setS,Z.setAll,Z.tyD,Z.itemsD,Z.Ctr.wp,Z.startS,jfg,gc,Nat.reduceSub,Nat.reduceAdd,reduceIte,Nat.reduceLeDiff,Nat.reduceLT,Int.reduceEq,Int.reduceNeg,Int.reduceLT,Int.reduceLE,Int.reduceSub,Int.reduceAdd,Int.reduceBEq,bz,dR,su,sv,gf,nL,bS,dG,dM,forall_eq,forall_eq',implies_true,if_true,if_false,ite_true,ite_false,gy,exists_eq_left',exists_eq_left,ne_eq,beq_iff_eq,beq_self_eq_true,beq_eq_false_iff_ne,ph,$ls,*])
local macro_rules | `(tactic|simp_all_arith! only[$ls,*])=>`(tactic|dsimp! only[Z.zP,Z.Ctr.wp,$ls,*])
local macro_rules | `(tactic|simp_all! only[$ls,*])=>`(tactic|dsimp! only[Z.zS,$ls,*])
local macro_rules | `(tactic|simp_arith! only[$ls,*])=>`(tactic|simp_arith only[Z.zS,$ls,*])
namespace Z
open PySem
def zI:Sm :=
 (.seq (.ite (.cmp .eq (.var 0) (.lst [])) (.seq (.ret (.bin .mul (.var 1) (.cst (.int 7919))))
  .nop) .nop)
 (.seq (.ret (.bin .add (.ix (.var 0) (.bin .mod (.var 1) (.bi .len [(.var 0)]))) (.bin .mul (.bin .fdiv (.var 1) (.bi .len [(.var 0)])) (.cst (.int 104729)))))
 .nop))
def yQ:Sm :=
 (.seq (.set 2 (.bin .mod (.bin .add (.bin .mul (.var 0) (.cst (.int 6364136223846793005))) (.bin .mul (.bin .add (.var 1) (.cst (.int 1))) (.cst (.int 1442695040888963407)))) (.cst (.int 340282366920938463463374607431768211507))))
 (.seq (.ret (.bin .mod (.bin .mul (.var 2) (.var 2)) (.cst (.int 340282366920938463463374607431768211297))))
 .nop))
def zr:Sm :=
 (.seq (.ite (.cmp .eq (.var 0) (.cst (.int 0))) (.seq (.ret (.tup [(.cst (.int 0)),(.cst (.int 0))]))
  .nop) .nop)
 (.seq (.set 2 (.bin .band (.var 0) (.bin .sub (.cst (.int 0)) (.var 0))))
 (.seq (.ret (.tup [(.bin .fdiv (.var 0) (.var 2)),(.bin .sub (.bin .add (.var 1) (.meth .bitlen (.var 2))) (.cst (.int 1)))]))
 .nop)))
def yn(i_law_drawn i_law_bare:Nat):Sm :=
 (.seq (.set 4 (.call i_law_drawn [(.var 0),(.var 1)]))
 (.seq (.set 5 (.bin .mod (.var 4) (.cst (.int 8))))
 (.seq (.set 6 (.bin .sub (.bin .mod (.bin .fdiv (.var 4) (.cst (.int 8))) (.bin .add (.bin .mul (.cst (.int 2)) (.var 3)) (.cst (.int 1)))) (.var 3)))
 (.seq (.set 7 (.bin .mod (.bin .fdiv (.var 4) (.bin .add (.bin .mul (.cst (.int 16)) (.var 3)) (.cst (.int 8)))) (.bin .shl (.cst (.int 1)) (.var 2))))
 (.seq (.ite (.cmp .eq (.var 5) (.cst (.int 0))) (.seq (.set 7 (.ix (.lst [(.cst (.int 0)),(.cst (.int 1)),(.cst (.int 3))]) (.bin .mod (.bin .fdiv (.var 4) (.cst (.int 64))) (.cst (.int 3)))))
  .nop) .nop)
 (.seq (.ite (.cmp .eq (.var 5) (.cst (.int 1))) (.seq (.set 7 (.bin .sub (.bin .shl (.cst (.int 1)) (.var 2)) (.cst (.int 1))))
  .nop) .nop)
 (.seq (.ite (.cmp .eq (.var 5) (.cst (.int 2))) (.seq (.set 7 (.bin .add (.bin .shl (.cst (.int 1)) (.bin .sub (.var 2) (.cst (.int 1)))) (.cst (.int 1))))
  .nop) .nop)
 (.seq (.ite (.cmp .eq (.var 5) (.cst (.int 3))) (.seq (.set 7 (.bin .mod (.var 0) (.bin .shl (.cst (.int 1)) (.var 2))))
  .nop) .nop)
 (.seq (.ite (.cmp .eq (.var 5) (.cst (.int 4))) (.seq (.set 7 (.bin .mod (.var 7) (.cst (.int 32))))
  .nop) .nop)
 (.seq (.ite (.cmp .eq (.bin .mod (.bin .fdiv (.var 4) (.cst (.int 16))) (.cst (.int 2))) (.cst (.int 1))) (.seq (.set 7 (.bin .sub (.cst (.int 0)) (.var 7)))
  .nop) .nop)
 (.seq (.ret (.call i_law_bare [(.var 7),(.var 6)]))
 .nop)))))))))))
def yM:Sm :=
 (.seq (.ret (.and (.isi (.var 0) .int) (.not (.isi (.var 0) .bool))))
 .nop)
def yx:Sm :=
 (.seq (.set 0 (.bi .abs [(.var 0)]))
 (.seq (.set 1 (.bi .abs [(.var 1)]))
 (.seq (.whl (.cmp .ne (.var 1) (.cst (.int 0))) (.seq (.set 2 (.bin .sub (.var 0) (.bin .mul (.bin .fdiv (.var 0) (.var 1)) (.var 1))))
  (.seq (.set 0 (.var 1))
  (.seq (.set 1 (.var 2))
  .nop))))
 (.seq (.ret (.var 0))
 .nop))))
def yE(i_law_drawn i_law_cell:Nat):Sm :=
 (.seq (.ret (.ix (.lst [(.bin .add (.cst (.int 8)) (.bin .mod (.call i_law_drawn [(.call i_law_cell [(.var 0),(.var 1)]),(.var 1)]) (.cst (.int 57)))),(.cst (.int 8)),(.cst (.int 53)),(.cst (.int 64))]) (.bin .mod (.call i_law_drawn [(.call i_law_cell [(.var 0),(.var 1)]),(.bin .add (.var 1) (.cst (.int 1)))]) (.cst (.int 4)))))
 .nop)
variable{xs:List D}{i:Int}
theorem z9(h0:0<=i)(h1:i<xs.length):∃d,atD xs i=some d/\d∈xs:=by
 have h:i.toNat<xs.length:=by lia
 refine⟨xs[i.toNat],?_,dH h⟩;unfold atD;rw[if_pos h0,bE h]
theorem Vy{ns:List Int}(h0:0<=i)(h1:i<ns.length):∃n,atD (ns.map .int) i=some (.int n):=by
 obtain⟨d,e,m⟩:=z9 (xs:=ns.map .int) h0 (by simpa using h1);obtain⟨n,_,rfl⟩:=bI.mp m;exact⟨n,e⟩
def yu:Ctr where
 pre ds:=∃(ns:List Int) (k:Int),ds=[.lst (ns.map .int),.int k]/\ns.length<=63/\0<=k
 res ds d:=∃i,d=.int i
theorem ja3(ns:List Int):xO (ns.map .int) []=decide (ns=[]):=by
 cases ns<;>simp[eqD,xO]
theorem k_cell{C:Cfg}:jQ C 2 zI yu:=by
 rintro ds ⟨ns,k,rfl,hl,hk⟩
 simp_all_arith! only[zI,yu,bj]
 refine⟨by lia,?_⟩;rw[ja3];simp only[decide_eq_true_eq];by_cases hn:ns=[]
 ·rw[if_pos hn];exact⟨.inr (.inl (by decide)),_,rfl⟩
 ·rw[if_neg hn];have hp:0<ns.length:=sH.mpr hn;have hb:bits (ns.length:Int)<=64:=xF (by lia) (by lia);rw[jD (by lia)];obtain⟨n,e⟩:=Vy (ns:=ns) (i:=k%ns.length) (g7 _ (by lia)) (gV _ (by lia));refine⟨by lia,_,e,⟨by lia,by lia⟩,.inr (.inl (by decide)),?_⟩
  simp_all_arith! only[]
  exact⟨_,rfl⟩
def kL:Ctr where
 pre ds:=match ds with|[.int _,.int _]=>True|_=>False
 res ds d:=∃i,d=.int i/\0<=i/\i<340282366920938463463374607431768211297
theorem k_drawn{C:Cfg}:jQ C 3 yQ kL:=by
 rintro ds h;simp only[kL]at h;split at h
 case h_2=>exact h.elim
 next c k =>
 simp_all_arith! only[yQ,kL]
 rw[jD (by decide),jD (by decide)];have b1:bits ((c*6364136223846793005+(k+1)*1442695040888963407)%340282366920938463463374607431768211507)<=129:=xF (g7 _ (by decide)) (Int.lt_trans (gV _ (by decide)) (by decide));refine⟨.inr (.inl (by decide)),.inr (.inl (by decide)),jH (by lia),_,rfl,g7 _ (by decide),gV _ (by decide)⟩
theorem jaC:∀n:Nat,0<n->∃v m,n=2^v*m/\m%2=1:=by
 intro n
 induction n using Nat.strongRecOn with
 |ind n ih =>
  intro hn;by_cases h:n%2=1
  ·exact⟨0,n,by simp,h⟩
  ·obtain⟨v,m,e,hm⟩:=ih (n / 2) (by lia) (by lia);refine⟨v+1,m,?_,hm⟩;rw[mM,Nat.mul_right_comm,<- e];lia
theorem Kd:∀(v m:Nat),m%2=1->(2^v*m) &&& (2^v*m-1)=2^v*(m-1)
 |0,m,h=>by
  simp only[Nat.pow_zero,Nat.one_mul]
  refine jdA λi=>?_
  rw[jdp]
  cases i with
  |zero=>simp only[Nat.testBit_zero];have:(m-1)%2=0:=by lia
         simp[h,this]
  |succ i=>simp only[Nat.testBit_succ];have:(m-1) / 2=m / 2:=by lia
           rw[this];simp
 |v+1,m,h=>by
  have ih:=Kd v m h;have hp:0<2^v*m:=jeZ (gR v) (by lia)
  have e1:2^(v+1)*m=2*(2^v*m):=by rw[mM];grind
  have e2:2^(v+1)*(m-1)=2*(2^v*(m-1)):=by rw[mM];grind
  rw[e1,e2];generalize hA:2^v*m=A at *
  refine jdA λi=>?_
  rw[jdp]
  cases i with
  |zero=>simp only[Nat.testBit_zero];simp
  |succ i =>
   simp only[Nat.testBit_succ]
   have a1:(2*A) / 2=A:=by lia
   have a2:(2*A-1) / 2=A-1:=by lia
   have a3:2*(2^v*(m-1)) / 2=2^v*(m-1):=by lia
   rw[a1,a2,a3,<- ih,jdp]
variable{w:Int}
theorem Qm(h:w≠0):∃(v:Nat) (m:Int),w=m*2^v/\m%2=1/\pR w (0-w)=2^v:=by
 obtain⟨v,m,e,hm⟩:=jaC w.natAbs (by lia);have hl:=Kd v m hm;rw[<- e]at hl
 have hp:(2^v*(m-1):Nat)=w.natAbs-2^v:=by rw[Nat.mul_sub,<- e];simp
 have hle:2^v<=w.natAbs:=by rw[e];exact Nat.le_mul_of_pos_right _ (by lia)
 have cast:((2^v:Nat):Int)=2^v:=by simp
 have ecast:(w.natAbs:Int)=2^v*m:=by rw[e];simp
 by_cases hw:0<=w
 ·refine⟨v,m,?_,by lia,?_⟩
  ·rw[mO,<- ecast];lia
  ·unfold pR
   have d1:decide (0<=w)=true:=by simpa using hw
   have d2:decide (0<=0-w)=false:=by simp;lia
   rw[d1,d2];simp only[jfi]
   have e1:w.toNat=w.natAbs:=by lia
   have e2:(-(0-w)-1).toNat=w.natAbs-1:=by lia
   rw[e1,e2,hl,hp];lia
 ·refine⟨v,-m,?_,by lia,?_⟩
  ·rw[Int.neg_mul,mO,<- ecast];lia
  ·unfold pR
   have d1:decide (0<=w)=false:=by simpa using hw
   have d2:decide (0<=0-w)=true:=by simp;lia
   rw[d1,d2];simp only[jfi]
   have e1:(0-w).toNat=w.natAbs:=by lia
   have e2:(-w-1).toNat=w.natAbs-1:=by lia
   rw[e1,e2,hl,hp];lia
structure Num (n:Nat) (w p:Int):Prop where
 odd:w%2=1\/(w=0/\p=0)
 sz:w.natAbs<2^n
structure Bare (w p w' p':Int):Prop where
 nought:w=0->w'=0/\p'=0
 same:w≠0->∃v:Nat,w=w'*2^v/\p'=p+v/\w'%2=1
variable{p w' p':Int}{n:Nat}
theorem Bare.num(b:Bare w p w' p')(h:w.natAbs<2^n):Num n w' p':=by
 by_cases hw:w=0
 ·obtain⟨rfl,rfl⟩:=b.nought hw;exact⟨.inr ⟨rfl,rfl⟩,gR n⟩
 ·obtain⟨v,e,_,ho⟩:=b.same hw;refine⟨.inl ho,?_⟩
  have:w.natAbs=w'.natAbs*2^v:=by rw[e,mr,nY];rfl
  have:w'.natAbs*1<=w'.natAbs*2^v:=sJ _ (gR v);lia
theorem Bare.pow(b:Bare w p w' p')(h:w.natAbs<2^n):(w'=0/\p'=0)\/(p<=p'/\p'<p+n):=by
 by_cases hw:w=0
 ·exact .inl (b.nought hw)
 ·obtain⟨v,e,ep,ho⟩:=b.same hw;refine .inr ⟨by lia,?_⟩
  have:w.natAbs=w'.natAbs*2^v:=by rw[e,mr,nY];rfl
  have:1*2^v<=w'.natAbs*2^v:=mQ _ (by lia)
  have:2^v<2^n:=by lia
  have:=(jcS (a:=2) (by decide)).mp this;lia
def xC:Ctr where
 pre ds:=match ds with|[.int w,.int _]=>bits w<=9000|_=>False
 res ds d:=match ds with|[.int w,.int p]=>∃w' p',d=.tup [.int w',.int p']/\Bare w p w' p'|_=>False
theorem k_bare{C:Cfg}:jQ C 3 zr xC:=by
 rintro ds h;simp only[xC]at h;split at h
 case h_2=>exact h.elim
 next w p =>
 simp_all_arith! only[zr,xC]
 by_cases hw:w=0
 ·rw[if_pos hw];exact⟨0,0,rfl,λ_=>⟨rfl,rfl⟩,λz=>absurd hw z⟩
 ·rw[if_neg hw];obtain⟨v,m,e,ho,el⟩:=Qm hw;rw[el,qq]
  have hv:v+1<=bits w:=by
   have:v<bits w:=by
    rw[yI,e,mr,nY];exact Nat.le_mul_of_pos_left _ (by lia)
   lia
  have hp:=two_pow_pos v;refine⟨⟨by lia,by lia⟩,m,p+v,?_,λz=>absurd z hw,λ_=>⟨v,e,rfl,ho⟩⟩
  have:w.fdiv (2^v)=m:=by rw[ky (by lia),e,jdW _ (by lia)]
  rw[this,show p+((v+1:Nat):Int)-1=p+v by lia]
theorem vw:(1:Int)*2^n=2^n:=jcK _
theorem num_le{x:Int}(h0:0<=x)(h:x<2^n):x.natAbs<2^n:=by
 have:(x.natAbs:Int)<2^n:=by lia
 exact_mod_cast this
def xB:Ctr where
 pre ds:=match ds with|[.int _,.int _,.int w,.int far]=>(8<=w/\w<=64)/\1<=far/\far<=5000|_=>False
 res ds d:=match ds with|[.int _,.int _,.int w,.int far]=>∃x p,d=.tup [.int x,.int p]/\Num w.toNat x p /\ -far<=p/\p<far+64|_=>False
variable{i j:Nat}
theorem jbu{C:Cfg}(h2:C.ct j=kL)(h1:C.ct i=xC):jQ C 8 (yn j i) xB:=by
 rintro ds h;simp only[xB]at h;split at h
 case h_2=>exact h.elim
 next c k w far =>
 obtain⟨⟨w1,w2⟩,f1,f2⟩:=h
 obtain⟨n,rfl⟩:∃m:Nat,w=m:=⟨w.toNat,by lia⟩
 have hn:n<=64:=by lia
 have hn8:8<=n:=by lia
 have two:(2:Int)^n<=2^64:=by exact_mod_cast mB (by decide:0<2) hn
 have two8:(2:Int)^8<=2^n:=by exact_mod_cast mB (by decide:0<2) hn8
 have sh:ShlOk 1 n:=⟨by lia,by have:bits 1=1:=by decide
                               lia⟩
 have sh':ShlOk 1 ((n:Int)-1):=⟨by lia,by have:bits 1=1:=by decide
                                          lia⟩
 have pp:=two_pow_pos n
 simp_arith! only[yn,xB,h2,kL]
 rintro d ⟨more,rfl,m0,m1⟩
 simp_arith! only[bZ,vw]
 have b1:bits (2*far+1)<=9000:=dg (xF (n:=64) (by lia) (by lia)) (by decide);have b2:bits (16*far+8)<=9000:=dg (xF (n:=64) (by lia) (by lia)) (by decide);refine⟨by decide,.inl (by decide),by lia,.inl (by decide),⟨by lia,b2⟩,sh,by lia,?_⟩;rw[jD (by decide),ky (by decide),jD (by lia),ky (by lia),jD (by lia)];generalize hp:more / 8%(2*far+1)-far=pw
 have hpw:-far<=pw/\pw<=far:=by
  have:=g7 (more / 8) (show 2*far+1≠0 by lia);have:=gV (more / 8) (show 0<2*far+1 by lia);lia
 generalize hx:more / (16*far+8)%2^n=x
 have hx0:0<=x/\x<2^n:=by
  rw[<- hx];exact⟨g7 _ (by lia),gV _ pp⟩
 generalize more%8=kind;clear hp hx
 let P:Sto->Prop:=λσ=>∃x:Int,(0<=x/\x<2^n)/\σ=[some (.sh (.int c)),some (.sh (.int k)),some (.sh (.int n)),some (.sh (.int far)),some (.sh (.int more)),some (.sh (.int kind)),some (.sh (.int pw)),some (.sh (.int x))]
 have step:∀ {e:Ex} {q:Int} {K:DE} {σ:Sto},P σ->(∀σ,P σ->wpE C e σ λd=>∃x:Int,d=.int x/\0<=x/\x<2^n) ->
  wpS C (.ite (.cmp .eq (.var 5) (.cst (.int q))) (.seq (.set 7 e) .nop) .nop) { K with nx:=P } σ:=by
  rintro e q K σ hσ he;have he':=he σ hσ;obtain⟨x,hx,rfl⟩:=hσ
  simp_all_arith! only[]
  by_cases hq:kind=q
  ·rw[if_pos hq];refine ja e ?_ he';rintro d ⟨y,rfl,hy⟩;exact⟨y,hy,rfl⟩
  ·rw[if_neg hq];exact⟨x,hx,rfl⟩
 refine jV P (step ⟨x,hx0,rfl⟩ ?_) ?_
 ·rintro σ ⟨x,hx,rfl⟩
  simp_all_arith! only[]
  rw[ky (by decide),jD (by decide)];obtain⟨d,e,hd⟩:=z9 (xs:=[.int 0,.int 1,.int 3]) (i:=more / 64%3) (by lia) (by simp;lia);refine⟨by decide,d,e,?_⟩;simp only[bD,bM,or_false]at hd
  rcases hd with rfl|rfl|rfl<;>exact⟨_,rfl,by lia,by lia⟩
 intro σ hσ;refine jV P (step hσ ?_) ?_
 ·rintro σ ⟨x,hx,rfl⟩
  simp_all_arith! only[bZ,vw]
  exact⟨sh,_,rfl,by lia,by lia⟩
 intro σ hσ;refine jV P (step hσ ?_) ?_
 ·rintro σ ⟨x,hx,rfl⟩
  simp_all_arith! only[vw]
  have e:((n:Int)-1).toNat=n-1:=by lia
  have e2:(2:Int)^n=2*2^(n-1):=by
   conv=>lhs;rw[show n=(n-1)+1 by lia,pj]
   lia
  have:=two_pow_pos (n-1);rw[e];exact⟨sh',_,rfl,by lia,by lia⟩
 intro σ hσ;refine jV P (step hσ ?_) ?_
 ·rintro σ ⟨x,hx,rfl⟩
  simp_all_arith! only[bZ,vw]
  rw[jD (by lia)];exact⟨sh,by lia,_,rfl,g7 _ (by lia),gV _ pp⟩
 intro σ hσ;refine jV P (step hσ ?_) ?_
 ·rintro σ ⟨x,hx,rfl⟩
  simp_all_arith! only[]
  rw[jD (by lia)];exact⟨_,rfl,by lia,by lia⟩
 rintro σ ⟨x,hx,rfl⟩
 simp_all_arith! only[h1,xC,bZ]
 rw[ky (by decide),jD (by decide)]
 have fin:∀y:Int,y.natAbs<2^n->bits y<=9000/\∀d,(∃w' p',d=D.tup [.int w',.int p']/\Bare y pw w' p')->∃x p,d=.tup [.int x,.int p]/\Num n x p /\ -far<=p/\p<far+64:=by
  intro y hy;refine⟨dg (jk.mpr hy) (by lia),?_⟩;rintro d ⟨w',p',rfl,hb⟩;refine⟨w',p',rfl,hb.num hy,?_⟩
  rcases hb.pow hy with⟨_,rfl⟩|⟨_,_⟩<;>lia
 refine⟨by decide,?_⟩;have hx2:=num_le hx.1 hx.2;by_cases hs:more / 16%2=1
 ·rw[if_pos hs];exact fin (0-x) (by lia)
 ·rw[if_neg hs];exact fin x hx2
def isInt:D->Bool
 |.int _=>true
 |_=>false
def qW:Ctr where
 pre ds:=match ds with|[_]=>True|_=>False
 res ds d:=match ds with|[x]=>d=.bl (isInt x)|_=>False
theorem k_whole{C:Cfg}:jQ C 1 yM qW:=by
 rintro ds h;simp only[qW]at h;split at h
 case h_2=>exact h.elim
 next x =>
 cases x<;>simp_all_arith! only[yM,qW,isInt]
def kH:Ctr where
 pre ds:=match ds with|[.int a,.int b]=>bits a<=9000/\bits b<=9000|_=>False
 res ds d:=match ds with|[.int a,.int b]=>d=.int (gY a b)|_=>False
theorem YJ(i:Int):(if i<0 then -i else i)=i.natAbs:=by split<;>lia
theorem jbG{C:Cfg}:jQ C 3 yx kH:=by
 rintro ds h;simp only[kH]at h;split at h
 case h_2=>exact h.elim
 next a b =>
 simp_all_arith! only[yx,kH,YJ]
 refine Qx (λσ=>∃(x y:Nat) (o:Option Sl),(jeA x y=gY a b/\bits (x:Int)<=9000/\bits (y:Int)<=9000)/\σ=[some (.sh (.int x)),some (.sh (.int y)),o]) (λσ=>(Q5 σ 1).toNat) ?_ ?_
 ·exact⟨_,_,_,⟨rfl,by rw[vO];exact h.1,by rw[vO];exact h.2⟩,rfl⟩
 ·rintro σ ⟨x,y,o,⟨hg,hx,hy⟩,rfl⟩
  simp_all_arith! only[Q5]
  by_cases h0:y=0
  ·subst h0;simp only[jee]at hg;simp[hg]
  ·rw[if_pos (by lia)];rw[ky (by lia)]
   have e:(x:Int)-x / y*y=((x%y:Nat):Int):=by
    have:=Int.emod_def (x:Int) y;rw[mO]at this;rw[<- this];simp
   have hb:bits ((x:Int) / y)<=9000:=dg (zb (by lia)) hx;have hm:x%y<y:=jfh _ (by lia);refine⟨⟨by lia,hy⟩,jH (by lia),?_⟩;rw[e];refine⟨by lia,y,x%y,_,⟨?_,hy,?_⟩,rfl⟩
   ·rw[jco,<- je0,jco];exact hg
   ·refine dg (ku ?_) hy;lia
def zK:Ctr where
 pre ds:=∃(ns:List Int) (k:Int),ds=[.lst (ns.map .int),.int k]/\ns.length<=63/\0<=k
 res ds d:=∃i,d=.int i/\8<=i/\i<=64
theorem k_width{C:Cfg}(h1:C.ct i=kL)(h2:C.ct j=yu):jQ C 2 (yE i j) zK:=by
 rintro ds ⟨ns,k,rfl,hl,hk⟩
 simp_all_arith! only[yE,zK,h1,h2,yu,kL]
 have pc:∃(ns':List Int) (k':Int),[.lst (ns.map .int),.int k]=[D.lst (ns'.map .int),.int k']/\ns'.length<=63/\0<=k':=⟨ns,k,rfl,hl,hk⟩
 refine⟨pc,?_⟩;rintro d ⟨c,rfl⟩
 simp_all_arith! only[]
 rintro d ⟨m,rfl,m0,m1⟩
 simp_all_arith! only[]
 refine⟨pc,?_⟩;rintro d ⟨c,rfl⟩
 simp_all_arith! only[]
 rintro d ⟨m',rfl,m0',m1'⟩
 simp_all_arith! only[]
 rw[jD (by decide),jD (by decide)];obtain⟨d,e,hd⟩:=z9 (xs:=[.int (8+m%57),.int 8,.int 53,.int 64]) (i:=m'%4) (by lia) (by simp;lia);refine⟨d,e,?_⟩;simp only[bD,bM,or_false]at hd
 rcases hd with rfl|rfl|rfl|rfl<;>exact⟨_,rfl,by lia,by lia⟩
theorem v7{P:Int->Prop}:∀(n:Nat) (lo st:Int),(∀i:Nat,i<n->P (lo+i*st))->∀d∈j3 lo st n,∃i,d=.int i/\P i
 |0,lo,st,h,d,hd=>by simp[j3]at hd
 |n+1,lo,st,h,d,hd=>by
  simp only[j3,bD]at hd;rcases hd with rfl|hd
  ·exact⟨lo,rfl,by simpa using h 0 (by lia)⟩
  ·refine v7 n (lo+st) st (λi hi=>?_) d hd;have:=h (i+1) (by lia)
   have e:lo+st+i*st=lo+((i+1:Nat):Int)*st:=by grind
   rw[e];exact this
def ux:Ctr where
 pre ds:=∃ns:List Int,ds=[.lst (ns.map .int)]/\ns.length<=63
 res ds d:=d=.bl true
variable{K:DE}{σ:Sto}
theorem for_law{C:Cfg}{b:Sm}(I:D->Prop)(P:Sto->Prop)(hx:∀d∈xs,I d)(h0:P σ)(hs:∀d σ,I d->P σ->wpS C b { K with nx:=P,ct:=P,bk:=K.nx } (setS σ i (some (.sh d))))(he:∀σ,P σ->K.nx σ) :
 forL (λK σ=>wpS C b K σ) i K xs σ :=
 kS (λds σ=>(∀d∈ds,I d)/\P σ) ⟨hx,h0⟩ (λd ds σ ⟨h1,h2⟩=>by
  refine js b ?_ (hs d σ (h1 d (bB ..)) h2)
  exact⟨λ_ p=>⟨λe he=>h1 e (bo _ he),p⟩,λ_ z=>z,λ_ z=>z,λ_ p=>⟨λe he=>h1 e (bo _ he),p⟩,λ_ z=>z,λ_ z=>z,λ_ z=>z⟩) λσ ⟨_,h2⟩=>he σ h2
theorem jbX{C:Cfg}{b:Sm}{e:Ex}(I:D->Prop)(P:Sto->Prop)(hx:wpE C e σ λd=>∃xs,itemsD d=some xs/\∀d∈xs,I d)(h0:P σ)(hs:∀d σ,I d->P σ->wpS C b { K with nx:=P,ct:=P,bk:=K.nx } (setS σ i (some (.sh d))))(he:∀σ,P σ->K.nx σ) :
 wpS C (.forE i e b) K σ:=by
 rw[yh];exact ja e (λd ⟨xs,h1,h2⟩=>⟨xs,h1,for_law I P h2 h0 hs he⟩) hx
end Z
namespace Z
open PySem PySem.Spec PyProof.Rows L2
def dum(N:List Str):Str:=⟨Array.replicate N.length 32⟩
def qw(N:List Str)(x:Str):List Str:=N.map (λy=>if y=x then dum N else y) ++ [x]
def qD(scope:Scope)(x:Str)(cl:List (Str×Addr))(C:Addr):List (Str×Addr):=if scope.names.lookup x=some .cell then (x,C+1)::cl else cl
variable{x y:Str}{cl:List (Str×Addr)}
theorem Jd{scope:Scope}{C:Addr}(h:y≠x):(qD scope x cl C).lookup y=cl.lookup y:=by
 unfold qD;split
 ·rw[gv,show (y == x)=false from beq_eq_false_iff_ne.mpr h]
 ·rfl
theorem qd{scope:Scope}{C c:Addr}(h:(qD scope x cl C).lookup y=some c):(y=x/\c=C+1/\scope.names.lookup x=some .cell)\/cl.lookup y=some c:=by
 unfold qD at h;split at h
 ·next hc =>
  by_cases e:y=x
  ·subst e;rw[gv,show (y == y)=true from beq_self_eq_true y]at h;cases h;exact .inl ⟨rfl,rfl,hc⟩
  ·rw[gv,show (y == x)=false from beq_eq_false_iff_ne.mpr e]at h;exact .inr h
 ·exact .inr h
theorem JB{scope:Scope}{C:Addr}(h:scope.names.lookup x=some .cell):(qD scope x cl C).lookup x=some (C+1):=by
 unfold qD;rw[if_pos h,gv,show (x == x)=true from beq_self_eq_true x]
theorem Qw:∀ {names:List (Str×nh)} {n:Nat} {acc:List (Str×Addr)} {h:gQ},(names.filter λy=>y.2 == .cell)=[]->we n names acc=acc/\jdT h names=h
 |[],n,acc,h,_=>⟨rfl,rfl⟩
 |(m,k)::r,n,acc,h,e=>by
  cases hk:k == sN with
  |true=>simp[se,hk]at e
  |false =>
   have e':(r.filter λy=>y.2 == .cell)=[]:=by simpa[se,hk]using e
   unfold we jdT;simp only[hk,dF,if_false];exact Qw e'
theorem VE{x:Str}:∀ {names:List (Str×nh)} {n:Nat} {acc:List (Str×Addr)} {h:gQ},(names.filter λy=>y.2 == .cell)=[(x,.cell)]->we n names acc=(x,n)::acc/\jdT h names=h.push { cls:=.type "cell",data:=.cell none }
 |[],n,acc,h,e=>by simp at e
 |(m,k)::r,n,acc,h,e=>by
  cases hk:k == sN with
  |true =>
   have e':m=x/\(r.filter λy=>y.2 == .cell)=[]:=by
    have:((m,k)::(r.filter λy=>y.2 == .cell))=[(x,.cell)]:=by rw[<- e];simp[se,hk]
    simp only[bO,wG]at this;exact⟨this.1.1,this.2⟩
   unfold we jdT;simp only[hk,if_true];obtain⟨z1,z2⟩:=Qw (n:=n+1) (acc:=(m,n)::acc) (h:=h.push { cls:=.type "cell",data:=.cell none }) e'.2;rw[z1,z2,e'.1]
   exact⟨rfl,rfl⟩
  |false =>
   have e':(r.filter λy=>y.2 == .cell)=[(x,.cell)]:=by simpa[se,hk]using e
   unfold we jdT;simp only[hk,dF,if_false];exact VE e'
theorem qT{env:Env}:∀ {names:List (Str×nh)} {x:Str},names.lookup x=some .cell ->
 (names.map λ(n,k)=>if (k == wH&&env.scope.kind == .function&&env.kindOf n == some .cell) then (n,sN) else (n,k)).lookup x=some .cell
 |[],_,h=>by simp at h
 |(n,k)::r,x,h=>by
  have ih:=@qT env r x;show List.lookup x ((if (k == wH&&env.scope.kind == .function&&env.kindOf n == some .cell)=true then (n,sN) else (n,k))::_)=_
  cases hx:x == n with
  |true =>
   simp only[gv,hx]at h;cases h
   simp[gv,hx]
  |false =>
   simp only[gv,hx]at h;by_cases hc:(k == wH&&env.scope.kind == .function&&env.kindOf n == some .cell)=true
   ·rw[if_pos hc];simp only[gv,hx];exact ih h
   ·rw[if_neg hc];simp only[gv,hx];exact ih h
variable{M:Model}{A:mq}{E Q:bq->Shared->Prop}{env:Env}
theorem XA{s:Shared}{scope:Scope}{globals:Addr}{qual:Str}{bi:Addr}{Q:Env->Shared->Prop}
 (hc:(scope.names.filter λy=>y.2 == .cell)=if scope.names.lookup x=some .cell then [(x,.cell)] else [])
 (hQ:∀h',h'.Ns s.heap.objs.size (λ_=>none)->(∀b o,s.heap.get? b=some o->h'.get? b=some o)->(scope.names.lookup x=some .cell->h'.IsCell (s.heap.objs.size+1) none) ->
  Q (newEnv scope s.heap.objs.size globals (qD scope x cl s.heap.objs.size) qual none .none (some env) bi) { s with heap:=h' }) :
 wpAny M A (newFunctionEnv scope globals cl [] qual none .none (some env) bi) Q E s:=by
 simp only[newFunctionEnv,ph,if_true];refine bh (wpAny_alloc ?_);refine bh (wpAny_layCells _ (λname kind cells=>by cases hkc:kind == sN<;>simp[hkc]) _ _ _ _ ?_);rw[show ({ s with heap:=s.heap.push { cls:=.type "dict",data:=.dict #[] } }:Shared).heap.objs.size=s.heap.objs.size+1 from tQ ..];refine bh ?_;rw[pS];refine bJ (bJ ?_)
 have old:∀b o,s.heap.get? b=some o->(s.heap.push { cls:=.type "dict",data:=.dict #[] }).get? b=some o:=λb o e=>bC _ e
 by_cases h:scope.names.lookup x=some .cell
 ·rw[if_pos h]at hc;obtain⟨e1,e2⟩:=VE (n:=s.heap.objs.size+1) (acc:=cl) (h:=s.heap.push { cls:=.type "dict",data:=.dict #[] }) hc;rw[e1,e2]
  have q:=hQ ((s.heap.push { cls:=.type "dict",data:=.dict #[] }).push { cls:=.type "cell",data:=.cell none }) ((Heap.Ns.new s.heap (.type "dict")).keeps λb o e=>bC _ e) (λb o e=>bC _ (old b o e)) λ_=>by
   have:=dJ (s.heap.push { cls:=.type "dict",data:=.dict #[] }) (o:={ cls:=.type "cell",data:=.cell none }) rfl;rw[tQ]at this;exact⟨_,this,rfl⟩
  unfold qD at q;rw[if_pos h]at q;exact q
 ·rw[if_neg h]at hc;obtain⟨e1,e2⟩:=Qw (n:=s.heap.objs.size+1) (acc:=cl) (h:=s.heap.push { cls:=.type "dict",data:=.dict #[] }) hc;rw[e1,e2]
  have q:=hQ (s.heap.push { cls:=.type "dict",data:=.dict #[] }) (Heap.Ns.new s.heap (.type "dict")) old λz=>absurd z h
  unfold qD at q;rw[if_neg h]at q;exact q
def qy(X:Cx)(s:Shared)(H:Hp)(fp:List Addr)(x:Str)(scope:Scope)(cl:List (Str×Addr))(C:Addr):Cx :=
 { X with N:=qw X.N x,s₀:=s,H₀:=H,env:=compEnvC scope (qD scope x cl C) C X.env,outer:=X.stack,stack:=X.stack,ex:=fp,fn:=λy=>decide (scope.names.lookup x=some .cell)&&decide (y=x),pn:=[],xe:=λ_ _=>False }
structure CompOk (X:Cx) (x:Str) (scope:Scope) (cl:List (Str×Addr)):Prop where
 clos:closureFor scope X.env=pure cl
 kind:scope.kind=.function
 cell:(scope.names.filter λy=>y.2 == .cell)=if scope.names.lookup x=some .cell then [(x,.cell)] else []
 names:∀y∈scope.names,y.2=.local->scope.names.lookup y.1=some .local
 loc:scope.names.lookup x=some .local\/scope.names.lookup x=some .cell
 only:∀y,(jcp scope X.env).names.lookup y=some .local->y=x\/(y ∉ X.N/\y≠(dum X.N))
 vis:∀y,y≠x->((jcp scope X.env).names.lookup y=some .cell\/(jcp scope X.env).names.lookup y=some .free)->Vis X.env.scope y/\X.env.scope.names.lookup y≠some .local/\∃c,cl.lookup y=some c
 sub:∀y c,cl.lookup y=some c->X.env.cells.lookup y=some c
 ne:x≠(dum X.N)
 noE:X.env.scope.names.lookup (dum X.N)=none
variable{i:Nat}
section
variable {X:Cx} {x:Str} {scope:Scope} {cl:List (Str×Addr)}
theorem Xu:(qw X.N x)[X.N.length]?=some x:=by
 unfold qw;rw[dO (by simp)];simp
theorem Kz(h:(qw X.N x)[i]?=some y)(hy:y≠x):i<X.N.length/\(X.N[i]?=some y\/y=(dum X.N)):=by
 unfold qw at h;by_cases hi:i<X.N.length
 ·refine⟨hi,?_⟩;rw[dz (by simpa using hi),bW,bE hi]at h;simp only[tu,gy]at h;split at h
  ·exact .inr h.symm
  ·rw[bE hi,h];exact .inl rfl
 ·exfalso;rw[dO (by simpa using hi)]at h;simp only[bj]at h;rcases jef (jcy.mp hi) with z|z
  ·rw[<- z]at h;simp at h;exact hy h.symm
  ·rw[bG (by simp;lia)]at h;cases h
theorem Kr(nd:X.N.Nodup)(he:(dum X.N) ∉ X.N)(hx:x≠(dum X.N)):(qw X.N x).Nodup:=by
 unfold qw;generalize dum X.N=dm at he hx ⊢;rw[jeB];refine⟨?_,by simp,?_⟩
 ·generalize X.N=N at nd he
  induction N with
  |nil=>simp
  |cons a r ih =>
   simp only[bD,not_or]at he;have nd':=nK.mp nd;rw[bz,nK];refine⟨?_,ih nd'.2 he.2⟩;intro hm;obtain⟨b,hb,e⟩:=bI.mp hm;by_cases h1:a=x
   ·rw[if_pos h1]at e;by_cases h2:b=x
    ·exact nd'.1 (by rw[h1,<- h2];exact hb)
    ·rw[if_neg h2]at e;exact he.2 (e ▸ hb)
   ·rw[if_neg h1]at e;by_cases h2:b=x
    ·rw[if_pos h2]at e;exact he.1 e
    ·rw[if_neg h2]at e;exact nd'.1 (e ▸ hb)
 ·intro a ha b hb;simp only[bD,bM,or_false]at hb;subst hb;obtain⟨c,hc,e⟩:=bI.mp ha;by_cases h:c=b
  ·rw[if_pos h]at e;rw[<- e];exact gX hx
  ·rw[if_neg h]at e;rw[<- e];exact h
end
variable{tk:Nat}
section
variable {X:Cx} {x:Str} {scope:Scope} {cl:List (Str×Addr)} {pins:List (Addr×nv)} {σ:L2.St} {H:Hp} {s:Shared} {fp:List Addr}
theorem comp_ok(I:Inv X pins σ H s)(co:CompOk X x scope cl)(hf:∀b∈fp,uI X pins H b){C:Addr}(hC:s.heap.objs.size<=C)(hfp:∀b∈fp,b<s.heap.objs.size):(qy X s H fp x scope cl C).Ok where
 mod:=I.ok.mod
 kind:=co.kind
 glob:=I.ok.glob
 blt:=I.ok.blt
 above:=hC
 inj:=λy z c h1 h2=>by
  have no:∀w,cl.lookup w≠some (C+1):=λw e=>by
   obtain⟨v,q⟩:=I.cell w _ (co.sub w _ e);have:=q.lt;exact absurd (dh this hC) (by lia)
  rcases qd h1 with⟨rfl,rfl,_⟩|k1
  ·rcases qd h2 with⟨rfl,_,_⟩|k2
   ·rfl
   ·exact absurd k2 (no z)
  ·rcases qd h2 with⟨rfl,rfl,_⟩|k2
   ·exact absurd k1 (no y)
   ·exact I.ok.inj y z c (co.sub y c k1) (co.sub z c k2)
 has:=λy hy=>by
  by_cases e:y=x
  ·subst e;rcases co.loc with z|z
   ·have q:(jcp scope X.env).names.lookup y=some .local:=wN z;have hy':(jcp scope X.env).names.lookup y=some .cell\/(jcp scope X.env).names.lookup y=some .free:=hy;rw[q]at hy'
    rcases hy' with r|r<;>cases r
   ·exact⟨C+1,JB z⟩
  ·obtain⟨c,hc⟩:=(co.vis y e hy).2.2;exact⟨c,(Jd e).trans hc⟩
 cab:=λy c h e=>by
  have h:(decide (scope.names.lookup x=some .cell)&&decide (y=x))=true:=h;simp only[bg,decide_eq_true_eq]at h;obtain⟨h1,rfl⟩:=h;have e:(qD scope y cl C).lookup y=some c:=e;rw[JB h1]at e;cases e;show s.heap.objs.size<=C+1;lia
 hd:=I.ok.hd
 frames:=I.ok.frames
 stk:=.inl rfl
 exf:=λb hb=>⟨λe=>by have:=hfp b hb;rw[e]at this;exact absurd (dh this hC) (gG _),λy c h=>by
  rcases qd h with⟨_,rfl,_⟩|h
  ·have:=hfp b hb;intro z;rw[<- z]at this;exact absurd (dh this hC) (by lia)
  ·exact(hf b hb).2.2.2.2.1 y c (co.sub y c h)⟩
 bs:=I.bs
 bsz:=dg I.ok.bsz I.sz
 noex:=λb o e hb=>by
  rcases(hf b hb).2.2.2.1 with z|z
  ·exact I.ok.noex b o e z
  ·exact absurd (dh (bN e) (dg I.ok.bsz z)) (gG _)
 exfs:=λb hb hb'=>by
  rcases bD.mp (I.stkSub b hb') with z|z
  ·exact(hf b hb).2.1 z
  ·exact(hf b hb).2.2.1 z
 funs:=I.stack
 frf:=I.stkFree
theorem jbn(I:Inv X pins σ H s)(co:CompOk X x scope cl)(hf:∀b∈fp,uI X pins H b){C:Addr}{h':gQ}{m:Str->Option bq}(hC:s.heap.objs.size<=C)(hfp:∀b∈fp,b<s.heap.objs.size)
 (hk:∀b o,s.heap.get? b=some o->h'.get? b=some o) (hn:h'.Ns C m) (hce:scope.names.lookup x=some .cell->∃v,h'.IsCell (C+1) v):Inv (qy X s H fp x scope cl C) [] (σ ++ [none]) H { s with heap:=h',toks:=tk } where
 ok:=comp_ok I co hf hC hfp
 os:=rfl
 bare:=I.bare
 base:=Un.kept hk
 loc:=by
  refine⟨m,hn,λi y v h1 h2 h3=>?_⟩
  have hi:i<σ.length:=by
   rcases bU i σ.length with z|z
   ·exact z
   ·rw[dO z]at h2;rcases jef z with y|y
    ·rw[<- y]at h2;simp at h2
    ·rw[bG (by simp;lia)]at h2;cases h2
  rw[dz hi]at h2;by_cases hyx:y=x
  ·exfalso;subst hyx;have h1':(qw X.N y)[i]?=some y:=h1;unfold qw at h1'
   have hi':i<X.N.length:=by rw[<- I.len];exact hi
   rw[dz (by simpa using hi'),bW,bE hi']at h1';simp only[tu,gy]at h1';split at h1'
   ·exact co.ne h1'.symm
   ·next hne=>exact hne h1'
  ·have hvis:(jcp scope X.env).names.lookup y=some .cell\/(jcp scope X.env).names.lookup y=some .free:=by
    rcases h3 with z|z|z
    ·rcases co.only y z with q|⟨q1,q2⟩
     ·exact absurd q hyx
     ·exfalso;rcases(Kz h1 hyx).2 with r|r
      ·exact q1 (gq r)
      ·exact q2 r
    ·exact .inl z
    ·exact .inr z
   obtain⟨v1,v2,c,hc⟩:=co.vis y hyx hvis;obtain⟨_,hN|hN⟩:=Kz h1 hyx
   ·obtain⟨m0,hn0,hl⟩:=I.loc;obtain⟨u,r,l⟩:=hl i y v hN h2 v1;refine⟨u,r,.inr ⟨hvis,c,(Jd hyx).trans hc,?_⟩⟩;rcases l with⟨k,_⟩|⟨_,c',hc',z⟩
    ·exact absurd k v2
    ·rw[co.sub y c hc]at hc';cases hc';obtain⟨o,ho,hd⟩:=z;exact⟨o,hk c o ho,hd⟩
   ·exfalso;subst hN
    rcases v1 with z|z|z<;>(rw[co.noE]at z;cases z)
 cell:=λy c h=>by
  rcases qd h with⟨_,rfl,z⟩|h
  ·exact hce z
  ·obtain⟨v,o,ho,hd⟩:=I.cell y c (co.sub y c h);exact⟨v,o,hk c o ho,hd⟩
 free:=I.hok.fresh hC
 freeC:=λy c h=>by
  rcases qd h with⟨_,rfl,_⟩|h
  ·exact I.hok.fresh (dg hC (je1 _))
  ·exact I.freeC y c (co.sub y c h)
 pin:=λp hp=>nomatch hp
 hok:=I.hok.kept hk
 len:=by
  show (σ ++ [none]).length=(qw X.N x).length;unfold qw;simp[I.len]
end
def tests(ifs:List Expr)(env:Env):Sem Bool:=forIn ifs true λc r=>if r=true then do let ok <- isTrue c env (eval c env);pure (je6 ok) else pure (je6 r)
def PTs(X:Cx)(ifs:List Expr)(t:TT):Prop:=∀(pins:List (Addr×nv)) (s:Shared) (σ:L2.St) (H:Hp) (Q:Bool->Hp->Prop),Inv X pins σ H s->t σ H Q->wpAny (model X.prog X.w) X.A (tests ifs X.env) (TP X pins σ Q) X.xe s
variable{X:Cx}
theorem qH:PTs X [] λ_ H Q=>Q true H:=λ_ _ _ H _ I h=>bJ ⟨H,I,h⟩
theorem vB{c:Expr}{t:TT}(h:PT X c t):PTs X [c] t:=λpins s σ H Q I w=>wpAny_tests_one (h pins s σ H Q I w)
variable{elt iter:Expr}{ifs:List Expr}{pos:Pos}{it:bq}
section
variable {prog:dW} {w:World} {A:mq} {R:Result->Shared->Prop} {s:Shared}
theorem VA{target:Expr}{scope:Scope}{acc:bq}(I:Nat->Shared->Prop)
 (turn:∀n s,I n s->wpAny (model prog w) A (pyNext it) (λr s₁=>match r with
  |none=>R (.ok .next) s₁
  |some v=>wpAny (model prog w) A (pE target it v) (λ_ s₁=>wpAny (model prog w) A (assign target env v) (λ_ s₂=>wpAny (model prog w) A (tests ifs env) (λok s₃ =>
   if ok=true then wpAny (model prog w) A (eval elt env) (λx s₃ =>
    wpAny (model prog w) A (call (.builtin "list.append") [acc,x]) (λ_ s₄=>∃m,m<n/\I m s₄) (λ_ _=>False) s₃) (λ_ _=>False) s₃
   else ∃m,m<n/\I m s₃) (λ_ _=>False) s₂) (λ_ _=>False) s₁) (λ_ _=>False) s₁) (λ_ _=>False) s)
 (n:Nat) (h:I n s):wF (model prog w) A (.compLoop (.ListComp elt [⟨target,iter,ifs,0⟩] scope pos) 0 it acc env) R s:=by
 refine codeAny_loop rfl I (λn s hI=>?_) n h;show wpAny _ _ ((compTurn (.ListComp elt [⟨target,iter,ifs,0⟩] scope pos) 0 it acc env).onRaise (λx=>do jc0 x env;theTreesLotGoes x)) _ _ s;refine wpAny_noted ?_;rw[compTurn_list];refine bh (pK (bh (gA (turn n s hI) (λr s₁ h₁=>?_) λ_ _ z=>z.elim)))
 cases r with
 |none=>exact bJ h₁
 |some v =>
  refine bh (gA h₁ (λ_ s₂ h₂=>bh (gA h₂ (λ_ s₃ h₃=>bh (gA h₃ (λok s₄ h₄=>?_) λ_ _ z=>z.elim)) λ_ _ z=>z.elim)) λ_ _ z=>z.elim)
  cases ok with
  |false=>exact bJ ⟨rfl,h₄⟩
  |true=>exact bh (bh (gA h₄ (λx s₄ h₄=>bh (gA h₄ (λ_ s₅ h₅=>bJ (bJ ⟨rfl,h₅⟩)) λ_ _ z=>z.elim)) λ_ _ z=>z.elim))
end
def yD(wi:TI)(tt:TT)(te:TE):TE:=λσ H Q=>wi σ H λJ H1=>∃W:Nat->Nat->List V->Hp->Prop,(∃m,W 0 m [] H1)/\∀i m ys H,W i m ys H ->
 (J.stop i H/\ys.length<=sizeLine/\∀p,H p=none->Q (.ref p) (upd H p (.lst ys)))\/(J.go i H/\ys.length<sizeLine/\∀x H',J.yld i H x H'->tt (σ ++ [some x]) H' λb H1 =>
  if b=true then te (σ ++ [some x]) H1 λy H2=>∃m',m'<m/\W (i+1) m' (ys ++ [y]) H2 else ∃m',m'<m/\W (i+1) m' ys H1)
def tYes:TT:=λ_ H Q=>Q true H
abbrev tComp(wi:TI)(te:TE):TE:=yD wi tYes te
variable{px:Pos}{wi:TI}{tt:TT}{te:TE}{pins:List (Addr×nv)}{σ:L2.St}{H:Hp}
section
variable {X:Cx} {x:Str} {scope:Scope} {cl:List (Str×Addr)}
theorem Kg{use:Option (bq->Sem Unit)}{Qf:VK}{Qv:bq->Shared->Prop}{s:Shared}(hc:X.calm=true)(nd:X.N.Nodup)(hE:(dum X.N) ∉ X.N)(co:CompOk X x scope cl)(hi:PI X (.Name x px) iter wi)
 (ht:∀s H fp C,PTs (qy X s H fp x scope cl C) ifs tt) (he:∀s H fp C,PE (qy X s H fp x scope cl C) elt te) (hs:∀v,mS iter X.env v=pure v) (I:Inv X pins σ H s) (h:yD wi tt te σ H Qf)
 (fin:∀(D C:Addr) (H':Hp) (s4:Shared) (m:Str->Option bq),Inv X pins σ H' s4->s4.heap.Ns C m->uI X pins H' C->Qf (.ref D) H'->compPost (model X.prog X.w) X.A X.xe use Qv (.ref D) C (.ok .next) s4) :
 wpAny (model X.prog X.w) X.A (comprehension (.ListComp elt [⟨.Name x px,iter,ifs,0⟩] scope pos) scope X.env (firstIterPos [⟨.Name x px,iter,ifs,0⟩] pos) (newList []) (firstAsync [⟨.Name x px,iter,ifs,0⟩]) (firstIter [⟨.Name x px,iter,ifs,0⟩] X.env) use) Qv X.xe s:=by
 refine wpAny_comprehension_free (g:=⟨.Name x px,iter,ifs,0⟩) (gs:=[]) rfl hs co.clos co.kind co.names ?_
 refine thn (hi pins s σ H _ I h) λv s1 h1=>thn h1 λitv s2 h2=>?_
 obtain⟨it,fp,tn,J,H2,e,I2,T,st2,f2,W,⟨m0,w0⟩,turn⟩:=h2;subst e
 have hfp:∀b∈fp,b<s2.heap.objs.size:=λb hb=>by
  obtain⟨o,e,_⟩:=T.obj _ _ st2 b hb;exact bN e
 refine jcL (XA (x:=x) co.cell λh₁ hns₁ hsb₁ hce₁=>?_);dsimp only at hns₁ hsb₁ hce₁ ⊢;generalize hG:s2.heap.push { cls:=.type "list",dict:=none,data:=.seq ([]:List bq).toArray }=G at hns₁ hsb₁ hce₁ ⊢
 have hCs:G.objs.size=s2.heap.objs.size+1:=by rw[<- hG,tQ]
 obtain⟨D,hD⟩:∃D:Addr,s2.heap.objs.size=D:=⟨_,rfl⟩
 obtain⟨C,hC⟩:∃C:Addr,G.objs.size=C:=⟨_,rfl⟩
 rw[hD]at hCs;rw[hD];rw[hC]at hCs hns₁ hce₁ ⊢
 have hDC:D≠C:=by rw[hCs];exact gN (wm _)
 have old:∀b o,s2.heap.get? b=some o->h₁.get? b=some o:=λb o e=>hsb₁ b o (hG ▸ bC _ e)
 have hacc:h₁.PlainList D #[]:=⟨_,hsb₁ _ _ (hG ▸ (hD ▸ dJ s2.heap rfl))⟩
 let X':=qy X s2 H2 fp x scope cl C
 have hCle:s2.heap.objs.size<=C:=by rw[hD,hCs];exact je1 _
 have I3:Inv X' [] (σ ++ [none]) H2 { s2 with heap:=h₁ }:=jbn I2 co f2 hCle hfp old hns₁ λz=>⟨_,hce₁ z⟩
 have ndX:X'.N.Nodup:=Kr nd hE co.ne
 have hDL:D≠X.env.locals:=by rw[<- hD];exact pd I2.lt
 have hDf:D ∉ frs X.stack:=λhb=>by
  rcases bD.mp (I2.stkSub D hb) with z|z
  ·exact hDL z
  ·exact I2.nofs (jdg hD) z
 have hDfp:D ∉ fp:=λhb=>by have:=hfp D hb;rw[hD]at this;exact absurd this (gG _)
 have hDc:∀y c,(qD scope x cl C).lookup y=some c->c≠D:=λy c e z=>by
  rcases qd e with⟨_,e,_⟩|e
  ·rw[e,hCs]at z;have z:(D+1+1:Nat)=D:=z;lia
  obtain⟨v,q⟩:=I2.cell y c (co.sub y c e);have:=q.lt;rw[z,<- hD]at this;exact absurd this (gG _)
 have stat:∀ {H':Hp} {ob:nv},(∀b∈fp,H' b=none)->∀b∈fp,uI X' [(D,ob)] H' b:=λ{H' ob} hn b hb=>by
  obtain⟨g0,g1,g2,g3,g4,g5⟩:=f2 b hb;refine⟨hn b hb,λz=>?_,λz=>?_,.inl hb,λy c e=>?_,λp hp z=>?_⟩
  rotate_left 2
  ·rcases qd e with⟨_,rfl,_⟩|e
   ·have:=hfp b hb;intro z;rw[<- z]at this;exact absurd (dh this hCle) (by lia)
   ·exact g4 y c (co.sub y c e)
  rotate_left
  ·have:=hfp b hb;rw[show b=C from z]at this;exact absurd (dh this hCle) (gG _)
  ·rcases bD.mp (I2.stkSub b z) with y|y
   ·exact g1 y
   ·exact g2 y
  ·have hp':p=(D,ob):=by simpa[X',qy]using hp
   subst hp';have z':D=b:=z;exact hDfp (z' ▸ hb)
 have pinD:∀ {τ:L2.St} {H':Hp} {s':Shared} {n:Nat} {us:List bq},Inv X' [] τ H' s'->s'.heap.get? D=some { cls:=.type "list",data:=.seq us.toArray n }->H' D=none->Inv X' [(D,{ cls:=.type "list",data:=.seq us.toArray n })] τ H' s':=λ{τ H' s' n us} J e hn =>
  J.pins_of λp hp=>by
   have hp':p=(D,{ cls:=.type "list",data:=.seq us.toArray n }):=by simpa using hp
   subst hp';exact⟨e,hn,hDC,hDf,λv z=>by cases z⟩
 have loop:wF (model X.prog X.w) X.A (.compLoop (.ListComp elt [⟨.Name x px,iter,ifs,0⟩] scope pos) 0 (.ref it) (.ref D) (compEnvC scope (qD scope x cl C) C X.env))
  (compPost (model X.prog X.w) X.A X.xe use Qv (.ref D) C) { s2 with heap:=h₁ }:=by
  refine VA (λn s'=>∃(i:Nat) (o:Option V) (ys:List V) (us:List bq) (H':Hp),Inv X' [] (σ ++ [o]) H' s'/\tn i s'.heap/\(∀b∈fp,H' b=none)/\s'.heap.PlainList D us.toArray/\jJ ys us/\H' D=none/\W i n ys H') ?_ m0
   ⟨0,none,[],[],H2,I3,T.keep _ _ _ st2 λb hb o e=>old b o e,λb hb=>(f2 b hb).1,hacc,.nil,I2.hok.fresh (jdg hD),w0⟩
  rintro n s3 ⟨i,o3,ys,us,H3,J3,st3,fr3,⟨n3,pl3⟩,vl3,hD3,w3⟩;have J3':=pinD J3 pl3 hD3;rcases turn i n ys H3 w3 with⟨stop,hl,q⟩|⟨go,hl,step⟩
  ·refine gA (T.done X' rfl rfl rfl hc i _ s3 _ H3 (λ_ _=>False) J3' (stat fr3) st3 stop) (λr s4 ⟨hr,J4⟩=>?_) λ_ _ z=>z
   subst hr;obtain⟨m4,hn4,_⟩:=J4.loc;have eD:s4.heap.get? D=some { cls:=.type "list",data:=.seq us.toArray n3 }:=(J4.pin _ (bR _ (bB ..))).1
   have nC:∀b o,s2.heap.get? b=some o->b≠C:=λb o e z=>by
    have:=bN e;rw[z]at this;exact absurd (dh this hCle) (gG _)
   have nD:∀b o,s2.heap.get? b=some o->b≠D:=λb o e z=>by
    have:=bN e;rw[z,hD]at this;exact absurd this (gG _)
   have tD:∀b u,H3 b=some u->b≠D:=λb u e=>qa e hD3
   have hCn:H3 C=none:=J4.free;have U4:Un (frs X.stack) fp H2 H3 s2.heap s4.heap:=J4.base
   have U:Un (frs X.stack) fp H2 (upd H3 D (.lst ys)) s2.heap s4.heap:={
    keep:=λb o e hn hb hx=>U4.keep b o e hn hb hx
    slot:=λb o e hn hb hx=>by
     obtain⟨sl,q⟩:=U4.slot b o e hn hb hx;exact⟨sl,q⟩
    free:=λb o e hn hx=>by rw[jh (nD b o e)];exact U4.free b o e hn hx
    there:=λb o e hx=>by
     obtain⟨o',q⟩:=U4.there b o e hx;exact⟨o',q⟩
    tups:=λb xs e=>by have:=U4.tups b xs e;rw[jh (tD b _ this)];exact this
    frzs:=λb o u e=>by have:=U4.frzs b o u e;rw[jh (tD b _ this)];exact this
    tbls:=λb ps e=>by
     obtain⟨more,this⟩:=U4.tbls b ps e
     exact⟨more,by rw[jh (tD b _ this)];exact this⟩ }
   have K:HOk X.prog X.w (upd H3 D (.lst ys)) s4.heap:=λb u e=>by
    by_cases hb:b=D
    ·subst hb;rw[jm]at e;cases e;exact⟨hl,us,n3,vl3,eD⟩
    ·rw[jh hb]at e
     exact(J4.hok b u e).stay (λc v hc q=>q) (λc z=>by rw[jh (tD c _ z)];exact z) λc xs z=>by rw[jh (tD c _ z)];exact z
   have I4:Inv X pins σ (upd H3 D (.lst ys)) s4:=I2.call' J4.os U K J4.bare λb hb=>by
    obtain⟨g0,g1,g2,g3,g4,g5⟩:=f2 b hb;exact⟨g3,g1,g4,g5⟩
   exact fin D C _ s4 m4 I4 hn4 (I2.fpOk hCle (by rw[jh (gX hDC)];exact hCn)) (q D hD3)
  ·refine gA (T.item X' rfl rfl rfl hc i _ s3 _ H3 (λ_ _=>False) J3' (stat fr3) st3 go) (λr s4 ⟨u,hr,h4⟩=>?_) λ_ _ z=>z
   subst hr
   refine gA h4 (λ_ s5 ⟨xv,H5,J5,r5,y5,st5,fr5⟩=>?_) λ_ _ z=>z
   have J5':=J5.pinned (stat fr5) (T.obj _ _ st5);have hlen:σ.length=X.N.length:=I2.len;refine jcJ (um J5' ndX (i:=X.N.length) Xu (co.loc.elim (λz=>.inl (wN z)) λz=>.inr (qT z)) r5 (λs6 J6=>?_) (co.loc.elim (λz=>.inr (wN z)) λz=>.inl (by show (decide (scope.names.lookup x=some .cell)&&decide (x=x))=true;simp[z])))
   have eσ:(σ ++ [o3]).set X.N.length (some xv)=σ ++ [some xv]:=by rw[<- hlen];simp
   rw[eσ]at J6
   refine thn (ht s2 H2 fp C _ s6 _ H5 _ J6 (step xv H5 y5)) λb s6 ⟨H6,J6,w6⟩=>?_
   cases b with
   |false =>
    obtain⟨m',hm,w7⟩:=w6;have pD:=J6.pin (D,_) (bR _ (dI _ (bB ..)));refine⟨m',hm,i+1,some xv,ys,us,H6,J6.pins_of λp hp=>(nomatch hp),T.keep _ _ _ st5 λb hb o e=>(J6.pin (b,o) (bR _ (bR _ (qF hb e)))).1,λb hb=>?_,⟨n3,pD.1⟩,vl3,pD.2.1,w7⟩;obtain⟨o,e,_⟩:=T.obj _ _ st5 b hb
    exact(J6.pin (b,o) (bR _ (bR _ (qF hb e)))).2.1
   |true =>
   refine thn (he s2 H2 fp C _ s6 _ H6 _ J6 w6) λy s7 ⟨yv,H7,J7,r7,m',hm,w7⟩=>?_
   have pD:=J7.pin (D,_) (bR _ (dI _ (bB ..)))
   have pl7:s7.heap.PlainList D us.toArray:=⟨n3,pD.1⟩
   have hsz:us.toArray.size<=sizeLine:=by have:=vl3.length;simp;lia
   refine wpAny_list_append_plain (hsz:=hsz) pl7 λh₈ pl8 sb8=>?_
   refine⟨m',hm,i+1,some xv,ys ++ [yv],us ++ [y],H7,?_,?_,?_,?_,vl3.append (.cons r7 .nil),pD.2.1,w7⟩
   ·have J7':Inv X' [] (σ ++ [some xv]) H7 s7:=J7.pins_of λp hp=>nomatch hp
    exact J7'.turned (t':=s7.toks) (it:=D) (λb o hb e=>(sb8.2 b hb).trans e) pD.2.1 hDC (.inr (jdg hD)) hDc λp hp=>nomatch hp
   ·refine T.keep _ _ _ st5 λb hb o e=>?_
    have:=(J7.pin (b,o) (bR _ (bR _ (qF hb e)))).1;exact(sb8.2 b λz=>hDfp (z ▸ hb)).trans this
   ·intro b hb;obtain⟨o,e,_⟩:=T.obj _ _ st5 b hb;exact(J7.pin (b,o) (bR _ (bR _ (qF hb e)))).2.1
   ·have e:(us ++ [y]).toArray=us.toArray.push y:=by simp
    rw[e];exact pl8
 exact codeAny_compStart_list loop (T.self _ _ _ _ _ (T.keep _ _ _ st2 λb hb o e=>old b o e) loop)
theorem xJ(hc:X.calm=true)(nd:X.N.Nodup)(hE:(dum X.N) ∉ X.N)(co:CompOk X x scope cl)(hi:PI X (.Name x px) iter wi)
 (ht:∀s H fp C,PTs (qy X s H fp x scope cl C) ifs tt) (he:∀s H fp C,PE (qy X s H fp x scope cl C) elt te) (hs:∀v,mS iter X.env v=pure v):PE X (.ListComp elt [⟨.Name x px,iter,ifs,0⟩] scope pos) (yD wi tt te):=by
 intro pins s σ H Q I h;rw[eval_ListComp]
 refine Kg hc nd hE co hi ht he hs I h λD C H' s4 m I4 hn hC q=>?_
 obtain⟨g0,g1,g2,g3,g4,g5⟩:=hC;exact⟨m,hn,λh' sb=>⟨.ref D,H',I4.turned (t':=s4.toks) (λb o hb e=>(sb.2 b hb).trans e) g0 g1 g3 g4 g5,rfl,q⟩⟩
theorem KG{py spos:Pos}(hc:X.calm=true)(nd:X.N.Nodup)(hE:(dum X.N) ∉ X.N)(co:CompOk X x scope cl)(hi:PI X (.Name x px) iter wi)
 (ht:∀s H fp C,PTs (qy X s H fp x scope cl C) ifs tt) (he:∀s H fp C,PE (qy X s H fp x scope cl C) elt te) (hs:∀v,mS iter X.env v=pure v)
 (hsw:pY (.ListComp elt [⟨.Name x px,iter,ifs,0⟩] scope pos) (some (.Name y py)) spos.line X.env=pure true) (hy:X.N[i]?=some y) (hl:L2.Loc X.env.scope y) (hf:X.fn y=true\/X.env.scope.names.lookup y=some .local) :
 PS X (.Assign [.Name y py] (.ListComp elt [⟨.Name x px,iter,ifs,0⟩] scope pos) spos) (λD σ H=>yD wi tt te σ H λv H'=>D.nx (σ.set i (some v)) H'):=by
 intro pins s σ H D I h;rw[exec_Assign_Name_used _ _ _ _ hsw];refine bh (pK (bh ?_));show wpAny _ X.A (do let _ <- comprehension (.ListComp elt [⟨.Name x px,iter,ifs,0⟩] scope pos) scope X.env (firstIterPos [⟨.Name x px,iter,ifs,0⟩] pos) (newList []) (firstAsync [⟨.Name x px,iter,ifs,0⟩]) (firstIter [⟨.Name x px,iter,ifs,0⟩] X.env) (some (assign (.Name y py) X.env))) _ _ s;refine bh (gA (Kg (Qv:=λ_ s'=>SP X pins D .next s') hc nd hE co hi ht he hs I h λDa C H' s4 m I4 hn hC q=>?_) (λ_ s' hq=>bJ (bJ hq)) λ_ _ z=>z);refine jcJ (Kl I4 nd hy hl (v:=.ref Da) rfl (λs5 I5 ⟨a,sb,ha⟩=>?_) hf);obtain⟨g0,g1,g2,g3,g4,g5⟩:=hC
 have haC:a≠C:=by
  rcases ha with z|z
  ·rw[z];exact gX g1
  ·exact g4 y a z
 refine⟨m,hn.sameBut sb (gX haC),λh' sb'=>?_⟩;exact⟨_,H',I5.turned (t':=s5.toks) (λb o hb e=>(sb'.2 b hb).trans e) g0 g1 g3 g4 g5,q⟩
end
def je(H:Hp)(O:List Addr):Hp:=λa=>if a∈O then none else H a
theorem jg(H:Hp)(O:List Addr):jf (je H O) H:=λb o h=>by
 unfold je at h;split at h
 ·cases h
 ·exact h
variable{H':Hp}{O:List Addr}
theorem jd(e:jf H H'):jf (je H O) (je H' O):=λb o h=>by
 unfold je at *;split at h
 ·cases h
 ·next hb=>rw[if_neg hb];exact e b o h
theorem jC{O':List Addr}(e:∀a∈O',a∈O):jf (je H O) (je H O'):=λb o h=>by
 unfold je at *;split at h
 ·cases h
 ·next hb=>rw[if_neg λz=>hb (e b z)];exact h
variable{a:Addr}
theorem j8(h:a ∉ O):je H O a=H a:=by unfold je;rw[if_neg h]
variable{K:bp}{xs:List D}
theorem qm{xs:List V}(e:jf H H')(h:SqT K H a xs):SqT K H' a xs:=by
 rcases h with(h|⟨o,h⟩)|h
 ·exact .inl (.inl (e _ _ h))
 ·exact .inl (.inr ⟨o,e _ _ h⟩)
 ·exact .inr h
mutual
noncomputable def Is(K:bp)(S:Hp):D->V->Prop
 |.non,v=>v=.non
 |.bl b,v=>v=.bl b
 |.int i,v=>v=.int i
 |.str x,v=>v=.str x/\pq x=true
 |.tup xs,v=>∃a vs,v=.ref a/\SqT K S a vs/\Iss K S xs vs
 |.lst xs,v=>∃a vs,v=.ref a/\SqL K S a vs/\Iss K S xs vs
noncomputable def Iss(K:bp)(S:Hp):List D->List V->Prop
 |[],vs=>vs=[]
 |d::ds,vs=>∃v r,vs=v::r/\Is K S d v/\Iss K S ds r
end
variable{vs:List V}
section
variable {K:bp} {S S':Hp}
mutual
theorem Is.mono(e:jf S S'):∀(d:D) {v:V},Is K S d v->Is K S' d v
 |.non,v,h=>by unfold Is at *;exact h
 |.bl b,v,h=>by unfold Is at *;exact h
 |.int i,v,h=>by unfold Is at *;exact h
 |.str x,v,h=>by unfold Is at *;exact h
 |.tup xs,v,h=>by
  unfold Is at *;obtain⟨a,vs,h1,h2,h3⟩:=h
  exact⟨a,vs,h1,qm e h2,Iss.mono e xs h3⟩
 |.lst xs,v,h=>by
  unfold Is at *;obtain⟨a,vs,h1,h2,h3⟩:=h;exact⟨a,vs,h1,e.seq h2,Iss.mono e xs h3⟩
theorem Iss.mono(e:jf S S'):∀(ds:List D) {vs:List V},Iss K S ds vs->Iss K S' ds vs
 |[],vs,h=>by unfold Iss at *;exact h
 |d::ds,vs,h=>by
  unfold Iss at *;obtain⟨v,r,h1,h2,h3⟩:=h;exact⟨v,r,h1,Is.mono e d h2,Iss.mono e ds h3⟩
end
theorem Iss.length:∀ {ds:List D} {vs:List V},Iss K S ds vs->vs.length=ds.length
 |[],vs,h=>by unfold Iss at h;subst h;rfl
 |d::ds,vs,h=>by
  unfold Iss at h;obtain⟨v,r,rfl,_,h3⟩:=h;simp[Iss.length h3]
theorem Iss.get:∀ {ds:List D} {vs:List V} {i:Nat} {d:D},Iss K S ds vs->ds[i]?=some d->∃v,vs[i]?=some v/\Is K S d v
 |[],vs,i,d,h,e=>by simp at e
 |x::ds,vs,i,d,h,e=>by
  unfold Iss at h;obtain⟨v,r,rfl,h2,h3⟩:=h
  cases i with
  |zero=>simp at e;subst e;exact⟨v,rfl,h2⟩
  |succ i =>
   obtain⟨w,e1,e2⟩:=Iss.get (i:=i) (d:=d) h3 (by simpa using e);exact⟨w,by simpa using e1,e2⟩
theorem Iss.append:∀ {ds es:List D} {vs ws:List V},Iss K S ds vs->Iss K S es ws->Iss K S (ds++es) (vs++ws)
 |[],es,vs,ws,h,g=>by unfold Iss at h;subst h;exact g
 |x::ds,es,vs,ws,h,g=>by
  unfold Iss at h;obtain⟨v,r,rfl,h2,h3⟩:=h;show Iss K S (x::(ds++es)) (v::(r++ws));unfold Iss;exact⟨v,_,rfl,h2,h3.append g⟩
theorem jz{i:Int}{v:V}(h:Is K S (.int i) v):v=.int i:=by unfold Is at h;exact h
theorem qM{i:Bool}{v:V}(h:Is K S (.bl i) v):v=.bl i:=by unfold Is at h;exact h
theorem uK{v:V}(h:Is K S .non v):v=.non:=by unfold Is at h;exact h
theorem uD{v:V}(h:Is K S (.str x) v):v=.str x/\pq x=true:=by unfold Is at h;exact h
theorem kY{v:V}(h:Is K S (.tup xs) v):∃a vs,v=.ref a/\SqT K S a vs/\Iss K S xs vs:=by unfold Is at h;exact h
theorem jK{v:V}(h:Is K S (.lst xs) v):∃a vs,v=.ref a/\SqL K S a vs/\Iss K S xs vs:=by unfold Is at h;exact h
theorem jG(i:Int):Is K S (.int i) (.int i):=by unfold Is;rfl
theorem qz(i:Bool):Is K S (.bl i) (.bl i):=by unfold Is;rfl
theorem JD:Is K S .non .non:=by unfold Is;rfl
theorem zB(h:pq x=true):Is K S (.str x) (.str x):=by unfold Is;exact⟨rfl,h⟩
theorem Ya(h:S a=some (.tup vs))(g:Iss K S xs vs):Is K S (.tup xs) (.ref a):=by unfold Is;exact⟨a,vs,rfl,SqT.of h,g⟩
theorem KJ(h:SqT K S a vs)(g:Iss K S xs vs):Is K S (.tup xs) (.ref a):=by unfold Is;exact⟨a,vs,rfl,h,g⟩
theorem qE(h:SqL K S a vs)(g:Iss K S xs vs):Is K S (.lst xs) (.ref a):=by unfold Is;exact⟨a,vs,rfl,h,g⟩
end
mutual
noncomputable def zE:D->PyData
 |.non=>.none
 |.bl b=>.bool b
 |.int i=>.int i
 |.str x=>.str x
 |.tup xs=>.tuple (xE xs)
 |.lst xs=>.list (xE xs)
noncomputable def xE:List D->List PyData
 |[]=>[]
 |x::xs=>zE x::xE xs
end
mutual
theorem JK:∀a b:D,PyData.eqv (zE a) (zE b)=eqD a b
 |a,b=>by
  cases a<;>cases b<;>simp only[zE,PyData.eqv,eqD]
  ·exact uX _ _
  ·exact uX _ _
theorem uX:∀a b:List D,wI (xE a) (xE b)=xO a b
 |[],[]=>by simp only[xE,wI,xO]
 |[],_::_=>by simp only[xE,wI,xO]
 |_::_,[]=>by simp only[xE,wI,xO]
 |x::xs,y::ys=>by simp only[xE,wI,xO];rw[JK x y,uX xs ys]
end
mutual
theorem JE:∀a:D,(zE a).depth=qv a
 |.non=>rfl
 |.bl _=>rfl
 |.int _=>rfl
 |.str _=>rfl
 |.tup xs=>by simp only[zE,PyData.depth,qv];rw[uJ xs]
 |.lst xs=>by simp only[zE,PyData.depth,qv];rw[uJ xs]
theorem uJ:∀a:List D,je7 (xE a)=xT a
 |[]=>rfl
 |x::xs=>by simp only[xE,je7,xT];rw[JE x,uJ xs]
end
section
variable {X:Cx} {pins:List (Addr×nv)} {σ:L2.St} {H:Hp} {s:Shared}
mutual
theorem Is.reads(I:Inv X pins σ H s):∀(d:D) {v:V} {u:bq},Is X.K H d v->jS v u->(∃as,Reads s.heap u (zE d) as)/\(zE d).canLay0=true
 |.non,v,u,h,r=>by cases uK h;cases r;exact⟨⟨_,.none⟩,rfl⟩
 |.bl b,v,u,h,r=>by cases qM h;cases r;exact⟨⟨_,.bool b⟩,rfl⟩
 |.int i,v,u,h,r=>by cases jz h;obtain⟨t,rfl⟩:=r;exact⟨⟨_,.int i t⟩,rfl⟩
 |.str x,v,u,h,r=>by obtain⟨rfl,o⟩:=uD h;obtain⟨t,rfl⟩:=r;exact⟨⟨_,.str x t⟩,o⟩
 |.tup xs,v,u,h,r=>by
  obtain⟨a,vs,rfl,h1,h2⟩:=kY h;cases r;obtain⟨its,rv,⟨o,e1,e2,n,e3⟩,_⟩:=I.tuple h1;obtain⟨⟨as,ra⟩,c⟩:=Iss.reads I xs h2 rv
  exact⟨⟨as,.tuple e1 e2 e3 (by simpa using ra)⟩,c⟩
 |.lst xs,v,u,h,r=>by
  obtain⟨a,vs,rfl,h1,h2⟩:=jK h;cases r;obtain⟨its,rv,pl,_⟩:=I.list h1;obtain⟨o,e1,e2,n,e3⟩:=pl.isList;obtain⟨⟨as,ra⟩,c⟩:=Iss.reads I xs h2 rv;exact⟨⟨_,.list e1 e2 e3 (by simpa using ra)⟩,c⟩
theorem Iss.reads(I:Inv X pins σ H s):∀(ds:List D) {vs:List V} {us:List bq},Iss X.K H ds vs->jJ vs us->(∃as,ReadsAll s.heap us (xE ds) as)/\jeC (xE ds)=true
 |[],vs,us,h,r=>by
  unfold Iss at h;subst h;cases r
  exact⟨⟨_,.nil⟩,rfl⟩
 |d::ds,vs,us,h,r=>by
  unfold Iss at h;obtain⟨v,q,rfl,h1,h2⟩:=h
  cases r with
  |cons r1 r2 =>
   obtain⟨⟨as,ra⟩,c1⟩:=Is.reads I d h1 r1;obtain⟨⟨bs,rb⟩,c2⟩:=Iss.reads I ds h2 r2;exact⟨⟨_,.cons ra rb⟩,by simp only[xE,jeC];rw[c1,c2];rfl⟩
end
end
section
variable {prog:dW} {w:World} {A:mq} {E:bq->Shared->Prop}
theorem Zr{l it:Addr}{vs:Array bq}(hd:l≠it):∀(m i:Nat) {s:Shared} {Q:List bq->Shared->Prop},s.heap.IsListIter it l i->s.heap.IsList l vs->i+m=vs.size ->
 (∀h₂,h₂.IsListIter it l (i+m)->h₂.IsList l vs->nP it s.heap h₂->Q (vs.toList.drop i) { s with heap:=h₂ })->wpAny (model prog w) A (draw (.ref it) m) Q E s
 |0,i,s,Q,a1,a2,e,q=>by
  have z:=q s.heap a1 a2 (mU ..);rw[tT (by simp;lia)]at z
  exact bJ z
 |m+1,i,s,Q,a1,a2,e,q=>by
  have lt:i<vs.size:=by lia
  show wpAny _ _ (pyNext (.ref it) >>= _) _ _ _;refine bh (jda (x:=vs[i]) a1 a2 (by simp[lt]) ?_);intro h₁ b1 b2;have c2:h₁.IsList l vs:=a2.extBut b2.extBut hd;refine bh (dS (Zr hd m (i+1) b1 c2 (by lia) ?_));intro h₂ d1 d2 d3;have z:=q h₂ (by rw[Nat.add_comm m 1,<- Nat.add_assoc];exact d1) d2 (b2.trans d3)
  have cut:vs.toList.drop i=vs[i]::vs.toList.drop (i+1):=by rw[gI (by simpa using lt)];simp
  rw[cut]at z;exact bJ z
theorem VH{l:Addr}{vs:Array bq}{tg:List (Bool×(bq->Sem Unit))}{Q:Unit->Shared->Prop}{s:Shared}(hh:A.handled=none)(hl:s.heap.IsList l vs)(hn:tg.length=vs.size)(hz:tg.findIdx? (·.1)=none)
 (q:∀h₂,(∀b o,s.heap.get? b=some o->h₂.get? b=some o)->wpAny (model prog w) A (assignInOrder (tg.map (·.2)) vs.toList) Q E { s with heap:=h₂ }):wpAny (model prog w) A (unpack (.ref l) tg) Q E s:=by
 have new:∀b o,s.heap.get? b=some o->b≠s.heap.objs.size:=λb o e=>gN (bN e)
 have hd:l≠s.heap.objs.size:=by obtain⟨o,e,_⟩:=hl;exact new l o e
 unfold unpack;rw[hn,hz];refine bh (dS ?_);unfold unpackItems notIterableAtAll;refine bh (bh (wpAny_specialOf hl.typeIs slot_list_iter.lookup (bJ ?_)));simp only[dF,if_false];refine bh (dS (pO hl ?_));refine bh (dS (Zr hd vs.size 0 ⟨_,dJ _ rfl,rfl,rfl⟩ (hl.push _) (by lia) ?_));intro h₁ a1 a2 a3;simp only[gC];rw[if_neg (by simp)];refine bh (dS (jds hh a1 a2 (by simp) ?_));intro h₂ b1;simp only[Option.isSome_none,dF,if_false];exact bJ (q h₂ λb o e=>b1 b o (new b o e) (a3.extBut b o (new b o e) (bC _ e)))
end
def gLst(K:bp)(n:Nat)(t:TGs):TG:=λv σ H Q=>∃a xs,v=.ref a/\SqL K H a xs/\xs.length=n/\t xs σ H Q
def gSq(K:bp)(n:Nat)(t:TGs):TG:=λv σ H Q=>gTup K n t v σ H Q\/gLst K n t v σ H Q
variable{k:Nat}{n:Int}
theorem pg_sq{es:List Expr}{t:TGs}{n:Nat}(hc:X.calm=true)(h:PGs X es t)(hn:(nc es X.env).length=n)(hst:(nc es X.env).findIdx? (·.1)=none):PG X (.Tuple es k pos) (gSq X.K n t):=by
 intro pins s σ H v u Q I r w;rcases w with w|⟨a,xs,rfl,hq,hl,w⟩
 ·exact Y9 hc h hn hst pins s σ H v u Q I r w
 ·cases r;obtain⟨its,rv,p,hz⟩:=I.list hq;rw[assign_Tuple];refine bh (pK (VH (I.ok.hd hc) p.isList (by simp[hn,<- hl,rv.length]) hst λh₂ keep=>?_));exact h pins _ σ H xs _ Q (I.kept (t':=s.toks) keep) (by simpa using rv) w
variable{s':Shared}
section
variable {prog:dW} {w:World} {A:mq} {R:Result->Shared->Prop} {I S:Addr} {fp wr:List Addr} {G:Array nX->Array nX->Prop} {P:Nat->bq->Prop} {St:Nat->Shared->Prop} {ns:List Int}
theorem vA:(toString "min" ++ toString ".loop":String)="min.loop":=by decide
theorem uN{s:Shared}(mv:jfj wr G s s')(f:nv->nv):jfj (S::wr) G s { s' with heap:=s'.heap.update S f } :=
 ⟨λb o hb eb=>(dQ _ _ (λx=>hb (by rw[x];exact bB))).trans (mv.heap b o (λx=>hb (bo _ x)) eb),mv.gens,mv.drawn,mv.os,mv.toks⟩
theorem drop_at(h:i<ns.length):ns.drop i=ns.getD i 0::ns.drop (i+1):=by rw[gI h];simp[h]
theorem Yi(W:WalksS prog w A.in1 I fp wr G ns.length P St)(hv:∀i v,P i v->∃t,v=.int (ns.getD i 0) t)(hS:S ∉ fp)(kw:List (Str×bq)):∀(k i:Nat) (s:Shared) (m:Int) (t:Tok) (c:Nat),i+k=ns.length->St i s ->
 s.heap.get? S=some { cls:=.type "list",dict:=none,data:=.seq #[.int m t,.int m t] c,slots:=#[] }->(∀s' t',jfj (S::wr) G s s'->R (.ok (.ret (.int ((ns.drop i).foldl (yR false) m) t'))) s') ->
 wF (model prog w) A (.builtin "min.loop" ⟨[.ref I,.none,.ref S],kw⟩) R s
 |0,i,s,m,t,c,e,a1,a2,q=>by
  have Sw:S ∉ wr:=λz=>hS (W.sub _ z)
  refine wY jc1 ?_;rw[wO m8 _];refine bh (m:=jeR (.ref S)) (mR a2 rfl ?_);refine bh (m:=tryCatch (pyNext (.ref I)) _) (jcz (W.done s _ _ (by rw[<- e];exact a1) ?_));intro s' mv;have b2:=mv.heap S _ Sw a2;refine bh (m:=updateSeq S (λ_=>#[])) (wZ b2 rfl (bh (pT (bJ ?_))));have z:=q _ t (uN mv (wj λ_=>#[]));rw[tT (by lia)]at z
  exact z
 |k+1,i,s,m,t,c,e,a1,a2,q=>by
  have Sw:S ∉ wr:=λz=>hS (W.sub _ z)
  have lt:i<ns.length:=by lia
  rw[drop_at lt,w5]at q;refine wY jc1 ?_;rw[wO m8 _];refine bh (m:=jeR (.ref S)) (mR a2 rfl ?_);refine bh (m:=tryCatch (pyNext (.ref I)) _) (jcz (W.item i s _ _ lt a1 ?_));intro v s' pv b1 mv;obtain⟨t₁,rfl⟩:=hv i v pv;have b2:=mv.heap S _ Sw a2;generalize hn:ns.getD i 0=n at *;have cmp:=CmpOf.ints_lt (prog:=prog) (w:=w) (A:=A.in1) (P:=λj v=>∃t,v=.int (if j=0 then n else m) t) (λj=>if j=0 then n else m) (λ_ _ h=>h);refine bh (m:=tryCatch (tj [.int n t₁,.int n t₁] (richCompare .Lt (.int n t₁) (.int m t) >>= _)) _) (jcz (dS (bh (cmp 0 1 _ _ _ _ _ ⟨t₁,rfl⟩ ⟨t,rfl⟩ ?_))));simp only[if_true,Nat.one_ne_zero,if_false];refine bh (dS (mF (bh (pT (bJ ?_)))))
  have moved:jfj (S::wr) G s s':=mv.mono λb hb=>bo _ hb
  by_cases lo:n<m
  ·simp only[lo,decide_true,if_true]
   have pk:yR false m n=n:=by unfold yR;simp[lo]
   rw[pk]at q;refine bh (wZ b2 rfl (bh (pT ?_)));rw[vA];refine bJ ⟨jcT m8 _,Yi W hv hS kw k (i+1) _ n t₁ _ (by lia) (W.frame _ s' _ s'.toks b1 (bV _) ?_) (mh _ b2 rfl) ?_⟩
   ·intro b hb o eb;exact(dQ _ _ (λx=>hS (by rw[x];exact hb))).trans eb
   ·intro s₂ t₂ m₂;exact q s₂ t₂ (je2 W.gtrans (uN mv _) m₂)
  ·simp only[lo,decide_false,dF,if_false]
   have pk:yR false m n=m:=by unfold yR;simp[lo]
   rw[pk]at q;refine bh (pT ?_);rw[vA];exact bJ ⟨jcT m8 _,Yi W hv hS kw k (i+1) s' m t c (by lia) b1 b2 λs₂ t₂ m₂=>q s₂ t₂ (je2 W.gtrans moved m₂)⟩
end
section
variable {prog:dW} {w:World} {A:mq} {E:bq->Shared->Prop} {I:Addr} {fp wr:List Addr} {G:Array nX->Array nX->Prop} {P:Nat->bq->Prop} {St:Nat->Shared->Prop} {ns:List Int}
theorem jbc{id:String}{b:tE}{args:List bq}{kw:List (Str×bq)}{s:Shared}(hk:builtinKind id=none)(hp:plainId id=true)(hb:entryFor table id=some b)(ha:argsOk id ⟨args,kw⟩)
 (hc:wpAny (model prog w) A.in1 (b ⟨args,kw⟩) (λfin s'=>∃c',fin=.again c'/\c'.quiet=true/\wF (model prog w) A c' (λr s'=>match r with|.ok (.ret v)=>Q v s'|.ok _=>False|.error e=>E e s') s') E s) :
 wpAny (model prog w) A (call (.builtin id) args kw) Q E s:=by
 refine tK (mC hp hb ?_)
 have fin:=gA hc (Q':=λfin s'=>match fin with
  |.done f=>(match (Except.ok f:Result) with|.ok (.ret v)=>Q v s'|.ok _=>False|.error e=>E e s')
  |.again c'=>c'.quiet=true/\wF (model prog w) A c' (λr s'=>match r with|.ok (.ret v)=>Q v s'|.ok _=>False|.error e=>E e s') s')
  (λ_ _ ⟨c',e,z⟩=>by subst e;exact z) λ_ _ z=>z
 simp only[sf,hk]
 cases hs:jdX id with
 |none=>exact bJ fin
 |some sig =>
  have e:jdB id sig ⟨args,kw⟩=pure ():=by simpa only[argsOk,hs]using ha
  simp only[e];exact bJ fin
end
theorem yK:∀ {ns:List Int} {us:List bq},jJ (ns.map V.int) us->∀i v,us[i]?=some v->∃t,v=jeN (ns.getD i 0) t
 |[],us,r,i,v,h=>by cases r;simp at h
 |n::ns,us,r,i,v,h=>by
  cases r with
  |cons r1 r2 =>
   cases i with
   |zero=>simp at h;subst h;obtain⟨t,e⟩:=r1;exact⟨t,by simpa using e⟩
   |succ i=>simpa using yK r2 i v (by simpa using h)
variable{τ:L2.St}
theorem Inv.moved'{s:Shared}{o:nv}(I:Inv X pins τ H s)(m:jfj [s.heap.objs.size] (λa b=>b=a) { s with heap:=s.heap.push o,toks:=tk } s'):Inv X pins τ H s':=by
 have k:∀b u,s.heap.get? b=some u->s'.heap.get? b=some u:=λb u e=>m.heap b u (λz=>by
  have:b=s.heap.objs.size:=by simpa using z
  exact absurd (bN e) (by rw[this];exact gG _)) (bC _ e)
 exact I.call' (ch:=[]) m.os (Un.kept k) (I.hok.kept k) (by rw[m.gens];exact I.bare) λ_ z=>nomatch z
variable{ns:List Int}
section
variable {prog:dW} {w:World} {A:mq} {E:bq->Shared->Prop} {I:Addr} {fp wr:List Addr} {G:Array nX->Array nX->Prop} {P:Nat->bq->Prop} {St:Nat->Shared->Prop}
theorem Vu:jcq "min" ["key","default"] 0 ⟨[],[]⟩=pure [none,none]:=rfl
theorem UB(a:bq):argsOk "min" ⟨[a],[]⟩:=by unfold argsOk;kernel_rfl
theorem jbF{x:bq}{s:Shared}
 (h:wpAny (model prog w) A.in1 (pyIter x) (λit s₂=>∃I fp wr G P St,it=.ref I/\WalksS prog w A.in1 I fp wr G (n::ns).length P St/\St 0 s₂/\(∀b∈fp,b<s₂.heap.objs.size)/\(∀i v,P i v->∃t,v=.int ((n::ns).getD i 0) t) /\
  ∀s' t,jfj wr G s₂ s'->Q (.int (mmF false 0 (n::ns)) t) s') E s) :
 wpAny (model prog w) A (call (.builtin "min") [x] []) Q E s:=by
 refine jbc F.kind_min F.plain_min F.entry_min (UB _) ?_;refine bh (m:=jcq "min" ["key","default"] 0 ⟨[],[]⟩) (mJ (Vu) ?_);refine bh (bJ (bh (gA h ?_ λ_ _ e=>e)));rintro it s₂ ⟨I,fp,wr,G,P,St,rfl,W,st,hf,hv,q⟩;refine bh (jcL ?_)
 have fresh:s₂.heap.objs.size ∉ fp:=λz=>gG _ (hf _ z)
 have st':St 0 { s₂ with heap:=s₂.heap.push { cls:=.type "list",dict:=none,data:=.seq #[] 0,slots:=#[] } }:=W.frame 0 s₂ _ s₂.toks st (bV _) λb _ o e=>bC _ e
 have hS:=dJ s₂.heap (show ({ cls:=.type "list",dict:=none,data:=.seq #[] 0,slots:=#[] }:nv).isFreed=false from rfl);rw[vA];refine bJ ⟨_,rfl,jcT m8 _,?_⟩;refine wY jc1 ?_;rw[wO m8 _];refine bh (m:=jeR (.ref s₂.heap.objs.size)) (mR hS rfl ?_);refine bh (m:=tryCatch (pyNext (.ref I)) _) (jcz (W.item 0 _ _ _ (by simp) st' ?_));intro v s' pv b1 mv;obtain⟨t₁,rfl⟩:=hv 0 v pv
 have Sw:s₂.heap.objs.size ∉ wr:=λz=>fresh (W.sub _ z)
 have b2:=mv.heap _ _ Sw hS;refine bh (m:=updateSeq s₂.heap.objs.size (λ_=>#[.int n t₁,.int n t₁])) (wZ b2 rfl ?_);rw[vA];refine bJ ⟨jcT m8 _,Yi W hv fresh _ ns.length 1 _ n t₁ _ (by simp;lia) (W.frame _ s' _ s'.toks b1 (bV _) ?_) (mh _ b2 rfl) ?_⟩
 ·intro b hb o eb;exact(dQ _ _ (λx=>fresh (by rw[x];exact hb))).trans eb
 ·intro s₃ t₃ m₃;exact q s₃ t₃ (Moved.drop_new (tk:=s₂.toks) (je2 W.gtrans (uN mv _) m₃) (bV _))
end
variable{Q:Option bq->Shared->Prop}
theorem Vx(hc:X.calm=true){s:Shared}{Q:VK}(I:Inv X pins τ H s)(hq:SqL X.K H a ((n::ns).map V.int))(q:Q (.int (mmF false 0 (n::ns))) H) :
 wpAny (model X.prog X.w) X.A (call (.builtin "min") [.ref a] []) (EP X pins τ Q) X.xe s:=by
 obtain⟨its,rv,p,hz⟩:=I.list hq;have hl:=rv.length;rw[bj]at hl;obtain⟨o,n0,ho,_⟩:=id p;have hne:a≠s.heap.objs.size:=gN (bN ho);have W:=(jfk (prog:=X.prog) (w:=X.w) (A:=X.A.in1) (I.ok.hd hc) s.heap.objs.size a hne its.toArray).toS;rw[show its.toArray.size=(n::ns).length by simp[hl]]at W
 have fin:wpAny (model X.prog X.w) X.A.in1 (pyIter (.ref a)) (λit s₂=>∃I fp wr G P St,it=.ref I/\WalksS X.prog X.w X.A.in1 I fp wr G (n::ns).length P St/\St 0 s₂/\(∀b∈fp,b<s₂.heap.objs.size)/\(∀i v,P i v->∃t,v=.int ((n::ns).getD i 0) t) /\
  ∀s' t,jfj wr G s₂ s'->EP X pins τ Q (.int (mmF false 0 (n::ns)) t) s') X.xe s:=by
  refine pO p.isList ⟨s.heap.objs.size,_,_,_,_,_,rfl,W,⟨⟨_,dJ _ rfl,rfl,rfl⟩,p.isList.push _⟩,λb hb=>?_,λi v hv=>yK rv i v (by simpa using hv),λs' t' m=>?_⟩
  ·rw[tQ];simp only[bD,bM,or_false]at hb;rcases hb with z|z
   ·rw[z];exact wm _
   ·rw[z];exact jeD (bN ho)
  ·exact⟨.int (mmF false 0 (n::ns)),H,Inv.moved' (tk:=s.toks) I m,⟨t',rfl⟩,q⟩
 exact jbF fin
abbrev zob(TI TO:Addr)(f0:bq)(f1:Bool):nv:={ cls:=.type "zip",dict:=none,data:=.fields #[f0,.bool f1,.bool false,.ref TI,.ref TO],slots:=#[] }
abbrev yk(a b:bq):nv:={ cls:=.type "tuple",data:=.seq #[a,b] }
def ZF(f0:bq):Prop:=f0=.none\/∃T:Nat,f0=rawInt T
variable{xs ys:Array bq}
section
variable {prog:dW} {w:World} {A:mq} {E:bq->Shared->Prop} {s:Shared} {z TI TO i1 i2 l1 l2:Addr}
theorem Ja{Q:Option nv->Shared->Prop}(h:Q (s.heap.get? a) s):wpAny (model prog w) A (jdC a) Q E s:=λΓ p _=>by
 unfold jdC;rw[Sem.wp_loadIfAlive];exact h
theorem zfree{f0:bq}{f1:Bool}{Q:Bool->Shared->Prop}(hz:s.heap.get? z=some (zob TI TO f0 f1))(hf:ZF f0)(q:∀b h₁ g1,h₁.get? z=some (zob TI TO f0 g1)->nP z s.heap h₁->Q b { s with heap:=h₁ }) :
 wpAny (model prog w) A (dU (.ref z)) Q E s:=by
 unfold dU;rcases hf with rfl|⟨T,rfl⟩
 ·exact bh (gF hz rfl (x:=.none) rfl (bJ (q true s.heap f1 hz (mU ..))))
 ·refine bh (gF hz rfl (x:=rawInt T) rfl ?_);refine bh (m:=jdC (T:Int).toNat) (Ja ?_)
  cases hT:s.heap.get? (T:Int).toNat with
  |none=>exact bJ (q true s.heap f1 hz (mU ..))
  |some o =>
   refine bh (m:=field (.ref z) 1) (gF hz rfl (x:=.bool f1) rfl ?_)
   cases f1 with
   |true=>exact bJ (q false s.heap true hz (mU ..))
   |false=>exact bh (m:=tU (.ref z) 1 (.bool true)) (gj hz (by simp) λh₁ k1 k2=>bJ (q false h₁ true k1 k2))
structure ZSt (z TI TO i1 i2 l1 l2:Addr) (k:Nat) (h:gQ):Prop where
 zip:∃f0 f1,ZF f0/\h.get? z=some (zob TI TO f0 f1)
 its:h.get? TI=some (yk (.ref i1) (.ref i2))
 old:∃a b,h.get? TO=some (yk a b)
 one:h.IsListIter i1 l1 k
 two:h.IsListIter i2 l2 k
theorem znext{x y:bq}(D:ZipApart z TI TO i1 i2 l1 l2)(st:ZSt z TI TO i1 i2 l1 l2 k s.heap)(hl1:s.heap.IsList l1 xs)(hl2:s.heap.IsList l2 ys)(hx:xs[k]?=some x)(hy:ys[k]?=some y)
 (q:∀T h₂,ZSt z TI TO i1 i2 l1 l2 (k+1) h₂->s.heap.objs.size<=T->h₂.get? T=some (yk x y)->(∀b o,b ∉ [z,TO,i1,i2]->s.heap.get? b=some o->h₂.get? b=some o)->Q (some (.ref T)) { s with heap:=h₂ }) :
 wpAny (model prog w) A (pyNext (.ref z)) Q E s:=by
 obtain⟨⟨f0,f1,hf,hz⟩,hTI,⟨a,b,hTO⟩,h1,h2⟩:=st
 have ty:s.TypeIs (.ref z) "zip":=⟨_,hz,rfl⟩
 unfold pyNext;refine bh (pM (nZ (name:=tV "__next__") ty tF (n5 tF ty F.entry_zip_next ?_ (F.args_zip_next_1 _))));refine bh (m:=field (.ref z) 2) (gF hz rfl (x:=.bool false) rfl (bh (m:=field (.ref z) 3) (gF hz rfl (x:=.ref TI) rfl (bh (mR hTI rfl ?_)))));refine bh (m:=dU (.ref z)) (zfree hz hf λfr h₁ g1 hz₁ s1=>?_)
 have lt:∀ {h:gQ} {c:Addr} {o:nv},h.get? c=some o->c<h.objs.size:=λe=>bN e
 have TI1:h₁.get? TI=some (yk (.ref i1) (.ref i2)):=s1.extBut _ _ D.TIz hTI;have TO1:h₁.get? TO=some (yk a b):=s1.extBut _ _ D.TOz hTO;have a1:=h1.extBut s1.extBut D.i1z;have a2:=h2.extBut s1.extBut D.i2z;have c1:=hl1.extBut s1.extBut D.l1z;have c2:=hl2.extBut s1.extBut D.l2z
 cases fr with
 |false =>
  simp only[dF,if_false];refine bh ?_;simp only[<- jeg,pG,pS];refine bh (bh (dS (bh (m:=dX (.ref i1)) (g8 a1 c1 hx λh₂ b1 s2=>bJ (bJ ?_)))));have a2':=a2.extBut s2.extBut D.i12.symm;have c2':=c2.extBut s2.extBut D.l2i1;refine bh (bh (dS (bh (m:=dX (.ref i2)) (g8 a2' c2' hy λh₃ b2 s3=>bJ (bJ (bJ ?_))))));refine bh (m:=newTuple [x,y]) (jdD (bJ ⟨_,rfl,bJ ?_⟩))
  have up:∀b o,b ∉ [z,TO,i1,i2]->s.heap.get? b=some o->h₃.get? b=some o:=λb o hb e=>by
   simp only[bD,bM,or_false,not_or]at hb;exact s3.extBut _ _ hb.2.2.2 (s2.extBut _ _ hb.2.2.1 (s1.extBut _ _ hb.1 e))
  have szs:h₃.objs.size=s.heap.objs.size:=by rw[s3.1,s2.1,s1.1]
  refine q h₃.objs.size _ ⟨⟨f0,g1,hf,bC _ (s3.extBut _ _ D.i2z.symm (s2.extBut _ _ D.i1z.symm hz₁))⟩,bC _ (s3.extBut _ _ D.TIi2 (s2.extBut _ _ D.TIi1 TI1)),⟨a,b,bC _ (s3.extBut _ _ D.TOi2 (s2.extBut _ _ D.TOi1 TO1))⟩,?_,?_⟩ (by rw[szs];exact bV _) (dJ _ rfl) λb o hb e=>bC _ (up b o hb e)
  ·exact(b1.extBut s3.extBut D.i12).at λo e=>bC _ e
  ·exact b2.at λo e=>bC _ e
 |true =>
  simp only[if_true];refine bh (wpAny_rule (bh (m:=field (.ref z) 4) (gF hz₁ rfl (x:=.ref TO) rfl ?_)));refine bh (m:=tU (.ref z) 0 .ellipsis) (gj hz₁ (by simp) λh₂ hz₂ s2=>bh ?_);simp only[jeS,List.zipIdx_nil,pG,pS];have TO2:h₂.get? TO=some (yk a b):=s2.extBut _ _ D.TOz TO1;have a1':=a1.extBut s2.extBut D.i1z;have c1':=c1.extBut s2.extBut D.l1z;refine bh (bh (wJ (bh (m:=dX (.ref i1)) (g8 a1' c1' hx λh₃ b1 s3=>bJ ?_))));have TO3:h₃.get? TO=some (yk a b):=s3.extBut _ _ D.TOi1 TO2;refine bh (mR TO3 rfl (bh (wQ TO3 λh₄ TO4 s4=>bh (pT (bJ ?_)))));have a2':=((a2.extBut s2.extBut D.i2z).extBut s3.extBut D.i12.symm).extBut s4.extBut D.TOi2.symm;have c2':=((c2.extBut s2.extBut D.l2z).extBut s3.extBut D.l2i1).extBut s4.extBut D.l2TO;refine bh (bh (wJ (bh (m:=dX (.ref i2)) (g8 a2' c2' hy λh₅ b2 s5=>bJ ?_))));have TO5:h₅.get? TO=some (yk x b):=s5.extBut _ _ D.TOi2 TO4;refine bh (mR TO5 rfl (bh (wQ TO5 λh₆ TO6 s6=>bh (pT (bJ (bJ ?_))))));have TO6':h₆.get? TO=some (yk x y):=TO6;refine bh (mR TO6' rfl (bh (jdD ?_)));have hz6:h₆.get? z=some (zob TI TO .ellipsis g1):=s6.extBut _ _ D.TOz.symm (s5.extBut _ _ D.i2z.symm (s4.extBut _ _ D.TOz.symm (s3.extBut _ _ D.i1z.symm hz₂)));have hz7:(h₆.push (yk x y)).get? z=some (zob TI TO .ellipsis g1):=bC _ hz6
  have up:∀b o,b ∉ [z,TO,i1,i2]->s.heap.get? b=some o->h₆.get? b=some o:=λb o hb e=>by
   simp only[bD,bM,or_false,not_or]at hb;exact s6.extBut _ _ hb.2.1 (s5.extBut _ _ hb.2.2.2 (s4.extBut _ _ hb.2.1 (s3.extBut _ _ hb.2.2.1 (s2.extBut _ _ hb.1 (s1.extBut _ _ hb.1 e)))))
  have szs:h₆.objs.size=s.heap.objs.size:=by rw[s6.1,s5.1,s4.1,s3.1,s2.1,s1.1]
  refine bh (m:=ma (.ref z) (.ref h₆.objs.size)) ?_;unfold ma;refine bh (m:=tU (.ref z) 0 (rawInt h₆.objs.size)) (gj hz7 (by simp) λh₈ hz8 s8=>gj hz8 (by simp) λh₉ hz9 s9=>bJ ⟨_,rfl,bJ ?_⟩);have zlt:z<h₆.objs.size:=bN hz6
  have up2:∀b o,b≠z->(h₆.push (yk x y)).get? b=some o->h₉.get? b=some o:=λb o hb e=>s9.extBut _ _ hb (s8.extBut _ _ hb e)
  have b1':=((b1.extBut s4.extBut D.TOi1.symm).extBut s5.extBut D.i12).extBut s6.extBut D.TOi1.symm;have b2':=b2.extBut s6.extBut D.TOi2.symm
  refine q h₆.objs.size h₉ ⟨⟨rawInt h₆.objs.size,false,.inr ⟨_,rfl⟩,hz9⟩,?_,⟨x,y,up2 _ _ D.TOz (bC _ TO6')⟩,b1'.at λo e=>up2 _ o D.i1z (bC _ e),b2'.at λo e=>up2 _ o D.i2z (bC _ e)⟩ (by rw[szs];exact bV _) (up2 _ _ (pd zlt) (dJ _ rfl)) λb o hb e=>?_
  ·exact up2 _ _ D.TIz (bC _ (s6.extBut _ _ D.TITO (s5.extBut _ _ D.TIi2 (s4.extBut _ _ D.TITO (s3.extBut _ _ D.TIi1 (s2.extBut _ _ D.TIz TI1))))))
  ·have hb':b≠z:=λe=>hb (by rw[e];exact bB)
   exact up2 _ _ hb' (bC _ (up b o hb e))
theorem zend(hh:A.handled=none)(D:ZipApart z TI TO i1 i2 l1 l2)(st:ZSt z TI TO i1 i2 l1 l2 k s.heap)(hl1:s.heap.IsList l1 xs)(hl2:s.heap.IsList l2 ys)(hend:xs[k]?=none\/ys[k]?=none)
 (q:∀h₂,(∀b o,b ∉ [z,TO,i1,i2]->s.heap.get? b=some o->h₂.get? b=some o)->Q none { s with heap:=h₂ }) :
 wpAny (model prog w) A (pyNext (.ref z)) Q E s:=by
 obtain⟨⟨f0,f1,hf,hz⟩,hTI,⟨a,b,hTO⟩,h1,h2⟩:=st
 have ty:s.TypeIs (.ref z) "zip":=⟨_,hz,rfl⟩
 have hh1:A.in1.handled=none:=hh;unfold pyNext;refine bh (pM (nZ (name:=tV "__next__") ty tF (n5 tF ty F.entry_zip_next ?_ (F.args_zip_next_1 _))));refine bh (m:=field (.ref z) 2) (gF hz rfl (x:=.bool false) rfl (bh (m:=field (.ref z) 3) (gF hz rfl (x:=.ref TI) rfl (bh (mR hTI rfl ?_)))));refine bh (m:=dU (.ref z)) (zfree hz hf λfr h₁ g1 hz₁ s1=>?_);have TO1:h₁.get? TO=some (yk a b):=s1.extBut _ _ D.TOz hTO;have a1:=h1.extBut s1.extBut D.i1z;have a2:=h2.extBut s1.extBut D.i2z;have c1:=hl1.extBut s1.extBut D.l1z;have c2:=hl2.extBut s1.extBut D.l2z
 have fin:∀(h₂:gQ) (e:Addr),(∀b o,b ∉ [z,TO,i1,i2]->s.heap.get? b=some o->h₂.get? b=some o)->(∃o,h₂.get? e=some o/\o.cls=.type "StopIteration") ->
  wpAny (model prog w) A (do if (<- wq (.ref e) (.type "StopIteration"))=true then pure none else throw (.ref e)) Q E { s with heap:=h₂ }:=λh₂ e k ⟨o,ho,hc⟩ =>
  bh (wpAny_isInstance (T:="StopIteration") (b:=true) ⟨o,ho,hc⟩ isSubtype_stop (bJ (q h₂ k)))
 cases fr with
 |false =>
  simp only[dF,if_false];refine bh ?_;simp only[<- jeg,pG,pS]
  cases hx:xs[k]? with
  |none =>
   refine bh (bh (dS (bh (m:=dX (.ref i1)) (nE hh1 a1 c1 hx λh₂ e s2 he=>fin h₂ e (λb o hb e=>?_) he))));simp only[bD,bM,or_false,not_or]at hb
   exact s2 _ _ hb.2.2.1 (s1.extBut _ _ hb.1 e)
  |some x =>
   have hy:ys[k]?=none:=by
    rcases hend with h|h
    ·rw[hx]at h;cases h
    ·exact h
   refine bh (bh (dS (bh (m:=dX (.ref i1)) (g8 a1 c1 hx λh₂ b1 s2=>bJ (bJ ?_)))));have a2':=a2.extBut s2.extBut D.i12.symm;have c2':=c2.extBut s2.extBut D.l2i1;refine bh (bh (dS (bh (m:=dX (.ref i2)) (nE hh1 a2' c2' hy λh₃ e s3 he=>fin h₃ e (λb o hb e=>?_) he))));simp only[bD,bM,or_false,not_or]at hb
   exact s3 _ _ hb.2.2.2 (s2.extBut _ _ hb.2.2.1 (s1.extBut _ _ hb.1 e))
 |true =>
  simp only[if_true];refine bh (wpAny_rule (bh (m:=field (.ref z) 4) (gF hz₁ rfl (x:=.ref TO) rfl ?_)));refine bh (m:=tU (.ref z) 0 .ellipsis) (gj hz₁ (by simp) λh₂ hz₂ s2=>bh ?_);simp only[jeS,List.zipIdx_nil,pG,pS];have TO2:h₂.get? TO=some (yk a b):=s2.extBut _ _ D.TOz TO1;have a1':=a1.extBut s2.extBut D.i1z;have c1':=c1.extBut s2.extBut D.l1z
  cases hx:xs[k]? with
  |none =>
   refine bh (bh (wJ (bh (m:=dX (.ref i1)) (nE hh1 a1' c1' hx λh₃ e s3 he=>?_))));obtain⟨oe,hoe,hce⟩:=he;have hz3:h₃.get? z=some (zob TI TO .ellipsis g1):=s3 _ _ D.i1z.symm hz₂
   have hez:e≠z:=λx=>by subst x;rw[hz3]at hoe;cases hoe;simp at hce
   refine gj hz3 (by simp) λh₄ _ s4=>fin h₄ e (λb o hb e=>?_) ⟨oe,s4.extBut _ _ hez hoe,hce⟩
   simp only[bD,bM,or_false,not_or]at hb
   exact s4.extBut _ _ hb.1 (s3 _ _ hb.2.2.1 (s2.extBut _ _ hb.1 (s1.extBut _ _ hb.1 e)))
  |some x =>
   have hy:ys[k]?=none:=by
    rcases hend with h|h
    ·rw[hx]at h;cases h
    ·exact h
   refine bh (bh (wJ (bh (m:=dX (.ref i1)) (g8 a1' c1' hx λh₃ b1 s3=>bJ ?_))));have TO3:h₃.get? TO=some (yk a b):=s3.extBut _ _ D.TOi1 TO2;refine bh (mR TO3 rfl (bh (wQ TO3 λh₄ TO4 s4=>bh (pT (bJ ?_)))));have a2':=((a2.extBut s2.extBut D.i2z).extBut s3.extBut D.i12.symm).extBut s4.extBut D.TOi2.symm;have c2':=((c2.extBut s2.extBut D.l2z).extBut s3.extBut D.l2i1).extBut s4.extBut D.l2TO;refine bh (bh (wJ (bh (m:=dX (.ref i2)) (nE hh1 a2' c2' hy λh₅ e s5 he=>?_))));obtain⟨oe,hoe,hce⟩:=he;have hz5:h₅.get? z=some (zob TI TO .ellipsis g1):=s5 _ _ D.i2z.symm (s4.extBut _ _ D.TOz.symm (s3.extBut _ _ D.i1z.symm hz₂))
   have hez:e≠z:=λx=>by subst x;rw[hz5]at hoe;cases hoe;simp at hce
   refine gj hz5 (by simp) λh₆ _ s6=>fin h₆ e (λb o hb e=>?_) ⟨oe,s6.extBut _ _ hez hoe,hce⟩
   simp only[bD,bM,or_false,not_or]at hb;exact s6.extBut _ _ hb.1 (s5 _ _ hb.2.2.2 (s4.extBut _ _ hb.2.1 (s3.extBut _ _ hb.2.2.1 (s2.extBut _ _ hb.1 (s1.extBut _ _ hb.1 e)))))
end
variable{ch:List Addr}{h₂:gQ}
theorem Inv.turnedL{s:Shared}{T:Addr}{xs:List V}{us:List bq}(I:Inv X pins σ H s)(hf:∀b∈ch,uI X pins H b)(k:∀b o,b ∉ ch->s.heap.get? b=some o->h₂.get? b=some o)
 (hT:s.heap.objs.size<=T) (ht:h₂.get? T=some { cls:=.type "tuple",data:=.seq us.toArray }) (r:jJ xs us) (hz:xs.length<=sizeLine):Inv X pins σ (upd H T (.tup xs)) { s with heap:=h₂ }:=by
 have fT:H T=none:=I.hok.fresh hT
 have ntr:∀b u,H b=some u->b ∉ ch:=λb u e z=>by rw[(hf b z).1]at e;cases e
 have nT:∀b u,H b=some u->b≠T:=λb u e z=>by rw[z,fT]at e;cases e
 refine I.call' (s':={ s with heap:=h₂ }) (ch:=ch) rfl ⟨λb o e n _ hb=>k b o hb e,λb o e n _ hb=>⟨o.slots,k b o hb e⟩,λb o e n hb=>?_,λb o e hb=>⟨o,k b o hb e⟩,λb ys e=>?_,λb o u e=>?_,λb ps e=>⟨#[],?_⟩⟩ ?_ I.bare λb hb=>?_
 ·rw[jh λq=>absurd (bN e) (by rw[q];exact jcy.mpr hT)];exact n
 ·rw[jh (nT b _ e)];exact e
 ·rw[jh (nT b _ e)];exact e
 ·rw[jh (nT b _ e),e];simp
 ·intro b u e;by_cases hb:b=T
  ·subst hb;rw[jm]at e;cases e;exact⟨hz,us,r,⟨_,ht,rfl,_,rfl⟩⟩
  ·rw[jh hb]at e
   refine(I.hok b u e).stay (λc v hc q=>k c v ?_ q) (λc q=>by rw[jh (nT c _ q)];exact q) λc ys q=>by rw[jh (nT c _ q)];exact q
   rcases hc with z|z
   ·rw[z];exact ntr b u e
   ·exact ntr c _ z
 ·obtain⟨_,f1,_,f3,f4,f5⟩:=hf b hb;exact⟨f3,f1,f4,f5⟩
theorem Inv.turnedN{s:Shared}(I:Inv X pins σ H s)(hf:∀b∈ch,uI X pins H b)(k:∀b o,b ∉ ch->s.heap.get? b=some o->h₂.get? b=some o):Inv X pins σ H { s with heap:=h₂ }:=by
 have ntr:∀b u,H b=some u->b ∉ ch:=λb u e z=>by rw[(hf b z).1]at e;cases e
 refine I.call' (s':={ s with heap:=h₂ }) (ch:=ch) rfl ⟨λb o e n _ hb=>k b o hb e,λb o e n _ hb=>⟨o.slots,k b o hb e⟩,λb o e n hb=>n,λb o e hb=>⟨o,k b o hb e⟩,λb ys e=>e,λb o u e=>e,λb ps e=>⟨#[],by rw[e];simp⟩⟩ ?_ I.bare λb hb=>?_
 ·intro b u e
  refine(I.hok b u e).stay (λc v hc q=>k c v ?_ q) (λc q=>q) λc ys q=>q
  rcases hc with z|z
  ·rw[z];exact ntr b u e
  ·exact ntr c _ z
 ·obtain⟨_,f1,_,f3,f4,f5⟩:=hf b hb;exact⟨f3,f1,f4,f5⟩
def Itz(K:bp)(l1 l2:Addr):It:=⟨λi H=>∃xs ys x y,SqL K H l1 xs/\SqL K H l2 ys/\xs[i]?=some x/\ys[i]?=some y,
 λi H v H'=>∃T x y,v=.ref T/\H T=none/\(∀xs,SqL K H l1 xs->xs[i]?=some x)/\(∀ys,SqL K H l2 ys->ys[i]?=some y)/\H'=upd H T (.tup [x,y]),λi H=>∃xs ys,SqL K H l1 xs/\SqL K H l2 ys/\(xs.length<=i\/ys.length<=i)⟩
variable{p:Pos}
theorem Z2{s:Shared}{u:bq}{Q:Unit->Shared->Prop}(h:Q () s):wpAny M A (pE (.Name x p) it u) Q E s:=by
 unfold pE;exact bJ h
theorem jbt{P:dW}{w:World}{z TI TO i1 i2 l1 l2:Addr}(D:ZipApart z TI TO i1 i2 l1 l2):Turn P w K (.Name x px) (Itz K l1 l2) [z,TI,TO,i1,i2] z (λi h=>ZSt z TI TO i1 i2 l1 l2 i h) where
 mem:=by simp
 obj:=λi h st b hb=>by
  obtain⟨⟨f0,f1,hf,hz⟩,hTI,⟨a,b',hTO⟩,⟨o1,e1,_,d1⟩,⟨o2,e2,_,d2⟩⟩:=st;simp only[bD,bM,or_false]at hb;rcases hb with rfl|rfl|rfl|rfl|rfl
  ·exact⟨_,hz,λv q=>by cases q⟩
  ·exact⟨_,hTI,λv q=>by cases q⟩
  ·exact⟨_,hTO,λv q=>by cases q⟩
  ·exact⟨_,e1,λv q=>by rw[d1]at q;cases q⟩
  ·exact⟨_,e2,λv q=>by rw[d2]at q;cases q⟩
 keep:=λi h h' st k=>by
  obtain⟨⟨f0,f1,hf,hz⟩,hTI,⟨a,b',hTO⟩,o1,o2⟩:=st;exact⟨⟨f0,f1,hf,k z (by simp) _ hz⟩,k TI (by simp) _ hTI,⟨a,b',k TO (by simp) _ hTO⟩,o1.at λo e=>k i1 (by simp) o e,o2.at λo e=>k i2 (by simp) o e⟩
 item:=by
  intro X hP hw hK hc i pins s σ H E I hf st hg;subst hP hw hK;obtain⟨xs,ys,xv,yv,q1,q2,e1,e2⟩:=hg;obtain⟨its1,r1,p1,_⟩:=I.list q1;obtain⟨its2,r2,p2,_⟩:=I.list q2;obtain⟨u1,hu1,ru1⟩:=r1.get e1;obtain⟨u2,hu2,ru2⟩:=r2.get e2
  refine znext D st p1.isList p2.isList (x:=u1) (y:=u2) (by simpa using hu1) (by simpa using hu2) λT h₂ st₂ hT ht k=>⟨.ref T,rfl,Z2 ?_⟩
  have fT:H T=none:=I.hok.fresh hT;have I2:Inv X pins σ (upd H T (.tup [xv,yv])) { s with heap:=h₂ }:=Inv.turnedL (ch:=[z,TO,i1,i2]) (us:=[u1,u2]) I (λb hb=>hf b (by simp only[bD,bM,or_false]at hb ⊢;rcases hb with q|q|q|q<;>simp[q])) k hT ht (.cons ru1 (.cons ru2 .nil)) (by show 2<=sizeLine;decide);refine⟨.ref T,upd H T (.tup [xv,yv]),I2,rfl,⟨T,xv,yv,rfl,fT,λzs hz=>by rw[I.list_inj hz q1];exact e1,λzs hz=>by rw[I.list_inj hz q2];exact e2,rfl⟩,st₂,λb hb=>?_⟩
  obtain⟨o,eo,_⟩:∃o,s.heap.get? b=some o/\True:=by
   obtain⟨⟨f0,f1,hf',hz⟩,hTI,⟨a,b',hTO⟩,⟨o1,w1,_,_⟩,⟨o2,w2,_,_⟩⟩:=st;simp only[bD,bM,or_false]at hb;rcases hb with rfl|rfl|rfl|rfl|rfl
   ·exact⟨_,hz,trivial⟩
   ·exact⟨_,hTI,trivial⟩
   ·exact⟨_,hTO,trivial⟩
   ·exact⟨_,w1,trivial⟩
   ·exact⟨_,w2,trivial⟩
  rw[jh λq=>absurd (bN eo) (by rw[q];exact jcy.mpr hT)];exact(hf b hb).1
 done:=by
  intro X hP hw hK hc i pins s σ H E I hf st hg;subst hP hw hK;obtain⟨xs,ys,q1,q2,hl⟩:=hg;obtain⟨its1,r1,p1,_⟩:=I.list q1;obtain⟨its2,r2,p2,_⟩:=I.list q2;have n1:=r1.length;have n2:=r2.length
  refine zend (I.ok.hd hc) D st p1.isList p2.isList (hl.elim (λh=>.inl (by simp;lia)) λh=>.inr (by simp;lia)) λh₂ k=>⟨rfl,?_⟩
  exact Inv.turnedN (ch:=[z,TO,i1,i2]) I (λb hb=>hf b (by simp only[bD,bM,or_false]at hb ⊢;rcases hb with q|q|q|q<;>simp[q])) k
 self:=λA i s Q E st h=>by
  obtain⟨⟨f0,f1,hf,hz⟩,_⟩:=st
  have ty:s.TypeIs (.ref z) "zip":=⟨_,hz,rfl⟩
  refine wpAny_pyIter_slot ty F.slot_zip_iter (n5 F.slot_zip_iter ty F.entry_zip_iter ?_ (F.args_zip_iter_1 _));exact bJ (M:=model P w) ⟨_,rfl,"zip",_,ty,tF.lookup,h⟩
def iZip(K:bp)(ta:TA):TI:=λσ H R=>ta σ H λvs H1=>∃l1 l2,vs=[.ref l1,.ref l2]/\(∃xs,SqL K H1 l1 xs)/\(∃ys,SqL K H1 l2 ys)/\R (Itz K l1 l2) H1
theorem jbD{a:Expr}{as:List Expr}{ta:TA}(hg:Gl X "zip")(hm:X.mg "zip"=none)(ha:PA X (a::as) ta)(hs:bQ (a::as) X.env=(false,eval a X.env)::bQ as X.env)(hpl:(backTo pos (bQ as X.env)).any (·.1)=false) :
 PI X (.Name x px) (.Call (.Name "zip" p) (a::as) [] pos) (iZip X.K ta):=by
 intro pins s σ H R I h;refine Call_ (uU I hg hm boot_zip (mY (thn (ha pos pins s σ H _ I h) λus s1 ⟨vs,H1,I1,r1,q1⟩=>?_) hs hpl));obtain⟨l1,l2,rfl,⟨xs,hx⟩,⟨ys,hy⟩,q⟩:=q1;obtain⟨u1,u2,rfl,e1,e2⟩:=Xq r1;cases e1;cases e2;obtain⟨its1,r1,p1,_⟩:=I1.list hx;obtain⟨its2,r2,p2,_⟩:=I1.list hy
 have a1:l1<s1.heap.objs.size:=by obtain⟨_,e,_⟩:=p1.isList;exact bN e
 have a2:l2<s1.heap.objs.size:=by obtain⟨_,e,_⟩:=p2.isList;exact bN e
 refine call_zip_2 p1.isList p2.isList λh₂ hz hTI hTO hi1 hi2 _ hk=>?_
 have D:=zipApart_new a1 a2;refine wpAny_pyIter_zip (s:={ s1 with heap:=h₂ }) hz ⟨_,_,_,_,H1,rfl,I1.kept (t':=s1.toks) hk,jbt D,⟨⟨.none,false,.inl rfl,hz⟩,hTI,⟨_,_,hTO⟩,hi1,hi2⟩,λb hb=>?_,q⟩
 have hb':s1.heap.objs.size<=b:=by
  simp only[bD,bM,or_false]at hb
  rcases hb with rfl|rfl|rfl|rfl|rfl<;>lia
 exact I1.fpOk hb' (I1.hok.fresh hb')
end Z
namespace Z
open PySem PySem.Spec PySem.Calls PyProof.Rows PySem.W L2
variable{mN:Str->Option bq}{fI:Addr}{oI:nv}{Q:Unit->Shared->Prop}
section
variable {prog:dW} {w:World} {A:mq} {E:bq->Shared->Prop} {h:gQ} {g:Array nX} {d:Drawn} {t:Nat} {os:jdU}
variable {nm q:Str} {C N:Addr} {bs bm bmB:List bq} {hdct:Bool} {sn:List Str} {sub:List bq} {ab:Bool} {col:Option Bool} {dd:Option Addr} {k0 k1 k2 k3 k5:Option bq} {B Bn newId nid initId inN:String} {bmN:List bq}
theorem X3(Fn:jcr Bn newId inN bmN)(hBn:bmB.contains (.type Bn)=true)(F:jcr B nid initId bmB)(T:jfc h bmB bm){rest:List bq}{Q:jfs->Shared->Prop}
 (hC:h.get? C=some (gZ nm q C N bs bm hdct sn sub ab col dd k0 k1 k2 k3 k5 newId)) (hn:h.Ns N mN) (hi:mN "__init__"=some (.ref fI)) (hfI:h.get? fI=some oI) (hfc:oI.cls=.type "function")
 (hq:∀h' e,pU h h' e (.ref C) rest->wpAny (model prog w) A (call (.ref fI) (.ref e::rest)) (λr s'=>r=.none/\Q (.done (.ret (.ref e))) s') E ⟨h',g,d,t,os⟩) (hrest:rest.length<=sizeLine) :
 wpAny (model prog w) A (tE.«type.__call__» ⟨.ref C::rest,[]⟩) Q E ⟨h,g,d,t,os⟩:=by
 repeat (first|(with_reducible refine gz hC ?_)|(with_reducible refine wpAny_madeBy_exc hC ?_)|wp_step)
 refine codeAny_call_builtin_code (jcA _ Fn.quiet) (wpAny_check_new_subU Fn hBn T hC (codeAny_exc_new_subU Fn hBn F T hC ?_ hrest));show wpAny _ _ _ _ _ _;generalize hh2:(h.push { cls:=.type "tuple",data:=.seq rest.toArray }).push { cls:=.ref C,data:=.fields #[.ref h.objs.size,.none,.none,.none,.bool false,.none] }=h2
 have kp:∀b o,h.get? b=some o->h2.get? b=some o:=λb o e=>by rw[<- hh2];exact bC _ (bC _ e)
 have he:h2.get? (h.objs.size+1)=some { cls:=.ref C,data:=.fields #[.ref h.objs.size,.none,.none,.none,.bool false,.none] }:=by rw[<- hh2];heap_get
 have ht:h2.get? h.objs.size=some { cls:=.type "tuple",data:=.seq rest.toArray }:=by rw[<- hh2];exact bC _ (jcM rfl rfl)
 have hcC:(gT C::bm).contains (.ref C)=true:=by simp
 have hC2:=kp _ _ hC;have hn2:h2.Ns N mN:=hn.keeps kp;unfold wq
 repeat (first|(with_reducible refine gz he ?_)|(with_reducible refine sM hC2 ?_;rw[hcC])|wp_step)
 show wpAny _ _ (mG (.ref C) _) _ _ _;refine wpAny_typeLookup_tail hC2 hn2 (T.keeps kp) F.mroIs F.init.lookup ?_;rw[hi];refine dS (bh ?_);unfold bindSpecial;refine bh (wpAny_typeOf (T:="function") ⟨_,kp _ _ hfI,hfc⟩ ?_);rw[if_pos (by decide)]
 have made:pU h h2 (h.objs.size+1) (.ref C) rest:=⟨kp,pQ (je1 _),h.objs.size,he,pQ (bV _),ht⟩
 refine bJ (bh (gA (hq h2 _ made) (λr s' hr=>?_) λ_ _ x=>x));obtain⟨rfl,hQ⟩:=hr
 wp_walk
 exact hQ
theorem YT(Fn:jcr Bn newId inN bmN)(hBn:bmB.contains (.type Bn)=true)(F:jcr B nid initId bmB)(T:jfc h bmB bm){rest:List bq}{Q:bq->Shared->Prop}
 (hC:h.get? C=some (gZ nm q C N bs bm hdct sn sub ab col dd k0 k1 k2 k3 k5 newId)) (hn:h.Ns N mN) (hi:mN "__init__"=some (.ref fI)) (hfI:h.get? fI=some oI) (hfc:oI.cls=.type "function")
 (hq:∀h' e,pU h h' e (.ref C) rest->wpAny (model prog w) (A.under (.builtin "type.__call__" ⟨.ref C::rest,[]⟩)) (call (.ref fI) (.ref e::rest)) (λr s'=>r=.none/\Q (.ref e) s') E ⟨h',g,d,t,os⟩) (hrest:rest.length<=sizeLine) :
 wpAny (model prog w) A (call (.ref C) rest) Q E ⟨h,g,d,t,os⟩:=by
 have l1:=tc_lookup;have l2:=tc_bind (.ref C)
 have ty:(⟨h,g,d,t,os⟩:Shared).TypeIs (.ref C) "type":=⟨_,hC,rfl⟩
 refine tK (codeAny_of_tree (show wpAny _ _ (callAny (.ref C) _) _ _ _ from ?_))
 repeat (any_goals (first|assumption|(with_reducible refine gz hC ?_)|wp_step))
 exact⟨rfl,codeAny_call_builtin_at (jcA _ (by decide +kernel)) entry_typeCall (wpAny_check_type_call_sub hC (X3 Fn hBn F T hC hn hi hfI hfc hq hrest))⟩
end
section
variable {M:Model} {A:mq} {E:bq->Shared->Prop} {env:Env}
variable {nm q:Str} {C N:Addr} {bs bm:List bq} {hdct:Bool} {sn:List Str} {sub:List bq} {ab:Bool} {col:Option Bool} {dd:Option Addr} {k0 k1 k2 k3 k5:Option bq} {newId:String}
theorem Ze{s:Shared}{x:Sem bq}{Q:Flow->Shared->Prop}(hb:bm.contains (.type "BaseException")=true)(hh:A.handled=none)
 (hx:wpAny M A x (λv s₁=>∃e t dct,v=.ref e/\s₁.heap.get? C=some (gZ nm q C N bs bm hdct sn sub ab col dd k0 k1 k2 k3 k5 newId)/\s₁.heap.get? e=some { cls:=.ref C,dict:=dct,data:=.fields #[.ref t,.none,.none,.none,.bool false,.none] }/\E (.ref e) s₁) E s) :
 wpAny M A (raiseStmt env (some x) none) Q E s:=by
 have hcB:(gT C::bm).contains (.type "BaseException")=true:=by rw[pA,hb,jcn]
 unfold raiseStmt;refine bh (gA hx (λv s₁ ⟨e,t,dct,ev,hC,he,hE⟩=>?_) λ_ _ x=>x);subst ev;obtain⟨hp,g,d,tk,os⟩:=s₁
 repeat (first|(with_reducible refine gz he ?_)|(with_reducible refine gz hC ?_)|(with_reducible refine sM hC ?_;rw[hcB])|wp_step)
 exact wpAny_raiseNew_none hh hE
end
variable{base:gQ}{env:Env}{L e:Addr}{oe:nv}{vs:Array bq}{a0:bq}{dct:Option Addr}
section
variable {M:Model} {A:mq} {E:bq->Shared->Prop} {s:Shared}
def yr(h:gQ)(e:Addr)(dct:Option Addr):Prop:=∃o,h.get? e=some o/\o.dict=dct
theorem JF(o:nv)(f:Array bq->Array bq):(wK f o).dict=o.dict:=by
 unfold wK
 split<;>rfl
theorem noteD{outer:List Env}{head:bq}{hadNext:Bool}
 (hfr:A.frames=some (env::outer)) (hl:s.heap.FunFrames base (env::outer)) (hf:env.frame=some L) (he:s.heap.get? e=some oe) (hkb:base.StaysIn s.heap) (hen:base.get? e=none) (hd:oe.data=.fields vs) (hsz:1<vs.size) (h0:vs[0]?=some a0)
 (h:∀h',Heap.NotedW base (env::outer) e oe.cls a0 (rawInt L) s.heap h'->yr h' e oe.dict->Q () { s with heap:=h' }) :
 wpAny M A (do let a <- frameOf env;let pl <- entryPlaceOf L hadNext;let b <- jdY head a .none (rawInt L) .none pl;tU (.ref e) 1 b) Q E s:=by
 have nf:e ∉ (env::outer).filterMap (·.frame):=λhm=>by
  obtain⟨_,o,ho,hnf⟩:=hl.mem hm;rw[he]at ho;cases ho;exact hnf vs hd
 refine bh (wpAny_frameOf_fun hfr hl hf λh1 hs=>bh (wpAny_entryPlaceOf λpl hpl=>?_));unfold jdY newFields;refine bh (jcL ?_ (hpl.sizeOk5 _ _ _ _ _));generalize htb:({ cls:=.type "traceback",dict:=none,data:=.fields ([head,.ref L,.none,rawInt L,.none]++(if pl.isEmpty then gc 6 n9 else pl)).toArray }:nv)=tb;have he1:h1.get? e=some oe:=(hs.2.1 e nf).trans he;have hne:h1.objs.size≠e:=pd (bN he1);have he2:(h1.push tb).get? e=some oe:=bC _ he1;have hT2:(h1.push tb).get? h1.objs.size=some tb:=dJ h1 (by rw[<- htb];rfl)
 let f1:nv->nv:=wK (·.setIfInBounds 1 (gT h1.objs.size))
 have d3:(f1 oe).data=.fields (vs.setIfInBounds 1 (gT h1.objs.size)):=jeh hd _;have he3:((h1.push tb).update e f1).get? e=some (f1 oe):=mh _ he2 (jdt d3);have hT3:((h1.push tb).update e f1).get? h1.objs.size=some tb:=(dQ _ _ (gX hne)).trans hT2;refine jdE he2 hd hsz (h _ ?_ ⟨f1 oe,he3,JF _ _⟩)
 have kb:base.StaysIn h1:=λb o hb=>(hs.2.1 b λhm=>by rw[(hl.mem hm).1]at hb;cases hb).trans (hkb b o hb)
 have keep:∀b o,b≠e->h1.get? b=some o->((h1.push tb).update e f1).get? b=some o:=λb o hb q=>by
  rw[dQ _ _ (gX hb)];exact bC _ q
 have other:∀b o,s.heap.get? b=some o->(∀vs,o.data ≠ .fields vs)->b≠e:=λb o q n z=>by
  rw[z,he]at q;cases q;exact n vs hd
 have fresh:base.get? h1.objs.size=none:=by
  cases q:base.get? h1.objs.size with
  |none=>rfl
  |some o=>exact absurd (bN (kb _ _ q)) (gG _)
 have dT:tb.data=.fields ([head,.ref L,.none,rawInt L,.none]++(if pl.isEmpty then gc 6 n9 else pl)).toArray:=by rw[<- htb]
 refine⟨λb o q=>keep b o (λz=>by rw[z,hen]at q;cases q) (kb b o q),hl.of_keeps λb o q n=>?_,⟨f1 oe,_,h1.objs.size,tb,_,he3,⟨Obj.cls_mapFields _ _,?_⟩,d3,by simp[hsz],fresh,hne,hT3,dT,?_⟩,λb o q n=>?_⟩
 ·obtain⟨sl,z⟩:=hs.2.2 b o q;exact⟨_,keep b _ (other b o q n) z,rfl⟩
 ·rw[Array.getElem?_setIfInBounds_ne (by decide)];exact h0
 ·simp
 ·obtain⟨sl,z⟩:=hs.2.2 b o q;exact⟨sl,keep b _ (other b o q n) z⟩
theorem ZN{l:List Env}{cls fl:bq}(hkb:base.StaysIn s.heap)(hen:base.get? e=none)(hl:s.heap.FunFrames base l)(ht:s.heap.TracedAtW base e cls a0 fl)(hdc:yr s.heap e dct)
 (h:∀h',pB base l e cls a0 h'->yr h' e dct->s.heap.UpToSlots h'->Q () { s with heap:=h' }):wpAny M A (jeT (.ref e) none) Q E s:=by
 obtain⟨oe,vs,T,oT,ts,he,hc,hd,h1,hnT,hTe,hT,hdT,h3⟩:=ht;obtain⟨o,ho,hdo⟩:=hdc;unfold jeT;refine bh (gF he hd h1 ?_);rw[if_pos (by simp)];have sz:3<ts.size:=(ni.mp h3).1;have dT:=jeh hdT (·.setIfInBounds 3 ((none:Option Addr).elim n9 λf=>rawInt f));refine jdE hT hdT sz (h _ ?_ ?_ λb o q n=>?_)
 ·have ot:∀b,b≠T->(s.heap.update T (wK (·.setIfInBounds 3 ((none:Option Addr).elim n9 λf=>rawInt f)))).get? b=s.heap.get? b:=λb hb=>dQ _ _ (gX hb)
  refine⟨λb o q=>(ot b λz=>by rw[z,hnT]at q;cases q).trans (hkb b o q),hen,hl.of_keeps λb o q n=>⟨o,(ot b λz=>?_).trans q,rfl⟩,oe,vs,T,_,_,(ot e (gX hTe)).trans he,hc,hd,h1,hnT,hTe,mh _ hT (jdt dT),dT,by simp[sz]⟩;rw[z,hT]at q;cases q;exact n ts hdT
 ·exact⟨o,(dQ _ _ hTe).trans ho,hdo⟩
 ·refine⟨o.slots,(dQ _ _ λz=>?_).trans q⟩;rw[<- z,hT]at q;cases q;exact n ts hdT
theorem leaveD1{outer:List Env}
 (hfr:A.frames=some (env::outer)) (hl:s.heap.FunFrames base (env::outer)) (hf:env.frame=some L) (he:s.heap.get? e=some oe) (hkb:base.StaysIn s.heap) (hen:base.get? e=none) (hd:oe.data=.fields vs) (h1:vs[1]?=some .none) (h0:vs[0]?=some a0)
 (h:∀h',gQ.LeftW base (env::outer) e oe.cls a0 s.heap h'->yr h' e oe.dict->Q () { s with heap:=h' }):wpAny M A (jdb env (.ref e)) Q E s:=by
 unfold jdb jc0;simp only[hf];refine bh (bh (gF he hd h1 ?_));rw[if_neg (by decide)]
 exact noteD hfr hl hf he hkb hen hd (ni.mp h1).1 h0 λh2 ⟨x1,x2,x3,x4⟩ dd=>ZN (s:={ s with heap:=h2 }) x1 hen x2 x3 dd λh3 ⟨y1,_,y3,y4⟩ d2 us=>h h3 ⟨y1,y3,y4,λb o q n=>by obtain⟨sl,z⟩:=x4 b o q n;obtain⟨s2,z2⟩:=us b { o with slots:=sl } z n;exact⟨s2,z2⟩⟩ d2
theorem lookD{outer:List Env}{cls:bq}
 (hfr:A.frames=some (env::outer)) (hf:env.frame=some L) (hfl:pB base (env::outer) e cls a0 s.heap) (hdc:yr s.heap e dct)
 (h:∀h',gQ.HeldW base (env::outer) e cls a0 L h'->yr h' e dct->s.heap.UpToSlots h'->Q () { s with heap:=h' }):wpAny M A (jc0 (.ref e) env) Q E s:=by
 obtain⟨hkb,hen,hl,oe,vs,T,oT,ts,he,⟨hc,h0⟩,hd,h1,hnT,hTe,hT,hdT,h3⟩:=hfl;obtain⟨o,ho,hdo⟩:=hdc;rw[he]at ho;cases ho;subst hc hdo;unfold jc0;simp only[hf];refine bh (gF he hd h1 ?_);rw[if_pos (by simp)];refine bh (gF hT hdT h3 ?_);rw[if_neg (by simp[rawInt])];refine bh (jdE hT hdT (ni.mp h3).1 ?_);generalize hh:s.heap.update T (wK (·.setIfInBounds 3 n9))=h2
 have ot:∀b,b≠T->h2.get? b=s.heap.get? b:=λb hb=>by rw[<- hh];exact dQ _ _ (gX hb)
 have nT:∀b o,s.heap.get? b=some o->(∀vs,o.data ≠ .fields vs)->b≠T:=λb o q n z=>by
  rw[z,hT]at q;cases q;exact n ts hdT
 exact noteD (s:={ s with heap:=h2 }) hfr (hl.of_keeps λb o q n=>⟨o,(ot b (nT b o q n)).trans q,rfl⟩) hf ((ot e (gX hTe)).trans he) (λb o q=>(ot b λz=>by rw[z,hnT]at q;cases q).trans (hkb b o q)) hen hd (ni.mp h1).1 h0 λh' ⟨x1,x2,x3,x4⟩ dd=>h h' ⟨x1,hen,x2,x3⟩ dd λb o q n=>x4 b o ((ot b (nT b o q n)).trans q) n
theorem leaveD2{outer:List Env}{cls:bq}
 (hfr:A.frames=some (env::outer)) (hf:env.frame=some L) (hfl:pB base (env::outer) e cls a0 s.heap) (hdc:yr s.heap e dct)
 (h:∀h',pB base outer e cls a0 h'->yr h' e dct->s.heap.UpToSlots h'->Q () { s with heap:=h' }):wpAny M A (jdb env (.ref e)) Q E s:=by
 unfold jdb;refine bh (lookD hfr hf hfl hdc λh2 hd2 dd us=>?_);obtain⟨x1,x2,x3,x4⟩:=hd2
 refine ZN (s:={ s with heap:=h2 }) x1 x2 x3 x4 dd λh3 fl d3 us2=>h h3 ?_ d3 (us.trans us2)
 obtain⟨y1,y2,⟨_,_,y3⟩,y4⟩:=fl;exact⟨y1,y2,y3,y4⟩
end
inductive TailN (n:Str) (h:gQ) (bmB:List bq):List bq->Prop
 |base:TailN n h bmB bmB
 |own {a:Addr} {c0:bq} {dd:Option Addr} {cd:jeU} {sl:Array (Option bq)} {m:Str->Option bq} {tl:List bq} (hA:h.get? a=some { cls:=c0,dict:=dd,data:=.cls cd,slots:=sl }) (hN:h.Ns cd.ns m) (hn:m n=none) (r:TailN n h bmB tl):TailN n h bmB (.ref a::tl)
variable{Q:Option bq->Shared->Prop}{y:Option bq}{tk:Tok}{expr:Bool}
section
variable {prog:dW} {w:World} {M:Model} {A:mq} {E:bq->Shared->Prop} {h:gQ} {g:Array nX} {d:Drawn} {t:Nat} {os:jdU} {a dA:Addr} {o:nv} {vs:Array bq} {t0:Addr}
 {nm q:Str} {C N:Addr} {bs bm bmB:List bq} {hdct:Bool} {sn:List Str} {sub:List bq} {ab:Bool} {col:Option Bool} {dd:Option Addr} {k0 k1 k2 k3 k5:Option bq} {B newId:String} {mN mD:Str->Option bq} {n:Str}
theorem X9{tl:List bq}(T:TailN n h bmB tl)(hr:lookupAlong bmB n=pure y)(hq:Q y ⟨h,g,d,t,os⟩):wpAny M A (lookupAlong tl n) Q E ⟨h,g,d,t,os⟩:=by
 induction T with
 |base=>rw[hr];exact bJ hq
 |own hA hN hn _ ih =>
  rw[lookupAlong_cons];exact bh (wpAny_classOwn_cls hA hN (by rw[hn];exact ih))
theorem xQ(hC:h.get? C=some (gZ nm q C N bs bm hdct sn sub ab col dd k0 k1 k2 k3 k5 newId))(hn:h.Ns N mN)(T:TailN n h bmB bm)(hbm:mroOf (.type B)=pure bmB)(hB:mG (.type B) n=pure y)(h0:mN n=none)
 (hq:Q y ⟨h,g,d,t,os⟩):wpAny M A (mG (.ref C) n) Q E ⟨h,g,d,t,os⟩:=by
 have hr:lookupAlong bmB n=pure y:=by rw[typeLookup_eq,hbm]at hB;exact hB
 rw[typeLookup_eq];refine bh (wpAny_mroOf_exc hC ?_);rw[lookupAlong_cons];exact bh (wpAny_classOwn_exc hC hn (by rw[h0];exact X9 T hr hq))
theorem U8{v:bq}{Q:jfs->Shared->Prop}(hC:h.get? C=some (gZ nm q C N bs bm true sn sub ab col dd k0 k1 k2 k3 k5 newId))(hN:h.Ns N mN)(T:TailN n h bmB bm)(hbm:mroOf (.type B)=pure bmB)(hB:mG (.type B) n=pure none)(h0:mN n=none)
 (hx:h.get? a=some o) (hc:o.cls=.ref C) (hd:o.data=.fields vs) (hdc:o.dict=some dA) (hD:h.Ns dA mD) (hv:mD n=some v) (hq:Q (.done (.ret v)) ⟨h,g,d,t,os⟩) :
 wpAny (model prog w) A (tE.«object.__getattribute__» ⟨[.ref a,.str n tk],[]⟩) Q E ⟨h,g,d,t,os⟩:=by
 repeat (any_goals (first|assumption|(with_reducible refine gz hx ?_;rw[hc])|(with_reducible refine xQ hC hN T hbm hB h0 ?_)|wp_step))
 rw[hd];show wpAny _ _ (instanceDict a false) _ _ _;unfold instanceDict;refine bh (gz hx ?_);rw[hc];refine bh ?_;unfold classData
 repeat (any_goals (first|assumption|(with_reducible refine gz hC ?_)|wp_step))
 rw[hdc];refine bJ (show wpAny _ _ (nsGet dA n) _ _ _ from wpAny_nsGet hD ?_);rw[hv]
 repeat (any_goals (first|assumption|wp_step))
theorem jaX{v:bq}{R:Result->Shared->Prop}(FB:ExcAttrBase B bmB)(hC:h.get? C=some (gZ nm q C N bs bm true sn sub ab col dd k0 k1 k2 k3 k5 newId))(hN:h.Ns N mN)(TQ:OwnTailQ h bmB bm)(T:TailN n h bmB bm)(hB:mG (.type B) n=pure none)(h0:mN n=none)
 (hx:h.get? a=some o) (hc:o.cls=.ref C) (hd:o.data=.fields vs) (hdc:o.dict=some dA) (hD:h.Ns dA mD) (hv:mD n=some v) (hq:R (.ok (.ret v)) ⟨h,g,d,t,os⟩) :
 wF (model prog w) A (.call (.builtin "BaseException.__getattribute__") ⟨[.ref a,.str n tk],[]⟩) R ⟨h,g,d,t,os⟩ :=
 mC FB.ga.plain F.entry_bexc_ga (wpAny_check_ga_own FB hC TQ hx hc (U8 hC hN T FB.mro hB h0 hx hc hd hdc hD hv hq))
theorem fld_by{v:bq}{fill:Bool}{Q:bq->Shared->Prop}(FB:ExcAttrBase B bmB)(hC:h.get? C=some (gZ nm q C N bs bm true sn sub ab col dd k0 k1 k2 k3 k5 newId))(hN:h.Ns N mN)(m1:mN "__getattribute__"=none)(m2:mN "__getattr__"=none)(TQ:OwnTailQ h bmB bm)(T1:TailN "__getattribute__" h bmB bm)(T2:TailN "__getattr__" h bmB bm)(T:TailN n h bmB bm)(hB:mG (.type B) n=pure none)(h0:mN n=none)
 (hx:h.get? a=some o) (hc:o.cls=.ref C) (hd:o.data=.fields vs) (hdc:o.dict=some dA) (hD:h.Ns dA mD) (hv:mD n=some v) (nb:∀id,v ≠ .builtin id) (hq:Q v ⟨h,g,d,t,os⟩) :
 wpAny (model prog w) A (getAttrBy (.ref a) (.str n tk) fill expr) Q E ⟨h,g,d,t,os⟩:=by
 have b3:=FB.ga.bind (.ref a)
 have y0:(expr&&onTheHeap (pN "BaseException.__getattribute__"))=false:=by cases expr<;>rfl
 have y2:(pN "BaseException.__getattribute__" == pN "object.__getattribute__")=false:=by decide +kernel
 have y1:(onTheHeap (gT C)&&pN "BaseException.__getattribute__" == pN "object.__getattribute__")=false:=by rw[y2];rfl
 repeat (any_goals (first|assumption|(with_reducible refine gz hx ?_;rw[hc])|(with_reducible refine xQ hC hN T1 FB.mro FB.ga.lookup m1 ?_)|(with_reducible refine xQ hC hN T2 FB.mro FB.noGetattr m2 ?_)|wp_step))
 refine jaX FB hC hN TQ T hB h0 hx hc hd hdc hD hv ?_
 repeat (any_goals (first|assumption|wp_step))
 cases v<;>first|exact bJ hq|exact absurd rfl (nb _)
theorem ja6{v:bq}{Q:bq->Shared->Prop}(FB:ExcAttrBase B bmB)(hC:h.get? C=some (gZ nm q C N bs bm true sn sub ab col dd k0 k1 k2 k3 k5 newId))(hN:h.Ns N mN)(m1:mN "__getattribute__"=none)(m2:mN "__getattr__"=none)(TQ:OwnTailQ h bmB bm)(T1:TailN "__getattribute__" h bmB bm)(T2:TailN "__getattr__" h bmB bm)(T:TailN n h bmB bm)(hB:mG (.type B) n=pure none)(h0:mN n=none)
 (hx:h.get? a=some o) (hc:o.cls=.ref C) (hd:o.data=.fields vs) (hdc:o.dict=some dA) (hD:h.Ns dA mD) (hv:mD n=some v) (nb:∀id,v ≠ .builtin id) (hq:Q v ⟨h,g,d,t+1,os⟩) :
 wpAny (model prog w) A (je9 (.ref a) n expr) Q E ⟨h,g,d,t,os⟩:=by
 unfold je9
 repeat (any_goals (first|assumption|(with_reducible apply fld_by FB hC hN m1 m2 TQ T1 T2 T hB h0 hx hc hd hdc hD hv nb)|wp_step))
end
end Z
namespace Z
open PySem PySem.Spec PySem.Calls PyProof.Rows PySem.W L2
open Builtin Builtin.ObjectAttr
variable{n:Str}{h:gQ}{bmB tl:List bq}
theorem TailN.has(T:TailN n h bmB tl){x:String}(hb:bmB.contains (.type x)=true):tl.contains (.type x)=true:=by
 induction T with
 |base=>exact hb
 |own _ _ _ _ ih=>rw[pA,ih,jcn]
theorem TailN.pass(T:TailN n h bmB tl){self:bq}(hb:refuseLoop self "__setattr__" bmB=pure ()):refuseLoop self "__setattr__" tl=pure ():=by
 induction T with
 |base=>exact hb
 |own _ _ _ _ ih=>rw[refuseLoop_ref];exact ih
variable{Q:Unit->Shared->Prop}
section
variable {prog:dW} {w:World} {A:mq} {E:bq->Shared->Prop} {h:gQ} {g:Array nX} {d:Drawn} {t:Nat} {os:jdU}
variable {nm q:Str} {C N x:Addr} {bs bm bmB:List bq} {sn:List Str} {sub:List bq} {ab:Bool} {col:Option Bool} {dd:Option Addr} {k0 k1 k2 k3 k5:Option bq} {B newId sa owner:String}
 {mN:Str->Option bq} {name:Str} {v:bq} {o:nv} {vs:Array bq}
theorem Vn{tk:Tok}{Q:jfs->Shared->Prop}(SF:StoreFacts B bmB sa owner)(hC:h.get? C=some (gZ nm q C N bs bm true sn sub ab col dd k0 k1 k2 k3 k5 newId))(hn:h.Ns N mN)(hna:mN name=none)(T:TailN name h bmB bm)(hB:mG (.type B) name=pure none)
 (hx:h.get? x=some o) (hc:o.cls=.ref C) (hf:o.data=.fields vs) (hdn:o.dict=none)
 (hq:∀h' tk',h'.get? x=some { cls:=o.cls,dict:=some h.objs.size,data:=o.data,slots:=o.slots }->h'.Ns1 h.objs.size (λy=>if y=name then some v else none)->(∀b ob,b≠x->h.get? b=some ob->h'.get? b=some ob)->Q (.done (.ret .none)) ⟨h',g,d,tk',os⟩) :
 wpAny (model prog w) A (tE.«object.__setattr__» ⟨[.ref x,.str name tk,v],[]⟩) Q E ⟨h,g,d,t,os⟩:=by
 have ps:=T.pass (SF.passes (.ref x));have xs:x≠h.objs.size:=gN (bN hx);unfold tE.«object.__setattr__»
 repeat (first|rw[refuse_eq]|(rw[refuseLoop_ref,ps])|(with_reducible refine gz hx ?_;rw[hc])|(with_reducible refine wpAny_mroOf_exc hC ?_)|(with_reducible refine xQ hC hn T SF.mro hB hna ?_)|wp_step)
 rw[hdn,hf,if_neg (by simp[typeHasDict])];have x1:(h.push { cls:=.type "dict",data:=.dict #[] }).get? x=some o:=bC _ hx;refine bh (wpAny_alloc' (bh (wpAny_update' x1 (bJ ?_))));generalize hh:((h.push { cls:=.type "dict",data:=.dict #[] }).update x λo=>{ cls:=o.cls,dict:=some h.objs.size,data:=o.data,slots:=o.slots })=h2
 have gd:h2.get? h.objs.size=some { cls:=.type "dict",data:=.dict #[] }:=by rw[<- hh];exact(jdZ _ _ _ _ xs.symm).trans (jcM rfl rfl)
 have gx:h2.get? x=some { cls:=o.cls,dict:=some h.objs.size,data:=o.data,slots:=o.slots }:=by
  rw[<- hh];refine mh _ x1 ?_;have:=(Heap.get?_some_iff.mp hx).2;obtain⟨oc,od,odt,osl⟩:=o
  cases odt<;>first|rfl|exact this
 have nd:h2.Ns h.objs.size (λ_=>none):=⟨_,#[],_,gd,rfl,λe he=>absurd he (by simp),λ_=>rfl⟩
 show wpAny _ _ (storeInDict h.objs.size (.str name tk) name v) _ _ _;unfold storeInDict newKeyGuard;refine bh (bJ (bh (wpAny_nsSet1 (Heap.Ns1.of_empty nd) λh' hn' hs=>?_)));obtain⟨oD,esD,epD,hoD,hdD,hcD⟩:=hn'.count (Within.cons name v Within.nil);refine bh (wpAny_lookBehind hoD (by rw[hdD];exact pastItsLine_dict (dg hcD (by rw[gf,nL,n6];omega))) ?_)
 wp_walk
 exact hq h' _ ((hs.2 x xs).trans gx) hn' λb ob hb q=>(hs.2 b (gN (bN q))).trans (by rw[<- hh];exact(jdZ _ _ _ _ hb).trans (bC _ q))
theorem Vv{M:Model}{nameV:bq}(SF:StoreFacts B bmB sa owner)(hC:h.get? C=some (gZ nm q C N bs bm true sn sub ab col dd k0 k1 k2 k3 k5 newId))(T:TailN n h bmB bm)(hx:h.get? x=some o)(hc:o.cls=.ref C)(hq:Q () ⟨h,g,d,t,os⟩) :
 wpAny M A (sf sa ⟨[.ref x,nameV,v],[]⟩) Q E ⟨h,g,d,t,os⟩:=by
 have co:(gT C::bm).contains (.type owner)=true:=by rw[pA,T.has SF.hasOwner,jcn]
 have ar:=SF.args (.ref x) nameV v;simp only[sf,SF.kind,SF.split];refine bh ?_;unfold wq
 repeat (first|(with_reducible refine gz hx ?_;rw[hc])|(with_reducible refine sM hC ?_;rw[co])|wp_step)
 cases sg:jdX sa with
 |none=>exact bJ hq
 |some sig =>
  simp only[argsOk,sg]at ar;show wpAny M A (jdB sa sig ⟨[.ref x,nameV,v],[]⟩) Q E _;rw[show jdB sa sig ⟨[.ref x,nameV,v],[]⟩=pure () from ar];exact bJ hq
theorem Q7(SF:StoreFacts B bmB sa owner)(hC:h.get? C=some (gZ nm q C N bs bm true sn sub ab col dd k0 k1 k2 k3 k5 newId))(hn:h.Ns N mN)(hns:mN "__setattr__"=none)(TS:TailN "__setattr__" h bmB bm)(hna:mN name=none)(T:TailN name h bmB bm)(hB:mG (.type B) name=pure none)
 (hx:h.get? x=some o) (hc:o.cls=.ref C) (hf:o.data=.fields vs) (hdn:o.dict=none)
 (hq:∀h' tk',h'.get? x=some { cls:=o.cls,dict:=some h.objs.size,data:=o.data,slots:=o.slots }->h'.Ns1 h.objs.size (λy=>if y=name then some v else none)->(∀b ob,b≠x->h.get? b=some ob->h'.get? b=some ob)->Q () ⟨h',g,d,tk',os⟩) :
 wpAny (model prog w) A (setAttr (.ref x) name v) Q E ⟨h,g,d,t,os⟩:=by
 have b3:=SF.slot.bind (.ref x);unfold setAttr callSpecial? specialOf
 repeat (any_goals (first|assumption|(with_reducible refine gz hx ?_;rw[hc])|(with_reducible refine xQ hC hn TS SF.mro SF.slot.lookup hns ?_)|wp_step))
 refine mC SF.slot.plain SF.entry (Vv SF hC T hx hc (Vn SF hC hn hna T hB hx hc hf hdn λh' tk' g1 g2 g3=>?_))
 repeat (any_goals (first|assumption|wp_step))
 exact hq h' tk' g1 g2 g3
end
end Z
namespace Z
open PySem PySem.Spec PySem.Calls PyProof.Rows PySem.W L2
section
variable {prog:dW} {w:World} {A:mq} {E:bq->Shared->Prop} {h:gQ} {g:Array nX} {d:Drawn} {t:Nat} {os:jdU}
variable {nm q:Str} {C N e t0:Addr} {bs bm bmB:List bq} {hdct:Bool} {sn:List Str} {sub:List bq} {ab:Bool} {col:Option Bool} {dd:Option Addr} {k0 k1 k2 k3 k5:Option bq} {B newId nid initId:String}
theorem UL{rest:List bq}{Q:bq->Shared->Prop}(F:jcr B nid initId bmB)(T:jfc h bmB bm)(hC:h.get? C=some (gZ nm q C N bs bm hdct sn sub ab col dd k0 k1 k2 k3 k5 newId))
 (he:h.get? e=some { cls:=.ref C,data:=.fields #[.ref t0,.none,.none,.none,.bool false,.none] }) (hrest:rest.length<=sizeLine)
 (hq:∀h',(∀b o,b≠e->h.get? b=some o->h'.get? b=some o)->h'.get? e=some { cls:=.ref C,data:=.fields #[.ref h.objs.size,.none,.none,.none,.bool false,.none] }->h'.get? h.objs.size=some { cls:=.type "tuple",data:=.seq rest.toArray }->Q .none ⟨h',g,d,t,os⟩) :
 wpAny (model prog w) A (call (.builtin initId) (.ref e::rest)) Q E ⟨h,g,d,t,os⟩:=by
 refine tK (mC F.init.plain F.initEntry (wpAny_check_init_subU F T hC he rfl ?_))
 wp_walk
 have ne:e≠h.objs.size:=gN (bN he);refine hq _ (λb o hb q=>?_) ?_ ?_
 ·rw[dQ _ _ (gX hb)];exact bC _ q
 ·rw[mh _ (bC _ he) rfl];rfl
 ·rw[dQ _ _ ne];exact jcM rfl rfl
end
end Z
namespace Z
open PySem PySem.Spec PyProof.Rows PySem.W L2
structure Cover (B:gQ) (outer:List Env) (H1:Hp) (h0 h:gQ):Prop where
 trk:∀b u o,H1 b=some u->h.get? b=some o->B.get? b=some o
 old:∀b o o',h0.get? b=some o->b ∉ frs outer->h.get? b=some o'->B.get? b=some o'
def zD(P:dW)(w:World)(cls:Addr)(outer:List Env)(H:Hp)(s:Shared)(H1:Hp)(dct:Option Addr)(e:bq)(s':Shared):Prop :=
 ∃ea a0 B,e=.ref ea/\s'.os=s.os/\jcl s'.gens/\Un (frs outer) [] H H1 s.heap s'.heap/\HOk P w H1 s'.heap/\jf H H1/\pB B outer ea (.ref cls) a0 s'.heap/\H1 ea=none/\Cover B outer H1 s.heap s'.heap/\(dct=none\/yr s'.heap ea dct)
variable{a:Addr}{o:nv}
section
variable {P:dW} {w:World} {H H1:Hp} {h0 h h' B B':gQ} {outer l:List Env}
theorem K1{o:HO}(x:qS P w H h a o):∃u,h.get? a=some u:=by
 cases o with
 |lst xs=>obtain⟨_,_,_,_,e⟩:=x;exact⟨_,e⟩
 |tup xs=>obtain⟨_,_,_,o,e,_⟩:=x;exact⟨o,e⟩
 |dK kvs=>obtain⟨_,_,_,_,o,_,_,e,_⟩:=x;exact⟨o,e⟩
 |dT kvs=>obtain⟨_,_,_,_,o,_,_,e,_⟩:=x;exact⟨o,e⟩
 |set S n=>obtain⟨o,_,_,_,e,_⟩:=x;exact⟨o,e⟩
 |ins C dx fs=>obtain⟨_,_,_,e,_⟩:=x;exact⟨_,e⟩
 |own y=>exact x
 |xd fs=>obtain⟨_,⟨o,_,_,e,_⟩,_⟩:=x;exact⟨o,e⟩
 |rng lo hi=>obtain⟨_,_,_,e⟩:=x;exact⟨_,e⟩
 |frz ob u=>obtain⟨e,_⟩:=x;exact⟨_,e⟩
 |tbl ps=>exact⟨_,(show h.get? a=some _ from x)⟩
 |met f y=>exact⟨_,(show h.get? a=some _ from x)⟩
 |ext φ=>obtain⟨_,z,_⟩:=x;exact z
theorem yP(u:Un (frs outer) [] H H1 h0 h)(k:HOk P w H1 h)(c:Cover B outer H1 h0 h)(ff:h.FunFrames B' l)(sub:∀b∈frs outer,b∈frs l)(st:B.StaysIn h')(sl:h.UpToSlots h') :
 Un (frs outer) [] H H1 h0 h'/\HOk P w H1 h'/\Cover B outer H1 h0 h':=by
 have up:∀b o,b∈frs outer->h.get? b=some o->∃s,h'.get? b=some { o with slots:=s }:=λb o hb e=>by
  obtain⟨_,o',e',nf⟩:=ff.mem (sub b hb);rw[e]at e';cases e';exact sl b o e nf
 refine⟨⟨λb o e n hb hx=>?_,λb o e n hb hx=>?_,u.free,λb o e hx=>?_,u.tups,u.frzs,u.tbls⟩,λa o e=>?_,⟨λb v o e q=>?_,λb o o' e hb q=>?_⟩⟩
 ·exact st _ _ (c.old b o o e hb (u.keep b o e n hb hx))
 ·obtain⟨s1,e1⟩:=u.slot b o e n hb hx;obtain⟨s2,e2⟩:=up b _ hb e1;exact⟨s2,e2⟩
 ·obtain⟨o',e'⟩:=u.there b o e hx;by_cases hb:b∈frs outer
  ·obtain⟨s2,e2⟩:=up b _ hb e';exact⟨_,e2⟩
  ·exact⟨o',st _ _ (c.old b o o' e hb e')⟩
 ·refine(k a o e).stay (λb v hb q=>?_) (λ_ z=>z) λ_ _ z=>z
  rcases hb with rfl|hb
  ·exact st _ _ (c.trk _ _ _ e q)
  ·exact st _ _ (c.trk _ _ _ hb q)
 ·obtain⟨o',e'⟩:=K1 (k b v e);have z:=c.trk b v o' e e';have:=st _ _ z;rw[q]at this;cases this;exact z
 ·obtain⟨o2,e2⟩:=u.there b o e (by simp);have z:=c.old b o o2 e hb e2;have:=st _ _ z;rw[q]at this;cases this;exact z
end
structure Own (X:Cx):Prop where
 stk:X.stack=X.env::X.outer
 frm:X.env.frame=some X.env.locals
 ex:X.ex=[]
variable{e:Addr}{dct:Option Addr}
section
variable {X:Cx} {pins:List (Addr×nv)} {σ:L2.St} {H:Hp} {s s':Shared} {M:Model} {E:bq->Shared->Prop} {Q:Unit->Shared->Prop} {C:Addr}
theorem Z0(w:Own X):frs X.stack=X.env.locals::frs X.outer:=by
 rw[w.stk];unfold frs;rw[sr,w.frm]
theorem K6(I:Inv X pins σ H s)(w:Own X){b:Addr}(e:X.s₀.heap.get? b=some o)(hb:b ∉ frs X.outer):b ∉ frs X.stack:=by
 rw[Z0 w];intro z;rcases bD.mp z with rfl|z
 ·exact absurd (bN e) (jcy.mpr I.ok.above)
 ·exact hb z
theorem KM(w:Own X):∀b∈frs X.outer,b∈frs X.stack:=λb hb=>by
 rw[Z0 w];exact bo _ hb
theorem XH(I:Inv X pins σ H s)(w:Own X)(sm:jf X.H₀ H){h1:gQ}{args:List bq}(hx:pU s.heap h1 e (.ref C) args)
 (hq:∀s',zD X.prog X.w C X.outer X.H₀ X.s₀ H none (.ref e) s'->Q () s'):wpAny M X.A (jdb X.env (.ref e)) Q E { s with heap:=h1 }:=by
 have e0:=I.env0
 have hin:∀env∈X.stack,∀a,env.frame=some a->a∈frs X.stack:=λenv he a ha=>tJ.mpr ⟨env,he,ha⟩
 have ff:=funFrames_hide e0.funs hin
 have bs:(jeE s.heap (frs X.stack)).StaysIn s.heap:=λb o q=>of_hideAll _ q
 have hfr:X.A.frames=some (X.env::X.outer):=by rw[<- w.stk];exact e0.frames
 have ff':s.heap.FunFrames (jeE s.heap (frs X.stack)) (X.env::X.outer):=by rw[<- w.stk];exact ff
 refine wpAny_leaves_madeW (s:={ s with heap:=h1 }) hfr w.frm bs ff' hx λh' t fl tup _ us=>?_
 have cov:Cover (jeE s.heap (frs X.stack)) X.outer H X.s₀.heap s.heap:=by
  refine⟨λb u o e q=>jdF _ q λz=>?_,λb o o' e hb q=>jdF _ q (K6 I w e hb)⟩;have:=e0.frf b z;rw[e]at this;cases this
 have ub:Un (frs X.outer) [] X.H₀ H X.s₀.heap s.heap:=by have:=I.base;rw[w.ex]at this;exact this
 obtain⟨u2,k2,c2⟩:=yP ub I.hok cov ff (KM w) fl.1 ((Heap.UpToSlots.of_keeps hx.keeps).trans us);refine hq _ ⟨e,_,_,rfl,I.os,I.bare,u2,k2,sm,fl,?_,c2,.inl rfl⟩
 cases q:H e with
 |none=>rfl
 |some u =>
  obtain⟨o,z⟩:=K1 (I.hok e u q);rw[hx.new]at z;cases z
theorem UO{H1:Hp}(I:Inv X pins σ H s)(w:Own X)(sm:jf X.H₀ H1){e:bq}(T:zD X.prog X.w C X.stack H s H1 dct e s')
 (hq:∀s',zD X.prog X.w C X.outer X.H₀ X.s₀ H1 dct e s'->Q () s'):wpAny M X.A (jdb X.env e) Q E s':=by
 obtain⟨ea,a0,B,rfl,ho,hg,u,k,s1,fl,he,c,hdc⟩:=T
 have hfr:X.A.frames=some (X.env::X.outer):=by rw[<- w.stk];exact I.env0.frames
 have fl':pB B (X.env::X.outer) ea (.ref C) a0 s'.heap:=by rw[<- w.stk];exact fl
 obtain⟨oe,_,e1,_⟩:=id fl.first
 refine leaveD2 hfr w.frm fl' ⟨oe,e1,rfl⟩ λh' f2 d2 us=>?_
 have J:=I.call' ho u k hg (ch:=[]) (λb z=>nomatch z)
 have ub:Un (frs X.outer) [] X.H₀ H1 X.s₀.heap s'.heap:=by have:=J.base;rw[w.ex]at this;exact this
 have cov:Cover B X.outer H1 X.s₀.heap s'.heap:=⟨c.trk,λb o o' e hb q=>by
  obtain⟨o2,e2⟩:=I.base.there b o e (by rw[w.ex];simp)
  exact c.old b o2 o' e2 (K6 I w e hb) q⟩
 obtain⟨u2,k2,c2⟩:=yP ub k cov fl.2.2.1 (KM w) f2.1 us;refine hq _ ⟨ea,a0,B,rfl,J.os,hg,u2,k2,sm,f2,he,c2,hdc.imp id λ⟨o,q1,q2⟩=>?_⟩;rw[e1]at q1;cases q1;rw[<- q2];exact d2
def del(H:Hp)(a:Addr):Hp:=λb=>if b=a then none else H b
theorem XS{H:Hp}:del H a a=none:=by unfold del;rw[if_pos rfl]
theorem k9{H:Hp}{b:Addr}(h:b≠a):del H a b=H b:=by unfold del;rw[if_neg h]
theorem inv_del{φ:gQ->Prop}(I:Inv X pins σ H s)(he:H e=some (.ext φ))(h0:X.H₀ e=none):Inv X pins σ (del H e) s:=by
 have nt:∀ {b:Addr} {u:HO},H b=some u->(∀ψ,u ≠ .ext ψ)->b≠e:=λ{b u} q n z=>by rw[z,he]at q;cases q;exact n _ rfl
 refine⟨I.ok,I.os,I.bare,⟨I.base.keep,I.base.slot,λb o q n hx=>?_,I.base.there,λb xs q=>?_,λb o u q=>?_,λb ps q=>?_⟩,I.loc,I.cell,?_,λx c q=>?_,λp hp=>?_,λb u q=>?_,I.len⟩
 ·have:=I.base.free b o q n hx;rw[k9 λz=>by rw[z,he]at this;cases this];exact this
 ·have:=I.base.tups b xs q;rw[k9 (nt this λ_ z=>nomatch z)];exact this
 ·have:=I.base.frzs b o u q;rw[k9 (nt this λ_ z=>nomatch z)];exact this
 ·obtain⟨m,this⟩:=I.base.tbls b ps q;exact⟨m,by rw[k9 (nt this λ_ z=>nomatch z)];exact this⟩
 ·have:=I.free;rw[k9 λz=>by rw[z,he]at this;cases this];exact this
 ·have:=I.freeC x c q;rw[k9 λz=>by rw[z,he]at this;cases this];exact this
 ·obtain⟨g1,g2,g3⟩:=I.pin p hp;exact⟨g1,by rw[k9 λz=>by rw[z,he]at g2;cases g2];exact g2,g3⟩
 ·have hb:b≠e:=λz=>by rw[z,XS]at q;cases q
  rw[k9 hb]at q
  exact(I.hok b u q).stay (λ_ _ _ z=>z) (λc z=>by rw[k9 (nt z λ_ z=>nomatch z)];exact z) λc xs z=>by rw[k9 (nt z λ_ z=>nomatch z)];exact z
theorem Ye{vs:Array bq}{a0:bq}(I:Inv X pins σ H s)(w:Own X)(sm:jf X.H₀ H)(ho:s.heap.get? e=some o)(hc:o.cls=.ref C)(hdc:o.dict=dct)(hd:o.data=.fields vs)(h1:vs[1]?=some .none)(ha:vs[0]?=some a0)(he:H e=none)(h0:X.s₀.heap.get? e=none)
 (hq:∀s',zD X.prog X.w C X.outer X.H₀ X.s₀ H dct (.ref e) s'->Q () s'):wpAny M X.A (jdb X.env (.ref e)) Q E s:=by
 have e0:=I.env0
 have hin:∀env∈X.stack,∀a,env.frame=some a->a∈e::frs X.stack:=λenv he a ha=>bo _ (tJ.mpr ⟨env,he,ha⟩)
 have ff:=funFrames_hide e0.funs hin
 have bs:(jeE s.heap (e::frs X.stack)).StaysIn s.heap:=λb o q=>of_hideAll _ q
 have hfr:X.A.frames=some (X.env::X.outer):=by rw[<- w.stk];exact e0.frames
 have ff':s.heap.FunFrames (jeE s.heap (e::frs X.stack)) (X.env::X.outer):=by rw[<- w.stk];exact ff
 refine leaveD1 hfr ff' w.frm ho bs (hideAll_none _ (bB ..)) hd h1 ha λh' lf d2=>?_
 obtain⟨y1,y3,y4,us⟩:=lf
 have cov:Cover (jeE s.heap (e::frs X.stack)) X.outer H X.s₀.heap s.heap:=by
  refine⟨λb u o q1 q=>jdF _ q λz=>?_,λb o o' q1 hb q=>jdF _ q λz=>?_⟩
  ·rcases bD.mp z with rfl|z
   ·rw[he]at q1;cases q1
   ·have:=e0.frf b z;rw[q1]at this;cases this
  ·rcases bD.mp z with rfl|z
   ·rw[h0]at q1;cases q1
   ·exact K6 I w q1 hb z
 have ub:Un (frs X.outer) [] X.H₀ H X.s₀.heap s.heap:=by have:=I.base;rw[w.ex]at this;exact this
 obtain⟨u2,k2,c2⟩:=yP ub I.hok cov ff (KM w) y1 us;obtain⟨_,_,y5⟩:=y3;rw[hc]at y4;rw[hdc]at d2;exact hq _ ⟨e,a0,_,rfl,I.os,I.bare,u2,k2,sm,⟨y1,hideAll_none _ (bB ..),y5,y4⟩,he,c2,.inr d2⟩
end
end Z
namespace Z
open PySem PySem.Spec PySem.Calls PyProof.Rows PySem.W L2 PySem.Builtin.Getset_descriptor
variable{M:Model}{h:gQ}
section
variable {prog:dW} {w:World} {A:mq} {E:bq->Shared->Prop} {s:Shared} {K:Frag} {x D:Addr} {ox:nv}
structure ExcIn (K:Frag) (D:Addr):Prop where
 ga:findIn K (.ref D) "__getattribute__"=some (some (.builtin "BaseException.__getattribute__"))
 gt:findIn K (.ref D) "__getattr__"=some none
 ca:findIn K (.ref D) "__class__"=some (some (.builtin "object.__class__"))
 cg:specialIn K (.builtin "object.__class__") "__get__"=some (some (.builtin "getset_descriptor.__get__"))
 ct:takesIn K (.builtin "object.__class__")=some true
 mo:mroIn K D (.type "object")=some true
 mb:mroIn K D (.type "BaseException")=some true
def ExAt(h:gQ)(x D:Addr):Prop:=∃o,h.get? x=jdG o/\o.cls=.ref D
theorem ExAt.type(I:ExAt h x D):jdH M h (typeOf (.ref x)) (.ref D):=by
 obtain⟨o,e,c⟩:=I;exact c ▸ (jeF e).andThen .now
theorem ExcIn.looks(X:K.In h)(e:ExcIn K D):jdH M h (jc2 (.ref x) (.ref D) "__class__") (.bind (.builtin "getset_descriptor.__get__") (.builtin "object.__class__")):=by
 have l1:=sj (M:=M) X e.ca;have l2:=looks_specialIn (M:=M) X e.cg;have l3:=looks_takesIn (M:=M) X e.ct;unfold jc2;refine l1.andThen ?_;refine Looks.andThen (show jdH M h (jfp _) _ from l2) ?_;refine Looks.andThen (show jdH M h (jei (jdG _) (jdG _)) (jdG (_,_)) from l3.andThen .now) ?_;exact jdH.tag .now
theorem ExcIn.some(e:ExcIn K D):(clsIn K D).isSome=true:=by
 have:=e.mo;unfold mroIn at this
 cases q:clsIn K D with
 |none=>rw[q]at this;cases this
 |some c=>rfl
theorem Qg{R:Result->Shared->Prop}{hh:gQ}{g:Array nX}{d:Drawn}{t:Nat}{os:jdU}{tp:bq}(L0:jdH (model prog w) hh (typeOf (.ref x)) (.ref D))(L1:jdH (model prog w) hh (isSubtype (.ref D) (.type "object")) true)
 (h:R (.ok (.ret (.ref D))) ⟨hh,g,d,t,os⟩):wF (model prog w) A (.call (.builtin "getset_descriptor.__get__") ⟨[.builtin "object.__class__",.ref x,tp],[]⟩) R ⟨hh,g,d,t,os⟩:=by
 refine mC
  KF.slot_gs.plain KF.entry_gs
  (KF.slot_gs.check _ _ _ _ _ _ _ _
   KF.type_class (KF.args_gs _ _ _) ?_)
 unfold tE.«getset_descriptor.__get__» jej;rw[dga_obj];refine(bh (bJ ?_));unfold descrGetter descrCheckInstance;unfold descrNameAndClass wq;simp only[PySem.W.KF.owner_class]
 repeat lk
 refine⟨(jcA _ (by decide +kernel)),(wY KF.entry_class ?_)⟩;unfold tE.«object.__class__»;unfold shownTypeOf
 repeat lk
 exact h
theorem UW{Q:Option bq->Shared->Prop}(X:K.In s.heap)(I:ExAt s.heap x D)(e:ExcIn K D)(h:Q (some (.ref D)) { s with toks:=s.toks+1 }):wpAny (model prog w) A (getAttr? (.ref x) "__class__") Q E s:=by
 obtain⟨hh,g,d,t,os⟩:=s;have L0:=I.type (M:=model prog w);have L1:=sj (M:=model prog w) X e.ga;have L2:=sj (M:=model prog w) X e.gt;have L3:=e.looks (x:=x) (M:=model prog w) X;have L5:=looks_mroIn (M:=model prog w) X e.mo;have L4:=looks_mroIn (M:=model prog w) X e.mb;have f3:=jc3.ga.bind (.ref x);unfold getAttr? getAttrBy? getAttrBy;refine bh (wpAny_mkText (bh (pM (dS (bh (L0.at (bh (L1.at ?_))))))));show wpAny _ _ (w8 _ _ _ _ _ _) _ _ _;unfold w8 hookBefore;refine bh (L2.at ?_);refine bh (pM (dS ?_));show wpAny _ _ (jdI _ _ _) _ _ _;unfold jdI;refine bh (mJ f3 ?_);refine tK (mC jc3.ga.plain PySem.F.entry_bexc_ga ?_)
 have hk:builtinKind "BaseException.__getattribute__"=some .slot:=by decide +kernel
 have hsp:splitId "BaseException.__getattribute__"=some ("BaseException","__getattribute__"):=by decide +kernel
 have har:=PySem.F.args_bexc_ga (.ref x) (.str "__class__" t);simp only[sf,hk,hsp];refine bh ?_;unfold wq;refine bh (L0.at ?_);refine L4.at ?_;rw[if_neg (by decide)];refine mJ (show _=pure () from har) ?_;unfold tE.«object.__getattribute__»;refine bh (mJ (show slotArgs "__getattribute__" 1 _=pure (gT x,[jeO "__class__" t]) from rfl) ?_);refine bh (mJ (show jfd (jeO "__class__" t)=pure "__class__" from rfl) ?_);refine bh (L0.at (bh (L3.at ?_)));show wpAny _ _ (do let v <- tj [pN "object.__class__"] (call (.builtin "getset_descriptor.__get__") [.builtin "object.__class__",.ref x,.ref D]);ret v) _ _ _;refine bh (dS (tK (Qg (tp:=.ref D) L0 L5 ?_)));refine bJ ?_;show wpAny _ _ (handedOut (.ref D)) _ _ _;refine mJ (show handedOut (.ref D)=pure (.ref D) from rfl) ?_;exact bJ h
theorem jag(e:ExcIn K D):KitX K (.ref x) (.ref D) (λh=>ExAt h x D) where
 ty:=λ_ _ _ I=>I.type
 it:=λ_ _ X _=>by
  have hc:=e.some;unfold clsIn at hc;split at hc
  ·next ho =>
   intro A' Q' E' s' k q;unfold isType loadHead;exact bh (wpAny_loadPart (k _ _ (X _ _ ho)) (bJ q))
  ·cases hc
 ne:=λh tp dd its n sl X htp=>by
  have hc:=e.some
  refine Bool.eq_false_iff.mpr λq=>?_
  have e':D=tp:=jfq (beq_iff_eq.mp q);subst e';unfold clsIn at hc;split at hc
  ·next ho =>
   have z:=(X _ _ ho).symm.trans htp;cases z
  ·cases hc
 ca:=λX I k=>UW X I e k
end
end Z
namespace Z
open PySem PySem.Spec PySem.Calls PyProof.Rows PySem.W L2
abbrev bmV:List bq:=[.type "ValueError",.type "Exception",.type "BaseException",.type "object"]
abbrev UZ:String:="ValueError.__new__"
abbrev mkX(X:Cx)(e:Addr):Cx:={ X with A:=X.A.mark (some (.ref e)),calm:=false,xe:=λ_ _=>False }
variable{e:Addr}{H1:Hp}
section
variable {X:Cx} {pins:List (Addr×nv)} {σ:L2.St} {H:Hp} {s s':Shared} {C:Addr}
theorem Qj(I:Inv X pins σ H s)(e:Addr):Inv (mkX X e) pins σ H s :=
 ⟨⟨I.ok.mod,I.ok.kind,I.ok.glob,I.ok.blt,I.ok.above,I.ok.inj,I.ok.has,I.ok.cab,λz=>(nomatch z),I.ok.frames,I.ok.stk,I.ok.exf,I.ok.bs,I.ok.bsz,I.ok.noex,I.ok.exfs,I.ok.funs,I.ok.frf⟩,I.os,I.bare,I.base,I.loc,I.cell,I.free,I.freeC,I.pin,I.hok,I.len⟩
theorem inv_unX{σ':L2.St}{H':Hp}(I:Inv X pins σ H s)(J:Inv (Z.mkX X e) pins σ' H' s'):Inv X pins σ' H' s':=⟨I.ok,J.os,J.bare,J.base,J.loc,J.cell,J.free,J.freeC,J.pin,J.hok,J.len⟩
theorem uH{a:Addr}{v:HO}(I:Inv X pins σ H s)(h0:X.s₀.heap.get? a=none)(hH:H a=none)(ho:∀H',qS X.prog X.w H' s.heap a v)(hL:a≠X.env.locals)(hc:∀x c,X.env.cells.lookup x=some c->c≠a)(hp:∀p∈X.pn++pins,p.1≠a) :
 Inv X pins σ (upd H a v) s:=by
 have ne:∀ {b:Addr} {u:HO},H b=some u->b≠a:=λ{b u} e z=>by rw[z,hH]at e;cases e
 refine⟨I.ok,I.os,I.bare,⟨I.base.keep,I.base.slot,λb o' e n hx=>?_,I.base.there,λb xs e=>?_,λb o' u e=>?_,λb ps e=>?_⟩,I.loc,I.cell,?_,λx c e=>?_,λp hp'=>?_,λb u e=>?_,I.len⟩
 ·rw[jh λz=>by rw[z,h0]at e;cases e];exact I.base.free b o' e n hx
 ·have:=I.base.tups b xs e;rw[jh (ne this)];exact this
 ·have:=I.base.frzs b o' u e;rw[jh (ne this)];exact this
 ·obtain⟨m,this⟩:=I.base.tbls b ps e;exact⟨m,by rw[jh (ne this)];exact this⟩
 ·rw[jh hL.symm];exact I.free
 ·rw[jh (hc x c e)];exact I.freeC x c e
 ·obtain⟨g1,g2,g3⟩:=I.pin p hp';exact⟨g1,by rw[jh (hp p hp')];exact g2,g3⟩
 ·by_cases hb:b=a
  ·subst hb;rw[jm]at e;cases e;exact ho _
  ·rw[jh hb]at e
   exact(I.hok b u e).stay (λ_ _ _ z=>z) (λc z=>by rw[jh (ne z)];exact z) λc xs z=>by rw[jh (ne z)];exact z
theorem Yl{a0:bq}{B:gQ}(I:Inv X pins σ H s)(u:Un (frs X.stack) [] H H1 s.heap s'.heap)(fl:pB B X.stack e (.ref C) a0 s'.heap)(c:Cover B X.stack H1 s.heap s'.heap):s.heap.get? e=none:=by
 cases q:s.heap.get? e with
 |none=>rfl
 |some o =>
  exfalso;obtain⟨o',e'⟩:=u.there e o q (by simp);by_cases hb:e∈frs X.stack
  ·obtain⟨_,o2,e2,nf⟩:=fl.2.2.1.mem hb
   obtain⟨oe,vs,e3,_,d3,_⟩:=fl.first
   rw[e3]at e2;cases e2;exact nf vs d3
  ·have:=c.old e o o' q hb e';rw[fl.2.1]at this;cases this
variable {M:Model} {E:bq->Shared->Prop} {Q:Flow->Shared->Prop} {x n:Str} {np pos:Pos} {b₀:Stmt} {suite:List Stmt} {rest:List sP} {i:Nat}
def Zp(K:Frag)(C:Addr):Prop:=∀h:gQ,K.In h->∃bm N nm qn bs hd sn sub ab col dd k0 k1 k2 k3 k5,h.get? C=some (gZ nm qn C N bs bm hd sn sub ab col dd k0 k1 k2 k3 k5 UZ)/\jfc h bmV bm
theorem UR{prog:dW}{w:World}{A:mq}{E:bq->Shared->Prop}{h:gQ}{g:Array nX}{d:Drawn}{t:Nat}{os:jdU}{K:Frag}{C C':Addr}{oe:nv}{Q:Bool->Shared->Prop}(X:K.In h)(he:h.get? e=some oe)(hc:oe.cls=.ref C)(q:Zp K C')(hs:subIn K (.ref C) (.ref C')=some false)
 (hq:Q false ⟨h,g,d,t,os⟩):wpAny (model prog w) A (excMatches (.ref e) (.ref C')) Q E ⟨h,g,d,t,os⟩:=by
 obtain⟨bm,N,nm,qn,bs,hd,sn,sub,ab,col,dd,k0,k1,k2,k3,k5',hC,TL⟩:=q h X;have L1:=looks_subIn (M:=model prog w) X hs
 have hcB:(gT C'::bm).contains (.type "BaseException")=true:=by
  have q:bm.contains (.type "BaseException")=true:=TL.hasType (by decide +kernel);rw[pA,q,jcn]
 have L0:jdH (model prog w) h (typeOf (.ref C')) (.type "type"):=(jeF hC).andThen .now;have L2:jdH (model prog w) h (typeOf (.ref e)) (.ref C):=hc ▸ (jeF he).andThen .now;unfold excMatches;refine bh ?_;unfold wq;refine bh (L0.at ?_);refine mJ (show isSubtype (.type "type") (.type "tuple")=pure false from by rfl) ?_;rw[if_neg (by decide)];refine bh (bJ ?_);show wpAny _ _ (do forIn [gT C'] PUnit.unit _;_) _ _ _;simp only[pG,pS];unfold isExcClass
 repeat (first|(with_reducible refine gz hC ?_)|(with_reducible refine sM hC ?_;rw[hcB])|(with_reducible refine L2.at ?_)|(with_reducible refine L1.at ?_)|wp_step)
 exact hq
def Past(X:Cx)(C:Addr)(hd:sP):Prop:=∃y Cy np n b ps,hd=.ExceptHandler (some (.Name y np)) n b ps/\X.mg y=some (.ref Cy)/\Zp X.K Cy/\Gl X y/\(y == ("__debug__":Str))=false/\subIn X.K (.ref C) (.ref Cy)=some false
theorem skips{ea:Addr}{oe:nv}{rest:List sP}(I:Inv X pins σ H s)(he:s.heap.get? ea=some oe)(hc:oe.cls=.ref C)(k:wpAny (model X.prog X.w) X.A (handleBy (.ref ea) X.env rest) Q E s) :
 ∀pre:List sP,(∀hd∈pre,Past X C hd)->wpAny (model X.prog X.w) X.A (handleBy (.ref ea) X.env (pre++rest)) Q E s
 |[],_=>k
 |hd::pre,hp=>by
  obtain⟨y,Cy,np,n,b,ps,rfl,hm,hq,gl,hdb,hs⟩:=hp hd (bB ..);refine wpAny_handleBy_cons (jdu (zg (X:=Z.mkX X ea) (Qj I ea) gl hm ?_ hdb)) (by intro q;cases q);exact UR I.kIn he hc hq hs (skips I he hc k pre λh q=>hp h (bo _ q))
theorem caught{dct:Option Addr}{pre:List sP}(hp:∀hd∈pre,Past X C hd)(I:Inv X pins σ H s)(w:Own X)(nd:X.N.Nodup)(hm:X.mg x=some (.ref C))(hq:Zp X.K C)(gl:Gl X x)(hdb:(x == ("__debug__":Str))=false)(hn:X.N[i]?=some n)(hl:X.env.scope.names.lookup n=some .local){e:bq}(T:zD X.prog X.w C X.stack H s H1 dct e s')
 (k:∀ea oe vs s7,jf H H1->oe.cls=.ref C->oe.data=.fields vs->(dct=none\/oe.dict=dct)->e=.ref ea->Inv (Z.mkX X ea) pins (σ.set i (some (.ref ea))) (upd H1 ea (.frz oe (.ext λ_=>True))) s7->H1 ea=none ->
  wpAny (model X.prog X.w) (X.A.mark (some (.ref ea))) (execs (b₀::suite) X.env) (λf s₄=>wpAny (model X.prog X.w) X.A (do bindName X.env n .none;wR X.env n pos) (λ_ s₅=>Q f s₅) E s₄) (λ_ _=>False) s7) :
 wpAny (model X.prog X.w) X.A (jc0 e X.env) (λ_ s₂=>wpAny (model X.prog X.w) X.A (jeT e none) (λ_ s₃=>wpAny (model X.prog X.w) X.A (handleBy e X.env (pre ++ .ExceptHandler (some (.Name x np)) (some n) (b₀::suite) pos::rest)) Q E s₃) E s₂) E s':=by
 obtain⟨ea,a0,B,rfl,ho,hg,u,kk,s1,fl,he,c,hdc⟩:=T;have new:=Yl I u fl c
 have hfr:X.A.frames=some (X.env::X.outer):=by rw[<- w.stk];exact I.env0.frames
 have fl':pB B (X.env::X.outer) ea (.ref C) a0 s'.heap:=by rw[<- w.stk];exact fl
 obtain⟨oe0,_,e00,_⟩:=id fl.first
 refine lookD hfr w.frm fl' ⟨oe0,e00,rfl⟩ λh4 held d4 us4=>?_
 obtain⟨x1,x2,x3,x4⟩:=held
 refine ZN (s:={ s' with heap:=h4 }) x1 x2 x3 x4 d4 λh5 fl5 d5 us5=>?_
 obtain⟨u5,k5,c5⟩:=yP u kk c fl.2.2.1 (λb hb=>hb) fl5.1 (us4.trans us5);have J5:Inv X pins σ H1 { s' with heap:=h5 }:=I.call' (s':={ s' with heap:=h5 }) ho u5 k5 hg (ch:=[]) (λb z=>nomatch z);obtain⟨bm,N,nm,qn,bs,hd,sn,sub,ab,col,dd,k0,k1,k2,k3,k5',hC,TL⟩:=hq _ J5.kIn
 obtain⟨oe5,vs5,e5,c5',_,_⟩:=id fl5.first
 refine skips J5 e5 c5' ?_ pre hp;refine wpAny_handleBy_cons (jdu (zg (X:=Z.mkX X ea) (Qj J5 ea) gl hm ?_ hdb)) (by intro q;cases q);refine wpAny_excMatches_sub_self hC e5 c5' (TL.hasType (by decide +kernel)) (codeAny_handlers_suite_as ?_);obtain⟨z1,z2,z3,z4⟩:=id fl5
 refine ZN (s:={ s' with heap:=h5 }) z1 z2 z3 z4 d5 λh6 fl6 d6 us6=>?_
 obtain⟨u6,k6,c6⟩:=yP u5 k5 c5 fl5.2.2.1 (λb hb=>by rw[w.stk]at hb;exact hb) fl6.1 us6;have J6:Inv X pins σ H1 { s' with heap:=h6 }:=I.call' (s':={ s' with heap:=h6 }) ho u6 k6 hg (ch:=[]) (λb z=>nomatch z)
 obtain⟨oe,vs,e6,cl,dd6,_⟩:=fl6.first
 have hdc':dct=none\/oe.dict=dct:=by
  refine hdc.imp id λ⟨o,q1,q2⟩=>?_
  rw[e00]at q1;cases q1;obtain⟨o,q3,q4⟩:=d6;rw[show h6.get? ea=some oe from e6]at q3;cases q3;rw[q4,q2]
 have old:∀ {b:Addr} {o:nv},s.heap.get? b=some o->b≠ea:=λ{b o} z y=>by rw[y,new]at z;cases z
 have h0:X.s₀.heap.get? ea=none:=by
  cases q:X.s₀.heap.get? ea with
  |none=>rfl
  |some o =>
   obtain⟨o',z⟩:=I.base.there ea o q (by rw[w.ex];simp);exact absurd rfl (old z)
 have J7:=uH (v:=.frz oe (.ext λ_=>True)) J6 h0 he (λ_=>⟨e6,trivial,⟨_,e6⟩,λ_ _ _ _=>trivial⟩) (λz=>by obtain⟨m,⟨o,_,_,ho',_⟩,_⟩:=I.loc;exact old ho' z.symm) (λy cc q=>by obtain⟨v,o,ho',_⟩:=I.cell y cc q;exact old ho') (λp hp=>old (I.pin p hp).1);refine um J7 nd hn (.inl hl) (v:=.ref ea) rfl (λs7 J8=>?_) (.inr hl)
 refine gA (k ea oe vs s7 s1 cl dd6 hdc' rfl (Qj J8 ea) he) (λf s8 z=>z) λ_ _ z=>z.elim
end
def names12:List Str:=["NoRatio","NoNext","NoRoot","Unfit","Dependent","NoLine","BadText","TooGreat","BadRow","NoRow","NoColumn","TooMany"]
structure AloneF (K:Frag) (mg:Str->Option bq) (y:Str) (D:Addr):Prop where
 ex:ExcIn K D
 cls:∀c∈names12,∃Ca,mg c=some (.ref Ca)/\kitOne K (.ref D) (.ref Ca)=some (decide (c=y))
 te:∃Ca,mg "TrueError"=some (.ref Ca)/\kitOne K (.ref D) (.ref Ca)=some true
 ve:kitOne K (.ref D) (.type "ValueError")=some true
 vn:mg "ValueError"=none
 isi:mg "isinstance"=none
 mem:y∈names12
def spA(K:Frag)(mg:Str->Option bq):Sp:=λvs H Q _=>∃y D ea oe u,AloneF K mg y D/\vs=[.ref ea]/\H ea=some (.frz oe u)/\oe.cls=.ref D/\∀H',jf H H'->Q (.bl true) H'
end Z
namespace Z
open PySem PySem.Spec PyProof.Rows L2
variable {X:Cx}
end Z
namespace PySem.W
open PySem PySem.Calls PySem.NumText PyProof.Rows KIN
end PySem.W
namespace Z
open PySem PySem.Spec PyProof.Rows L2
variable {X:Cx}
end Z
namespace Z
open PySem PySem.W PyProof.Rows
structure Ord (lt:Nat->Nat->Bool):Prop where
 asy:∀a b,lt a b=true->lt b a=false
 tr:∀a b c,lt b a=false->lt c b=false->lt c a=false
abbrev at'(p:Array Nat)(i:Nat):Nat:=p.getD i 0
def Pm(n:Nat)(p:Array Nat):Prop:=p.toList.Perm (bw n)
def Up(lt:Nat->Nat->Bool)(p:Array Nat)(lo hi:Nat):Prop:=∀i j,lo<=i->i<=j->j<hi->lt (at' p j) (at' p i)=false
def Dn(lt:Nat->Nat->Bool)(p:Array Nat)(lo hi:Nat):Prop:=∀i j,lo<=i->i<=j->j<hi->lt (at' p i) (at' p j)=false
variable{hi:Nat}
section
variable {lt:Nat->Nat->Bool} {n:Nat} {p:Array Nat}
theorem Ord.irr(o:Ord lt)(a:Nat):lt a a=false:=by
 cases h:lt a a
 ·rfl
 ·exact absurd (o.asy a a h) (by simp[h])
theorem Pm.size(h:Pm n p):p.size=n:=by have:=h.length_eq;simpa using this
theorem Up.more(o:Ord lt){lo:Nat}(h:Up lt p lo hi)(hl:lo<hi)(h1:lt (at' p hi) (at' p (hi-1))=false):Up lt p lo (hi+1):=by
 intro i j a b c;by_cases e:j<hi
 ·exact h i j a b e
 ·have e1:j=hi:=by omega
  subst e1;by_cases e2:i=j
  ·rw[e2];exact o.irr _
  ·exact o.tr _ _ _ (h i (j-1) a (by omega) (by omega)) h1
theorem Dn.more(o:Ord lt){lo:Nat}(h:Dn lt p lo hi)(hl:lo<hi)(h1:lt (at' p (hi-1)) (at' p hi)=false):Dn lt p lo (hi+1):=by
 intro i j a b c;by_cases e:j<hi
 ·exact h i j a b e
 ·have e1:j=hi:=by omega
  subst e1;by_cases e2:i=j
  ·rw[e2];exact o.irr _
  ·exact o.tr _ _ _ h1 (h i (j-1) a (by omega) (by omega))
end
end Z
namespace Z
open PySem PySem.W PySem.Calls PyProof.Rows
section
variable {prog:dW} {w:World} {A:mq} {E:bq->Shared->Prop} {s:Shared} {vs:List bq}
def Zq(h:gQ):List bq->List (Int×Int)->Prop
 |[],[]=>True
 |v::vs,p::ps=>(∃a o c t u,v=.ref a/\h.get? a=some o/\o.cls=.type "tuple" /\ o.data=.seq #[.int p.1 t,.int p.2 u] c)/\Zq h vs ps
 |_,_=>False
theorem Zq.at_{h:gQ}:∀ {vs:List bq} {ps:List (Int×Int)},Zq h vs ps->∀i,i<vs.length->∃a o c t u,vs.getD i n9=.ref a/\h.get? a=some o/\o.cls=.type "tuple" /\ o.data=.seq #[.int (ps.getD i (0,0)).1 t,.int (ps.getD i (0,0)).2 u] c
 |[],[],_,i,hi=>by simp at hi
 |_::_,_::_,⟨x,r⟩,i,hi=>by
  cases i with
  |zero=>exact x
  |succ i=>simpa using Zq.at_ r i (by simpa using hi)
 |[],_::_,x,_,_=>x.elim
 |_::_,[],x,_,_=>x.elim
end
end Z
namespace Z
open PySem PySem.Spec PyProof.Rows L2
abbrev eob(it:Addr)(i:Int)(f0:bq)(f1:Bool)(old:bq):nv:={ cls:=.type "enumerate",dict:=none,data:=.fields #[f0,.bool f1,.ref it,rawInt i,.none,old],slots:=#[] }
variable{i:Expr}{Q:Option bq->Shared->Prop}{k:Nat}{xs:Array bq}{x:Str}
section
variable {prog:dW} {w:World} {A:mq} {E:bq->Shared->Prop} {s:Shared} {e it l:Addr}
theorem efree{i:Int}{f0 old:bq}{f1:Bool}{Q:Bool->Shared->Prop}(hz:s.heap.get? e=some (eob it i f0 f1 old))(hf:ZF f0)(q:∀b h₁ g1,h₁.get? e=some (eob it i f0 g1 old)->nP e s.heap h₁->Q b { s with heap:=h₁ }) :
 wpAny (model prog w) A (dU (.ref e)) Q E s:=by
 unfold dU;rcases hf with rfl|⟨T,rfl⟩
 ·exact bh (gF hz rfl (x:=.none) rfl (bJ (q true s.heap f1 hz (mU ..))))
 ·refine bh (gF hz rfl (x:=rawInt T) rfl ?_);refine bh (m:=jdC (T:Int).toNat) (Ja ?_)
  cases hT:s.heap.get? (T:Int).toNat with
  |none=>exact bJ (q true s.heap f1 hz (mU ..))
  |some o =>
   refine bh (m:=field (.ref e) 1) (gF hz rfl (x:=.bool f1) rfl ?_)
   cases f1 with
   |true=>exact bJ (q false s.heap true hz (mU ..))
   |false=>exact bh (m:=tU (.ref e) 1 (.bool true)) (gj hz (by simp) λh₁ k1 k2=>bJ (q false h₁ true k1 k2))
structure ESt (e it l:Addr) (k:Nat) (h:gQ):Prop where
 enm:∃f0 f1 old,ZF f0/\h.get? e=some (eob it k f0 f1 old)
 one:h.IsListIter it l k
theorem enext{x:bq}(hne:e≠it)(st:ESt e it l k s.heap)(hl:s.heap.IsList l xs)(hx:xs[k]?=some x)
 (q:∀T h₂,ESt e it l (k+1) h₂->s.heap.objs.size<=T->h₂.get? T=some (yk (.int k s.toks) x)->(∀b o,b ∉ [e,it]->s.heap.get? b=some o->h₂.get? b=some o)->Q (some (.ref T)) { s with heap:=h₂,toks:=s.toks+1 }) :
 wpAny (model prog w) A (pyNext (.ref e)) Q E s:=by
 obtain⟨⟨f0,f1,old,hf,he⟩,hit⟩:=st
 have ty:s.TypeIs (.ref e) "enumerate":=⟨_,he,rfl⟩
 unfold pyNext;refine bh (pM (nZ (name:=tV "__next__") ty nF (n5 nF ty jdi ?_ (jc4 _))));obtain⟨hp,g,d,tk,os⟩:=s;show wpAny _ _ (field (.ref e) 2 >>= _) _ _ _;refine bh (gF he rfl (x:=.ref it) rfl ?_);refine bh (g8 hit hl hx λh₁ hit₁ hs₁=>?_);replace hs₁:nP it hp h₁:=hs₁;have he₁:h₁.get? e=some (eob it k f0 f1 old):=(hs₁.2 e hne).trans he;show wpAny _ _ (field (.ref e) 3 >>= _) _ _ ⟨h₁,g,d,tk,os⟩;refine bh (gF he₁ rfl (x:=rawInt k) rfl ?_);show wpAny _ _ (field (.ref e) 4 >>= _) _ _ ⟨h₁,g,d,tk,os⟩;refine bh (gF he₁ rfl (x:=.none) rfl ?_);show wpAny _ _ (mkInt k >>= _) _ _ ⟨h₁,g,d,tk,os⟩;refine bh (wpAny_mkInt ?_);show wpAny _ _ (tU (.ref e) 3 (rawInt ((k:Int)+1)) >>= _) _ _ ⟨h₁,g,d,tk+1,os⟩;refine bh (gj he₁ (by simp) λh₂ he₂ hs₂=>?_);replace hs₂:nP e h₁ h₂:=hs₂;replace he₂:h₂.get? e=some (eob it ((k:Int)+1) f0 f1 old):=he₂;show wpAny _ _ (tU (.ref e) 4 .none >>= _) _ _ ⟨h₂,g,d,tk+1,os⟩;refine bh (gj he₂ (by simp) λh₃ he₃ hs₃=>?_);replace hs₃:nP e h₂ h₃:=hs₃;replace he₃:h₃.get? e=some (eob it ((k:Int)+1) f0 f1 old):=he₃;show wpAny _ _ (newTuple [.int k tk,x] >>= _) _ _ ⟨h₃,g,d,tk+1,os⟩;refine bh (jdD ?_);have he₄:(h₃.push (yk (.int k tk) x)).get? e=some (eob it ((k:Int)+1) f0 f1 old):=bC _ he₃;generalize hh₄:h₃.push (yk (.int k tk) x)=h₄ at he₄
 have hsz:h₃.objs.size=hp.objs.size:=by rw[hs₃.1,hs₂.1,hs₁.1]
 have hel:e<hp.objs.size:=bN he
 have ht₄:h₄.get? hp.objs.size=some (yk (.int k tk) x):=by rw[<- hh₄,<- hsz];exact dJ _ rfl
 have hk₄:∀b o,b ∉ [e,it]->hp.get? b=some o->h₄.get? b=some o:=λb o hb e=>by
  simp only[bD,bM,or_false,not_or]at hb;rw[<- hh₄];exact bC _ (hs₃.extBut b o hb.1 (hs₂.extBut b o hb.1 (hs₁.extBut b o hb.2 e)))
 have hit₄:h₄.IsListIter it l (k+1):=by
  rw[<- hh₄];obtain⟨o,ho,r⟩:=(hit₁.extBut hs₂.extBut (gX hne)).extBut hs₃.extBut (gX hne);exact⟨o,bC _ ho,r⟩
 have hc:((k+1:Nat):Int)=(k:Int)+1:=by simp
 show wpAny _ _ (dU (.ref e) >>= _) _ _ ⟨h₄,g,d,tk+1,os⟩;rw[hsz];refine bh (efree he₄ hf λfr h₅ g1 he₅ hs₅=>?_);replace hs₅:nP e h₄ h₅:=hs₅;have ht₅:h₅.get? hp.objs.size=some (yk (.int k tk) x):=hs₅.extBut _ _ (pd hel) ht₄
 have hk₅:∀b o,b ∉ [e,it]->hp.get? b=some o->h₅.get? b=some o:=λb o hb z=>by
  have hb':=hb;simp only[bD,bM,or_false,not_or]at hb';exact hs₅.extBut b o hb'.1 (hk₄ b o hb z)
 have hit₅:=hit₄.extBut hs₅.extBut (gX hne)
 cases fr with
 |false =>
  simp only[dF,if_false]
  exact bJ ⟨_,rfl,bJ (q _ h₅ ⟨⟨f0,g1,old,hf,by rw[hc];exact he₅⟩,hit₅⟩ (bV _) ht₅ hk₅)⟩
 |true =>
  simp only[if_true];refine bh (wpAny_rule ?_);refine bh (m:=field (.ref e) 5) (gF he₅ rfl (x:=old) rfl ?_);refine bh (m:=tU (.ref e) 5 x) (gj he₅ (by simp) λh₆ he₆ hs₆=>?_);refine bh (m:=ma (.ref e) (.ref hp.objs.size)) ?_;unfold ma;refine bh (m:=tU (.ref e) 0 (rawInt hp.objs.size)) (gj he₆ (by simp) λh₇ he₇ hs₇=>gj he₇ (by simp) λh₈ he₈ hs₈=>?_)
  have up:∀b o,b≠e->h₅.get? b=some o->h₈.get? b=some o:=λb o hb z=>hs₈.extBut b o hb (hs₇.extBut b o hb (hs₆.extBut b o hb z))
  refine bh (pT (bJ ⟨_,rfl,bJ (q hp.objs.size h₈ ⟨⟨rawInt hp.objs.size,false,x,.inr ⟨_,rfl⟩,by rw[hc];exact he₈⟩,hit₅.at λo z=>up _ o (gX hne) z⟩ (bV _) (up _ _ (pd hel) ht₅) λb o hb z=>?_)⟩));have hb':=hb;simp only[bD,bM,or_false,not_or]at hb';exact up b o hb'.1 (hk₅ b o hb z)
theorem eend(hh:A.handled=none)(hne:e≠it)(st:ESt e it l k s.heap)(hl:s.heap.IsList l xs)(hx:xs[k]?=none)
 (q:∀h₂,(∀b o,b ∉ [e,it]->s.heap.get? b=some o->h₂.get? b=some o)->Q none { s with heap:=h₂ }):wpAny (model prog w) A (pyNext (.ref e)) Q E s:=by
 obtain⟨⟨f0,f1,old,hf,he⟩,hit⟩:=st
 have ty:s.TypeIs (.ref e) "enumerate":=⟨_,he,rfl⟩
 unfold pyNext;refine bh (pM (nZ (name:=tV "__next__") ty nF (n5 nF ty jdi ?_ (jc4 _))));show wpAny _ _ (field (.ref e) 2 >>= _) _ _ _;refine bh (gF he rfl (x:=.ref it) rfl ?_);refine bh (nE hh hit hl hx λh' x he' hx'=>?_);obtain⟨o,ho,hc⟩:=hx';refine bh (wpAny_isInstance (T:="StopIteration") (b:=true) ⟨o,ho,hc⟩ isSubtype_stop ?_);refine bJ (q _ λb o hb z=>he' b o ?_ z);simp only[bD,bM,or_false,not_or]at hb;exact hb.2
end
def Ite(K:bp)(l:Addr):It:=⟨λi H=>∃xs x,SqL K H l xs/\xs[i]?=some x,
 λi H v H'=>∃T x,v=.ref T/\H T=none/\(∀xs,SqL K H l xs->xs[i]?=some x)/\H'=upd H T (.tup [.int i,x]),λi H=>∃xs,SqL K H l xs/\xs.length<=i⟩
variable{P:dW}{w:World}{K:bp}{px:Pos}{e l:Expr}{it:Addr}
theorem Ut{e l:Addr}(hne:e≠it):Turn P w K (.Name x px) (Ite K l) [e,it] e (λi h=>ESt e it l i h) where
 mem:=by simp
 obj:=λi h st b hb=>by
  obtain⟨⟨f0,f1,old,hf,hz⟩,⟨o1,e1,_,d1⟩⟩:=st;simp only[bD,bM,or_false]at hb;rcases hb with rfl|rfl
  ·exact⟨_,hz,λv q=>by cases q⟩
  ·exact⟨_,e1,λv q=>by rw[d1]at q;cases q⟩
 keep:=λi h h' st k=>by
  obtain⟨⟨f0,f1,old,hf,hz⟩,o1⟩:=st;exact⟨⟨f0,f1,old,hf,k e (by simp) _ hz⟩,o1.at λo z=>k it (by simp) o z⟩
 item:=by
  intro X hP hw hK hc i pins s σ H E I hf st hg;subst hP hw hK;obtain⟨xs,xv,q1,e1⟩:=hg;obtain⟨its1,r1,p1,_⟩:=I.list q1;obtain⟨u1,hu1,ru1⟩:=r1.get e1
  refine enext hne st p1.isList (x:=u1) (by simpa using hu1) λT h₂ st₂ hT ht k=>⟨.ref T,rfl,Z2 ?_⟩
  have fT:H T=none:=I.hok.fresh hT;have I2:Inv X pins σ (upd H T (.tup [.int i,xv])) { s with heap:=h₂ }:=Inv.turnedL (ch:=[e,it]) (us:=[.int i s.toks,u1]) I hf k hT ht (.cons ⟨_,rfl⟩ (.cons ru1 .nil)) (by show 2<=sizeLine;decide);refine⟨.ref T,upd H T (.tup [.int i,xv]),I2.tok _,rfl,⟨T,xv,rfl,fT,λzs hz=>by rw[I.list_inj hz q1];exact e1,rfl⟩,st₂,λb hb=>?_⟩
  obtain⟨o,eo,_⟩:∃o,s.heap.get? b=some o/\True:=by
   obtain⟨⟨f0,f1,old,hf',hz⟩,⟨o1,w1,_,_⟩⟩:=st;simp only[bD,bM,or_false]at hb;rcases hb with rfl|rfl
   ·exact⟨_,hz,trivial⟩
   ·exact⟨_,w1,trivial⟩
  rw[jh λq=>absurd (bN eo) (by rw[q];exact jcy.mpr hT)];exact(hf b hb).1
 done:=by
  intro X hP hw hK hc i pins s σ H E I hf st hg;subst hP hw hK;obtain⟨xs,q1,hl⟩:=hg;obtain⟨its1,r1,p1,_⟩:=I.list q1;have n1:=r1.length
  refine eend (I.ok.hd hc) hne st p1.isList (by simp;lia) λh₂ k=>⟨rfl,?_⟩
  exact Inv.turnedN (ch:=[e,it]) I hf k
 self:=λA i s Q E st h=>by
  obtain⟨⟨f0,f1,old,hf,hz⟩,_⟩:=st
  have ty:s.TypeIs (.ref e) "enumerate":=⟨_,hz,rfl⟩
  refine wpAny_pyIter_slot ty jdv (n5 jdv ty F.entry_enumerate_iter ?_ (F.args_enumerate_iter_1 _));exact bJ (M:=model P w) ⟨_,rfl,"enumerate",_,ty,nF.lookup,h⟩
def iEnm(K:bp)(ta:TA):TI:=λσ H R=>ta σ H λvs H1=>∃l,vs=[.ref l]/\(∃xs,SqL K H1 l xs)/\R (Ite K l) H1
variable{X:Cx}{p pos:Pos}{a:Expr}{as:List Addr}{ta:TA}
theorem pi_enum{as:List Expr}(hg:Gl X "enumerate")(hm:X.mg "enumerate"=none)(ha:PA X (a::as) ta)(hs:bQ (a::as) X.env=(false,eval a X.env)::bQ as X.env)(hpl:(backTo pos (bQ as X.env)).any (·.1)=false) :
 PI X (.Name x px) (.Call (.Name "enumerate" p) (a::as) [] pos) (iEnm X.K ta):=by
 intro pins s σ H R I h;refine Call_ (uU I hg hm boot_enumerate (mY (thn (ha pos pins s σ H _ I h) λus s1 ⟨vs,H1,I1,r1,q1⟩=>?_) hs hpl));obtain⟨l,rfl,⟨xs,hx⟩,q⟩:=q1;obtain⟨u1,rfl,e1⟩:=zZ r1;cases e1;obtain⟨its1,r1,p1,_⟩:=I1.list hx
 refine call_enumerate_list p1.isList λh₂ he hi _ hk=>?_
 refine wpAny_pyIter_enum (s:={ s1 with heap:=h₂ }) he ⟨_,_,_,_,H1,rfl,I1.kept (t':=s1.toks) hk,Ut (Nat.succ_ne_self _),⟨⟨.none,false,.none,.inl rfl,he⟩,hi⟩,λb hb=>?_,q⟩
 have hb':s1.heap.objs.size<=b:=by
  simp only[bD,bM,or_false]at hb
  rcases hb with rfl|rfl<;>lia
 exact I1.fpOk hb' (I1.hok.fresh hb')
structure Ck where
 N:List Str
 names:List (Str×nh)
 fns:List (Str×Nat)
 cns:List Str
 cls:List Str:=[]
 rz:Bool:=false
 rs:Bool:=false
 al:Bool:=true
def Ck.loc(k:Ck)(i:Nat)(x:Str):Bool :=
 decide (k.N[i]?=some x)&&(decide (k.names.lookup x=some .local) ||decide (k.names.lookup x=some .cell)) && !(x == ("__debug__":Str)) && !(x == ("__classdict__":Str))
def Ck.gl(k:Ck)(x:Str):Bool:=decide (k.names.lookup x=some .globalImplicit) && !(x == ("__debug__":Str))&&decide (x≠("__name__":Str))
def opOk:BOp->jew->Bool
 |.add,.Add=>true
 |.sub,.Sub=>true
 |.mul,.Mult=>true
 |.fdiv,.FloorDiv=>true
 |.mod,.Mod=>true
 |.shl,.LShift=>true
 |.band,.BitAnd=>true
 |_,_=>false
def cOk:COp->CmpOp->Expr->Bool
 |.eq,.Eq,_=>true
 |.ne,.NotEq,_=>true
 |.lt,.Lt,_=>true
 |.le,.LtE,_=>true
 |.gt,.Gt,_=>true
 |.ge,.GtE,_=>true
 |.inn,.In,_=>true
 |.nin,.NotIn,_=>true
 |_,_,_=>false
def constOk:D->Const->Bool
 |.non,.none=>true
 |.bl b,.bool c=>b == c
 |.int i,.int j=>decide (i=j)
 |.str x,.str y=>decide (x=y)&&pq x
 |_,_=>false
def Bi.nm:Bi->Str
 |.abs=>"abs"
 |.max=>"max"
 |.min=>"min"
 |.len=>"len"
 |.int=>"int"
 |.list=>"list"
 |.sum=>"sum"
 |.all=>"all"
def Ty.nm:Ty->Str
 |.int=>"int"
 |.bool=>"bool"
 |.tuple=>"tuple"
 |.list=>"list"
 |.str=>"str"
def Mt.nm:Mt->Str
 |.bitlen=>"bit_length"
def Yo:Expr->Bool
 |.Call (.Name _ _) [] [] _=>false
 |_=>true
def ze:Expr->Bool
 |.Slice ..=>true
 |_=>false
def ju:Expr->Option Str
 |.Name x _=>some x
 |_=>none
def kB:Expr->Option Const
 |.Constant c _ _=>some c
 |_=>none
def VP:Expr->Option (Expr×jew×Expr)
 |.BinOp l o r _=>some (l,o,r)
 |_=>none
def asUn:Expr->Option (UnaryOp×Expr)
 |.UnaryOp o e _=>some (o,e)
 |_=>none
def Zi:Expr->Option (Expr×List CmpOp×List Expr)
 |.Compare l o r _=>some (l,o,r)
 |_=>none
def QD:Expr->Option (BoolOp×List Expr×Pos)
 |.BoolOp o vs p=>some (o,vs,p)
 |_=>none
def asIf:Expr->Option (Expr×Expr×Expr)
 |.IfExp t x y _=>some (t,x,y)
 |_=>none
def QW:Expr->Option (List Expr)
 |.Tuple xs _ _=>some xs
 |_=>none
def Ku:Expr->Option (List Expr)
 |.List xs _=>some xs
 |_=>none
def vc:Expr->Option (Expr×Expr)
 |.Subscript v i _=>some (v,i)
 |_=>none
def xq:Expr->Option (Expr×List Expr×List jfa×Pos)
 |.Call f xs ks p=>some (f,xs,ks,p)
 |_=>none
def xA:Expr->Option (Expr×Str×Pos)
 |.Attribute v x p=>some (v,x,p)
 |_=>none
variable{α β:Type}
def Inv1(f:β->Option α)(R:α->β->Prop)(e:β):Prop:=∀x,f e=some x->R x e
theorem nI{f:β->Option α}{R:α->β->Prop}{e:β}(h:f e=none):Inv1 f R e:=λx k=>by rw[h]at k;exact nomatch k
theorem inv{f:β->Option α}(R:α->β->Prop){e:β}{x:α}(h:f e=some x)(k:Inv1 f R e):R x e:=k x h
local macro_rules | `(tactic|exists $r,$h:ident,$e:ident)=>`(tactic|(refine Z.inv $r $h ?_;clear $h;(first|induction $e:ident using jek|induction $e:ident using jel)<;>first|exact Z.nI rfl|(intro x h;cases h;first|rfl|exact⟨_,rfl⟩|exact⟨_,_,rfl⟩)))
theorem jo(h:ju e=some x):∃p,e=.Name x p:=by exists (λx e=>∃p,e=.Name x p),h,e
theorem qJ{x:Const}(h:kB e=some x):∃j p,e=.Constant x j p:=by exists (λx e=>∃j p,e=.Constant x j p),h,e
variable{r:List Expr}
theorem JA{r:Expr}{o:jew}(h:VP e=some (l,o,r)):∃p,e=.BinOp l o r p:=by exists (λx e=>∃p,e=.BinOp x.1 x.2.1 x.2.2 p),h,e
theorem Zj{o:UnaryOp}(h:asUn e=some (o,l)):∃p,e=.UnaryOp o l p:=by exists (λx e=>∃p,e=.UnaryOp x.1 x.2 p),h,e
theorem Qt{o:List CmpOp}(h:Zi e=some (l,o,r)):∃p,e=.Compare l o r p:=by exists (λx e=>∃p,e=.Compare x.1 x.2.1 x.2.2 p),h,e
variable{o:HO}
theorem vz{o:BoolOp}(h:QD e=some (o,r,p)):e=.BoolOp o r p:=by exists (λx e=>e=.BoolOp x.1 x.2.1 x.2.2),h,e
variable{t:Expr}{y:Str}
theorem ja5{x y:Expr}(h:asIf e=some (t,x,y)):∃p,e=.IfExp t x y p:=by exists (λx e=>∃p,e=.IfExp x.1 x.2.1 x.2.2 p),h,e
variable{xs:List Expr}
theorem QH(h:QW e=some xs):∃j p,e=.Tuple xs j p:=by exists (λx e=>∃j p,e=.Tuple x j p),h,e
theorem yO(h:Ku e=some xs):∃p,e=.List xs p:=by exists (λx e=>∃p,e=.List x p),h,e
theorem yS{v:Expr}(h:vc e=some (v,i)):∃p,e=.Subscript v i p:=by exists (λx e=>∃p,e=.Subscript x.1 x.2 p),h,e
variable{f:Expr}
theorem qY{ks:List jfa}(h:xq e=some (f,xs,ks,p)):e=.Call f xs ks p:=by exists (λx e=>e=.Call x.1 x.2.1 x.2.2.1 x.2.2.2),h,e
theorem qU{v:Expr}(h:xA e=some (v,x,p)):e=.Attribute v x p:=by exists (λx e=>e=.Attribute x.1 x.2.1 x.2.2),h,e
def j9(e:Expr):Option (Str×List Expr×Pos):=(xq e).bind λc=>if c.2.2.1.isEmpty then (ju c.1).map λx=>(x,c.2.1,c.2.2.2) else none
theorem jL(h:j9 e=some (x,xs,p)):∃q,e=.Call (.Name x q) xs [] p:=by
 unfold j9 at h
 cases c:xq e with
 |none=>rw[c]at h;cases h
 |some c' =>
  obtain⟨f,ys,ks,p'⟩:=c';rw[c]at h;have e1:=qY c
  cases ks with
  |nil =>
   cases n:ju f with
   |none=>simp[n]at h
   |some y =>
    simp[n]at h;obtain⟨q,e2⟩:=jo n;obtain⟨rfl,rfl,rfl⟩:=h
    exact⟨q,by rw[e1,e2]⟩
  |cons _ _=>simp at h
def Ui:Expr->Bool
 |.Set ..=>true
 |_=>false
def Vw:Expr->Option (Expr×List jd4×Scope)
 |.ListComp a b c _=>some (a,b,c)
 |_=>none
variable{c:Scope}
theorem jbs{b:List jd4}(h:Vw e=some (a,b,c)):∃p,e=.ListComp a b c p:=by exists (λx e=>∃p,e=.ListComp x.1 x.2.1 x.2.2 p),h,e
def Jv(e:Expr):Option (Expr×Str×Expr×Scope):=(Vw e).bind λz=>match z.2.1 with
 |[g]=>if g.ifs.isEmpty&&decide (g.is_async=0) then (ju g.target).map λx=>(z.1,x,g.iter,z.2.2) else none
 |_=>none
theorem kW(h:Jv e=some (a,x,i,c)):∃px p,e=.ListComp a [⟨.Name x px,i,[],0⟩] c p:=by
 unfold Jv at h
 cases z:Vw e with
 |none=>rw[z]at h;cases h
 |some y =>
  obtain⟨a',b,c'⟩:=y;obtain⟨p,rfl⟩:=jbs z;rw[z]at h;simp only[jeV]at h;split at h
  ·next g =>
   obtain⟨tg,it,ifs,asy⟩:=g;simp only at h;split at h
   ·next hc =>
    simp only[bg,gw,decide_eq_true_eq]at hc;obtain⟨rfl,rfl⟩:=hc
    cases n:ju tg with
    |none=>rw[n]at h;cases h
    |some y =>
     rw[n]at h;obtain⟨px,rfl⟩:=jo n;cases h;exact⟨px,p,rfl⟩
   ·cases h
  ·cases h
def vm(e:Expr):Option (Expr×Str×Expr×Scope×Expr):=(Vw e).bind λz=>match z.2.1 with
 |[g]=>match g.ifs with
  |[c]=>if decide (g.is_async=0) then (ju g.target).map λx=>(z.1,x,g.iter,z.2.2,c) else none
  |_=>none
 |_=>none
theorem uc(h:vm e=some (a,x,i,c,f)):∃px p,e=.ListComp a [⟨.Name x px,i,[f],0⟩] c p:=by
 unfold vm at h
 cases z:Vw e with
 |none=>rw[z]at h;cases h
 |some y =>
  obtain⟨a',b,c'⟩:=y;obtain⟨p,rfl⟩:=jbs z;rw[z]at h;simp only[jeV]at h;split at h
  ·next g =>
   obtain⟨tg,it,ifs,asy⟩:=g;simp only at h;split at h
   ·next cc =>
    split at h
    ·next hc =>
     simp only[decide_eq_true_eq]at hc;subst hc
     cases n:ju tg with
     |none=>rw[n]at h;cases h
     |some y =>
      rw[n]at h;obtain⟨px,rfl⟩:=jo n;cases h;exact⟨px,p,rfl⟩
    ·cases h
   ·cases h
  ·cases h
def QN(names out:List (Str×nh)):List (Str×nh):=names.map λ(n,k)=>if (k == .free&&out.lookup n == some .cell) then (n,.cell) else (n,k)
def Ck.block(k:Ck)(x:Str)(sc:Scope):Ck:={ k with N:=qw k.N x,names:=QN sc.names k.names }
def qN(k:Ck)(x:Str)(sc:Scope):Bool :=
 (sc.kind == .function)&&decide ((sc.names.filter λy=>y.2 == .cell)=if sc.names.lookup x=some .cell then [(x,.cell)] else [])&&(sc.names.all λy=>!(y.2 == .local) ||decide (sc.names.lookup y.1=some .local))&&(decide (sc.names.lookup x=some .local) ||decide (sc.names.lookup x=some .cell)) &&
  (sc.names.all λy=>!(y.2 == .local) ||decide (y.1=x) ||(!(k.N.contains y.1)&&decide (y.1≠(dum k.N))))&&(sc.names.all λy=>!(y.2 == .free) ||decide (k.names.lookup y.1=some .cell) ||decide (k.names.lookup y.1=some .free)) &&
  decide (x≠(dum k.N))&&decide (k.names.lookup (dum k.N)=none) && !(k.N.contains (dum k.N))
def plainE:Expr->Bool
 |.Starred .. |.Set .. |.SetComp .. |.DictComp .. |.Slice ..=>false
 |_=>true
def Qk:Expr->Option (Option Expr×Option Expr)
 |.Slice lo hi none _=>some (lo,hi)
 |_=>none
theorem Xo{lo hi:Option Expr}(h:Qk e=some (lo,hi)):∃p,e=.Slice lo hi none p:=by
 unfold Qk at h;split at h
 ·cases h;exact⟨_,rfl⟩
 ·cases h
mutual
noncomputable def chkE:Ck->Ex->Expr->Bool
 |k,.var i,e=>(ju e).any λx=>k.loc i x
 |k,.cst d,e=>(kB e).any λc=>constOk d c
 |k,.con i,e=>(ju e).any λx=>decide (k.cns[i]?=some x)&&k.gl x
 |k,.bin o a b,e=>(VP e).any λz=>opOk o z.2.1&&chkE k a z.1&&chkE k b z.2.2
 |k,.neg a,e=>(asUn e).any λz=>decide (z.1=.USub)&&chkE k a z.2
 |k,.not a,e=>(asUn e).any λz=>decide (z.1=.Not)&&chkE k a z.2
 |k,.cmp o a b,e=>(Zi e).any λz=>decide (z.2.1.length=1)&&decide (z.2.2.length=1)&&cOk o (z.2.1.getD 0 .Eq) (z.2.2.getD 0 e)&&chkE k a z.1&&chkE k b (z.2.2.getD 0 e)
 |k,.and a b,e=>(QD e).any λz=>decide (z.1=.And)&&decide (2<=z.2.1.length)&&chkE k a (z.2.1.getD 0 e)&&(if z.2.1.length=2 then chkE k b (z.2.1.getD 1 e) else chkE k b (.BoolOp .And (z.2.1.drop 1) z.2.2))
 |k,.or a b,e=>(QD e).any λz=>decide (z.1=.Or)&&decide (2<=z.2.1.length)&&chkE k a (z.2.1.getD 0 e)&&(if z.2.1.length=2 then chkE k b (z.2.1.getD 1 e) else chkE k b (.BoolOp .Or (z.2.1.drop 1) z.2.2))
 |k,.ife c a b,e=>(asIf e).any λz=>chkE k c z.1&&chkE k a z.2.1&&chkE k b z.2.2
 |k,.tup es,e=>(QW e).any λxs=>decide (xs.length<=1000)&&qg k es xs
 |k,.lst es,e=>(Ku e).any λxs=>decide (xs.length<=1000)&&qg k es xs
 |k,.ix a b,e=>(vc e).any λz=>!ze z.2&&chkE k a z.1&&chkE k b z.2
 |k,.call f es,e=>(j9 e).any λz=>decide (k.fns[f]?=some (z.1,z.2.1.length))&&k.gl z.1 && !z.2.1.isEmpty&&qg k es z.2.1
 |k,.bi f es,e=>(j9 e).any λz=>decide (z.1=f.nm)&&k.gl z.1 && !z.2.1.isEmpty&&qg k es z.2.1
 |k,.meth m o,e=>(xq e).any λz=>z.2.1.isEmpty&&z.2.2.1.isEmpty&&(xA z.1).any λy=>decide (y.2.1=m.nm)&&Yo y.1&&(y.2.2.endLine == z.2.2.2.line)&&chkE k o y.1
 |k,.isi a t,e=>(j9 e).any λz=>decide (z.1=("isinstance":Str))&&k.gl z.1&&decide (z.2.1.length=2)&&decide (ju (z.2.1.getD 1 e)=some t.nm)&&k.gl t.nm&&chkE k a (z.2.1.getD 0 e)
 |k,.compR es b,e=>(Jv e).any λz=>qN k z.2.1 z.2.2.2&&((j9 z.2.2.1).any λc=>decide (c.1=("range":Str))&&k.gl c.1 && !c.2.1.isEmpty&&qg k es c.2.1)&&chkE (k.block z.2.1 z.2.2.2) b z.1
 |k,.compE a b,e=>(Jv e).any λz=>qN k z.2.1 z.2.2.2 && !Ui z.2.2.1&&chkE k a z.2.2.1&&chkE (k.block z.2.1 z.2.2.2) b z.1
 |k,.compF a c b,e=>(vm e).any λz=>qN k z.2.1 z.2.2.2.1 && !Ui z.2.2.1&&chkE k a z.2.2.1&&chkE (k.block z.2.1 z.2.2.2.1) c z.2.2.2.2&&chkE (k.block z.2.1 z.2.2.2.1) b z.1
 |k,.compZ a b c,e=>(Jv e).any λz=>qN k z.2.1 z.2.2.2&&((j9 z.2.2.1).any λy=>decide (y.1=("zip":Str))&&k.gl y.1&&decide (y.2.1.length=2)&&chkE k a (y.2.1.getD 0 e)&&chkE k b (y.2.1.getD 1 e))&&chkE (k.block z.2.1 z.2.2.2) c z.1
 |k,.slc a l h,e=>(vc e).any λz=>(Qk z.2).any λy=>chkE k a z.1&&(y.1.isNone == kO l)&&(y.2.isNone == kO h)&&(kO l ||chkE k l (y.1.getD e))&&(kO h ||chkE k h (y.2.getD e))
 |k,.lix a b,e=>(xq e).any λz=>z.2.2.1.isEmpty&&decide (z.2.1.length=1)&&((xA z.1).any λy=>decide (y.2.1=("index":Str))&&Yo y.1&&(y.2.2.endLine == z.2.2.2.line)&&chkE k a y.1)&&chkE k b (z.2.1.getD 0 e)
 |k,.oix i a,e=>(vc e).any λz=>!ze z.2&&((ju z.1).any λx=>k.loc i x)&&chkE k a z.2
noncomputable def qg:Ck->List Ex->List Expr->Bool
 |_,[],es=>es.isEmpty
 |k,e::es,xs=>!xs.isEmpty&&chkE k e (xs.getD 0 (.Name "" ⟨0,0,0,0⟩))&&qg k es (xs.drop 1)
end
theorem qj{xs:List α}(h:xs.length=2):∃a b,xs=[a,b]:=by
 match xs,h with
 |[a,b],_=>exact⟨a,b,rfl⟩
theorem kQ{xs:List α}(h:xs.length=1):∃a,xs=[a]:=by
 match xs,h with
 |[a],_=>exact⟨a,rfl⟩
theorem xk{xs:List α}(h:(!xs.isEmpty)=true):∃a b,xs=a::b:=by
 cases xs with
 |nil=>cases h
 |cons a b=>exact⟨a,b,rfl⟩
theorem jb{o:Option α}{f:α->Bool}(h:o.any f=true):∃a,o=some a/\f a=true:=by
 cases o with
 |none=>cases h
 |some a=>exact⟨a,rfl,h⟩
def ZM(f x:Str)(d e:Expr):Bool:=(j9 e).any λc=>decide (c.1=f)&&decide (c.2.1.length=1)&&decide (ju (c.2.1.getD 0 d)=some x)
variable{f:D->D->(D->Prop)->Prop}{d:D}
theorem jbV{f:Str}{d:Expr}(h:ZM f x d e=true):∃gp qp dp,e=.Call (.Name f gp) [.Name x qp] [] dp:=by
 unfold ZM at h;replace h:=jb h;obtain⟨⟨f',ys,dp⟩,h1,h⟩:=h;obtain⟨gp,rfl⟩:=jL h1;simp only[bg,decide_eq_true_eq]at h;obtain⟨⟨rfl,h2⟩,h3⟩:=h;obtain⟨y,rfl⟩:=kQ h2;obtain⟨qp,rfl⟩:=jo (show ju y=_ from h3);exact⟨_,_,_,rfl⟩
variable{k:Ck}{es:List Expr}
theorem jZ(h:qg k [] es=true):es=[]:=by
 rw[qg]at h;simpa using h
variable{xs:List D}
theorem jM{x:Ex}{xs:List Ex}(h:qg k (x::xs) es=true):∃y ys,es=y::ys/\chkE k x y=true/\qg k xs ys=true:=by
 rw[qg]at h
 cases es with
 |nil=>simp at h
 |cons y ys =>
  simp only[bg,dZ,gC]at h;exact⟨y,ys,rfl,h.1.2,h.2⟩
theorem u4{x:Ex}(h:chkE k x e=true):plainE e=true:=by
 cases x with
 |_ =>
  obtain⟨z,hz,_⟩:=jb h
  first
   |(obtain⟨_,rfl⟩:=jo hz;rfl)
   |(obtain⟨_,_,rfl⟩:=qJ hz;rfl)
   |(obtain⟨_,rfl⟩:=JA hz;rfl)
   |(obtain⟨_,rfl⟩:=Zj hz;rfl)
   |(obtain⟨_,rfl⟩:=Qt hz;rfl)
   |(have e:=vz hz;subst e;rfl)
   |(obtain⟨_,rfl⟩:=ja5 hz;rfl)
   |(obtain⟨_,_,rfl⟩:=QH hz;rfl)
   |(obtain⟨_,rfl⟩:=yO hz;rfl)
   |(obtain⟨_,rfl⟩:=yS hz;rfl)
   |(obtain⟨_,rfl⟩:=jL hz;rfl)
   |(have e:=qY hz;subst e;rfl)
   |(obtain⟨_,rfl⟩:=asJoin_ hz;rfl)
   |(obtain⟨_,_,_,rfl⟩:=kW hz;rfl)
   |(obtain⟨_,_,rfl⟩:=uc hz;rfl)
   |(obtain⟨_,_,rfl⟩:=kW hz;rfl)
def Rws(K:bp)(O:List Addr)(H:Hp):List (List D)->List Addr->Prop
 |[],as=>as=[]
 |r::rs,as=>∃b bs vs,as=b::bs/\H b=some (.lst vs)/\Iss K (je H O) r vs/\Rws K O H rs bs
theorem Rws.imp{K:bp}{O O':List Addr}{H H':Hp}(s:jf (je H O) (je H' O')):∀ {rows:List (List D)} {as:List Addr},(∀b∈as,∀vs,H b=some (.lst vs)->H' b=some (.lst vs))->Rws K O H rows as->Rws K O' H' rows as
 |[],as,_,h=>h
 |r::rs,as,k,h=>by
  obtain⟨b,bs,vs,rfl,h1,h2,h3⟩:=h;exact⟨b,bs,vs,rfl,k b (bB ..) vs h1,Iss.mono s r h2,Rws.imp s (λc hc=>k c (bo _ hc)) h3⟩
theorem Rws.len{K:bp}{O:List Addr}{H:Hp}:∀ {rows:List (List D)} {as:List Addr},Rws K O H rows as->as.length=rows.length
 |[],as,h=>by cases h;rfl
 |r::rs,as,h=>by
  obtain⟨b,bs,vs,rfl,_,_,h3⟩:=h;simp[Rws.len h3]
theorem Rws.isL{K:bp}{O:List Addr}{H:Hp}:∀ {rows:List (List D)} {as:List Addr},Rws K O H rows as->∀b∈as,∃vs,H b=some (.lst vs)
 |[],as,h,b,hb=>by cases h;cases hb
 |r::rs,as,h,b,hb=>by
  obtain⟨c,bs,vs,rfl,h1,_,h3⟩:=h;rcases bD.mp hb with rfl|hb
  ·exact⟨vs,h1⟩
  ·exact Rws.isL h3 b hb
structure OwT (K:bp) (O:List Addr) (H:Hp) (rows:List (List D)) (a:Addr) (as:List Addr):Prop where
 top:H a=some (.lst (as.map .ref))
 nd:a ∉ as/\as.Nodup
 inO:a∈O/\∀b∈as,b∈O
 rw:Rws K O H rows as
variable{a:Addr}{O:List Addr}{H H':Hp}
theorem OwT.mono{rows:List (List D)}(e:jf H H')(t:OwT K O H rows a as):OwT K O H' rows a as :=
 ⟨e _ _ t.top,t.nd,t.inO,t.rw.imp (jd e) λb _ vs h=>e _ _ h⟩
def OT(K:bp)(O:List Addr)(H:Hp)(σ:Sto)(τ:L2.St):Prop :=
 (∀i rows,getS σ i=some (.ot rows)->∃a as,τ[i]?=some (some (.ref a))/\OwT K O H rows a as/\∀j ds b,getS σ j=some (.ow ds)->τ[j]?=some (some (.ref b))->b≠a/\b ∉ as)/\∀i j rs qs,getS σ i=some (.ot rs)->getS σ j=some (.ot qs)->i=j
variable{O':List Addr}{σ σ':Sto}{τ τ':L2.St}
theorem OT.step(h:OT K O H σ τ)(hT:∀i rows,getS σ' i=some (.ot rows)->getS σ i=some (.ot rows)/\τ'[i]?=τ[i]?)
 (hO:∀i rows a as,getS σ i=some (.ot rows)->τ[i]?=some (some (.ref a))->(∀j ds b,getS σ j=some (.ow ds)->τ[j]?=some (some (.ref b))->b≠a/\b ∉ as)->OwT K O H rows a as->OwT K O' H' rows a as)
 (hW:∀i rows a as j ds b,getS σ i=some (.ot rows)->OwT K O H rows a as->getS σ' j=some (.ow ds)->τ'[j]?=some (some (.ref b))->(∃ds',getS σ j=some (.ow ds')/\τ[j]?=some (some (.ref b)))\/(b≠a/\b ∉ as)):OT K O' H' σ' τ':=by
 refine⟨λi rows g=>?_,λi j rs qs g1 g2=>h.2 i j rs qs (hT i rs g1).1 (hT j qs g2).1⟩;obtain⟨g0,e0⟩:=hT i rows g;obtain⟨a,as,e1,t,d⟩:=h.1 i rows g0;refine⟨a,as,e0.trans e1,hO i rows a as g0 e1 d t,λj ds b g1 e2=>?_⟩;rcases hW i rows a as j ds b g0 t g1 e2 with⟨ds',g2,e3⟩|z
 ·exact d j ds' b g2 e3
 ·exact z
structure Reps (K:bp) (O:List Addr) (H:Hp) (σ:Sto) (τ:L2.St):Prop where
 len:σ.length=τ.length
 own:∀a∈O,H a≠none
 sh:∀i d,getS σ i=some (.sh d)->∃v,τ[i]?=some (some v)/\Is K (je H O) d v
 ow:∀i ds,getS σ i=some (.ow ds)->∃a vs,τ[i]?=some (some (.ref a))/\a∈O/\H a=some (.lst vs)/\Iss K (je H O) ds vs
 dj:∀i j ds es,i≠j->getS σ i=some (.ow ds)->getS σ j=some (.ow es)->τ[i]? ≠ τ[j]?
 tt:OT K O H σ τ
theorem Reps.mono(r:Reps K O H σ τ)(e:jf H H'):Reps K O H' σ τ where
 len:=r.len
 own:=λa ha z=>by
  cases q:H a with
  |none=>exact r.own a ha q
  |some o=>rw[e a o q]at z;cases z
 sh:=λi d h=>by
  obtain⟨v,h1,h2⟩:=r.sh i d h;exact⟨v,h1,Is.mono (jd e) d h2⟩
 ow:=λi ds h=>by
  obtain⟨a,vs,h1,h2,h3,h4⟩:=r.ow i ds h;exact⟨a,vs,h1,h2,e _ _ h3,Iss.mono (jd e) ds h4⟩
 dj:=r.dj
 tt:=r.tt.step (λ_ _ g=>⟨g,rfl⟩) (λ_ _ _ _ _ _ _ t=>t.mono e) λ_ _ _ _ j ds b _ _ g q=>.inl ⟨ds,g,q⟩
theorem kK:∀(σ:Sto) (i j:Nat) (v:Option Sl),getS (setS σ i v) j=if i=j/\i<σ.length then v else getS σ j
 |[],i,j,v=>by simp[setS,getS]
 |x::r,0,0,v=>by simp[setS,getS]
 |x::r,0,j+1,v=>by simp[setS,getS]
 |x::r,i+1,0,v=>by simp[setS,getS]
 |x::r,i+1,j+1,v=>by
  simp only[setS,getS,gf];rw[kK r i j v];by_cases h:i=j/\i<r.length
  ·rw[if_pos h,if_pos (by lia)]
  ·rw[if_neg h,if_neg (by lia)]
theorem ui:∀(σ:Sto) (i:Nat) (v:Option Sl),(setS σ i v).length=σ.length
 |[],i,v=>rfl
 |_::_,0,v=>rfl
 |_::r,i+1,v=>by simp[setS,ui r i v]
def less(O:List Addr)(a:Addr):List Addr:=O.filter λb=>decide (b≠a)
theorem j5{b:Addr}:b∈less O a ↔ b∈O/\b≠a:=by simp[less]
variable{i:Nat}{ds:List D}{vs:List V}
theorem Reps.share(r:Reps K O H σ τ)(g:getS σ i=some (.ow ds))(e1:τ[i]?=some (some (.ref a)))(e3:H a=some (.lst vs))(e4:Iss K (je H O) ds vs) :
 Reps K (less O a) H (setS σ i (some (.sh (.lst ds)))) τ where
 len:=by rw[ui];exact r.len
 own:=λb hb=>r.own b (j5.mp hb).1
 sh:=λj d h=>by
  have lessS:jf (je H O) (je H (less O a)):=jC λb hb=>(j5.mp hb).1
  rw[kK]at h;by_cases hj:i=j/\i<σ.length
  ·rw[if_pos hj]at h;obtain⟨rfl,_⟩:=hj;cases h;refine⟨.ref a,e1,qE (SqL.of ?_) (Iss.mono lessS ds e4)⟩;rw[j8 λz=>(j5.mp z).2 rfl];exact e3
  ·rw[if_neg hj]at h;obtain⟨v,h1,h2⟩:=r.sh j d h;exact⟨v,h1,Is.mono lessS d h2⟩
 ow:=λj es h=>by
  have lessS:jf (je H O) (je H (less O a)):=jC λb hb=>(j5.mp hb).1
  rw[kK]at h;by_cases hj:i=j/\i<σ.length
  ·rw[if_pos hj]at h;cases h
  ·rw[if_neg hj]at h;obtain⟨b,ws,h1,h2,h3,h4⟩:=r.ow j es h;refine⟨b,ws,h1,j5.mpr ⟨h2,λz=>?_⟩,h3,Iss.mono lessS es h4⟩;subst z
   have hij:i≠j:=λz=>by
    subst z
    have:i<σ.length:=by
     rcases bU i σ.length with q|q
     ·exact q
     ·rw[r.len]at q;rw[bG q]at e1;cases e1
    exact hj ⟨rfl,this⟩
   exact r.dj i j ds es hij g h (e1.trans h1.symm)
 dj:=λj l es fs hjl g1 g2=>by
  rw[kK]at g1 g2;by_cases hj:i=j/\i<σ.length
  ·rw[if_pos hj]at g1;cases g1
  ·rw[if_neg hj]at g1;by_cases hl:i=l/\i<σ.length
   ·rw[if_pos hl]at g2;cases g2
   ·rw[if_neg hl]at g2;exact r.dj j l es fs hjl g1 g2
 tt:=by
  have old:∀j z,getS (setS σ i (some (.sh (.lst ds)))) j=some z->(∀d,z ≠ .sh d)->getS σ j=some z:=λj z h n=>by
   rw[kK]at h;by_cases hj:i=j/\i<σ.length
   ·rw[if_pos hj]at h;cases h;exact absurd rfl (n _)
   ·rw[if_neg hj]at h;exact h
  refine r.tt.step (λj rows h=>⟨old j _ h (λ_ z=>nomatch z),rfl⟩) (λj rows b as h q d t=>?_) λ_ _ _ _ j es b _ _ h q=>.inl ⟨es,old j _ h (λ_ z=>nomatch z),q⟩
  obtain⟨n1,n2⟩:=d i ds a g e1;refine⟨t.top,t.nd,⟨j5.mpr ⟨t.inO.1,gX n1⟩,λc hc=>j5.mpr ⟨t.inO.2 c hc,λz=>n2 (z ▸ hc)⟩⟩,t.rw.imp (jC λb hb=>(j5.mp hb).1) λ_ _ _ z=>z⟩
theorem Ke{b:Addr}{us:List V}(k:∀u,je H O' b=some u->(∀vs,u ≠ .lst vs)->je H O b=some u)(h:SqT K (je H O') b us):SqT K (je H O) b us:=by
 rcases h with(h|⟨o,h⟩)|h
 ·exact .inl (.inl (k _ h λ_ z=>nomatch z))
 ·exact .inl (.inr ⟨o,k _ h λ_ z=>nomatch z⟩)
 ·exact .inr h
mutual
theorem jax{K:bp}{O:List Addr}{H:Hp}{a:Addr}{vs:List V}(h:H a=some (.lst vs)):∀(d:D) {v:V},nol d=true->Is K (je H (less O a)) d v->Is K (je H O) d v
 |.non,v,_,i=>by cases uK i;exact JD
 |.bl b,v,_,i=>by cases qM i;exact qz _
 |.int n,v,_,i=>by cases jz i;exact jG _
 |.str x,v,_,i=>by obtain⟨rfl,o⟩:=uD i;exact zB o
 |.lst xs,v,n,i=>by simp[nol]at n
 |.tup xs,v,n,i=>by
  obtain⟨b,us,rfl,h1,h2⟩:=kY i;refine KJ (Ke (λu hu nl=>?_) h1) (Qb h xs (by simpa[nol]using n) h2);have hb:H b=some u:=jg _ _ _ _ hu;rw[j8]
  ·exact hb
  ·intro z
   have hne:b≠a:=λq=>by subst q;rw[h]at hb;cases hb;exact nl _ rfl
   have:je H (less O a) b=none:=by unfold je;rw[if_pos (j5.mpr ⟨z,hne⟩)]
   rw[this]at hu;cases hu
theorem Qb{K:bp}{O:List Addr}{H:Hp}{a:Addr}{vs:List V}(h:H a=some (.lst vs)):∀(ds:List D) {us:List V},Jl ds=true->Iss K (je H (less O a)) ds us->Iss K (je H O) ds us
 |[],us,_,i=>by unfold Iss at *;exact i
 |d::ds,us,n,i=>by
  simp only[Jl,bg]at n;unfold Iss at *;obtain⟨v,r,e,i1,i2⟩:=i;exact⟨v,r,e,jax h d n.1 i1,Qb h ds n.2 i2⟩
end
def flD(d:D):V->Prop
 |.non=>d=.non
 |.bl b=>d=.bl b
 |.int i=>d=.int i
 |.str x=>d=.str x
 |.ref _=>(∃xs,d=.tup xs)\/∃xs,d=.lst xs
 |_=>False
variable{S:Hp}
theorem Is.fl{v:V}(g:Is K S d v):flD d v:=by
 cases d with
 |non=>cases uK g;rfl
 |bl b=>cases qM g;rfl
 |int i=>cases jz g;rfl
 |str x=>obtain⟨rfl,_⟩:=uD g;rfl
 |tup xs=>obtain⟨a,vs,rfl,_⟩:=kY g;exact .inl ⟨xs,rfl⟩
 |lst xs=>obtain⟨a,vs,rfl,_⟩:=jK g;exact .inr ⟨xs,rfl⟩
mutual
theorem Is.inj{pins:List (Addr×nv)}{s:Shared}{τ:L2.St}{H:Hp}(I:Inv X pins τ H s):∀(d:D) {e:D} {v:V},Is X.K H d v->Is X.K H e v->d=e
 |.non,e,v,h,g=>by cases uK h;exact(show e=.non from g.fl).symm
 |.bl b,e,v,h,g=>by cases qM h;exact(show e=.bl b from g.fl).symm
 |.int b,e,v,h,g=>by cases jz h;exact(show e=.int b from g.fl).symm
 |.str b,e,v,h,g=>by obtain⟨rfl,_⟩:=uD h;exact(show e=.str b from g.fl).symm
 |.tup xs,e,v,h,g=>by
  obtain⟨a,vs,rfl,h1,h2⟩:=kY h
  cases e with
  |tup ys =>
   obtain⟨b,us,eb,g1,g2⟩:=kY g;cases eb;cases I.tuple_inj h1 g1
   rw[Iss.inj I xs h2 g2]
  |lst ys =>
   obtain⟨b,us,eb,g1,g2⟩:=jK g;cases eb;obtain⟨_,_,⟨o,e1,e2,_⟩,_⟩:=I.tuple h1;obtain⟨_,_,p,_⟩:=I.list g1;obtain⟨o',f1,f2,_⟩:=p.isList;rw[e1]at f1;cases f1;rw[e2]at f2;injection f2 with f2
   exact absurd f2 (by decide)
  |_=>rcases g.fl with⟨_,z⟩|⟨_,z⟩<;>cases z
 |.lst xs,e,v,h,g=>by
  obtain⟨a,vs,rfl,h1,h2⟩:=jK h
  cases e with
  |lst ys =>
   obtain⟨b,us,eb,g1,g2⟩:=jK g;cases eb;cases I.list_inj h1 g1
   rw[Iss.inj I xs h2 g2]
  |tup ys =>
   obtain⟨b,us,eb,g1,g2⟩:=kY g;cases eb;obtain⟨_,_,⟨o,e1,e2,_⟩,_⟩:=I.tuple g1;obtain⟨_,_,p,_⟩:=I.list h1;obtain⟨o',f1,f2,_⟩:=p.isList;rw[e1]at f1;cases f1;rw[e2]at f2;injection f2 with f2
   exact absurd f2 (by decide)
  |_=>rcases g.fl with⟨_,z⟩|⟨_,z⟩<;>cases z
theorem Iss.inj{pins:List (Addr×nv)}{s:Shared}{τ:L2.St}{H:Hp}(I:Inv X pins τ H s):∀(ds:List D) {es:List D} {vs:List V},Iss X.K H ds vs->Iss X.K H es vs->ds=es
 |[],es,vs,h,g=>by
  unfold Iss at h;subst h
  cases es with
  |nil=>rfl
  |cons _ _=>unfold Iss at g;obtain⟨_,_,g,_⟩:=g;cases g
 |d::ds,es,vs,h,g=>by
  unfold Iss at h;obtain⟨v,r,rfl,h1,h2⟩:=h
  cases es with
  |nil=>unfold Iss at g;cases g
  |cons e es =>
   unfold Iss at g;obtain⟨v',r',eq,g1,g2⟩:=g;cases eq;rw[Is.inj I d h1 g1,Iss.inj I ds h2 g2]
end
def zl(O as:List Addr):List Addr:=O.filter λb=>decide (b ∉ as)
theorem jR{b:Addr}:b∈zl O as ↔ b∈O/\b ∉ as:=by simp[zl]
mutual
theorem nol_isG{K:bp}{O O':List Addr}{H:Hp}(h:∀b∈O,b ∉ O'->∃vs,H b=some (.lst vs)):∀(d:D) {v:V},nol d=true->Is K (je H O') d v->Is K (je H O) d v
 |.non,v,_,i=>by cases uK i;exact JD
 |.bl b,v,_,i=>by cases qM i;exact qz _
 |.int n,v,_,i=>by cases jz i;exact jG _
 |.str x,v,_,i=>by obtain⟨rfl,o⟩:=uD i;exact zB o
 |.lst xs,v,n,i=>by simp[nol]at n
 |.tup xs,v,n,i=>by
  obtain⟨b,us,rfl,h1,h2⟩:=kY i;refine KJ (Ke (λu hu nl=>?_) h1) (Jg h xs (by simpa[nol]using n) h2);have hb:H b=some u:=jg _ _ _ _ hu;rw[j8]
  ·exact hb
  ·intro z;by_cases q:b∈O'
   ·have:je H O' b=none:=by unfold je;rw[if_pos q]
    rw[this]at hu;cases hu
   ·obtain⟨vs,e⟩:=h b z q;rw[e]at hb;cases hb;exact nl _ rfl
theorem Jg{K:bp}{O O':List Addr}{H:Hp}(h:∀b∈O,b ∉ O'->∃vs,H b=some (.lst vs)):∀(ds:List D) {us:List V},Jl ds=true->Iss K (je H O') ds us->Iss K (je H O) ds us
 |[],us,_,i=>by unfold Iss at *;exact i
 |d::ds,us,n,i=>by
  simp only[Jl,bg]at n;unfold Iss at *;obtain⟨v,r,e,i1,i2⟩:=i;exact⟨v,r,e,nol_isG h d n.1 i1,Jg h ds n.2 i2⟩
end
theorem Rws.iss{K:bp}{O O':List Addr}{H:Hp}(s:jf (je H O) (je H O')):∀ {rows:List (List D)} {as:List Addr},(∀b∈as,b ∉ O')->Rws K O H rows as->Iss K (je H O') (rows.map .lst) (as.map .ref)
 |[],as,_,h=>by cases h;simp only[dR];unfold Iss;rfl
 |r::rs,as,n,h=>by
  obtain⟨b,bs,vs,rfl,h1,h2,h3⟩:=h;simp only[bz];unfold Iss;refine⟨_,_,rfl,qE (SqL.of ?_) (Iss.mono s r h2),Rws.iss s (λc hc=>n c (bo _ hc)) h3⟩;rw[j8 (n b (bB ..))];exact h1
theorem OwT.is{rows:List (List D)}(t:OwT K O H rows a as):Is K (je H (zl O (a::as))) (kA rows) (.ref a):=by
 refine qE (SqL.of ?_) (t.rw.iss (jC λb hb=>(jR.mp hb).1) λb hb z=>(jR.mp z).2 (bo _ hb));rw[j8 λz=>(jR.mp z).2 (bB ..)];exact t.top
theorem Reps.shareT(r:Reps K O H σ τ){rows:List (List D)}(g:getS σ i=some (.ot rows))(e1:τ[i]?=some (some (.ref a)))(t:OwT K O H rows a as)(d:∀j ds b,getS σ j=some (.ow ds)->τ[j]?=some (some (.ref b))->b≠a/\b ∉ as) :
 Reps K (zl O (a::as)) H (setS σ i (some (.sh (kA rows)))) τ:=by
 have lessS:jf (je H O) (je H (zl O (a::as))):=jC λb hb=>(jR.mp hb).1
 have old:∀j z,getS (setS σ i (some (.sh (kA rows)))) j=some z->(∀d,z ≠ .sh d)->getS σ j=some z:=λj z h n=>by
  rw[kK]at h;by_cases hj:i=j/\i<σ.length
  ·rw[if_pos hj]at h;cases h;exact absurd rfl (n _)
  ·rw[if_neg hj]at h;exact h
 refine⟨by rw[ui];exact r.len,λb hb=>r.own b (jR.mp hb).1,λj e h=>?_,λj es h=>?_,λj l es fs hjl g1 g2=>r.dj j l es fs hjl (old j _ g1 λ_ z=>nomatch z) (old l _ g2 λ_ z=>nomatch z),?_⟩
 ·rw[kK]at h;by_cases hj:i=j/\i<σ.length
  ·rw[if_pos hj]at h;obtain⟨rfl,_⟩:=hj;cases h;exact⟨_,e1,t.is⟩
  ·rw[if_neg hj]at h;obtain⟨v,h1,h2⟩:=r.sh j e h;exact⟨v,h1,Is.mono lessS e h2⟩
 ·have h:=old j _ h λ_ z=>nomatch z
  obtain⟨b,ws,h1,h2,h3,h4⟩:=r.ow j es h;obtain⟨n1,n2⟩:=d j es b h h1;exact⟨b,ws,h1,jR.mpr ⟨h2,by simp[n1,n2]⟩,h3,Iss.mono lessS es h4⟩
 ·refine⟨λj rs h=>?_,λj l rs qs h1 h2=>r.tt.2 j l rs qs (old j _ h1 λ_ z=>nomatch z) (old l _ h2 λ_ z=>nomatch z)⟩
  have h':=old j _ h λ_ z=>nomatch z
  have hij:=r.tt.2 i j _ _ g h';subst hij;exfalso
  have hl:i<σ.length:=by
   rw[r.len];rcases bU i τ.length with q|q
   ·exact q
   ·rw[bG q]at e1;cases e1
  rw[kK,if_pos ⟨rfl,hl⟩]at h;cases h
def Wd(K:bp)(O:List Addr)(H:Hp)(Q:VK)(d:D):Prop:=∀v H',jf H H'->Is K (je H' O) d v->Q v H'
def Wds(K:bp)(O:List Addr)(H:Hp)(Q:List V->Hp->Prop)(ds:List D):Prop:=∀vs H',jf H H'->Iss K (je H' O) ds vs->Q vs H'
variable{Q:VK}
theorem Wd.mono(e:jf H H')(w:Wd K O H Q d):Wd K O H' Q d:=λv H'' e' i=>w v H'' (e.trans e') i
def tD(K:bp)(C:Cfg)(x:Ex):TE:=λτ H Q=>∃σ O,Reps K O H σ τ/\wpE C x σ (Wd K O H Q)
def tDs(K:bp)(C:Cfg)(xs:List Ex):TA:=λτ H Q=>∃σ O,Reps K O H σ τ/\wpEs C xs σ (Wds K O H Q)
def tDT(K:bp)(C:Cfg)(x:Ex):TT:=λτ H Q=>∃σ O,Reps K O H σ τ/\wpE C x σ (isB λc=>∀H',jf H H'->Q c H')
def WdF(K:bp)(O:List Addr)(H:Hp)(Q:VK)(d:D):Prop:=∀xs a H' vs,d=.lst xs->jf H H'->H a=none->H' a=some (.lst vs)->Iss K (je H' (a::O)) xs vs->Q (.ref a) H'
def WdG(K:bp)(O:List Addr)(H:Hp)(Q:VK)(d:D):Prop:=∀rows a as H',d=kA rows->jf H H'->(H a=none/\∀b∈as,H b=none)->OwT K (a::as++O) H' rows a as->Q (.ref a) H'
def Rw(K:bp)(fr g:Bool)(O:List Addr)(H:Hp)(Q:VK)(d:D):Prop:=if fr=true then WdF K O H Q d else if g=true then (WdG K O H Q d/\(nol d=true->Wd K O H Q d)) else Wd K O H Q d
theorem Wd.rw{K:bp}{fr g:Bool}{O:List Addr}{H:Hp}{Q:VK}{d:D}(ho:∀a∈O,H a≠none)(w:Wd K O H Q d):Rw K fr g O H Q d:=by
 unfold Rw;split
 ·intro xs a H' vs e s h0 h1 i;subst e
  have na:a ∉ O:=λz=>ho a z h0
  refine w _ _ s (qE (SqL.of ?_) (Iss.mono (jC λb hb=>bo _ hb) xs i));rw[j8 na];exact h1
 split
 ·refine⟨λrows a as H' e s h0 t=>?_,λ_=>w⟩;subst e;refine w _ _ s (Is.mono (jC λb hb=>jR.mpr ⟨bR _ hb,λz=>?_⟩) _ t.is);rcases bD.mp z with rfl|z
  ·exact ho _ hb h0.1
  ·exact ho _ hb (h0.2 _ z)
 ·exact w
@[inline] def yC (x:Str):Str:=if x="Dependent" then "weights" else "at"
def Fld(K:bp)(O:List Addr)(y:XD)(H:Hp)(da:Option Addr):Prop:=∀d∈y.f,∃D v,da=some D/\H D=some (.xd [(yC y.t,v)])/\Is K (je H O) d v
theorem Fld.less{y:XD}{da:Option Addr}(e:∀a∈O',a∈O)(h:Fld K O y H da):Fld K O' y H da:=λd hd=>by
 obtain⟨D,v,h1,h2,h3⟩:=h d hd;exact⟨D,v,h1,h2,Is.mono (jC e) d h3⟩
def spD(K:bp)(n:Nat)(fr g:Bool)(c:Ctr):Sp:=λvs H Q E=>∃O ds,ds.length=n/\(∀a∈O,H a≠none)/\Iss K (je H O) ds vs/\c.wp ds (Rw K fr g O H Q) λy=>∀H' da,jf H H'->Fld K O y H' da->E (.str y.t 0) da H'
def CXz(P:dW)(w:World)(mg:Str->Option bq):CXT:=λouter H s E e s'=>∃x C H1 da,E (.str x 0) da H1/\mg x=some (.ref C)/\zD P w C outer H s H1 da e s'
theorem Kt:Qp (CXz X.prog X.w X.mg) X E0:=λ_ _ _ _ _ _ _ ⟨_,_,_,_,z,_⟩=>z.elim
variable{t':TS}
theorem PE.imp{t t':TE}(h:∀τ H Q,t' τ H Q->t τ H Q)(p:PE X e t):PE X e t':=λpins s τ H Q I w=>p pins s τ H Q I (h τ H Q w)
theorem PA.imp{e:List Expr}{t t':TA}(h:∀τ H Q,t' τ H Q->t τ H Q)(p:PA X e t):PA X e t':=λpos pins s τ H Q I w=>p pos pins s τ H Q I (h τ H Q w)
theorem PT.imp{t t':TT}(h:∀τ H Q,t' τ H Q->t τ H Q)(p:PT X e t):PT X e t':=λpins s τ H Q I w=>p pins s τ H Q I (h τ H Q w)
theorem PS.imp{e:Stmt}{t:TS}(h:∀D τ H,t' D τ H->t D τ H)(p:PS X e t):PS X e t':=λpins s τ H D I w=>p pins s τ H D I (h D τ H w)
theorem PSs.imp{e:List Stmt}{t:TS}(h:∀D τ H,t' D τ H->t D τ H)(p:PSs X e t):PSs X e t':=λpins s τ H D I w=>p pins s τ H D I (h D τ H w)
variable{p:Addr}
theorem Q2(h:∀a∈O,H a≠none)(hp:H p=none):p ∉ O:=λz=>h p z hp
theorem jE(h:H p=none)(o:HO):jf H (upd H p o):=λb u q=>by rw[jh (qa q h)];exact q
variable{i j:Int}{pins:List (Addr×nv)}{u:bq}{ws:List V}{ys:List D}{op:CmpOp}{tk:Nat}{E:bq->Shared->Prop}
section
variable {X:Cx}
def rD(K:bp)(f:D->D->(D->Prop)->Prop):R2:=λxv yv H Q=>∃O x y,(∀a∈O,H a≠none)/\Is K (je H O) x xv/\Is K (je H O) y yv/\f x y (Wd K O H Q)
theorem yw{s:Shared}{v:V}(I:Inv X pins τ H s)(w:Wd X.K O H Q d)(i:Is X.K (je H O) d v)(r:jS v u):EP X pins τ Q u s :=
 ⟨v,H,I,r,w v H (jf.refl H) i⟩
theorem mulOk(h:qh i j):IntMulOk i j:=by
 rcases h with h|h|h
 ·exact .of_left h
 ·exact .of_right h
 ·unfold IntMulOk
  have e:jdw ((g9 i:Int)+(g9 j:Int))=false:=by
   unfold jdw;rw[bitsLine_eq];have h':g9 i+g9 j<=134217728:=h;exact decide_eq_false (by lia)
  intro z;simp[e]at z
theorem divOk(h:bits j<=9000):Builtin.divisionGoesByPylong i j=false:=by
 refine PyProof.noPylong_of_log2 ?_;have h':g9 j<=9000:=h;unfold g9 at h';by_cases e:j=0
 ·subst e;decide +kernel
 ·have e':(j == 0)=false:=by simpa using e
  rw[e']at h';simp only[dF,if_false]at h';lia
theorem Iss.minus_upd(hp:H p=none)(i:Iss K (je H O) ds vs):Iss K (je (upd H p o) O) ds vs:=Iss.mono (jd (jE hp o)) ds i
theorem zF(ho:∀a∈O,H a≠none)(hp:H p=none):je (upd H p o) O p=some o:=by rw[j8 (Q2 ho hp),jm]
theorem kg(s:jf H H')(h:H a=none):jf (je H O) (je H' (a::O)):=λb o hb=>by
 have e:=jg _ _ _ _ hb
 have na:b≠a:=λz=>by subst z;rw[h]at e;cases e
 have nb:b ∉ O:=λz=>by unfold je at hb;rw[if_pos z]at hb;cases hb
 rw[j8 (by simp[na,nb])];exact s _ _ e
theorem Wd.wdF(ho:∀a∈O,H a≠none)(w:Wd K O H Q d):WdF K O H Q d:=by
 have:=w.rw (fr:=true) (g:=false) ho;unfold Rw at this;rw[if_pos rfl]at this;exact this
theorem WdF.mono(e:jf H H')(w:WdF K O H Q d):WdF K O H' Q d:=λxs a H'' vs q s h0 h1 i=>w xs a H'' vs q (e.trans s) (by
 cases z:H a with
 |none=>rfl
 |some o=>rw[e a o z]at h0;cases h0) h1 i
theorem Jw{s:Shared}{b:Addr}(I:Inv X pins τ H s)(ho:∀a∈O,H a≠none)(w:xs.length+ys.length<=lim/\WdF X.K O H Q (.lst (xs++ys)))
 (ha:SqL X.K H a vs) (hb:SqL X.K H b ws) (ia:Iss X.K (je H O) xs vs) (ib:Iss X.K (je H O) ys ws):wpAny (model X.prog X.w) X.A (jcY .Add (.ref a) (.ref b)) (EP X pins τ Q) X.xe s:=by
 obtain⟨its,r1,p1,z1⟩:=I.list ha;obtain⟨its2,r2,p2,z2⟩:=I.list hb;obtain⟨⟨cls,dd,data,sl⟩,h1,hc,n,hd⟩:=p1.isList;obtain⟨⟨cls2,dd2,data2,sl2⟩,h2,hc2,n2,hd2⟩:=p2.isList;simp only at hc hd hc2 hd2;subst hc hd hc2 hd2
 have hl:vs.length+ws.length<=sizeLine:=by rw[ia.length,ib.length,n6];exact w.1
 have l1:=r1.length;have l2:=r2.length;refine concat_meets ⟨_,h1,rfl⟩ ⟨_,h2,rfl⟩ noFill_list_add seq_list_add PySem.F.slot_list_add PySem.F.entry_list_add (PySem.F.args_list_add_2 _ _) (list_addW a b its.toArray its2.toArray n n2 dd dd2 sl sl2 (by simp only[di];lia)) ⟨h1,h2,?_⟩
 have e:its.toArray++its2.toArray=(its++its2).toArray:=by simp
 rw[e];exact⟨.ref _,_,I.lnew (t':=s.toks) (r1.append r2) (by rw[df];exact hl),rfl,w.2 _ _ _ _ rfl (jE I.fresh _) I.fresh (jm ..) (Iss.mono (kg (jE I.fresh _) I.fresh) _ (ia.append ib))⟩
theorem Kh{s:Shared}{b:Addr}(I:Inv X pins τ H s)(ho:∀a∈O,H a≠none)(w:xs.length+ys.length<=lim/\Wd X.K O H Q (.lst (xs++ys)))
 (ha:SqL X.K H a vs) (hb:SqL X.K H b ws) (ia:Iss X.K (je H O) xs vs) (ib:Iss X.K (je H O) ys ws):wpAny (model X.prog X.w) X.A (jcY .Add (.ref a) (.ref b)) (EP X pins τ Q) X.xe s:=Jw I ho ⟨w.1,w.2.wdF ho⟩ ha hb ia ib
theorem qr{f:Int->Int->(D->Prop)->Prop}{x y:D}{Q:D->Prop}(w:zy f x y Q):∃i j,x=.int i/\y=.int j/\f i j Q:=by
 cases x<;>first|exact w.elim|(cases y<;>first|exact w.elim|exact⟨_,_,rfl,rfl,w⟩)
theorem op_bin{o:BOp}{op:jew}(h:opOk o op=true):OpR X (jcY op) (rD X.K (yB o)):=by
 intro pins s τ H xv yv v u Q I rx ry w;obtain⟨O,x,y,ho,ix,iy,w⟩:=w
 cases o with
 |add =>
  cases op<;>first|exact bK h|skip
  cases x<;>first|exact w.elim|(cases y<;>first|exact w.elim|skip)
  ·cases jz ix;cases jz iy;obtain⟨t,rfl⟩:=rx;obtain⟨t',rfl⟩:=ry;exact add_int (yw (I.tok _) w (jG _) ⟨_,rfl⟩)
  ·obtain⟨a,xs,rfl,hx,jx⟩:=jK ix;obtain⟨b,ys,rfl,hy,jy⟩:=jK iy;have hx':=(jg H O).seq hx;have hy':=(jg H O).seq hy;cases rx;cases ry
   exact Kh I ho w hx' hy' jx jy
 |mul =>
  cases op<;>first|exact bK h|skip
  cases x<;>first|exact w.elim|(cases y<;>first|exact w.elim|skip)
  ·cases jz ix;cases jz iy;obtain⟨t,rfl⟩:=rx;obtain⟨t',rfl⟩:=ry
   exact mul_int (yw (I.tok _) w.2 (jG _) ⟨_,rfl⟩) (mulOk w.1)
 |sub =>
  cases op<;>first|exact bK h|skip
  obtain⟨i,j,rfl,rfl,w⟩:=qr w;cases jz ix;cases jz iy;obtain⟨t,rfl⟩:=rx;obtain⟨t',rfl⟩:=ry
  exact sub_int (yw (I.tok _) w (jG _) ⟨_,rfl⟩)
 |fdiv =>
  cases op<;>first|exact bK h|skip
  obtain⟨i,j,rfl,rfl,w⟩:=qr w;cases jz ix;cases jz iy;obtain⟨t,rfl⟩:=rx;obtain⟨t',rfl⟩:=ry
  exact floordiv_int w.1.1 (yw (I.tok _) w.2 (jG _) ⟨_,rfl⟩) (.inl (divOk w.1.2))
 |mod =>
  cases op<;>first|exact bK h|skip
  obtain⟨i,j,rfl,rfl,w⟩:=qr w;cases jz ix;cases jz iy;obtain⟨t,rfl⟩:=rx;obtain⟨t',rfl⟩:=ry
  exact mod_int' w.1 (yw (I.tok _) w.2 (jG _) ⟨_,rfl⟩)
 |shl =>
  cases op<;>first|exact bK h|skip
  obtain⟨i,j,rfl,rfl,w⟩:=qr w;cases jz ix;cases jz iy;obtain⟨t,rfl⟩:=rx;obtain⟨t',rfl⟩:=ry
  exact lshift_int w.1.1 (by have:=w.1.2;unfold bits at this;lia) (yw (I.tok _) w.2 (jG _) ⟨_,rfl⟩)
 |band =>
  cases op<;>first|exact bK h|skip
  obtain⟨i,j,rfl,rfl,w⟩:=qr w;cases jz ix;cases jz iy;exact op_and pins s τ H _ _ v u Q I rx ry ⟨_,_,rfl,rfl,w _ _ (jf.refl H) (jG _)⟩
theorem J2(ss:List Int):(ss.map V.int).all zN=true:=by
 rw[m9];intro v hv;obtain⟨x,_,rfl⟩:=bI.mp hv;rfl
theorem XO(i:Int)(ss:List Int):ss.contains i=inV (.int i) (ss.map V.int):=by
 unfold inV;rw[List.any_map]
 induction ss with
 |nil=>rfl
 |cons x ss ih =>
  rw[pA,jd3,ih];congr 1;by_cases h:i=x
  ·subst h;simp[eqV]
  ·have h':x≠i:=λz=>h z.symm
   simp only[sQ,eqV];rw[beq_eq_false_iff_ne.mpr h];simp[h']
theorem x5{K:bp}{S:Hp}:∀ {ns:List Int} {vs:List V},Iss K S (ns.map D.int) vs->vs=ns.map V.int
 |[],vs,h=>by simp only[dR]at h;unfold Iss at h;exact h
 |n::ns,vs,h=>by
  simp only[bz]at h;unfold Iss at h;obtain⟨v,r,rfl,i1,i2⟩:=h;rw[jz i1,x5 i2];rfl
theorem bt(b:Bool):(b == true)=b:=by cases b<;>rfl
theorem bf(b:Bool):(b == false)=!b:=by cases b<;>rfl
theorem Jo(h:Iss K S [d] vs):∃v,vs=[v]/\Is K S d v:=by
 unfold Iss at h;obtain⟨v,r,rfl,h1,h2⟩:=h;unfold Iss at h2;subst h2;exact⟨v,rfl,h1⟩
theorem iss2{e:D}(h:Iss K S [d,e] vs):∃v w,vs=[v,w]/\Is K S d v/\Is K S e w:=by
 unfold Iss at h;obtain⟨v,r,rfl,h1,h2⟩:=h;obtain⟨w,rfl,h3⟩:=Jo h2;exact⟨v,w,rfl,h1,h3⟩
theorem V3{o:COp}(h:cOk o op e=true)(hu:X.A.units+100<cLine):OpR X (nG op) (rD X.K (uS o)):=by
 intro pins s τ H xv yv v u Q I rx ry w;obtain⟨O,x,y,ho,ix,iy,w⟩:=w
 have hu1:X.A.in1.units+2<cLine:=by rw[Around.in1_units];lia
 have reads:∀ {k:Bool},min (qv x) (qv y)<=100->(∀ {as bs:List Addr},Reads s.heap v (zE x) as->Reads s.heap u (zE y) bs->(zE x).canLay0=true->(zE y).canLay0=true->X.A.units+min (zE x).depth (zE y).depth<cLine->wpAny (model X.prog X.w) X.A (nG op v u) (EP X pins τ Q) X.xe s)->wpAny (model X.prog X.w) X.A (nG op v u) (EP X pins τ Q) X.xe s:=by
  intro k hd f;obtain⟨⟨as,ra⟩,ca⟩:=Is.reads I x (Is.mono (jg H O) x ix) rx;obtain⟨⟨bs,rb⟩,cb⟩:=Is.reads I y (Is.mono (jg H O) y iy) ry;exact f ra rb ca cb (by rw[JE,JE];lia)
 cases o with
 |eq =>
  cases op<;>first|exact bK h|skip
  have w':min (qv x) (qv y)<=100/\Wd X.K O H Q (.bl (eqD x y)):=w
  refine reads (k:=true) w'.1 λra rb ca cb hd=>SeqAt.compareEq_reads ra rb ca cb hd ?_
  rw[JK]
  exact yw I w'.2 (qz _) rfl
 |ne =>
  cases op<;>first|exact bK h|skip
  have w':min (qv x) (qv y)<=100/\Wd X.K O H Q (.bl (!eqD x y)):=w
  refine reads (k:=true) w'.1 λra rb ca cb hd=>SeqAt.compareNe_reads ra rb ca cb hd ?_
  rw[JK]
  exact yw I w'.2 (qz _) rfl
 |lt =>
  cases op<;>first|exact bK h|skip
  obtain⟨i,j,rfl,rfl,w⟩:=qr w;cases jz ix;cases jz iy
  exact op_lt pins s τ H _ _ v u Q I rx ry ⟨_,_,rfl,rfl,w _ _ (jf.refl H) (qz _)⟩
 |le =>
  cases op<;>first|exact bK h|skip
  obtain⟨i,j,rfl,rfl,w⟩:=qr w;cases jz ix;cases jz iy
  exact op_le pins s τ H _ _ v u Q I rx ry ⟨_,_,rfl,rfl,w _ _ (jf.refl H) (qz _)⟩
 |gt =>
  cases op<;>first|exact bK h|skip
  obtain⟨i,j,rfl,rfl,w⟩:=qr w;cases jz ix;cases jz iy
  exact op_gt pins s τ H _ _ v u Q I rx ry ⟨_,_,rfl,rfl,w _ _ (jf.refl H) (qz _)⟩
 |ge =>
  cases op<;>first|exact bK h|skip
  obtain⟨i,j,rfl,rfl,w⟩:=qr w;cases jz ix;cases jz iy
  exact op_ge pins s τ H _ _ v u Q I rx ry ⟨_,_,rfl,rfl,w _ _ (jf.refl H) (qz _)⟩
 |inn =>
  cases op<;>first|exact bK h|skip
  cases x<;>first|exact w.elim|(cases y<;>first|exact w.elim|skip)
  ·cases jz ix;obtain⟨ss,rfl,hl,w⟩:=w;obtain⟨a,vs,rfl,h1,h2⟩:=jK iy;cases x5 h2
   exact Ve pins s τ H _ _ v u Q I rx ry ⟨a,_,rfl,.inl ((jg H O).seq h1),rfl,J2 ss,w _ _ (jf.refl H) (by rw[bt,XO];exact qz _)⟩
 |nin =>
  cases op<;>first|exact bK h|skip
  cases x<;>first|exact w.elim|(cases y<;>first|exact w.elim|skip)
  ·cases jz ix;obtain⟨ss,rfl,hl,w⟩:=w;obtain⟨a,vs,rfl,h1,h2⟩:=jK iy;cases x5 h2;exact Qn pins s τ H _ _ v u Q I rx ry ⟨a,_,rfl,.inl ((jg H O).seq h1),rfl,J2 ss,w _ _ (jf.refl H) (by rw[bf,XO];exact qz _)⟩
def cD(K:bp)(f:List D->(D->Prop)->Prop):List V->Hp->VK->Prop:=λvs H Q=>∃O ds,(∀a∈O,H a≠none)/\Iss K (je H O) ds vs/\f ds (Wd K O H Q)
def Bi.val:Bi->bq
 |.abs=>.builtin "abs"
 |.max=>.builtin "max"
 |.min=>.builtin "min"
 |.len=>.builtin "len"
 |.int=>.type "int"
 |.list=>.type "list"
 |.sum=>.builtin "sum"
 |.all=>.builtin "all"
theorem Inv.moved{s s':Shared}{o:nv}(I:Inv X pins τ H s)(m:jfj [s.heap.objs.size] (λa b=>b=a) { s with heap:=s.heap.push o,toks:=tk } s'):Inv X pins τ H s':=by
 have k:∀b u,s.heap.get? b=some u->s'.heap.get? b=some u:=λb u e=>m.heap b u (λz=>by
  have:b=s.heap.objs.size:=by simpa using z
  exact absurd (bN e) (by rw[this];exact gG _)) (bC _ e)
 exact I.call' (ch:=[]) m.os (Un.kept k) (I.hok.kept k) (by rw[m.gens];exact I.bare) λ_ z=>nomatch z
theorem Km(ns:List Int)(f:Nat->Int)(h:∀i,i<ns.length->ns[i]?=some (f i)):∀k,k<=ns.length->preSum f k=(ns.take k).sum
 |0,_=>by simp[preSum]
 |k+1,hk=>by
  rw[preSum,Km ns f h k (by lia),List.take_add_one,h k (by lia)];simp
theorem ye:∀ {ns:List Int} {us:List bq},jJ (ns.map V.int) us->∀i v,us[i]?=some v->∃t,v=jeN (ns.getD i 0) t
 |[],us,r,i,v,h=>by cases r;simp at h
 |n::ns,us,r,i,v,h=>by
  cases r with
  |cons r1 r2 =>
   cases i with
   |zero=>simp at h;subst h;obtain⟨t,e⟩:=r1;exact⟨t,by simpa using e⟩
   |succ i=>simpa using ye r2 i v (by simpa using h)
theorem UG(hc:X.calm=true):xD X (.builtin "sum") (λvs H Q=>∃(a:Addr) (ns:List Int),vs=[.ref a]/\SqL X.K H a (ns.map V.int)/\Q (.int ns.sum) H):=by
 intro pins s τ H vs us Q I r h;obtain⟨a,ns,rfl,hq,q⟩:=h;obtain⟨u,rfl,e⟩:=zZ r;cases e;obtain⟨its,rv,p,hz⟩:=I.list hq;have hl:=rv.length;rw[bj]at hl;obtain⟨o,n,ho,_⟩:=id p;have hne:a≠s.heap.objs.size:=gN (bN ho);have W:=(jfk (prog:=X.prog) (w:=X.w) (A:=X.A.in1) (I.ok.hd hc) s.heap.objs.size a hne its.toArray).toS;refine call_sum_walkAnyS (pO p.isList ⟨s.heap.objs.size,_,_,_,_,_,_,λi=>ns.getD i 0,rfl,W,⟨⟨_,dJ _ rfl,rfl,rfl⟩,?_⟩,λb hb=>?_,λi v hv=>ye rv i v (by simpa using hv),λs' t' m=>?_⟩)
 ·obtain⟨o,n,ho,h1,h2,h3⟩:=p;exact⟨o,bC _ ho,h1,n,h3⟩
 ·rw[tQ];simp only[bD,bM,or_false]at hb;rcases hb with z|z
  ·rw[z];exact wm _
  ·rw[z];exact jeD (bN ho)
 ·have e:preSum (λi=>ns.getD i 0) its.toArray.size=ns.sum:=by
   rw[di,<- hl];rw[Km ns _ (λi hi=>by simp[hi]) _ (bV _),List.take_length]
  exact⟨.int ns.sum,H,Inv.moved (tk:=s.toks) I m,⟨t',by rw[e]⟩,q⟩
theorem Uj{K:bp}{S:Hp}:∀ {ns:List Bool} {vs:List V},Iss K S (ns.map D.bl) vs->vs=ns.map V.bl
 |[],vs,h=>by simp only[dR]at h;unfold Iss at h;exact h
 |n::ns,vs,h=>by
  simp only[bz]at h;unfold Iss at h;obtain⟨v,r,rfl,i1,i2⟩:=h;rw[qM i1,Uj i2];rfl
theorem Xw:∀ {ns:List Bool} {us:List bq},jJ (ns.map V.bl) us->∀i v,us[i]?=some v->v=jeb (ns.getD i true)
 |[],us,r,i,v,h=>by cases r;simp at h
 |n::ns,us,r,i,v,h=>by
  cases r with
  |cons r1 r2 =>
   cases i with
   |zero=>simp at h;subst h;cases r1;rfl
   |succ i=>exact Xw r2 i v (by simpa using h)
theorem Vo(bs:List Bool):(bw bs.length).all (λi=>bs.getD i true)=bs.all id:=by
 rw[nJ,m9,m9];constructor
 ·intro h b hb;obtain⟨i,hi,rfl⟩:=List.mem_iff_getElem.mp hb;have:=h i (by simpa using hi);simpa[hi]using this
 ·intro h i hi
  have hi':i<bs.length:=by simpa using hi
  have:=h bs[i] (dH hi');simpa[hi']using this
theorem Us(hc:X.calm=true):xD X (.builtin "all") (λvs H Q=>∃(a:Addr) (ns:List Bool),vs=[.ref a]/\SqL X.K H a (ns.map V.bl)/\Q (.bl (ns.all id)) H):=by
 intro pins s τ H vs us Q I r h;obtain⟨a,ns,rfl,hq,q⟩:=h;obtain⟨u,rfl,e⟩:=zZ r;cases e;obtain⟨its,rv,p,hz⟩:=I.list hq;have hl:=rv.length;rw[bj]at hl;obtain⟨o,n,ho,_⟩:=id p;have hne:a≠s.heap.objs.size:=gN (bN ho);have W:=(jfk (prog:=X.prog) (w:=X.w) (A:=X.A.in1) (I.ok.hd hc) s.heap.objs.size a hne its.toArray).toS;refine call_all_walkS (pO p.isList ⟨s.heap.objs.size,_,_,_,_,_,_,λi=>ns.getD i true,rfl,W,⟨⟨_,dJ _ rfl,rfl,rfl⟩,?_⟩,λi v s Q E hv hQ=>?_,λs' m=>?_⟩)
 ·obtain⟨o,n,ho,h1,h2,h3⟩:=p;exact⟨o,bC _ ho,h1,n,h3⟩
 ·rw[Xw rv i v (by simpa using hv)];exact mF hQ
 ·have e:(bw its.toArray.size).all (λi=>ns.getD i true)=ns.all id:=by
   rw[di,<- hl];exact Vo ns
  exact⟨.bl (ns.all id),H,Inv.moved (tk:=s.toks) I m,by rw[e];rfl,q⟩
theorem yj{f:D->(D->Prop)->Prop}{Q:D->Prop}(w:vQ f xs Q):∃x,xs=[x]/\f x Q:=by
 match xs,w with
 |[x],w=>exact⟨x,rfl,w⟩
theorem two2_of{Q:D->Prop}(w:two2 f xs Q):∃x y,xs=[x,y]/\f x y Q:=by
 match xs,w with
 |[x,y],w=>exact⟨x,y,rfl,w⟩
theorem vK{f:List D->(D->Prop)->Prop}{x:D}{Q:D->Prop}(w:yN f x Q):∃xs,x=.lst xs/\f xs Q:=by
 cases x<;>first|exact w.elim|exact⟨_,rfl,w⟩
theorem minD_of{Q:D->Prop}(w:minD ds Q):(∃x,ds=[x]/\yN (λxs Q=>∃ns:List Int,xs=ns.map .int/\ns ≠ []/\Q (.int (mmF false 0 ns))) x Q)\/∃x y,ds=[x,y]/\zy (λi j Q=>Q (.int (if j<i then j else i))) x y Q:=by
 cases ds with
 |nil=>exact w.elim
 |cons x r=>cases r with
  |nil=>exact .inl ⟨x,rfl,w⟩
  |cons y r=>cases r with
   |nil=>exact .inr ⟨x,y,rfl,w⟩
   |cons z r=>exact w.elim
theorem call_bi{f:Bi}(hc:X.calm=true):xD X f.val (cD X.K (biD f)):=by
 intro pins s τ H vs us Q I r w;obtain⟨O,ds,ho,is,w⟩:=w
 cases f with
 |abs =>
  obtain⟨x,rfl,w⟩:=yj w;obtain⟨v,rfl,i1⟩:=Jo is
  cases x<;>first|exact w.elim|skip
  cases jz i1
  exact VT pins s τ H _ us Q I r ⟨_,rfl,w _ _ (jf.refl H) (jG _)⟩
 |max =>
  obtain⟨x,y,rfl,w⟩:=two2_of w;obtain⟨i,j,rfl,rfl,w⟩:=qr w;obtain⟨v,v',rfl,i1,i2⟩:=iss2 is;cases jz i1;cases jz i2
  exact Vh hc pins s τ H _ us Q I r ⟨_,_,rfl,w _ _ (jf.refl H) (jG _)⟩
 |min =>
  rcases minD_of w with⟨x,rfl,w⟩|⟨x,y,rfl,w⟩
  ·obtain⟨xs,rfl,ns,rfl,hn,w⟩:=vK w;obtain⟨v,rfl,i1⟩:=Jo is;obtain⟨a,vs,rfl,h1,h2⟩:=jK i1
   cases ns with
   |nil=>exact absurd rfl hn
   |cons n ns =>
    obtain⟨u,rfl,e1⟩:=zZ r;cases e1;cases x5 h2;exact Vx hc I ((jg H O).seq h1) (w _ _ (jf.refl H) (jG _))
  ·obtain⟨i,j,rfl,rfl,w⟩:=qr w;obtain⟨v,v',rfl,i1,i2⟩:=iss2 is;cases jz i1;cases jz i2
   exact Um hc pins s τ H _ us Q I r ⟨_,_,rfl,w _ _ (jf.refl H) (jG _)⟩
 |len =>
  obtain⟨x,rfl,w⟩:=yj w;obtain⟨v,rfl,i1⟩:=Jo is
  cases x<;>first|exact w.elim|skip
  ·obtain⟨a,vs,rfl,h1,h2⟩:=kY i1;refine zU pins s τ H _ us Q I r ⟨a,vs,rfl,.inr ((qm (jg H O) h1)),?_⟩;rw[h2.length];exact w _ _ (jf.refl H) (jG _)
  ·obtain⟨a,vs,rfl,h1,h2⟩:=jK i1;refine zU pins s τ H _ us Q I r ⟨a,vs,rfl,.inl ((jg H O).seq h1),?_⟩;rw[h2.length]
   exact w _ _ (jf.refl H) (jG _)
 |int =>
  obtain⟨x,rfl,w⟩:=yj w;obtain⟨v,rfl,i1⟩:=Jo is
  cases x<;>first|exact w.elim|skip
  ·cases qM i1;exact uF pins s τ H _ us Q I r (.inr ⟨_,rfl,w _ _ (jf.refl H) (jG _)⟩)
  ·cases jz i1
   exact uF pins s τ H _ us Q I r (.inl ⟨_,rfl,w _ _ (jf.refl H) (jG _)⟩)
 |list =>
  obtain⟨x,rfl,w⟩:=yj w;obtain⟨v,rfl,i1⟩:=Jo is
  cases x<;>first|exact w.elim|skip
  ·obtain⟨a,vs,rfl,h1,h2⟩:=kY i1;exact qk pins s τ H _ us Q I r ⟨a,vs,rfl,.inr ((qm (jg H O) h1)),λl hl=>w _ _ (jE hl _) (qE (SqL.of (zF ho hl)) (Iss.minus_upd hl h2))⟩
  ·obtain⟨a,vs,rfl,h1,h2⟩:=jK i1
   exact qk pins s τ H _ us Q I r ⟨a,vs,rfl,.inl ((jg H O).seq h1),λl hl=>w _ _ (jE hl _) (qE (SqL.of (zF ho hl)) (Iss.minus_upd hl h2))⟩
 |sum =>
  obtain⟨x,rfl,w⟩:=yj w;obtain⟨xs,rfl,w1⟩:=vK w;obtain⟨v,rfl,i1⟩:=Jo is;obtain⟨a,vs,rfl,h1,h2⟩:=jK i1;obtain⟨ns,rfl,w2⟩:=w1;cases x5 h2
  exact UG hc pins s τ H _ us Q I r ⟨a,ns,rfl,(jg H O).seq h1,w2 _ _ (jf.refl H) (jG _)⟩
 |all =>
  obtain⟨x,rfl,w⟩:=yj w;obtain⟨xs,rfl,w1⟩:=vK w;obtain⟨v,rfl,i1⟩:=Jo is;obtain⟨a,vs,rfl,h1,h2⟩:=jK i1;obtain⟨ns,rfl,w2⟩:=w1;cases Uj h2;exact Us hc pins s τ H _ us Q I r ⟨a,ns,rfl,(jg H O).seq h1,w2 _ _ (jf.refl H) (qz _)⟩
theorem jay(is:Iss K S xs vs)(e:atD xs i=some d):∃v,atI vs i=some v/\Is K S d v:=by
 have hl:=is.length;unfold atD at e;unfold atI ixN;by_cases h0:0<=i
 ·rw[if_pos h0]at e ⊢
  have hlt:i.toNat<xs.length:=by
   rcases bU i.toNat xs.length with z|z
   ·exact z
   ·rw[bG z]at e;cases e
  rw[if_pos (by lia)];exact is.get e
 ·rw[if_neg h0]at e ⊢;by_cases h1:-(xs.length:Int)<=i
  ·rw[if_pos h1]at e;rw[if_pos (by lia),hl];exact is.get e
  ·rw[if_neg h1]at e;cases e
theorem ix_D:IxR X (rD X.K ixD):=by
 intro value slice pins s τ H xv yv v u Q I rx ry w hs;obtain⟨O,x,y,ho,ix,iy,w⟩:=w;unfold ixD at w;split at w
 ·obtain⟨a,vs,rfl,h1,h2⟩:=jK ix;cases jz iy;obtain⟨d,e,w⟩:=w;obtain⟨z,e1,e2⟩:=jay h2 e;exact L2.ix_list value slice pins s τ H _ _ v u Q I rx ry ⟨a,vs,_,z,rfl,rfl,(jg H O).seq h1,e1,w _ _ (jf.refl H) e2⟩ hs
 ·obtain⟨a,vs,rfl,h1,h2⟩:=kY ix;cases jz iy;obtain⟨d,e,w⟩:=w;obtain⟨z,e1,e2⟩:=jay h2 e;exact L2.ix_tup value slice pins s τ H _ _ v u Q I rx ry ⟨a,vs,_,z,rfl,rfl,(qm (jg H O) h1),e1,w _ _ (jf.refl H) e2⟩ hs
 ·exact w.elim
def tyName:D->String
 |.non=>"NoneType"
 |.bl _=>"bool"
 |.int _=>"int"
 |.str _=>"str"
 |.tup _=>"tuple"
 |.lst _=>"list"
def Ty.val:Ty->bq
 |.int=>.type "int"
 |.bool=>.type "bool"
 |.tuple=>.type "tuple"
 |.list=>.type "list"
 |.str=>.type "str"
theorem kit_ty(K:bp)(d:D)(t:Ty):pV K (.type (tyName d)) t.val=some (tyD t d):=by
 cases d<;>cases t<;>with_unfolding_all rfl
theorem jbp{t:Ty}{s:Shared}{v:V}{Q:bq->Shared->Prop}(I:Inv X pins τ H s)(i:Is X.K H d v)(r:jS v u)(h:∀tk,Q (.bool (tyD t d)) { s with toks:=tk }) :
 wpAny (model X.prog X.w) X.A (call (.builtin "isinstance") [u,t.val]) Q E s:=by
 have e:=kit_ty X.K d t
 cases d with
 |non=>cases uK i;cases r;exact nM PySem.W.kitx_none I.kIn jem e (λz=>nomatch z) h
 |bl b=>cases qM i;cases r;exact nM PySem.W.kitx_bool I.kIn jem e (λz=>nomatch z) h
 |int n=>cases jz i;obtain⟨t,rfl⟩:=r;exact nM PySem.W.kitx_int I.kIn jem e (λz=>nomatch z) h
 |str x=>obtain⟨rfl,_⟩:=uD i;obtain⟨t,rfl⟩:=r;exact nM PySem.W.kitx_str I.kIn jem e (λz=>nomatch z) h
 |tup xs =>
  obtain⟨a,vs,rfl,h1,h2⟩:=kY i;cases r;obtain⟨its,rv,⟨o,e1,e2,n,e3⟩,_⟩:=I.tuple h1
  exact nM PySem.W.kitx_tuple I.kIn ⟨o,e1,e2⟩ e (λz=>nomatch z) h
 |lst xs =>
  obtain⟨a,vs,rfl,h1,h2⟩:=jK i;cases r;obtain⟨its,rv,pl,_⟩:=I.list h1;obtain⟨o,e1,e2,n,e3⟩:=pl.isList;exact nM PySem.W.kitx_list I.kIn ⟨o,e1,e2⟩ e (λz=>nomatch z) h
end
variable{e c:Ex}{p:Pos}{tg:Expr}{st:Stmt}{H1:Hp}{J:It}
section
variable {X:Cx} {k:Ck} {C:Cfg}
theorem qB{e:Expr}(h:Ui e=false)(env:Env)(v:bq):mS e env v=pure v:=by
 cases e<;>first|rfl|exact bK h
def Its(lo st:Int)(n:Nat):It:=⟨λi _=>i<n,λi H x H'=>H'=H/\x=.int (lo+i*st),λi _=>n<=i⟩
theorem Vp(it:Addr)(lo st:Int)(n:Nat):Turn P w K tg (Its lo st n) [it] it (λi h=>IsRangeIter h it (lo+(i:Nat)*st) ((n:Int)-(i:Nat)) st) where
 mem:=by simp
 obj:=λi h s b hb=>by
  have e:b=it:=by simpa using hb
  subst e
  exact⟨_,s,λv z=>by
   have z':Data.fields _=Data.cell v:=z
   cases z'⟩
 keep:=λi h h' s k=>k it (by simp) _ s
 item:=by
  intro X hP hw hK hc i pins s σ H E I hf s1 hg;subst hP hw hK;obtain⟨f0,f1,f2,f3,f4,f5⟩:=hf it (by simp);have W:=Walks.range (prog:=X.prog) (w:=X.w) (I.ok.hd hc) it lo st n
  refine W.item i s _ _ hg s1 λv h' tk hv s2 kk=>?_
  obtain⟨t,rfl⟩:=hv;have I1:Inv X pins σ H { s with heap:=h',toks:=tk }:=I.turned (λb o hb e=>kk b o (by simpa using hb) e) f0 f1 f3 f4 f5;exact⟨_,rfl,jbj (s:={ s with heap:=h',toks:=tk }) (n:="range_iterator") s2 rfl rfl (by decide) ⟨.int (lo+i*st),H,I1,⟨t,rfl⟩,⟨rfl,rfl⟩,s2,λb hb=>(hf b hb).1⟩⟩
 done:=by
  intro X hP hw hK hc i pins s σ H E I hf s1 hg;subst hP hw hK;obtain⟨f0,f1,f2,f3,f4,f5⟩:=hf it (by simp)
  exact wpAny_pyNext_range_end (I.ok.hd hc) s1 (by have:n<=i:=hg;lia) λh' eb=>⟨rfl,I.turned (t':=s.toks) (λb o hb e=>eb b o hb e) f0 f1 f3 f4 f5⟩
 self:=λ_ _ _ _ _ s h=>wpAny_pyIter_rangeiter s h
theorem X0{a b c:Int}(ha:qO a)(hb:qO b)(hc:0<c)(hc2:c<1000):jd0 a b c=true:=by
 unfold jd0 tO;unfold qO at ha hb;have h1:(b-a-1) / c*c<=b-a-1:=jdq _ (by lia)
 have h2:a<b->0<=(b-a-1) / c:=λh=>jdo (by lia) (by lia)
 have h3:a<b->(b-a-1) / c<=b-a-1:=λh=>Int.ediv_le_self _ (by lia)
 simp only[Builtin.Range.rangeFitsLong,bg,tG,decide_eq_true_eq,beq_iff_eq,show c > 0 from hc,if_true];by_cases h:a<b
 ·rw[if_pos h];generalize hq:(b-a-1) / c=q at *
  have e:(q+1)*c=q*c+c:=by rw[Int.add_mul,jcK]
  have h2':=h2 h;have h3':=h3 h;lia
 ·rw[if_neg h];lia
theorem Qq{σ:L2.St}{s:Shared}{R:It->Hp->Prop}{lo hi st:Int}{t u v:Tok}(I:Inv X pins σ H s)(h1:qO lo)(h2:qO hi)(h3:0<st)(h4:st<1000)
 (q:R (Its lo st (if lo<hi then (hi-lo-1) / st+1 else 0).toNat) H):wpAny (model X.prog X.w) X.A (pyIter (.ref s.heap.objs.size)) (PIE X pins σ tg R) E { s with heap:=s.heap.push { cls:=.type "range",data:=.fields #[.int lo t,.int hi u,.int st v] },toks:=tk }:=by
 refine wpAny_pyIter_range (IsRange.new ..) (X0 h1 h2 h3 h4) ?_
 have I1:Inv X pins σ H { s with heap:=s.heap.push { cls:=.type "range",data:=.fields #[.int lo t,.int hi u,.int st v] },toks:=tk }:=I.kept λb o e=>bC _ e
 refine⟨(s.heap.push { cls:=.type "range",data:=.fields #[.int lo t,.int hi u,.int st v] }).objs.size,[(s.heap.push { cls:=.type "range",data:=.fields #[.int lo t,.int hi u,.int st v] }).objs.size],_,_,H,rfl,
  I1.kept (t':=tk) λb o e=>bC _ e,Vp _ lo st (if lo<hi then (hi-lo-1) / st+1 else 0).toNat,?_,λb hb=>?_,q⟩
 ·have e1:lo+((0:Nat):Int)*st=lo:=by simp
  have e2:(((if lo<hi then (hi-lo-1) / st+1 else 0).toNat:Nat):Int)-((0:Nat):Int)=tO lo hi st:=by
   unfold tO;rw[if_pos h3]
   have:lo<hi->0<=(hi-lo-1) / st:=λh=>jdo (by lia) (by lia)
   split<;>lia
  show IsRangeIter _ _ (lo+((0:Nat):Int)*st) ((((if lo<hi then (hi-lo-1) / st+1 else 0).toNat:Nat):Int)-((0:Nat):Int)) st;rw[e1,e2];exact dJ _ rfl
 ·have e:b=(s.heap.push { cls:=.type "range",data:=.fields #[.int lo t,.int hi u,.int st v] }).objs.size:=by simpa using hb
  subst e;exact I1.fpOk (bV _) (I1.hok.fresh (bV _))
def iRg(ta:TA):TI:=λσ H R=>ta σ H λvs H1=>∃lo hi st:Int,(vs=[.int hi]/\lo=0/\st=1\/vs=[.int lo,.int hi]/\st=1\/vs=[.int lo,.int hi,.int st])/\(qO lo/\qO hi/\0<st/\st<1000)/\R (Its lo st (if lo<hi then (hi-lo-1) / st+1 else 0).toNat) H1
theorem Kb{a:Expr}{as:List Expr}(hg:Gl X "range")(hm:X.mg "range"=none)(ha:PA X (a::as) ta)(hs:bQ (a::as) X.env=(false,eval a X.env)::bQ as X.env)(hpl:(backTo pos (bQ as X.env)).any (·.1)=false):PI X tg (.Call (.Name "range" p) (a::as) [] pos) (iRg ta):=by
 intro pins s σ H R I h;refine Call_ (uU I hg hm boot_range (mY (thn (ha pos pins s σ H _ I h) λus s1 ⟨vs,H1,I1,r1,q1⟩=>?_) hs hpl));obtain⟨lo,hi,st,e,⟨q1,q2,q3,q4⟩,q⟩:=q1;rcases e with⟨rfl,rfl,rfl⟩|⟨rfl,rfl⟩|rfl
 ·cases r1 with
  |cons r rr =>
   cases rr;obtain⟨t,rfl⟩:=r;exact call_range_1 (Qq I1 q1 q2 q3 q4 q)
 ·cases r1 with
  |cons r rr =>
   cases rr with
   |cons r' rr =>
    cases rr;obtain⟨t,rfl⟩:=r;obtain⟨t',rfl⟩:=r';exact call_range_2 (Qq I1 q1 q2 q3 q4 q)
 ·cases r1 with
  |cons r rr =>
   cases rr with
   |cons r' rr =>
    cases rr with
    |cons r'' rr =>
     cases rr;obtain⟨t,rfl⟩:=r;obtain⟨t',rfl⟩:=r';obtain⟨t'',rfl⟩:=r'';exact call_range_3 (by lia) (Qq I1 q1 q2 q3 q4 q) (.inl (PyProof.noPylong_small (by lia)))
theorem k8:∀(n:Nat) (lo st:Int) (i:Nat),i<n->(j3 lo st n)[i]?=some (.int (lo+i*st))
 |0,lo,st,i,h=>by lia
 |n+1,lo,st,0,h=>by simp[j3]
 |n+1,lo,st,i+1,h=>by
  simp only[j3,List.getElem?_cons_succ];rw[k8 n (lo+st) st i (by lia)];congr 2
  have:((i+1:Nat):Int)*st=i*st+st:=by rw[Int.natCast_add,Int.add_mul];simp
  lia
theorem jn:∀(n:Nat) (lo st:Int),(j3 lo st n).length=n
 |0,lo,st=>rfl
 |n+1,lo,st=>by simp[j3,jn n]
theorem uT{P:List D->Prop}(i:Iss K S ds vs)(w:rgD ds P) :
 ∃lo hi st:Int,(vs=[.int hi]/\lo=0/\st=1\/vs=[.int lo,.int hi]/\st=1\/vs=[.int lo,.int hi,.int st])/\(qO lo/\qO hi/\0<st/\st<1000)/\P (j3 lo st (if lo<hi then (hi-lo-1) / st+1 else 0).toNat):=by
 unfold rgD at w;split at w
 ·next hi =>
  obtain⟨v,rfl,i1⟩:=Jo i;cases jz i1;refine⟨0,hi,1,.inl ⟨rfl,rfl,rfl⟩,⟨by unfold qO;lia,w.1,by decide,by decide⟩,?_⟩
  have e:(if (0:Int)<hi then (hi-0-1) / 1+1 else 0).toNat=hi.toNat:=by
   rw[Int.ediv_one];split<;>lia
  rw[e];exact w.2
 ·exact w.elim
def Wlk(K:bp)(x:V)(H:Hp)(J:It):Prop:=∃a,x=.ref a/\((∃xs,SqL K H a xs)/\J=Itl K a\/(∃xs,SqT K H a xs)/\J=Itt K a)
def iSeq(K:bp)(tl:TE):TI:=λσ H R=>tl σ H λx H1=>∃J,Wlk K x H1 J/\R J H1
theorem yp{tl:TE}(hl:PE X l tl):PI X tg l (iSeq X.K tl):=by
 intro pins s σ H R I h
 refine thn (hl pins s σ H _ I h) λv s1 ⟨x,H1,I1,r1,J,hw,q⟩=>?_
 have fp:∀b ∈ [s1.heap.objs.size],uI X pins H1 b:=λb hb=>by
  have e:b=s1.heap.objs.size:=by simpa using hb
  subst e;exact I1.fpOk (bV _) (I1.hok.fresh (bV _))
 rcases hw with⟨a,rfl,⟨⟨xs,hq⟩,rfl⟩|⟨⟨xs,hq⟩,rfl⟩⟩
 ·cases r1;obtain⟨its,rv,p,hz⟩:=I1.list hq;exact pO p.isList ⟨s1.heap.objs.size,[s1.heap.objs.size],_,_,H1,rfl,I1.kept (t':=s1.toks) λb o e=>bC _ e,Vb a _,⟨_,dJ _ rfl,rfl,rfl⟩,fp,q⟩
 ·cases r1;obtain⟨its,rv,p,hz⟩:=I1.tuple hq;exact wpAny_pyIter_tuple (show s1.heap.IsTuple a its.toArray from p) ⟨s1.heap.objs.size,[s1.heap.objs.size],_,_,H1,rfl,I1.kept (t':=s1.toks) λb o e=>bC _ e,Y6 a _,⟨_,dJ _ rfl,rfl,rfl⟩,fp,q⟩
theorem walk_of{v:V}(e:itemsD d=some xs)(i:Is K (je H1 O) d v):∃J,Wlk K v H1 J /\
 (∀j H O',jf (je H1 O) (je H O')->j<xs.length->J.go j H)/\(∀j H O',jf (je H1 O) (je H O')->xs.length<=j->J.stop j H) /\
 (∀j H O' v H' d,jf (je H1 O) (je H O')->J.yld j H v H'->xs[j]?=some d->H'=H/\Is K (je H O') d v):=by
 cases d with
 |lst ys =>
  cases e;obtain⟨a,vs,rfl,h5,h6⟩:=jK i;have hl:=h6.length
  have sq:∀ {H:Hp} {O':List Addr},jf (je H1 O) (je H O')->SqL K H a vs:=λsm=>(jg _ _).seq (sm.seq h5)
  refine⟨_,⟨a,rfl,.inl ⟨⟨vs,(jg _ _).seq h5⟩,rfl⟩⟩,?_,?_,?_⟩
  ·intro j H O' sm hj;exact⟨vs,vs[j],sq sm,bE (by omega)⟩
  ·intro j H O' sm hj;exact⟨vs,sq sm,by omega⟩
  ·intro j H O' v H' d sm y hd;obtain⟨e2,y⟩:=y;obtain⟨z,e3,e4⟩:=h6.get hd;have:=y vs (sq sm);rw[e3]at this;cases this
   exact⟨e2,Is.mono sm d e4⟩
 |tup ys =>
  cases e;obtain⟨a,vs,rfl,h5,h6⟩:=kY i;have hl:=h6.length
  have sq:∀ {H:Hp} {O':List Addr},jf (je H1 O) (je H O')->SqT K H a vs:=λsm=>qm (jg _ _) (qm sm h5)
  refine⟨_,⟨a,rfl,.inr ⟨⟨vs,(qm (jg _ _) h5)⟩,rfl⟩⟩,?_,?_,?_⟩
  ·intro j H O' sm hj;exact⟨vs,vs[j],sq sm,bE (by omega)⟩
  ·intro j H O' sm hj;exact⟨vs,sq sm,by omega⟩
  ·intro j H O' v H' d sm y hd;obtain⟨e2,y⟩:=y;obtain⟨z,e3,e4⟩:=h6.get hd;have:=y vs (sq sm);rw[e3]at this;cases this
   exact⟨e2,Is.mono sm d e4⟩
 |_=>cases e
theorem xH{z:Option Sl}:∀(i:Nat),getS (σ ++ [z]) i=if i<σ.length then getS σ i else if i=σ.length then z else none:=by
 induction σ with
 |nil =>
  intro i
  cases i with
  |zero=>rfl
  |succ i=>simp[getS]
 |cons a r ih =>
  intro i
  cases i with
  |zero=>simp[getS]
  |succ i =>
   show getS (r ++ [z]) i=_;rw[ih i];simp only[gf,Nat.add_lt_add_iff_right,Nat.add_right_cancel_iff];rfl
theorem Reps.snoc{v:V}(R:Reps K O H σ τ)(h:Is K (je H O) d v):Reps K O H (σ ++ [some (.sh d)]) (τ ++ [some v]) where
 len:=by simp[R.len]
 own:=R.own
 sh:=λi e g=>by
  rw[xH]at g;split at g
  ·next hi =>
   obtain⟨u,e1,e2⟩:=R.sh i e g;exact⟨u,by rw[dz (by rw[<- R.len];exact hi)];exact e1,e2⟩
  ·split at g
   ·next hi =>
    cases g;subst hi;exact⟨v,by rw[dO (by rw[R.len];exact bV _),R.len];simp,h⟩
   ·cases g
 ow:=λi ds g=>by
  rw[xH]at g;split at g
  ·next hi =>
   obtain⟨a,vs,e1,e2⟩:=R.ow i ds g;exact⟨a,vs,by rw[dz (by rw[<- R.len];exact hi)];exact e1,e2⟩
  ·split at g<;>cases g
 dj:=λi j ds es hij g1 g2=>by
  rw[xH]at g1 g2;split at g1
  ·next hi =>
   split at g2
   ·next hj =>
    rw[dz (by rw[<- R.len];exact hi),dz (by rw[<- R.len];exact hj)];exact R.dj i j ds es hij g1 g2
   ·split at g2<;>cases g2
  ·split at g1<;>cases g1
 tt:=by
  have old:∀j z,getS (σ ++ [some (.sh d)]) j=some z->(∀d,z ≠ .sh d)->getS σ j=some z/\(τ ++ [some v])[j]?=τ[j]?:=λj z g n=>by
   rw[xH]at g;split at g
   ·next hj=>exact⟨g,dz (by rw[<- R.len];exact hj)⟩
   ·split at g
    ·cases g;exact absurd rfl (n _)
    ·cases g
  exact R.tt.step (λj rows g=>old j _ g λ_ z=>nomatch z) (λ_ _ _ _ _ _ _ t=>t) λ_ _ _ _ j ds b _ _ g q=>by
   obtain⟨g1,e⟩:=old j _ g λ_ z=>nomatch z
   exact .inl ⟨ds,g1,by rw[<- e];exact q⟩
theorem Iss.snoc{v:V}(h:Iss K S ds vs)(g:Is K S d v):Iss K S (ds ++ [d]) (vs ++ [v]) :=
 h.append (by unfold Iss;exact⟨v,[],rfl,g,by unfold Iss;rfl⟩)
theorem comp_turnsGF(R1:Reps K O H1 σ τ)(hx:xs.length<=lim)
 (hgo:∀j H,jf H1 H->j<xs.length->J.go j H) (hst:∀j H,jf H1 H->xs.length<=j->J.stop j H)
 (hy:∀j H v H' d,jf H1 H->J.yld j H v H'->xs[j]?=some d->jf H H'/\Is K (je H' O) d v)
 (w:kN (λd Q=>wpE C e (σ ++ [some (.sh d)]) Q) xs λys=>WdF K O H1 Q (.lst ys)) :
 ∃W:Nat->Nat->List V->Hp->Prop,(∃m,W 0 m [] H1)/\∀i m ys H,W i m ys H ->
  (J.stop i H/\ys.length<=sizeLine/\∀p,H p=none->Q (.ref p) (upd H p (.lst ys)))\/(J.go i H/\ys.length<sizeLine/\∀x H',J.yld i H x H'->tD K C e (τ ++ [some x]) H' λy H2=>∃m',m'<m/\W (i+1) m' (ys ++ [y]) H2):=by
 refine⟨λj m ys H=>m=xs.length-j/\j<=xs.length/\jf H1 H/\∃ds,ds.length=j/\Iss K (je H O) ds ys/\kN (λd Q=>wpE C e (σ ++ [some (.sh d)]) Q) (xs.drop j) λrest=>WdF K O H1 Q (.lst (ds++rest)),
  ⟨_,rfl,mI _,jf.refl _,[],rfl,by unfold Iss;rfl,by simpa using w⟩,?_⟩
 rintro j m ys H ⟨rfl,hj,sm,ds,hd,is,w⟩
 have hl:ys.length=j:=by rw[is.length,hd]
 have R:=R1.mono sm
 have hlim:lim<=sizeLine:=by decide
 by_cases hlt:j<xs.length
 ·refine .inr ⟨hgo j H sm hlt,by lia,λx H' y=>?_⟩;obtain⟨e1,ix⟩:=hy j H x H' xs[j] sm y (bE hlt);rw[gI hlt]at w;rw[kN]at w;refine⟨_,O,(R.mono e1).snoc ix,ja e (λyd wy v H2 s2 i2=>?_) w⟩;refine⟨xs.length-(j+1),by lia,rfl,hlt,(sm.trans e1).trans s2,ds ++ [yd],by simp[hd],(Iss.mono (jd (e1.trans s2)) ds is).snoc i2,?_⟩;simpa using wy
 ·have e1:j=xs.length:=by lia
  refine .inl ⟨hst _ H sm (by lia),by lia,λp hp=>?_⟩;rw[tW (by lia)]at w;rw[kN]at w;rw[dM]at w
  have h1:H1 p=none:=by
   cases q:H1 p with
   |none=>rfl
   |some o=>rw[sm p o q]at hp;cases hp
  exact w ds p _ ys rfl (sm.trans (jE hp _)) h1 (jm ..) (Iss.mono (kg (jE hp _) hp) ds is)
theorem comp_turnsG(R1:Reps K O H1 σ τ)(hx:xs.length<=lim)
 (hgo:∀j H,jf H1 H->j<xs.length->J.go j H) (hst:∀j H,jf H1 H->xs.length<=j->J.stop j H)
 (hy:∀j H v H' d,jf H1 H->J.yld j H v H'->xs[j]?=some d->jf H H'/\Is K (je H' O) d v)
 (w:kN (λd Q=>wpE C e (σ ++ [some (.sh d)]) Q) xs λys=>Wd K O H1 Q (.lst ys)) :
 ∃W:Nat->Nat->List V->Hp->Prop,(∃m,W 0 m [] H1)/\∀i m ys H,W i m ys H ->
  (J.stop i H/\ys.length<=sizeLine/\∀p,H p=none->Q (.ref p) (upd H p (.lst ys)))\/(J.go i H/\ys.length<sizeLine/\∀x H',J.yld i H x H'->tD K C e (τ ++ [some x]) H' λy H2=>∃m',m'<m/\W (i+1) m' (ys ++ [y]) H2) :=
 comp_turnsGF R1 hx hgo hst hy (jY (f:=λd Q=>wpE C e (σ ++ [some (.sh d)]) Q) (λd _ _ hq=>ja e hq) _ (λys wy=>wy.wdF R1.own) w)
theorem yg(R1:Reps K O H1 σ τ)(hx:xs.length<=lim)
 (hgo:∀j H,jf H1 H->j<xs.length->J.go j H) (hst:∀j H,jf H1 H->xs.length<=j->J.stop j H)
 (hy:∀j H v H' d,jf H1 H->J.yld j H v H'->xs[j]?=some d->H'=H/\Is K (je H O) d v)
 (w:kN (λd Q=>wpE C e (σ ++ [some (.sh d)]) Q) xs λys=>Wd K O H1 Q (.lst ys)) :
 ∃W:Nat->Nat->List V->Hp->Prop,(∃m,W 0 m [] H1)/\∀i m ys H,W i m ys H ->
  (J.stop i H/\ys.length<=sizeLine/\∀p,H p=none->Q (.ref p) (upd H p (.lst ys)))\/(J.go i H/\ys.length<sizeLine/\∀x H',J.yld i H x H'->tD K C e (τ ++ [some x]) H' λy H2=>∃m',m'<m/\W (i+1) m' (ys ++ [y]) H2) :=
 comp_turnsG R1 hx hgo hst (λj H v H' d s y e=>by obtain⟨q,i⟩:=hy j H v H' d s y e;subst q;exact⟨jf.refl _,i⟩) w
theorem comp_turnsFF(R1:Reps K O H1 σ τ)(hx:xs.length<=lim)
 (hgo:∀j H,jf H1 H->j<xs.length->J.go j H) (hst:∀j H,jf H1 H->xs.length<=j->J.stop j H)
 (hy:∀j H v H' d,jf H1 H->J.yld j H v H'->xs[j]?=some d->H'=H/\Is K (je H O) d v)
 (w:kz (λd Q=>wpE C c (σ ++ [some (.sh d)]) (isB Q)) (λd Q=>wpE C e (σ ++ [some (.sh d)]) Q) xs λys=>WdF K O H1 Q (.lst ys)) :
 ∃W:Nat->Nat->List V->Hp->Prop,(∃m,W 0 m [] H1)/\∀i m ys H,W i m ys H ->
  (J.stop i H/\ys.length<=sizeLine/\∀p,H p=none->Q (.ref p) (upd H p (.lst ys)))\/(J.go i H/\ys.length<sizeLine/\∀x H',J.yld i H x H'->tDT K C c (τ ++ [some x]) H' λb H1 =>
   if b=true then tD K C e (τ ++ [some x]) H1 λy H2=>∃m',m'<m/\W (i+1) m' (ys ++ [y]) H2 else ∃m',m'<m/\W (i+1) m' ys H1):=by
 refine⟨λj m ys H=>m=xs.length-j/\j<=xs.length/\jf H1 H/\∃ds,ds.length<=j/\Iss K (je H O) ds ys/\kz (λd Q=>wpE C c (σ ++ [some (.sh d)]) (isB Q)) (λd Q=>wpE C e (σ ++ [some (.sh d)]) Q) (xs.drop j) λrest=>WdF K O H1 Q (.lst (ds++rest)),
  ⟨_,rfl,mI _,jf.refl _,[],bV _,by unfold Iss;rfl,by simpa using w⟩,?_⟩
 rintro j m ys H ⟨rfl,hj,sm,ds,hd,is,w⟩;have hl:ys.length=ds.length:=is.length;have R:=R1.mono sm
 have hlim:lim<=sizeLine:=by decide
 by_cases hlt:j<xs.length
 ·refine .inr ⟨hgo j H sm hlt,by lia,λx H' y=>?_⟩;obtain⟨rfl,ix⟩:=hy j H x H' xs[j] sm y (bE hlt);rw[gI hlt]at w;rw[kz]at w;refine⟨_,O,R.snoc ix,ja c (λcd=>jW λb wb H2 s2=>?_) w⟩
  cases b with
  |true =>
   refine⟨_,O,(R.snoc ix).mono s2,ja e (λyd wy v H3 s3 i3=>?_) wb⟩;refine⟨xs.length-(j+1),by lia,rfl,hlt,(sm.trans s2).trans s3,ds ++ [yd],by simp;lia,(Iss.mono (jd (s2.trans s3)) ds is).snoc i3,?_⟩
   simpa using wy
  |false=>exact⟨xs.length-(j+1),by lia,rfl,hlt,sm.trans s2,ds,by lia,Iss.mono (jd s2) ds is,wb⟩
 ·have e1:j=xs.length:=by lia
  refine .inl ⟨hst _ H sm (by lia),by lia,λp hp=>?_⟩;rw[tW (by lia)]at w;rw[kz]at w;rw[dM]at w
  have h1:H1 p=none:=by
   cases q:H1 p with
   |none=>rfl
   |some o=>rw[sm p o q]at hp;cases hp
  exact w ds p _ ys rfl (sm.trans (jE hp _)) h1 (jm ..) (Iss.mono (kg (jE hp _) hp) ds is)
theorem Xv(R1:Reps K O H1 σ τ)(hx:xs.length<=lim)
 (hgo:∀j H,jf H1 H->j<xs.length->J.go j H) (hst:∀j H,jf H1 H->xs.length<=j->J.stop j H)
 (hy:∀j H v H' d,jf H1 H->J.yld j H v H'->xs[j]?=some d->H'=H/\Is K (je H O) d v)
 (w:kz (λd Q=>wpE C c (σ ++ [some (.sh d)]) (isB Q)) (λd Q=>wpE C e (σ ++ [some (.sh d)]) Q) xs λys=>Wd K O H1 Q (.lst ys)) :
 ∃W:Nat->Nat->List V->Hp->Prop,(∃m,W 0 m [] H1)/\∀i m ys H,W i m ys H ->
  (J.stop i H/\ys.length<=sizeLine/\∀p,H p=none->Q (.ref p) (upd H p (.lst ys)))\/(J.go i H/\ys.length<sizeLine/\∀x H',J.yld i H x H'->tDT K C c (τ ++ [some x]) H' λb H1 =>
   if b=true then tD K C e (τ ++ [some x]) H1 λy H2=>∃m',m'<m/\W (i+1) m' (ys ++ [y]) H2 else ∃m',m'<m/\W (i+1) m' ys H1) :=
 comp_turnsFF R1 hx hgo hst hy (kE (p:=λd Q=>wpE C c (σ ++ [some (.sh d)]) (isB Q)) (f:=λd Q=>wpE C e (σ ++ [some (.sh d)]) Q) (λd _ _ hq=>ja c λ_=>jW hq) (λd _ _ hq=>ja e hq) _ (λys wy=>wy.wdF R1.own) w)
theorem J1{l1 l2:Addr}(R1:Reps K O H1 σ τ)(hx:(zk xs ys).length<=lim)
 (q1:SqL K H1 l1 vs) (q2:SqL K H1 l2 ws) (i1:Iss K (je H1 O) xs vs) (i2:Iss K (je H1 O) ys ws) (w:kN (λd Q=>wpE C e (σ ++ [some (.sh d)]) Q) (zk xs ys) λys=>Wd K O H1 Q (.lst ys)) :
 ∃W:Nat->Nat->List V->Hp->Prop,(∃m,W 0 m [] H1)/\∀i m ys H,W i m ys H ->
  ((Itz K l1 l2).stop i H/\ys.length<=sizeLine/\∀p,H p=none->Q (.ref p) (upd H p (.lst ys)))\/((Itz K l1 l2).go i H/\ys.length<sizeLine/\∀x H',(Itz K l1 l2).yld i H x H'->tD K C e (τ ++ [some x]) H' λy H2=>∃m',m'<m/\W (i+1) m' (ys ++ [y]) H2):=by
 have n1:=i1.length;have n2:=i2.length
 have ln:(zk xs ys).length=min xs.length ys.length:=by unfold zk;simp
 refine comp_turnsG R1 hx (λj H s hj=>?_) (λj H s hj=>?_) (λj H v H' d s y hd=>?_) w
 ·rw[ln]at hj;exact⟨vs,ws,vs[j]'(by lia),ws[j]'(by lia),s.seq q1,s.seq q2,bE _,bE _⟩
 ·rw[ln]at hj;exact⟨vs,ws,s.seq q1,s.seq q2,by lia⟩
 ·obtain⟨T,x,y,rfl,hT,hx',hy',rfl⟩:=y;have hz:(zk xs ys)[j]?=some d:=hd;unfold zk at hz;rw[bW]at hz
  cases hzz:(xs.zip ys)[j]? with
  |none=>rw[hzz]at hz;cases hz
  |some p =>
   rw[hzz]at hz;simp only[tu,gy]at hz;subst hz;obtain⟨a,b⟩:=p;obtain⟨e1,e2⟩:=List.getElem?_zip_eq_some.mp hzz;obtain⟨u1,g1,k1⟩:=i1.get e1;obtain⟨u2,g2,k2⟩:=i2.get e2;rw[hx' vs (s.seq q1)]at g1;rw[hy' ws (s.seq q2)]at g2;cases g1;cases g2;have s':=jE hT (.tup [x,y]);refine⟨s',Ya (zF (R1.mono s).own hT) ?_⟩;have sm:=jd (O:=O) (s.trans s');unfold Iss;refine⟨x,[y],rfl,Is.mono sm a k1,?_⟩;unfold Iss;exact⟨y,[],rfl,Is.mono sm b k2,by unfold Iss;rfl⟩
end
def blts:List Str:=["abs","max","min","len","int","list","isinstance","range","bool","tuple","str","sum","all","zip","any","divmod","reversed","sorted","enumerate"]
structure Ok (X:Cx) (k:Ck) (C:Cfg):Prop where
 N:X.N=k.N
 nd:X.N.Nodup
 names:X.env.scope.names=k.names
 kd:X.env.scope.kind=.function
 calm:X.calm=true
 xe:X.xe=λ_ _=>False
 units:X.A.units+100<cLine
 fns:∀i x n,k.fns[i]?=some (x,n)->∃f fd ps lv,FnOk X.prog X.w X.K X.mg X.base (CXz X.prog X.w X.mg) lv f fd ps (spD X.K n (C.fr i) (C.f2 i) (C.ct i))/\Room lv X.A/\X.mg x=some (.ref f)/\mP X.K (.ref f)=true/\zm X.K fd ps []
 cns:∀i x,k.cns[i]?=some x->∃u v,X.mg x=some u/\jS v u/\∀S,Is X.K S (C.cn i) v
 blt:∀x∈blts,X.mg x=none
 E:∀x,¬ C.E x
variable{i:Nat}{e:Expr}{l:Addr}{sc:Scope}{env:Env}
section
variable {X:Cx} {k:Ck} {C:Cfg}
theorem jv{x:Ex}(h:chkE k x e=true)(es:List Expr)(env:Env):bQ (e::es) env=(false,eval e env)::bQ es env:=by
 have p:=u4 h
 cases e<;>first|rfl|exact bK p
theorem kr:∀ {xs:List Ex} {es:List Expr} (h:qg k xs es=true) (pos:Pos) (env:Env),(backTo pos (bQ es env)).any (·.1)=false
 |[],es,h,pos,env=>by rw[jZ h];rfl
 |x::xs,es,h,pos,env=>by
  obtain⟨y,ys,rfl,h1,h2⟩:=jM h;rw[jv h1];have:=kr h2 pos env;simpa[backTo]using this
theorem zq:∀ {xs:List Ex} {es:List Expr} (h:qg k xs es=true),xs.length=es.length
 |[],es,h=>by rw[jZ h];rfl
 |x::xs,es,h=>by
  obtain⟨y,ys,rfl,h1,h2⟩:=jM h;simp[zq h2]
theorem xy{C:Cfg}:∀(es:List Ex) {σ:Sto} {Q:List D->Prop},wpEs C es σ Q->wpEs C es σ λds=>ds.length=es.length/\Q ds
 |[],σ,Q,w=>by unfold wpEs at *;exact⟨rfl,w⟩
 |e::es,σ,Q,w=>by
  unfold wpEs at *;exact ja e (λd wd=>jr es (λds ⟨h1,h2⟩=>⟨by simp[h1],h2⟩) (xy es wd)) w
theorem Ok.vis(ok:Ok X k C)(h:k.loc i x=true):X.N[i]?=some x/\L2.Loc X.env.scope x/\(x == ("__debug__":Str))=false/\(x == ("__classdict__":Str))=false:=by
 unfold Ck.loc at h;simp only[bg,tG,decide_eq_true_eq,b8]at h;obtain⟨⟨⟨h1,h2⟩,h3⟩,h4⟩:=h;refine⟨by rw[ok.N];exact h1,?_,h3,h4⟩;unfold L2.Loc;rw[ok.names];exact h2
theorem Ok.gl(ok:Ok X k C)(h:k.gl x=true):Gl X x/\(x == ("__debug__":Str))=false/\x≠("__name__":Str):=by
 unfold Ck.gl at h;simp only[bg,decide_eq_true_eq,b8]at h;exact⟨by unfold Gl jfl;rw[ok.names];exact h.1.1,h.1.2,h.2⟩
theorem qI(h:L2.Loc sc x):Vis sc x:=h.elim .inl λz=>.inr (.inl z)
theorem Qr{a b:Ex}(hm:∀ {x y:D} {Q Q':D->Prop},(∀d,Q d->Q' d)->f x y Q->f x y Q')(R:Reps K O H σ τ)
 (w:wpE C a σ λx=>wpE C b σ λy=>f x y (Wd K O H Q)):tOp (rD K f) (tD K C a) (tD K C b) τ H Q :=
 ⟨σ,O,R,ja a (λx wx xv H1 s1 i1=>⟨σ,O,R.mono s1,ja b (λy wy yv H2 s2 i2=>⟨O,x,y,(R.mono (s1.trans s2)).own,Is.mono (jd s2) x i1,i2,hm (λd=>Wd.mono (s1.trans s2)) wy⟩) wx⟩) w⟩
theorem tD_test{x:Ex}{Q:Bool->Hp->Prop}(h:tDT K C x τ H Q):tB (tD K C x) τ H Q:=by
 obtain⟨σ,O,R,w⟩:=h;refine⟨σ,O,R,ja x (λd wd v H1 s1 i1=>?_) w⟩
 cases d with
 |bl c=>exact⟨c,qM i1,wd H1 s1⟩
 |_=>exact wd.elim
def mtI(x:V)(xs:List V)(H:Hp)(Q:VK):Prop:=xs=[]/\∃i,x=.int i/\Q (.int (bits i)) H
theorem ja8:MtR X "int.bit_length" mtI:=by
 rintro pins s τ H x xs v us Q I rx rs ⟨rfl,i,rfl,q⟩;cases rs;obtain⟨t,rfl⟩:=rx;exact call_int_bit_length ⟨.int _,H,I.tok _,⟨_,rfl⟩,q⟩
def isiR(K:bp)(t:Ty)(n:String)(vs:List V)(H:Hp)(Q:VK):Prop:=∃O d v,vs=[v,.ty n]/\Is K (je H O) d v/\Wd K O H Q (.bl (tyD t d))
def Ty.s:Ty->String
 |.int=>"int"
 |.bool=>"bool"
 |.tuple=>"tuple"
 |.list=>"list"
 |.str=>"str"
theorem U5{t:Ty}:xD X (.builtin "isinstance") (isiR X.K t t.s):=by
 rintro pins s τ H vs us Q I r ⟨O,d,v,rfl,i,w⟩;obtain⟨u,w',rfl,r1,r2⟩:=Xq r
 have e:w'=t.val:=by
  have r2':w'=Value.type t.s:=r2
  rw[r2'];cases t<;>rfl
 subst e
 exact jbp I (Is.mono (jg H O) d i) r1 λtk=>yw (I.tok tk) w (qz _) rfl
theorem ty_boot(t:Ty):pX t.nm=some (.type t.s):=by
 cases t
 ·exact t9
 ·exact PyProof.Rows.boot_bool
 ·exact PyProof.Rows.boot_tuple
 ·exact mZ
 ·exact PyProof.Rows.boot_str
theorem ty_blt(t:Ty):t.nm∈blts:=by cases t<;>decide
theorem jbK(f:Bi):f.nm∈blts:=by cases f<;>decide
theorem jbW{x:Ex}(h:chkE k x e=true):nU op e=false:=by
 have p:=u4 h
 cases e<;>first|rfl|exact bK p
theorem Ud(h:ze e=false):ZJ e:=by
 intro o i
 cases e<;>first|rfl|(exact bK h)
theorem Ko{o:Expr}{n:Str}(h:Yo o=true):wC o n env (eval o env)=eval o env:=by
 cases o<;>first|rfl|skip
 next f as ks p =>
 cases f<;>first|rfl|skip
 cases as<;>first|rfl|skip
 cases ks<;>first|rfl|exact bK h
theorem j6{x:Ex}(p:PE X e (tD X.K C x))(he:∀whole,isTrue e X.env whole=(do let v <- whole;jev e.pos;tj [v] (truthy v))):PT X e (tDT X.K C x):=PT.imp (λ_ _ _=>tD_test) (pt_val p he)
theorem pw_of{op:BoolOp}{vs:List Expr}{t:TT}(h:PT X (.BoolOp op vs pos) t):PW X (.BoolOp op vs pos) t:=λwhole pins s τ H Q I w=>h pins s τ H Q I w
def KL(cells:List (Str×Addr)):List (Str×nh)->List (Str×Addr)->List (Str×Addr)
 |[],cs=>cs
 |(n,kd)::r,cs=>KL cells r (if kd == .free then (match cells.lookup n with|some c=>(n,c)::cs|none=>cs) else cs)
theorem Xe{cells:List (Str×Addr)}:∀(l:List (Str×nh)) (cs:List (Str×Addr)),(∀y c,(y,c)∈cs->cells.lookup y=some c)->∀y c,(y,c)∈KL cells l cs->cells.lookup y=some c
 |[],cs,h,y,c,m=>h y c m
 |(n,kd)::r,cs,h,y,c,m=>by
  refine Xe r _ (λz d hz=>?_) y c m;split at hz
  ·split at hz
   ·next q =>
    rcases bD.mp hz with e|e
    ·cases e;exact q
    ·exact h z d e
   ·exact h z d hz
  ·exact h z d hz
theorem Xy{cells:List (Str×Addr)}:∀(l:List (Str×nh)) (cs:List (Str×Addr)) (z:Str×Addr),z∈cs->z∈KL cells l cs
 |[],cs,z,h=>h
 |(n,kd)::r,cs,z,h=>by
  refine Xy r _ z ?_;split
  ·split
   ·exact bo _ h
   ·exact h
  ·exact h
theorem Q9{cells:List (Str×Addr)}:∀(l:List (Str×nh)) (cs:List (Str×Addr)) (y:Str) (c:Addr),(y,.free)∈l->cells.lookup y=some c->(y,c)∈KL cells l cs
 |[],cs,y,c,h,e=>nomatch h
 |(n,kd)::r,cs,y,c,h,e=>by
  rcases bD.mp h with z|z
  ·cases z;refine Xy r _ _ ?_;simp only[beq_self_eq_true,if_true,e];exact bB ..
  ·exact Q9 r _ y c z e
theorem vY{l:List (Str×α)}{c:α}(h:l.lookup y=some c):(y,c)∈l:=mW h
theorem Yt{l:List (Str×α)}{c:α}(h:(y,c)∈l):∃d,l.lookup y=some d:=by
 induction l with
 |nil=>cases h
 |cons a r ih =>
  obtain⟨n,b⟩:=a;by_cases e:y=n
  ·subst e;exact⟨b,by simp[gv]⟩
  ·rcases bD.mp h with z|z
   ·cases z;exact absurd rfl e
   ·obtain⟨d,q⟩:=ih z;refine⟨d,?_⟩
    have:(y == n)=false:=by simpa using e
    rw[gv,this];exact q
theorem clos_of(h:∀y∈sc.names,y.2=.free->∃c,env.cells.lookup y.1=some c):closureFor sc env=pure (KL env.cells sc.names []):=by
 simp only[closureFor];generalize ([]:List (Str×Addr))=cs;generalize sc.names=l at h
 induction l generalizing cs with
 |nil=>rfl
 |cons a r ih =>
  obtain⟨n,kd⟩:=a
  have ih':=λcs=>ih cs λy hy=>h y (bo _ hy)
  rw[pG];by_cases e:kd=.free
  ·subst e;obtain⟨c,hc⟩:=h (n,.free) (bB ..) rfl
   have e1:cellOf env n=pure c:=by unfold cellOf;rw[hc]
   simp only[beq_self_eq_true,if_true,e1,KL];rw[hc];exact ih' _
  ·have e1:(kd == wH)=false:=by simpa using e
   simp only[e1,dF,if_false,KL];exact ih' _
theorem Ok.rel(ok:Ok X k C)(sc:Scope):(jcp sc X.env).names=QN sc.names k.names:=by
 unfold jcp QN jfl;rw[ok.names,ok.kd];simp
theorem Ok.comp_nE(ok:Ok X k C)(h:qN k x sc=true):dum X.N ∉ X.N:=by
 unfold qN at h;simp only[bg,b8,wU,decide_eq_false_iff_not]at h;rw[ok.N];exact h.2
theorem JH{names out:List (Str×nh)}{kd:nh}(h:(QN names out).lookup y=some kd):∃kd',(y,kd')∈names/\(kd=kd'\/(kd'=.free/\kd=.cell)):=by
 have m:=vY h;unfold QN at m;obtain⟨⟨n,q⟩,hq,e⟩:=bI.mp m;simp only at e;split at e
 ·next hc =>
  simp only[bg,beq_iff_eq]at hc;cases e;exact⟨q,hq,.inr ⟨hc.1,rfl⟩⟩
 ·cases e;exact⟨kd,hq,.inl rfl⟩
theorem Ok.comp(ok:Ok X k C)(h:qN k x sc=true)(xo:X.Ok):∃cl,CompOk X x sc cl:=by
 unfold qN at h;simp only[bg,b8,m9,decide_eq_true_eq,tG,beq_iff_eq,beq_eq_false_iff_ne,ne_eq]at h;obtain⟨⟨⟨⟨⟨⟨⟨⟨h1,h2⟩,h3⟩,h4⟩,h5⟩,h6⟩,h7⟩,h8⟩,h9⟩:=h
 have hc:∀y∈sc.names,y.2=.free->∃c,X.env.cells.lookup y.1=some c:=λy hy e=>by
  refine xo.has y.1 ?_;unfold jfl;rw[ok.names];rcases h6 y hy with(z|z)|z
  ·exact absurd e z
  ·exact .inl z
  ·exact .inr z
 have sub:∀y c,(KL X.env.cells sc.names []).lookup y=some c->X.env.cells.lookup y=some c:=λy c e=>Xe _ _ (λ_ _ z=>absurd z (by simp)) y c (vY e)
 refine⟨KL X.env.cells sc.names [],clos_of hc,h1,h2,λy hy e=>?_,h4,λy e=>?_,λy hyx e=>?_,sub,by rw[ok.N];exact h7,by rw[ok.names,ok.N];exact h8⟩
 ·rcases h3 y hy with z|z
  ·exact absurd e z
  ·exact z
 ·rw[ok.rel]at e;obtain⟨kd,m,z|⟨_,z⟩⟩:=JH e
  ·rcases h5 _ m with(q|q)|q
   ·exact absurd z.symm q
   ·exact .inl q
   ·refine .inr ⟨?_,by rw[ok.N];exact q.2⟩;rw[ok.N];simpa using q.1
  ·cases z
 ·rw[ok.rel]at e
  have m:(y,wH)∈sc.names:=by
   rcases e with e|e
   ·obtain⟨kd,m,z|⟨z,_⟩⟩:=JH e
    ·exfalso;rw[<- z]at m
     have q:(y,sN)∈sc.names.filter λy=>y.2 == .cell:=tf.mpr ⟨m,rfl⟩
     rw[h2]at q;split at q
     ·simp only[bD,wG,bM,or_false]at q;exact hyx q.1
     ·cases q
    ·rw[<- z];exact m
   ·obtain⟨kd,m,z|⟨_,z⟩⟩:=JH e
    ·rw[z];exact m
    ·cases z
  obtain⟨c,hcc⟩:=hc _ m rfl;have k6:=h6 _ m;refine⟨?_,?_,Yt (Q9 _ _ y c m hcc)⟩
  ·unfold Vis;rw[ok.names];rcases k6 with(z|z)|z
   ·exact absurd rfl z
   ·exact .inr (.inl z)
   ·exact .inr (.inr z)
  ·rw[ok.names];rcases k6 with(z|z)|z
   ·exact absurd rfl z
   ·intro q;simp only at z;rw[z]at q;cases q
   ·intro q;simp only at z;rw[z]at q;cases q
theorem Ok.block(ok:Ok X k C){cl:List (Str×Addr)}(h:qN k x sc=true)(co:CompOk X x sc cl)(s:Shared)(H:Hp)(fp:List Addr)(Ca:Addr):Ok (qy X s H fp x sc cl Ca) (k.block x sc) C where
 N:=by show qw X.N x=qw k.N x;rw[ok.N]
 nd:=Kr ok.nd (ok.comp_nE h) co.ne
 names:=ok.rel sc
 kd:=co.kind
 calm:=ok.calm
 xe:=rfl
 units:=ok.units
 fns:=ok.fns
 cns:=ok.cns
 blt:=ok.blt
 E:=ok.E
theorem u9{a b:Ex}(w:tD K C (.compF a c b) τ H Q):yD (iSeq K (tD K C a)) (tDT K C c) (tD K C b) τ H Q:=by
 obtain⟨σ,O,R,w⟩:=w;refine⟨σ,O,R,ja a (λd wd v H1 s1 i1=>?_) w⟩;obtain⟨xs,e1,hx,wd⟩:=wd;have wd':=kE (p:=λd Q=>wpE C c (σ ++ [some (.sh d)]) (isB Q)) (f:=λd Q=>wpE C b (σ ++ [some (.sh d)]) Q) (λd _ _ hq=>ja c λ_=>jW hq) (λd _ _ hq=>ja b hq) _ (λys (wy:Wd K O H Q (.lst ys))=>wy.mono s1) wd;obtain⟨J,hw,g1,g2,g3⟩:=walk_of e1 i1;exact⟨J,hw,Xv (R.mono s1) hx (λj H2 s2=>g1 j H2 O (jd s2)) (λj H2 s2=>g2 j H2 O (jd s2)) (λj H2 v H' d s2=>g3 j H2 O v H' d (jd s2)) wd'⟩
def tPt(K:bp)(C:Cfg)(l:Ex):TO:=λτ H R=>∃σ O,Reps K O H σ τ/\prt (kO l) (λQ=>wpE C l σ Q) λo=>∀H',jf H H'->R o H'
theorem po_D{l:Ex}{lo:Option Expr}(h:(lo.isNone == kO l)=true)(p:∀x,lo=some x->kO l=false->PE X x (tD X.K C l)):PO X lo (tPt X.K C l):=by
 cases lo with
 |none =>
  have e:kO l=true:=by simpa using h
  intro pins s τ H R I w;obtain⟨σ,O,r,w⟩:=w;unfold prt at w;rw[if_pos e]at w
  exact po_none pins s τ H R I (w _ (jf.refl H))
 |some x =>
  have e:kO l=false:=by simpa using h
  intro pins s τ H R I w;refine po_some (p x rfl e) pins s τ H R I ?_;obtain⟨σ,O,r,w⟩:=w;unfold prt at w;rw[if_neg (by rw[e];decide)]at w;refine⟨σ,O,r,ja l (λd wd v H1 s1 i1=>?_) w⟩
  cases d<;>first|exact wd.elim|(cases jz i1;exact⟨_,rfl,wd _ s1⟩)
theorem Iss.drop{K:bp}{S:Hp}:∀ {ds:List D} {vs:List V} (n:Nat),Iss K S ds vs->Iss K S (ds.drop n) (vs.drop n)
 |ds,vs,0,i=>i
 |[],vs,n+1,i=>by
  have:vs=[]:=by have:=i.length;simpa using this
  subst this
  simpa using i
 |d::ds,vs,n+1,i=>by
  unfold Iss at i;obtain⟨v,ws,rfl,_,i2⟩:=i;simpa using Iss.drop n i2
theorem Iss.take{K:bp}{S:Hp}:∀ {ds:List D} {vs:List V} (n:Nat),Iss K S ds vs->Iss K S (ds.take n) (vs.take n)
 |ds,vs,0,i=>by simp only[nk];unfold Iss;rfl
 |[],vs,n+1,i=>by
  have:vs=[]:=by have:=i.length;simpa using this
  subst this
  simpa using i
 |d::ds,vs,n+1,i=>by
  unfold Iss at i;obtain⟨v,ws,rfl,i1,i2⟩:=i;simp only[mf];unfold Iss;exact⟨v,_,rfl,i1,Iss.take n i2⟩
theorem jbM(n d:Nat)(o:Option Int):sIx n d o=HT.sIx n d o:=by cases o<;>rfl
theorem Iss.cut(lo hi:Option Int)(i:Iss K S ds vs):Iss K S (yH ds lo hi) (UE vs lo hi):=by
 have l:=i.length;unfold yH UE;rw[jbM,jbM,<- l];exact(i.drop _).take _
def rIndex(K:bp):V->List V->Hp->VK->Prop:=λx vs H Q=>∃(a:Addr) (ns:List Int) (k:Int) (j:Nat),x=.ref a/\vs=[.int k]/\SqL K H a (ns.map V.int)/\(ns[j]?=some k/\∀m,m<j->ns[m]? ≠ some k)/\Q (.int j) H
theorem VJ:MtM X "list.index" (rIndex X.K):=by
 intro pins s σ H x vs v us Q I rx rv h;obtain⟨a,ns,k,j,rfl,rfl,hq,⟨hj,hno⟩,q⟩:=h;cases rx;obtain⟨u,rfl,t,rfl⟩:=rv.one;obtain⟨its,r,p,hz⟩:=I.list hq;obtain⟨o,n,ho,hc,hd,hs⟩:=p;have hl:=r.length;rw[bj]at hl hz;have hjl:j<ns.length:=(gH.mp hj).1
 let eqi:bq->Bool:=λy=>match y with|.int b _=>b == k|_=>false
 have val:∀(m:Nat) (hm:m<its.toArray.size),∃t',its.toArray[m]=.int (ns.getD m 0) t':=λm hm=>yK r m _ (by rw[bE (by simpa using hm)];simp)
 obtain⟨cl,dd,dt,sl⟩:=o;simp only at hc hd hs;subst hc hd hs;refine call_meets F.slot_list_index ⟨_,ho,rfl⟩ F.entry_list_index (F.args_list_index_2 _ _) (PySem.SeqAt.list_indexAt a its.toArray n none sl (.int k t) eqi j (by simp;lia) (by rw[n6]at hz;lia) ?_ ?_) ⟨ho,?_,⟨.int j,H,I.tok _,⟨_,rfl⟩,q⟩⟩
 ·obtain⟨t',e⟩:=val j (by simp;lia);rw[e]
  have:ns.getD j 0=k:=by rw[bH,hj];rfl
  show (ns.getD j 0 == k)=true;rw[this];simp
 ·intro m hm hmj;obtain⟨t',e⟩:=val m hm;rw[e];show (ns.getD m 0 == k)=false;have:=hno m hmj
  have hm':m<ns.length:=by lia
  rw[bE hm']at this;rw[bH,bE hm'];simp only[Option.getD_some,beq_eq_false_iff_ne]
  exact λz=>this (by rw[z])
 ·intro y hy;obtain⟨m,hm,rfl⟩:=Array.getElem_of_mem hy;obtain⟨t',e⟩:=val m hm;rw[e];exact PySem.SeqAt.EqAt.int_int _ _ _ _
theorem ja4{f:List (List D)->Prop}{o:Option Sl}(w:otD f o):∃rows,o=some (.ot rows)/\f rows:=by
 match o,w with
 |some (.ot rows),w=>exact⟨rows,rfl,w⟩
mutual
theorem sB:∀ {X:Cx} {k:Ck} (ok:Ok X k C) (x:Ex) (e:Expr),chkE k x e=true->PE X e (tD X.K C x)/\PT X e (tDT X.K C x)
 |X,k,ok,.var i,e,h=>by
  replace h:=jb h;obtain⟨x,hx,h⟩:=h;obtain⟨pos,rfl⟩:=jo hx;obtain⟨h1,h2,h3,h4⟩:=ok.vis h
  have p:PE X (.Name x pos) (tD X.K C (.var i)):=by
   refine PE.imp (λτ H Q w=>?_) (kh h1 (qI h2) h3 h4);obtain⟨σ,O,R,w⟩:=w;rw[wE_var]at w
   cases g:getS σ i with
   |none=>rw[g]at w;exact w.elim
   |some z =>
    rw[g]at w
    cases z with
    |sh d =>
     obtain⟨v,e1,e2⟩:=R.sh i d g
     exact⟨v,e1,w v H (jf.refl H) e2⟩
    |ow ds=>exact w.elim
    |ot _=>exact w.elim
  exact⟨p,j6 p λ_=>rfl⟩
 |X,k,ok,.cst d,e,h=>by
  replace h:=jb h;obtain⟨c,hx,h⟩:=h;obtain⟨j,pos,rfl⟩:=qJ hx
  have p:PE X (.Constant c j pos) (tD X.K C (.cst d)):=by
   cases d with
   |non =>
    cases c<;>first|exact bK h|skip
    exact PE.imp (λτ H Q ⟨σ,O,R,w⟩=>by exact w _ _ (jf.refl H) JD) pe_non
   |bl b =>
    cases c<;>first|exact bK h|skip
    have e:_=_:=eq_of_beq h;subst e
    exact PE.imp (λτ H Q ⟨σ,O,R,w⟩=>by exact w _ _ (jf.refl H) (qz _)) jbi
   |int i =>
    cases c<;>first|exact bK h|skip
    have e:_=_:=of_decide_eq_true h;subst e
    exact PE.imp (λτ H Q ⟨σ,O,R,w⟩=>by exact w _ _ (jf.refl H) (jG _)) KW
   |str x =>
    cases c<;>first|exact bK h|skip
    have h':=(bg _ _).mp h;have e:_=_:=of_decide_eq_true h'.1;subst e
    exact PE.imp (λτ H Q ⟨σ,O,R,w⟩=>by exact w _ _ (jf.refl H) (zB h'.2)) Jr
   |tup xs=>cases c<;>exact bK h
   |lst xs=>cases c<;>exact bK h
  exact⟨p,j6 p λ_=>rfl⟩
 |X,k,ok,.con i,e,h=>by
  replace h:=jb h;obtain⟨x,hx,h⟩:=h;obtain⟨pos,rfl⟩:=jo hx;rw[bg,decide_eq_true_eq]at h;obtain⟨u,v,h1,h2,h3⟩:=ok.cns i x h.1;obtain⟨g1,g2,g3⟩:=ok.gl h.2;have p:PE X (.Name x pos) (tD X.K C (.con i)):=PE.imp (λτ H Q ⟨σ,O,R,w⟩=>by exact w _ _ (jf.refl H) (h3 _)) (K9 g1 h1 h2 g2)
  exact⟨p,j6 p λ_=>rfl⟩
 |X,k,ok,.bin o a b,e,h=>by
  replace h:=jb h;obtain⟨⟨l,op,r⟩,hx,h⟩:=h;obtain⟨pos,rfl⟩:=JA hx;rw[bg,bg]at h;have p:PE X (.BinOp l op r pos) (tD X.K C (.bin o a b)):=PE.imp (t':=tD X.K C (.bin o a b)) (λτ H Q ⟨σ,O,R,w⟩=>by exact Qr (f:=yB o) JU R w) (jaI (op_bin h.1.1) (sB ok a _ h.1.2).1 (sB ok b _ h.2).1)
  exact⟨p,j6 p λ_=>rfl⟩
 |X,k,ok,.neg a,e,h=>by
  replace h:=jb h;obtain⟨⟨op,x⟩,hx,h⟩:=h;obtain⟨pos,rfl⟩:=Zj hx;rw[bg,decide_eq_true_eq]at h;obtain⟨ho,h⟩:=h;simp only at ho h;subst ho
  have p:PE X (.UnaryOp .USub x pos) (tD X.K C (.neg a)):=by
   refine PE.imp (λτ H Q w=>?_) (pe_un un_neg (sB ok a _ h).1);obtain⟨σ,O,R,w⟩:=w;refine⟨σ,O,R,ja a (λd wd v H1 s1 i1=>?_) w⟩
   cases d with
   |int i=>exact⟨i,jz i1,wd _ _ s1 (jG _)⟩
   |_=>exact wd.elim
  exact⟨p,j6 p λ_=>rfl⟩
 |X,k,ok,.not a,e,h=>by
  replace h:=jb h;obtain⟨⟨op,x⟩,hx,h⟩:=h;obtain⟨pos,rfl⟩:=Zj hx;rw[bg,decide_eq_true_eq]at h;obtain⟨ho,h⟩:=h;simp only at ho h;subst ho;obtain⟨pa,ta⟩:=sB ok a _ h;refine⟨PE.imp (λτ H Q w=>?_) (jac pa),PT.imp (λτ H Q w=>?_) (pt_not ta)⟩
  ·obtain⟨σ,O,R,w⟩:=w;refine⟨σ,O,R,ja a (λd wd v H1 s1 i1=>?_) w⟩
   cases d with
   |bl c=>exact⟨c,qM i1,wd _ _ s1 (qz _)⟩
   |_=>exact wd.elim
  ·obtain⟨σ,O,R,w⟩:=w;refine⟨σ,O,R,ja a (λd wd=>?_) w⟩
   cases d with
   |bl c=>exact λH' s'=>wd H' s'
   |_=>exact wd.elim
 |X,k,ok,.cmp o a b,e,h=>by
  replace h:=jb h;obtain⟨⟨l,ops,cs⟩,hx,h⟩:=h;obtain⟨pos,rfl⟩:=Qt hx;simp only[bg,decide_eq_true_eq]at h;obtain⟨⟨⟨⟨n1,n2⟩,h1⟩,h2⟩,h3⟩:=h
  match ops,n1,cs,n2,h1,h3 with
  |[op],_,[r],_,h1,h3 =>
   have h:(cOk o op r=true/\chkE k a l=true)/\chkE k b r=true:=⟨⟨h1,h2⟩,h3⟩
   have pa:=(sB ok a _ h.1.2).1;have pb:=(sB ok b _ h.2).1;refine⟨PE.imp (λτ H Q w=>?_) (Z8 (V3 h.1.1 ok.units) pa pb (jbW h.2)),PT.imp (λτ H Q w=>?_) (pt_cmpR (V3 h.1.1 ok.units) pa pb (jbW h.2))⟩
   ·obtain⟨σ,O,R,w⟩:=w;exact Qr (f:=uS o) y7 R w
   ·obtain⟨σ,O,R,w⟩:=w;refine Qr (f:=uS o) y7 R (ja a (λx wx=>ja b (λy wy=>y7 (o:=o) (λd wd v H1 s1 i1=>?_) wy) wx) w)
    cases d with
    |bl c=>exact⟨c,qM i1,wd H1 s1⟩
    |_=>exact wd.elim
 |X,k,ok,.and a b,e,h=>by
  replace h:=jb h;obtain⟨⟨op,vs,pos⟩,hx,h⟩:=h;have ee:=vz hx;subst ee;simp only[bg,decide_eq_true_eq]at h;obtain⟨⟨⟨ho,n1⟩,h1⟩,h2⟩:=h;subst ho
  match vs,n1,h1,h2 with
  |x::y::r,_,h1,h2 =>
   have h:chkE k a x=true/\(if r.isEmpty then chkE k b y else chkE k b (.BoolOp .And (y::r) pos))=true:=by
    refine⟨h1,?_⟩
    cases r with
    |nil=>simpa using h2
    |cons z r=>simpa using h2
   obtain⟨pa,ta⟩:=sB ok a _ h.1
   have hb:PE X (.BoolOp .And (y::r) pos) (tD X.K C b)/\PW X (.BoolOp .And (y::r) pos) (tDT X.K C b):=by
    cases r with
    |nil =>
     have:=sB ok b y h.2
     exact⟨X6 this.1,pw_and1 this.2⟩
    |cons z r =>
     have:=sB ok b (.BoolOp .And (y::z::r) pos) h.2;exact⟨this.1,pw_of this.2⟩
   refine⟨PE.imp (λτ H Q w=>?_) (YW pa hb.1),PT.imp (λτ H Q w=>?_) (pw_and ta hb.2).pt⟩
   ·obtain⟨σ,O,R,w⟩:=w;refine⟨σ,O,R,ja a (λd wd v H1 s1 i1=>?_) w⟩
    cases d with
    |bl c =>
     refine⟨c,qM i1,?_⟩
     cases c with
     |true=>exact⟨σ,O,R.mono s1,ja b (λd=>Wd.mono s1) wd⟩
     |false=>exact wd _ _ s1 (qz _)
    |_=>exact wd.elim
   ·obtain⟨σ,O,R,w⟩:=w;refine⟨σ,O,R,ja a (λd wd=>?_) w⟩
    cases d with
    |bl c =>
     intro H1 s1
     cases c with
     |true=>exact⟨σ,O,R.mono s1,ja b (λd=>jW λc q H' s'=>q H' (s1.trans s')) wd⟩
     |false=>exact wd H1 s1
    |_=>exact wd.elim
 |X,k,ok,.or a b,e,h=>by
  replace h:=jb h;obtain⟨⟨op,vs,pos⟩,hx,h⟩:=h;have ee:=vz hx;subst ee;simp only[bg,decide_eq_true_eq]at h;obtain⟨⟨⟨ho,n1⟩,h1⟩,h2⟩:=h;subst ho
  match vs,n1,h1,h2 with
  |x::y::r,_,h1,h2 =>
   have h:chkE k a x=true/\(if r.isEmpty then chkE k b y else chkE k b (.BoolOp .Or (y::r) pos))=true:=by
    refine⟨h1,?_⟩
    cases r with
    |nil=>simpa using h2
    |cons z r=>simpa using h2
   obtain⟨pa,ta⟩:=sB ok a _ h.1
   have hb:PE X (.BoolOp .Or (y::r) pos) (tD X.K C b)/\PW X (.BoolOp .Or (y::r) pos) (tDT X.K C b):=by
    cases r with
    |nil =>
     have:=sB ok b y h.2
     exact⟨X6 this.1,pw_or1 this.2⟩
    |cons z r =>
     have:=sB ok b (.BoolOp .Or (y::z::r) pos) h.2;exact⟨this.1,pw_of this.2⟩
   refine⟨PE.imp (λτ H Q w=>?_) (pe_or pa hb.1),PT.imp (λτ H Q w=>?_) (pw_or ta hb.2).pt⟩
   ·obtain⟨σ,O,R,w⟩:=w;refine⟨σ,O,R,ja a (λd wd v H1 s1 i1=>?_) w⟩
    cases d with
    |bl c =>
     refine⟨c,qM i1,?_⟩
     cases c with
     |false=>exact⟨σ,O,R.mono s1,ja b (λd=>Wd.mono s1) wd⟩
     |true=>exact wd _ _ s1 (qz _)
    |_=>exact wd.elim
   ·obtain⟨σ,O,R,w⟩:=w;refine⟨σ,O,R,ja a (λd wd=>?_) w⟩
    cases d with
    |bl c =>
     intro H1 s1
     cases c with
     |false=>exact⟨σ,O,R.mono s1,ja b (λd=>jW λc q H' s'=>q H' (s1.trans s')) wd⟩
     |true=>exact wd H1 s1
    |_=>exact wd.elim
 |X,k,ok,.ife c a b,e,h=>by
  replace h:=jb h;obtain⟨⟨t,x,y⟩,hx,h⟩:=h;obtain⟨pos,rfl⟩:=ja5 hx;simp only[bg]at h;obtain⟨pc,tc⟩:=sB ok c _ h.1.1;obtain⟨pa,ta⟩:=sB ok a _ h.1.2;obtain⟨pb,tb⟩:=sB ok b _ h.2;refine⟨PE.imp (λτ H Q w=>?_) (QJ tc pa pb),λpins s τ H Q I w=>?_⟩
  ·obtain⟨σ,O,R,w⟩:=w;refine⟨σ,O,R,ja c (λd wd=>?_) w⟩
   cases d with
   |bl k =>
    intro H1 s1
    cases k with
    |true=>exact⟨σ,O,R.mono s1,ja a (λd=>Wd.mono s1) wd⟩
    |false=>exact⟨σ,O,R.mono s1,ja b (λd=>Wd.mono s1) wd⟩
   |_=>exact wd.elim
  ·obtain⟨σ,O,R,w⟩:=w;refine isTrue_IfExp (thn (tc pins s τ H (λd H1=>if d=true then tDT X.K C a τ H1 Q else tDT X.K C b τ H1 Q) I ⟨σ,O,R,ja c (λd wd=>?_) w⟩) λd s1 ⟨H1,I1,q1⟩=>?_)
   ·cases d with
    |bl k =>
     intro H1 s1
     cases k with
     |true=>exact⟨σ,O,R.mono s1,ja a (λd=>jW λc q H' s'=>q H' (s1.trans s')) wd⟩
     |false=>exact⟨σ,O,R.mono s1,ja b (λd=>jW λc q H' s'=>q H' (s1.trans s')) wd⟩
    |_=>exact wd.elim
   ·cases d with
    |true=>exact ta pins s1 τ H1 Q I1 q1
    |false=>exact tb pins s1 τ H1 Q I1 q1
 |X,k,ok,.tup es,e,h=>by
  replace h:=jb h;obtain⟨xs,hx,h⟩:=h;obtain⟨j,pos,rfl⟩:=QH hx;rw[bg,decide_eq_true_eq]at h
  have p:PE X (.Tuple xs j pos) (tD X.K C (.tup es)):=by
   refine PE.imp (λτ H Q w=>?_) (K7 (sA ok es xs h.2));obtain⟨σ,O,R,w⟩:=w;refine⟨σ,O,R,jr es (λds ⟨hl,wd⟩ vs H1 s1 i1=>⟨?_,λp hp=>?_⟩) (xy es w)⟩
   ·rw[i1.length,hl,zq h.2,n6];lia
   ·exact wd _ _ (s1.trans (jE hp _)) (Ya (zF (R.mono s1).own hp) (Iss.minus_upd hp i1))
  exact⟨p,j6 p λ_=>rfl⟩
 |X,k,ok,.lst es,e,h=>by
  replace h:=jb h;obtain⟨xs,hx,h⟩:=h;obtain⟨pos,rfl⟩:=yO hx;rw[bg,decide_eq_true_eq]at h
  have p:PE X (.List xs pos) (tD X.K C (.lst es)):=by
   refine PE.imp (λτ H Q w=>?_) (Jt (sA ok es xs h.2));obtain⟨σ,O,R,w⟩:=w;refine⟨σ,O,R,jr es (λds ⟨hl,wd⟩ vs H1 s1 i1=>⟨?_,λp hp=>?_⟩) (xy es w)⟩
   ·rw[i1.length,hl,zq h.2,n6];lia
   ·exact wd _ _ (s1.trans (jE hp _)) (qE (SqL.of (zF (R.mono s1).own hp)) (Iss.minus_upd hp i1))
  exact⟨p,j6 p λ_=>rfl⟩
 |X,k,ok,.slc a l u,e,h=>by
  replace h:=jb h;obtain⟨⟨v,i⟩,hx,h⟩:=h;obtain⟨pos,rfl⟩:=yS hx;replace h:=jb h;obtain⟨⟨lo,hi⟩,hs,h⟩:=h;obtain⟨p2,e2⟩:=Xo hs;simp only at e2;subst e2;simp only[bg]at h;obtain⟨⟨⟨⟨ha,hl1⟩,hu1⟩,hl2⟩,hu2⟩:=h
  have pl:PO X lo (tPt X.K C l):=po_D hl1 λx ex nl=>by
   subst ex;rw[nl]at hl2;exact(sB ok l x hl2).1
  have pu:PO X hi (tPt X.K C u):=po_D hu1 λx ex nl=>by
   subst ex;rw[nl]at hu2;exact(sB ok u x hu2).1
  have p:PE X (.Subscript v (.Slice lo hi none p2) pos) (tD X.K C (.slc a l u)):=by
   refine PE.imp (λτ H Q w=>?_) (Xl Ub (sB ok a v ha).1 pl pu);obtain⟨σ,O,R,w⟩:=w;refine⟨σ,O,R,ja a (λd wd x H1 s1 i1=>⟨σ,O,R.mono s1,xU (λhq=>ja l hq) (λlo' wl H2 s2=>⟨σ,O,(R.mono s1).mono s2,xU (λhq=>ja u hq) (λhi' wh H3 s3=>?_) wl⟩) wd⟩) w⟩;have ss:=s2.trans s3
   cases d<;>first|exact wh.elim|skip
   next xs =>
   obtain⟨b,vs,rfl,h1,h2⟩:=jK i1;exact⟨b,vs,rfl,(jg _ _).seq ((jd ss).seq h1),λp hp=>wh _ _ ((s1.trans ss).trans (jE hp _)) (qE (SqL.of (zF (((R.mono s1).mono s2).mono s3).own hp)) (Iss.minus_upd hp (Iss.cut lo' hi' (Iss.mono (jd ss) xs h2))))⟩
  exact⟨p,j6 p λ_=>rfl⟩
 |X,k,ok,.lix a b,e,h=>by
  replace h:=jb h;obtain⟨⟨fe,xs,ks,cp⟩,hc,h⟩:=h;have ee:=qY hc;subst ee;simp only[bg,decide_eq_true_eq,gw]at h;obtain⟨⟨⟨hk,hl1⟩,hat⟩,he⟩:=h;replace hat:=jb hat;obtain⟨⟨ob,at',ap⟩,hy,hat⟩:=hat;have ee:=qU hy;subst ee;simp only[bg,decide_eq_true_eq]at hat;obtain⟨⟨⟨ha1,ha2⟩,ha3⟩,ha4⟩:=hat;subst ha1 hk;obtain⟨y,rfl⟩:=kQ hl1;have he:chkE k b y=true:=he
  have p:PE X (.Call (.Attribute ob "index" ap) [y] [] cp) (tD X.K C (.lix a b)):=by
   refine PE.imp (λτ H Q w=>?_) (Ka mE PySem.F.slot_list_index PySem.F.type_list_index VJ (sB ok a ob ha4).1 (jw (sB ok b y he).1 jX (jv he _ _)) (Ko ha2) (by rw[jv he];rfl) ha3 (jv he _ _) rfl);obtain⟨σ,O,R,w⟩:=w;refine⟨σ,O,R,ja a (λd wd x H1 s1 i1=>?_) w⟩
   cases d<;>first|exact wd.elim|skip
   obtain⟨c,vs,rfl,h1,h2⟩:=jK i1;refine⟨.inl ⟨rfl,vs,(jg _ _).seq h1⟩,σ,O,R.mono s1,ja b (λd2 wd2 x2 H2 s2 i2=>?_) wd⟩
   cases d2<;>first|exact wd2.elim|skip
   obtain⟨ns,j,rfl,⟨hn,hj,hno⟩,q⟩:=wd2;cases jz i2;cases x5 h2;exact⟨c,ns,_,j,rfl,rfl,(jg _ _).seq ((jd s2).seq h1),⟨hj,hno⟩,q _ _ (s1.trans s2) (jG _)⟩
  exact⟨p,j6 p λ_=>rfl⟩
 |X,k,ok,.ix a b,e,h=>by
  replace h:=jb h;obtain⟨⟨v,i⟩,hx,h⟩:=h;obtain⟨pos,rfl⟩:=yS hx;simp only[bg,b8]at h;have p:PE X (.Subscript v i pos) (tD X.K C (.ix a b)):=PE.imp (t':=tD X.K C (.ix a b)) (λτ H Q ⟨σ,O,R,w⟩=>by exact Qr (f:=ixD) Ju R w) (jbo ix_D (sB ok a _ h.1.2).1 (sB ok b _ h.2).1 (Ud h.1.1))
  exact⟨p,j6 p λ_=>rfl⟩
 |X,k,ok,.call f es,e,h=>by
  replace h:=jb h;obtain⟨⟨x,xs,pos⟩,hx,h⟩:=h;obtain⟨q,rfl⟩:=jL hx;simp only[bg,decide_eq_true_eq]at h;obtain⟨⟨⟨h1,h2⟩,hne⟩,h4⟩:=h;obtain⟨y,ys,rfl⟩:=xk hne;obtain⟨g1,g2,g3⟩:=ok.gl h2;obtain⟨fa,fd,ps,lv,F,hr,hm,hk,hb⟩:=ok.fns f x _ h1
  have hs:bQ (y::ys) X.env=(false,eval y X.env)::bQ ys X.env/\(backTo pos (bQ ys X.env)).any (·.1)=false:=by
   cases es with
   |nil=>have:=jZ h4;cases this
   |cons z zs =>
    obtain⟨y',ys',e',h5,h6⟩:=jM h4;cases e';exact⟨jv h5 _ _,kr h6 _ _⟩
  have p:PE X (.Call (.Name x q) (y::ys) [] pos) (tD X.K C (.call f es)):=by
   refine PE.imp (λτ H Q w=>?_) (y8 (CX:=CXz X.prog X.w X.mg) (E:=E0) (dvs:=[]) F hr g1 hm hk hb .nil Kt (sA ok es _ h4) g2 hs.1 hs.2);obtain⟨σ,O,R,w⟩:=w;refine⟨σ,O,R,jr es (λds ⟨hl,wd⟩ vs H1 s1 i1=>?_) (xy es w)⟩;show spD X.K (y::ys).length (C.fr f) (C.f2 f) (C.ct f) (vs ++ []) H1 Q E0;rw[dM];exact⟨O,ds,by rw[hl,zq h4],(R.mono s1).own,i1,wd.1,λd r=>((wd.2.1 d r).mono s1).rw (R.mono s1).own,λx hx=>(ok.E x (wd.2.2 x hx)).elim⟩
  exact⟨p,j6 p λ_=>rfl⟩
 |X,k,ok,.bi f es,e,h=>by
  replace h:=jb h;obtain⟨⟨x,xs,pos⟩,hx,h⟩:=h;obtain⟨q,rfl⟩:=jL hx;simp only[bg,decide_eq_true_eq]at h;obtain⟨⟨⟨h1,h2⟩,hne⟩,h4⟩:=h;obtain⟨y,ys,rfl⟩:=xk hne;subst h1;obtain⟨g1,g2,g3⟩:=ok.gl h2;have hm:=ok.blt _ (jbK f)
  have hs:bQ (y::ys) X.env=(false,eval y X.env)::bQ ys X.env/\(backTo pos (bQ ys X.env)).any (·.1)=false:=by
   cases es with
   |nil=>have:=jZ h4;cases this
   |cons z zs =>
    obtain⟨y',ys',e',h5,h6⟩:=jM h4;cases e';exact⟨jv h5 _ _,kr h6 _ _⟩
  have w':∀τ H Q,tD X.K C (.bi f es) τ H Q->tCB (cD X.K (biD f)) (tDs X.K C es) τ H Q:=by
   rintro τ H Q ⟨σ,O,R,w⟩;exact⟨σ,O,R,jr es (λds wd vs H1 s1 i1=>⟨O,ds,(R.mono s1).own,i1,Xg (λd=>Wd.mono s1) wd⟩) w⟩
  have cb:xD X f.val (cD X.K (biD f)):=call_bi ok.calm
  have p:PE X (.Call (.Name f.nm q) (y::ys) [] pos) (tD X.K C (.bi f es)):=by
   cases f with
   |abs=>exact PE.imp w' (kR (id:="abs") cb g1 hm PyProof.Rows.boot_abs (sA ok es _ h4) g3 g2 hs.1 hs.2)
   |max=>exact PE.imp w' (kR (id:="max") cb g1 hm PyProof.Rows.boot_max (sA ok es _ h4) g3 g2 hs.1 hs.2)
   |min=>exact PE.imp w' (kR (id:="min") cb g1 hm PyProof.Rows.boot_min (sA ok es _ h4) g3 g2 hs.1 hs.2)
   |len=>exact PE.imp w' (kR (id:="len") cb g1 hm PySem.boot_len (sA ok es _ h4) g3 g2 hs.1 hs.2)
   |int=>exact PE.imp w' (xh (T:="int") cb g1 hm t9 (sA ok es _ h4) g3 g2 hs.1 hs.2)
   |list=>exact PE.imp w' (xh (T:="list") cb g1 hm mZ (sA ok es _ h4) g3 g2 hs.1 hs.2)
   |sum=>exact PE.imp w' (kR (id:="sum") cb g1 hm PyProof.Rows.boot_sum (sA ok es _ h4) g3 g2 hs.1 hs.2)
   |all=>exact PE.imp w' (kR (id:="all") cb g1 hm PyProof.Rows.boot_all (sA ok es _ h4) g3 g2 hs.1 hs.2)
  exact⟨p,j6 p λ_=>rfl⟩
 |X,k,ok,.meth m o,e,h=>by
  replace h:=jb h;obtain⟨⟨fe,xs,ks,pos⟩,hx,h⟩:=h;have ee:=qY hx;subst ee;simp only[bg]at h;obtain⟨⟨n1,n2⟩,h⟩:=h;replace h:=jb h;obtain⟨⟨v,x,ap⟩,hy,h⟩:=h;have ee:=qU hy;subst ee;simp only[bg,decide_eq_true_eq]at h
  match xs,n1,ks,n2 with
  |[],_,[],_ =>
   obtain⟨⟨⟨h1,h2⟩,h3⟩,h4⟩:=h;subst h1
   have p:PE X (.Call (.Attribute v m.nm ap) [] [] pos) (tD X.K C (.meth m o)):=by
    cases m with
    |bitlen =>
     refine PE.imp (λτ H Q w=>?_) (pe_bm0 (T:="int") PySem.F.plainAttrs_int PySem.F.slot_int_bit_length PySem.F.type_int_bit_length ja8 (sB ok o _ h4).1 (Ko h2) h3);obtain⟨σ,O,R,w⟩:=w;refine⟨σ,O,R,ja o (λd wd v H1 s1 i1=>?_) w⟩
     cases d with
     |int i=>cases jz i1;exact⟨rfl,rfl,i,rfl,wd _ _ s1 (jG _)⟩
     |_=>exact wd.elim
   exact⟨p,j6 p λ_=>rfl⟩
 |X,k,ok,.isi a t,e,h=>by
  replace h:=jb h;obtain⟨⟨x,xs,pos⟩,hx,h⟩:=h;obtain⟨q,rfl⟩:=jL hx;simp only[bg,decide_eq_true_eq]at h;obtain⟨⟨⟨⟨⟨h1,h2⟩,n1⟩,h3⟩,h4⟩,h5⟩:=h;obtain⟨y,ny,rfl⟩:=qj n1;obtain⟨q',rfl⟩:=jo h3;have h5:chkE k a y=true:=h5
  try simp only at h1 h2
  subst h1;obtain⟨g1,g2,g3⟩:=ok.gl h2;obtain⟨k1,k2,k3⟩:=ok.gl h4;have pn:PE X (.Name t.nm q') (tC (.ty t.s)):=Zw k1 (ok.blt _ (ty_blt t)) (ty_boot t) rfl k3 k2
  have p:PE X (.Call (.Name "isinstance" q) [y,.Name t.nm q'] [] pos) (tD X.K C (.isi a t)):=by
   refine PE.imp (λτ H Q w=>?_) (kR (U5 (t:=t)) g1 (ok.blt _ (by decide)) mV (jw (sB ok a _ h5).1 (jw pn jX rfl) (jv h5 _ _)) g3 g2 (jv h5 _ _) rfl);obtain⟨σ,O,R,w⟩:=w;exact⟨σ,O,R,ja a (λd wd v H1 s1 i1=>⟨O,d,v,rfl,i1,wd.mono s1⟩) w⟩
  exact⟨p,j6 p λ_=>rfl⟩
 |X,k,ok,.compR es b,e,h=>by
  replace h:=jb h;obtain⟨⟨elt,x,iter,sc⟩,hz,h⟩:=h;obtain⟨px,pos,rfl⟩:=kW hz;simp only[bg]at h;obtain⟨⟨h1,h2⟩,h3⟩:=h;replace h2:=jb h2;obtain⟨⟨f,args,p2⟩,hcn,h2⟩:=h2;obtain⟨q,e2⟩:=jL hcn;subst e2;simp only[bg,decide_eq_true_eq,b8]at h2;obtain⟨⟨⟨hf,hg⟩,hne⟩,ha⟩:=h2;subst hf;obtain⟨g1,_,_⟩:=ok.gl hg
  have p:PE X (.ListComp elt [⟨.Name x px,.Call (.Name "range" q) args [] p2,[],0⟩] sc pos) (tD X.K C (.compR es b)):=by
   cases args with
   |nil=>simp at hne
   |cons y ys =>
    have hs:bQ (y::ys) X.env=(false,eval y X.env)::bQ ys X.env/\(backTo p2 (bQ ys X.env)).any (·.1)=false:=by
     cases es with
     |nil=>have:=jZ ha;cases this
     |cons z zs =>
      obtain⟨y',ys',e',h5,h6⟩:=jM ha;cases e';exact⟨jv h5 _ _,kr h6 _ _⟩
    intro pins s τ H Q I w;obtain⟨cl,co⟩:=ok.comp h1 I.ok;refine xJ (te:=tD X.K C b) ok.calm ok.nd (ok.comp_nE h1) co (Kb g1 (ok.blt _ (by decide)) (sA ok es _ ha) hs.1 hs.2) (λ_ _ _ _=>qH) (λs H fp Ca=>(sB (ok.block h1 co s H fp Ca) b elt h3).1) (λ_=>rfl) pins s τ H Q I ?_;obtain⟨σ,O,R,w⟩:=w;refine⟨σ,O,R,jr es (λds wd vs H1 s1 i1=>?_) w⟩;obtain⟨lo,hi,st,e,c,hx,wd⟩:=uT i1 wd;refine⟨lo,hi,st,e,c,?_⟩;refine yg (R.mono s1) hx ?_ ?_ ?_ (jY (f:=λd Q=>wpE C b (σ ++ [some (.sh d)]) Q) (λd _ _ hq=>ja b hq) _ (λys wy=>wy.mono s1) wd)
    ·intro j H _ hj;rw[jn]at hj;exact hj
    ·intro j H _ hj;rw[jn]at hj;exact hj
    ·intro j H v H' d _ y hd;obtain⟨e1,e2⟩:=y
     have hj:j<(if lo<hi then (hi-lo-1) / st+1 else 0).toNat:=by
      rcases bU j (if lo<hi then (hi-lo-1) / st+1 else 0).toNat with z|z
      ·exact z
      ·rw[bG (by rw[jn];exact z)]at hd;cases hd
     rw[k8 _ _ _ _ hj]at hd;cases hd;exact⟨e1,by rw[e2];exact jG _⟩
  exact⟨p,j6 p λ_=>rfl⟩
 |X,k,ok,.compE a b,e,h=>by
  replace h:=jb h;obtain⟨⟨elt,x,iter,sc⟩,hz,h⟩:=h;obtain⟨px,pos,rfl⟩:=kW hz;simp only[bg,b8]at h;obtain⟨⟨⟨h1,hn⟩,ha⟩,h3⟩:=h
  have p:PE X (.ListComp elt [⟨.Name x px,iter,[],0⟩] sc pos) (tD X.K C (.compE a b)):=by
   intro pins s τ H Q I w;obtain⟨cl,co⟩:=ok.comp h1 I.ok;refine xJ (te:=tD X.K C b) ok.calm ok.nd (ok.comp_nE h1) co (yp (sB ok a iter ha).1) (λ_ _ _ _=>qH) (λs H fp Ca=>(sB (ok.block h1 co s H fp Ca) b elt h3).1) (qB hn _) pins s τ H Q I ?_;obtain⟨σ,O,R,w⟩:=w;refine⟨σ,O,R,ja a (λd wd v H1 s1 i1=>?_) w⟩;obtain⟨xs,e1,hx,wd⟩:=wd;have wd':=jY (f:=λd Q=>wpE C b (σ ++ [some (.sh d)]) Q) (λd _ _ hq=>ja b hq) _ (λys (wy:Wd X.K O H Q (.lst ys))=>wy.mono s1) wd;obtain⟨J,hw,g1,g2,g3⟩:=walk_of e1 i1;exact⟨J,hw,yg (R.mono s1) hx (λj H2 s2=>g1 j H2 O (jd s2)) (λj H2 s2=>g2 j H2 O (jd s2)) (λj H2 v H' d s2=>g3 j H2 O v H' d (jd s2)) wd'⟩
  exact⟨p,j6 p λ_=>rfl⟩
 |X,k,ok,.compF a c b,e,h=>by
  replace h:=jb h;obtain⟨⟨elt,x,iter,sc,cnd⟩,hz,h⟩:=h;obtain⟨px,pos,rfl⟩:=uc hz;simp only[bg,b8]at h;obtain⟨⟨⟨⟨h1,hn⟩,ha⟩,hcd⟩,h3⟩:=h
  have p:PE X (.ListComp elt [⟨.Name x px,iter,[cnd],0⟩] sc pos) (tD X.K C (.compF a c b)):=by
   intro pins s τ H Q I w;obtain⟨cl,co⟩:=ok.comp h1 I.ok;exact xJ (te:=tD X.K C b) ok.calm ok.nd (ok.comp_nE h1) co (yp (sB ok a iter ha).1) (λs H fp Ca=>vB (sB (ok.block h1 co s H fp Ca) c cnd hcd).2) (λs H fp Ca=>(sB (ok.block h1 co s H fp Ca) b elt h3).1) (qB hn _) pins s τ H Q I (u9 w)
  exact⟨p,j6 p λ_=>rfl⟩
 |X,k,ok,.oix i a,e,h=>by
  replace h:=jb h;obtain⟨⟨ob,ix⟩,hx,h⟩:=h;obtain⟨pos,rfl⟩:=yS hx;simp only[bg,b8]at h;obtain⟨⟨h1,h2⟩,h3⟩:=h;replace h2:=jb h2;obtain⟨x,hn,h2⟩:=h2;obtain⟨q,rfl⟩:=jo hn;obtain⟨k1,k2,k3,k4⟩:=ok.vis h2
  have p:PE X (.Subscript (.Name x q) ix pos) (tD X.K C (.oix i a)):=by
   refine PE.imp (λτ H Q w=>?_) (jbo L2.ix_list (kh k1 (qI k2) k3 k4) (sB ok a ix h3).1 (Ud h1));obtain⟨σ,O,R,w⟩:=w;rw[wE_oix]at w
   cases g:getS σ i with
   |none=>rw[g]at w;exact w.elim
   |some z =>
    rw[g]at w
    cases z with
    |sh d=>exact w.elim
    |ot _=>exact w.elim
    |ow ds =>
     obtain⟨ad,vs,e1,e2,e3,e4⟩:=R.ow i ds g;refine⟨.ref ad,e1,σ,O,R,ja a (λy wy v H1 s1 i1=>?_) w⟩
     cases y with
     |int n =>
      obtain⟨d,e5,wd⟩:=wy;cases jz i1;obtain⟨u,e6,i6⟩:=jay e4 e5
      exact⟨ad,vs,n,u,rfl,rfl,SqL.of (s1 _ _ e3),e6,wd u H1 s1 (Is.mono (jd s1) d i6)⟩
     |_=>exact wy.elim
  exact⟨p,j6 p λ_=>rfl⟩
 |X,k,ok,.compZ a b c,e,h=>by
  replace h:=jb h;obtain⟨⟨elt,x,iter,sc⟩,hz,h⟩:=h;obtain⟨px,pos,rfl⟩:=kW hz;simp only[bg]at h;obtain⟨⟨h1,h2⟩,h3⟩:=h;replace h2:=jb h2;obtain⟨⟨f,args,p2⟩,hcn,h2⟩:=h2;obtain⟨q,e2⟩:=jL hcn;subst e2;simp only[bg,decide_eq_true_eq]at h2;obtain⟨⟨⟨⟨hf,hg⟩,hn⟩,ha⟩,hb⟩:=h2;subst hf;obtain⟨g1,_,_⟩:=ok.gl hg;obtain⟨y1,y2,rfl⟩:=qj hn;have ha:chkE k a y1=true:=ha;have hb:chkE k b y2=true:=hb
  have p:PE X (.ListComp elt [⟨.Name x px,.Call (.Name "zip" q) [y1,y2] [] p2,[],0⟩] sc pos) (tD X.K C (.compZ a b c)):=by
   intro pins s τ H Q I w;obtain⟨cl,co⟩:=ok.comp h1 I.ok;refine xJ (te:=tD X.K C c) ok.calm ok.nd (ok.comp_nE h1) co (jbD g1 (ok.blt _ (by decide)) (jw (sB ok a y1 ha).1 (jw (sB ok b y2 hb).1 jX (jv hb _ _)) (jv ha _ _)) (jv ha _ _) (by rw[jv hb];rfl)) (λ_ _ _ _=>qH) (λs H fp Ca=>(sB (ok.block h1 co s H fp Ca) c elt h3).1) (λ_=>rfl) pins s τ H Q I ?_;obtain⟨σ,O,R,w⟩:=w;refine⟨σ,O,R,ja a (λd wd v H1 s1 i1=>⟨σ,O,R.mono s1,ja b (λd2 wd2 v2 H2 s2 i2=>?_) wd⟩) w⟩;obtain⟨xs,ys,⟨rfl,rfl⟩,hx,wz⟩:=wd2;have i1':=Is.mono (jd s2) _ i1;obtain⟨ad,vs,rfl,hq,hv⟩:=jK i1';obtain⟨ad2,ws,rfl,hq2,hv2⟩:=jK i2;have hq':=(jg _ _).seq hq;have hq2':=(jg _ _).seq hq2;have s12:=s1.trans s2;exact⟨ad,ad2,rfl,⟨vs,hq'⟩,⟨ws,hq2'⟩,J1 (R.mono s12) hx hq' hq2' hv hv2 (jY (f:=λd Q=>wpE C c (σ ++ [some (.sh d)]) Q) (λd _ _ hq=>ja c hq) _ (λys wy=>wy.mono s12) wz)⟩
  exact⟨p,j6 p λ_=>rfl⟩
theorem sA:∀ {X:Cx} {k:Ck} (ok:Ok X k C) (xs:List Ex) (es:List Expr),qg k xs es=true->PA X es (tDs X.K C xs)
 |X,k,ok,[],es,h=>by
  rw[jZ h]
  exact PA.imp (λτ H Q ⟨σ,O,R,w⟩=>by unfold wpEs at w;exact w _ _ (jf.refl H) (by unfold Iss;rfl)) jX
 |X,k,ok,x::xs,es,h=>by
  obtain⟨e,es,rfl,h1,h2⟩:=jM h;refine PA.imp (λτ H Q w=>?_) (jw (sB ok x e h1).1 (sA ok xs es h2) (jv h1 _ _));obtain⟨σ,O,R,w⟩:=w;unfold wpEs at w;exact⟨σ,O,R,ja x (λd wd v H1 s1 i1=>⟨σ,O,R.mono s1,jr xs (λds wds vs H2 s2 i2=>wds _ _ (s1.trans s2) (by unfold Iss;exact⟨v,vs,rfl,Is.mono (jd s2) d i1,i2⟩)) wd⟩) w⟩
end
def uC(e:Expr):Bool:=(Vw e).isSome
theorem YO(ok:Ok X k C)(z:Ex)(e:Expr)(h:chkE k z e=true)(hc:uC e=true):∃(x:Str) (px:Pos) (iter elt:Expr) (ifs:List Expr) (sc:Scope) (pos:Pos) (wi:TI) (tt:TT) (te:TE),e=.ListComp elt [⟨.Name x px,iter,ifs,0⟩] sc pos/\qN k x sc=true/\PI X (.Name x px) iter wi/\(∀v,mS iter X.env v=pure v) /\
 (∀cl,CompOk X x sc cl->(∀s H fp Ca,PTs (qy X s H fp x sc cl Ca) ifs tt)/\∀s H fp Ca,PE (qy X s H fp x sc cl Ca) elt te)/\∀τ H Q,tD X.K C z τ H Q->yD wi tt te τ H Q:=by
 cases z with
 |compR es b =>
  replace h:=jb h;obtain⟨⟨elt,x,iter,sc⟩,hz,h⟩:=h;obtain⟨px,pos,rfl⟩:=kW hz;simp only[bg]at h;obtain⟨⟨h1,h2⟩,h3⟩:=h;replace h2:=jb h2;obtain⟨⟨f,args,p2⟩,hcn,h2⟩:=h2;obtain⟨q,e2⟩:=jL hcn;subst e2;simp only[bg,decide_eq_true_eq,b8]at h2;obtain⟨⟨⟨hf,hg⟩,hne⟩,ha⟩:=h2;subst hf;obtain⟨g1,_,_⟩:=ok.gl hg
  cases args with
  |nil=>simp at hne
  |cons y ys =>
   have hs:bQ (y::ys) X.env=(false,eval y X.env)::bQ ys X.env/\(backTo p2 (bQ ys X.env)).any (·.1)=false:=by
    cases es with
    |nil=>have:=jZ ha;cases this
    |cons z zs =>
     obtain⟨y',ys',e',h5,h6⟩:=jM ha;cases e';exact⟨jv h5 _ _,kr h6 _ _⟩
   refine⟨x,px,_,elt,[],sc,pos,_,tYes,tD X.K C b,rfl,h1,Kb g1 (ok.blt _ (by decide)) (sA ok es _ ha) hs.1 hs.2,λ_=>rfl,λcl co=>⟨λ_ _ _ _=>qH,λs H fp Ca=>(sB (ok.block h1 co s H fp Ca) b elt h3).1⟩,λτ H Q w=>?_⟩;obtain⟨σ,O,R,w⟩:=w;refine⟨σ,O,R,jr es (λds wd vs H1 s1 i1=>?_) w⟩;obtain⟨lo,hi,st,e,c,hx,wd⟩:=uT i1 wd;refine⟨lo,hi,st,e,c,?_⟩;refine yg (R.mono s1) hx ?_ ?_ ?_ (jY (f:=λd Q=>wpE C b (σ ++ [some (.sh d)]) Q) (λd _ _ hq=>ja b hq) _ (λys wy=>wy.mono s1) wd)
   ·intro j H _ hj;rw[jn]at hj;exact hj
   ·intro j H _ hj;rw[jn]at hj;exact hj
   ·intro j H v H' d _ y hd;obtain⟨e1,e2⟩:=y
    have hj:j<(if lo<hi then (hi-lo-1) / st+1 else 0).toNat:=by
     rcases bU j (if lo<hi then (hi-lo-1) / st+1 else 0).toNat with z|z
     ·exact z
     ·rw[bG (by rw[jn];exact z)]at hd;cases hd
    rw[k8 _ _ _ _ hj]at hd;cases hd
    exact⟨e1,by rw[e2];exact jG _⟩
 |compF a c b =>
  replace h:=jb h;obtain⟨⟨elt,x,iter,sc,cnd⟩,hz,h⟩:=h;obtain⟨px,pos,rfl⟩:=uc hz;simp only[bg,b8]at h;obtain⟨⟨⟨⟨h1,hn⟩,ha⟩,hcd⟩,h3⟩:=h
  exact⟨x,px,iter,elt,[cnd],sc,pos,_,_,tD X.K C b,rfl,h1,yp (sB ok a iter ha).1,qB hn _,λcl co=>⟨λs H fp Ca=>vB (sB (ok.block h1 co s H fp Ca) c cnd hcd).2,λs H fp Ca=>(sB (ok.block h1 co s H fp Ca) b elt h3).1⟩,λτ H Q w=>u9 w⟩
 |compE a b =>
  replace h:=jb h;obtain⟨⟨elt,x,iter,sc⟩,hz,h⟩:=h;obtain⟨px,pos,rfl⟩:=kW hz;simp only[bg,b8]at h;obtain⟨⟨⟨h1,hn⟩,ha⟩,h3⟩:=h;refine⟨x,px,iter,elt,[],sc,pos,_,tYes,tD X.K C b,rfl,h1,yp (sB ok a iter ha).1,qB hn _,λcl co=>⟨λ_ _ _ _=>qH,λs H fp Ca=>(sB (ok.block h1 co s H fp Ca) b elt h3).1⟩,λτ H Q w=>?_⟩;obtain⟨σ,O,R,w⟩:=w;refine⟨σ,O,R,ja a (λd wd v H1 s1 i1=>?_) w⟩;obtain⟨xs,e1,hx,wd⟩:=wd;have wd':=jY (f:=λd Q=>wpE C b (σ ++ [some (.sh d)]) Q) (λd _ _ hq=>ja b hq) _ (λys (wy:Wd X.K O H Q (.lst ys))=>wy.mono s1) wd;obtain⟨J,hw,g1,g2,g3⟩:=walk_of e1 i1
  exact⟨J,hw,yg (R.mono s1) hx (λj H2 s2=>g1 j H2 O (jd s2)) (λj H2 s2=>g2 j H2 O (jd s2)) (λj H2 v H' d s2=>g3 j H2 O v H' d (jd s2)) wd'⟩
 |compZ a b c =>
  replace h:=jb h;obtain⟨⟨elt,x,iter,sc⟩,hz,h⟩:=h;obtain⟨px,pos,rfl⟩:=kW hz;simp only[bg]at h;obtain⟨⟨h1,h2⟩,h3⟩:=h;replace h2:=jb h2;obtain⟨⟨f,args,p2⟩,hcn,h2⟩:=h2;obtain⟨q,e2⟩:=jL hcn;subst e2;simp only[bg,decide_eq_true_eq]at h2;obtain⟨⟨⟨⟨hf,hg⟩,hn⟩,ha⟩,hb⟩:=h2;subst hf;obtain⟨g1,_,_⟩:=ok.gl hg;obtain⟨y1,y2,rfl⟩:=qj hn;have ha:chkE k a y1=true:=ha;have hb:chkE k b y2=true:=hb;refine⟨x,px,_,elt,[],sc,pos,_,tYes,tD X.K C c,rfl,h1,jbD g1 (ok.blt _ (by decide)) (jw (sB ok a y1 ha).1 (jw (sB ok b y2 hb).1 jX (jv hb _ _)) (jv ha _ _)) (jv ha _ _) (by rw[jv hb];rfl),λ_=>rfl,λcl co=>⟨λ_ _ _ _=>qH,λs H fp Ca=>(sB (ok.block h1 co s H fp Ca) c elt h3).1⟩,λτ H Q w=>?_⟩;obtain⟨σ,O,R,w⟩:=w;refine⟨σ,O,R,ja a (λd wd v H1 s1 i1=>⟨σ,O,R.mono s1,ja b (λd2 wd2 v2 H2 s2 i2=>?_) wd⟩) w⟩;obtain⟨xs,ys,⟨rfl,rfl⟩,hx,wz⟩:=wd2;have i1':=Is.mono (jd s2) _ i1;obtain⟨ad,vs,rfl,hq,hv⟩:=jK i1';obtain⟨ad2,ws,rfl,hq2,hv2⟩:=jK i2;have hq':=(jg _ _).seq hq;have hq2':=(jg _ _).seq hq2;have s12:=s1.trans s2
  exact⟨ad,ad2,rfl,⟨vs,hq'⟩,⟨ws,hq2'⟩,J1 (R.mono s12) hx hq' hq2' hv hv2 (jY (f:=λd Q=>wpE C c (σ ++ [some (.sh d)]) Q) (λd _ _ hq=>ja c hq) _ (λys wy=>wy.mono s12) wz)⟩
 |_ =>
  exfalso;obtain⟨⟨a,b,c⟩,q⟩:=jcQ.mp hc;obtain⟨p,rfl⟩:=jbs q
  first|exact bK (show false=true from h)|(obtain⟨y,hy,_⟩:=jb h;first|cases hy|(simp[j9,xq]at hy))
end
def xV:Stmt->Option (List Expr×Expr)
 |.Assign ts v _=>some (ts,v)
 |_=>none
def Jh:Stmt->Option (Option Expr)
 |.Return v _=>some v
 |_=>none
def Zu:Stmt->Option (Expr×List Stmt×List Stmt)
 |.If t x y _=>some (t,x,y)
 |_=>none
def asWhl:Stmt->Option (Expr×List Stmt×List Stmt)
 |.While t x y _=>some (t,x,y)
 |_=>none
def JQ:Stmt->Option (Expr×Expr×List Stmt×List Stmt)
 |.For t i x y _=>some (t,i,x,y)
 |_=>none
def isBrk:Stmt->Bool
 |.Break _=>true
 |_=>false
def isCnt:Stmt->Bool
 |.Continue _=>true
 |_=>false
def QZ:Stmt->Option Expr
 |.Expr e _=>some e
 |_=>none
local macro_rules | `(tactic|exists $r,$h:ident,$e:ident)=>`(tactic|(refine Z.inv $r $h ?_;clear $h;(first|induction $e:ident using jek|induction $e:ident using jel)<;>first|exact Z.nI rfl|(intro x h;cases h;first|rfl|exact⟨_,rfl⟩|exact⟨_,_,rfl⟩)))
theorem Qy{s:Stmt}(h:QZ s=some e):∃p,s=.Expr e p:=by exists (λx e=>∃p,e=.Expr x p),h,s
def z7:Sm->Bool
 |.shr _=>true
 |.shrT _=>true
 |.hlfT _=>true
 |_=>false
theorem isShr_{s:Sm}(h:z7 s=true):∃i,s=.shr i\/s=.shrT i\/s=.hlfT i:=by cases s<;>first|exact⟨_,.inl rfl⟩|exact⟨_,.inr (.inl rfl)⟩|exact⟨_,.inr (.inr rfl)⟩|exact bK h
variable{ts:List Expr}
theorem xl{s:Stmt}{v:Expr}(h:xV s=some (ts,v)):∃p,s=.Assign ts v p:=by exists (λx e=>∃p,e=.Assign x.1 x.2 p),h,s
theorem uP{s:Stmt}{v:Option Expr}(h:Jh s=some v):∃p,s=.Return v p:=by exists (λx e=>∃p,e=.Return x p),h,s
variable{x y:List Stmt}
theorem Y7{s:Stmt}(h:Zu s=some (t,x,y)):∃p,s=.If t x y p:=by exists (λx e=>∃p,e=.If x.1 x.2.1 x.2.2 p),h,s
theorem asWhl_{s:Stmt}(h:asWhl s=some (t,x,y)):∃p,s=.While t x y p:=by exists (λx e=>∃p,e=.While x.1 x.2.1 x.2.2 p),h,s
theorem Js{s:Stmt}{i:Expr}(h:JQ s=some (t,i,x,y)):∃p,s=.For t i x y p:=by exists (λx e=>∃p,e=.For x.1 x.2.1 x.2.2.1 x.2.2.2 p),h,s
theorem isBrk_{s:Stmt}:isBrk s=true->∃p,s=.Break p:=by induction s using Stmt.casesOn<;>first|exact bK|exact λ_=>⟨_,rfl⟩
theorem isCnt_{s:Stmt}:isCnt s=true->∃p,s=.Continue p:=by induction s using Stmt.casesOn<;>first|exact bK|exact λ_=>⟨_,rfl⟩
def zX(ts:List Expr):Option Expr:=if ts.length=1 then ts[0]? else none
theorem yJ(h:zX ts=some t):ts=[t]:=by
 unfold zX at h
 match ts with
 |[]=>simp at h
 |[a]=>simp at h;rw[h]
 |_::_::_=>simp at h
def Zs(ts:List Stmt):Option Stmt:=if ts.length=1 then ts[0]? else none
theorem ja9{ts:List Stmt}{t:Stmt}(h:Zs ts=some t):ts=[t]:=by
 unfold Zs at h;split at h
 ·next hl =>
  match ts,hl with
  |[x],_=>simp at h;rw[h]
 ·cases h
def frE:Ex->Bool
 |.bin .add _ _=>true
 |.bi .list _=>true
 |_=>false
def frL:Ex->Bool
 |.compR _ _=>true
 |.compE _ _=>true
 |.slc _ _ _=>true
 |x=>frE x
def frI:Ex->Bool
 |.call _ _=>true
 |x=>frL x
def frG:Ex->Bool
 |.compR _ b=>frI b
 |.compE _ b=>frI b
 |_=>false
def Jm(k:Ck):List Nat->List Expr->Bool
 |[],es=>es.isEmpty
 |i::is,es=>!es.isEmpty&&((ju (es.getD 0 (.Tuple [] 0 ⟨0,0,0,0⟩))).any λx=>k.loc i x)&&Jm k is (es.drop 1)
theorem XX{is:List Nat}(h:Jm k (i::is) es=true):∃x p ys,es=.Name x p::ys/\k.loc i x=true/\Jm k is ys=true:=by
 rw[Jm]at h
 cases es with
 |nil=>simp at h
 |cons y ys =>
  simp only[bg,dZ,gC]at h;obtain⟨x,hx,hl⟩:=jb h.1.2;have hx':ju y=some x:=hx;obtain⟨p,rfl⟩:=jo hx';exact⟨x,p,ys,rfl,hl,h.2⟩
def vg(k:Ck)(j:Nat):RSt->Stmt->Bool
 |.app v,s=>(QZ s).any λz=>(xq z).any λc=>c.2.2.1.isEmpty&&decide (c.2.1.length=1)&&((xA c.1).any λy=>decide (y.2.1=("append":Str))&&((ju y.1).any λx=>k.loc j x)&&(y.2.2.endLine == c.2.2.2.line))&&chkE k v (c.2.1.getD 0 z)
 |.sto none e v,s=>(xV s).any λz=>(zX z.1).any λt=>(vc t).any λu=>!ze u.2 && !uC z.2&&((ju u.1).any λx=>k.loc j x)&&chkE k e u.2&&chkE k v z.2
 |.sto (some c) e v,s=>(Zu s).any λy=>y.2.2.isEmpty&&chkE k c y.1&&(Zs y.2.1).any λs=>(xV s).any λz=>(zX z.1).any λt=>(vc t).any λu=>!ze u.2 && !uC z.2&&((ju u.1).any λx=>k.loc j x)&&chkE k e u.2&&chkE k v z.2
def jb9(k:Ck)(j:Nat):List RSt->List Stmt->Bool
 |[],ss=>ss.isEmpty
 |r::rs,ss=>!ss.isEmpty&&vg k j r (ss.getD 0 (.Pass ⟨0,0,0,0⟩))&&jb9 k j rs (ss.drop 1)
mutual
noncomputable def q9(k:Ck):Sm->Stmt->Bool
 |.set i e,s=>(xV s).any λz=>(zX z.1).any λt=>(ju t).any λx=>k.loc i x&&chkE k e z.2
 |.unp is e,s=>(xV s).any λz=>(zX z.1).any λt=>(QW t).any λts=>Jm k is ts&&(QW z.2).isNone&&chkE k e z.2
 |.ret e,s=>(Jh s).any λv=>v.any λv=>chkE k e v
 |.ite c a b,s=>(Zu s).any λz=>chkE k c z.1&&yz k a z.2.1&&yz k b z.2.2
 |.whl c b,s=>(asWhl s).any λz=>z.2.2.isEmpty&&chkE k c z.1&&yz k b z.2.1
 |.forR i es b,s=>(JQ s).any λz=>(ju z.1).any λx=>(j9 z.2.1).any λc=>z.2.2.2.isEmpty&&k.loc i x&&decide (c.1=("range":Str))&&k.gl c.1 && !c.2.1.isEmpty&&qg k es c.2.1&&yz k b z.2.2.1
 |.forE i e b,s=>(JQ s).any λz=>(ju z.1).any λx=>z.2.2.2.isEmpty&&k.loc i x && !Ui z.2.1&&chkE k e z.2.1&&yz k b z.2.2.1
 |.brk,s=>isBrk s
 |.cnt,s=>isCnt s
 |.never,_=>true
 |.new i,s=>(xV s).any λz=>(zX z.1).any λt=>(ju t).any λx=>k.loc i x&&(Ku z.2).any (·.isEmpty)
 |.app i e,s=>(QZ s).any λz=>(xq z).any λc=>c.2.2.1.isEmpty&&decide (c.2.1.length=1)&&((xA c.1).any λy=>decide (y.2.1=("append":Str))&&((ju y.1).any λx=>k.loc i x)&&(y.2.2.endLine == c.2.2.2.line))&&chkE k e (c.2.1.getD 0 z)
 |.sto i e v,s=>(xV s).any λz=>(zX z.1).any λt=>(vc t).any λu=>!ze u.2&&((ju u.1).any λx=>k.loc i x)&&chkE k e u.2&&chkE k v z.2
 |.shr _,_=>false
 |.raiseA _ _,_=>false
 |.retY _ _,_=>false
 |.ext i e,s=>(QZ s).any λz=>(xq z).any λc=>c.2.2.1.isEmpty&&decide (c.2.1.length=1)&&((xA c.1).any λy=>decide (y.2.1=("extend":Str))&&((ju y.1).any λx=>k.loc i x)&&(y.2.2.endLine == c.2.2.2.line))&&chkE k e (c.2.1.getD 0 z)
 |.forN i e b,s=>(JQ s).any λz=>(ju z.1).any λx=>(j9 z.2.1).any λc=>z.2.2.2.isEmpty&&k.loc i x&&decide (c.1=("enumerate":Str))&&k.gl c.1&&decide (c.2.1.length=1)&&chkE k e (c.2.1.getD 0 z.2.1)&&yz k b z.2.2.1
 |.forU i j m e,s=>(JQ s).any λz=>(ju z.1).any λx=>(ju z.2.1).any λy=>z.2.2.2.isEmpty&&k.loc i x&&k.loc j y&&decide (i≠j)&&decide (m≠j)&&(Zs z.2.2.1).any λb=>(xV b).any λq=>(zX q.1).any λt=>(ju t).any λu=>k.loc m u && !uC q.2&&chkE k e q.2
 |.retF e,s=>(Jh s).any λv=>v.any λv=>frL e&&chkE k e v
 |.retG e,s=>(Jh s).any λv=>v.any λv=>frG e&&chkE k e v
 |.setG i f es,s=>(xV s).any λz=>(zX z.1).any λt=>(ju t).any λx=>k.loc i x&&((j9 z.2).any λc=>decide (k.fns[f]?=some (c.1,c.2.1.length))&&k.gl c.1 && !c.2.1.isEmpty&&qg k es c.2.1)
 |.ownG i e,s=>(xV s).any λz=>(zX z.1).any λt=>(ju t).any λx=>k.loc i x&&frG e&&chkE k e z.2
 |.cpO _ i es c b,s=>(xV s).any λy=>(zX y.1).any λt=>(ju t).any λx=>k.loc i x&&((vm y.2).any λz=>qN k z.2.1 z.2.2.2.1&&((j9 z.2.2.1).any λc=>decide (c.1=("range":Str))&&k.gl c.1 && !c.2.1.isEmpty&&qg k es c.2.1)&&chkE (k.block z.2.1 z.2.2.2.1) c z.2.2.2.2&&chkE (k.block z.2.1 z.2.2.2.1) b z.1)
 |.forT j i ss,s=>(JQ s).any λz=>(ju z.1).any λx=>(ju z.2.1).any λy=>z.2.2.2.isEmpty&&k.loc j x&&k.loc i y&&decide (i≠j)&&jb9 k j ss z.2.2.1
 |.shrT _,_=>false
 |.hlfT _,_=>false
 |.nop,_=>false
 |.seq _ _,_=>false
noncomputable def yz(k:Ck):Sm->List Stmt->Bool
 |.nop,ss=>ss.isEmpty
 |.seq a b,ss=>if z7 a then yz k b ss else !ss.isEmpty&&q9 k a (ss.getD 0 (.Pass ⟨0,0,0,0⟩))&&yz k b (ss.drop 1)
 |_,_=>false
end
variable{ss:List Stmt}
theorem jal{a b:Sm}(hs:z7 a=true)(h:yz k (.seq a b) ss=true):yz k b ss=true:=by
 rw[yz,if_pos hs]at h;exact h
theorem UC{a b:Sm}(hs:z7 a=false)(h:yz k (.seq a b) ss=true):∃s r,ss=s::r/\q9 k a s=true/\yz k b r=true:=by
 rw[yz,if_neg (by rw[hs];decide)]at h
 cases ss with
 |nil=>simp at h
 |cons s r =>
  simp only[bg,dZ,gC]at h;exact⟨s,r,rfl,h.1.2,h.2⟩
structure Good (O₀:List Addr) (H₀:Hp) (O:List Addr) (H:Hp):Prop where
 same:jf H₀ H
 sub:∀a∈O₀,a∈O
 new:∀a∈O,a∈O₀\/H₀ a=none
variable{O₀:List Addr}{H₀:Hp}
theorem Good.mono(g:Good O₀ H₀ O H)(e:jf H H'):Good O₀ H₀ O H':=⟨g.same.trans e,g.sub,g.new⟩
def MT(O₀:List Addr)(H:Hp)(σ:Sto)(τ:L2.St):Prop:=∀(i:Nat) (rows:List (List D)) (a:Addr) (as:List Addr),getS σ i=some (.ot rows)->τ[i]?=some (some (.ref a))->H a=some (.lst (as.map .ref))->a ∉ O₀/\∀b∈as,b ∉ O₀
theorem MT.step(h:MT O₀ H σ τ)(hT:∀i rows,getS σ' i=some (.ot rows)->getS σ i=some (.ot rows)/\τ'[i]?=τ[i]?)
 (hH:∀i rows a,getS σ i=some (.ot rows)->τ[i]?=some (some (.ref a))->H' a=H a):MT O₀ H' σ' τ':=λi rows a as g e t=>by
 obtain⟨g0,e0⟩:=hT i rows g;rw[e0]at e;rw[hH i rows a g0 e]at t;exact h i rows a as g0 e t
theorem OT.same(h:OT K O H σ τ)(e:jf H H'):∀i rows a,getS σ i=some (.ot rows)->τ[i]?=some (some (.ref a))->H' a=H a:=λi rows a g q=>by
 obtain⟨b,as,e1,t,_⟩:=h.1 i rows g;rw[q]at e1;cases e1;rw[t.top];exact e _ _ t.top
structure RepS (O₀:List Addr) (K:bp) (O:List Addr) (H:Hp) (σ:Sto) (τ:L2.St):Prop extends Reps K O H σ τ where
 mine:∀i ds a,getS σ i=some (.ow ds)->τ[i]?=some (some (.ref a))->a ∉ O₀
 mineT:MT O₀ H σ τ
theorem RepS.mono(r:RepS O₀ K O H σ τ)(e:jf H H'):RepS O₀ K O H' σ τ:=⟨r.toReps.mono e,r.mine,r.mineT.step (λ_ _ g=>⟨g,rfl⟩) (r.tt.same e)⟩
def zj(K:bp)(O₀:List Addr)(H₀:Hp)(ex:XD->Prop)(D:Ends)(O:List Addr)(H:Hp):DE where
 xn:=ex
 nx σ':=∀τ' H' O',Good O₀ H₀ O' H'->jf (je H O) (je H' O')->RepS O₀ K O' H' σ' τ'->D.nx τ' H'
 rt d:=∀v H',jf H₀ H'->Is K (je H' O₀) d v->D.rt v H'
 bk σ':=∀τ' H' O',Good O₀ H₀ O' H'->jf (je H O) (je H' O')->RepS O₀ K O' H' σ' τ'->D.bk τ' H'
 ct σ':=∀τ' H' O',Good O₀ H₀ O' H'->jf (je H O) (je H' O')->RepS O₀ K O' H' σ' τ'->D.ct τ' H'
 rf ds:=∀a H' vs,jf H₀ H'->H₀ a=none->H' a=some (.lst vs)->Iss K (je H' (a::O₀)) ds vs->D.rt (.ref a) H'
 rg rows:=∀a as H',jf H₀ H'->(H₀ a=none/\∀b∈as,H₀ b=none)->OwT K (a::as++O₀) H' rows a as->D.rt (.ref a) H'
variable{ex:XD->Prop}
theorem kU{D:Ends}(e:jf (je H O) (je H' O')):DE.le (zj K O₀ H₀ ex D O H) (zj K O₀ H₀ ex D O' H') where
 nx:=λ_ q τ' H'' O'' g s r=>q τ' H'' O'' g (e.trans s) r
 rt:=λ_ q=>q
 bk:=λ_ q τ' H'' O'' g s r=>q τ' H'' O'' g (e.trans s) r
 ct:=λ_ q τ' H'' O'' g s r=>q τ' H'' O'' g (e.trans s) r
 rf:=λ_ q=>q
def tS(K:bp)(C:Cfg)(O₀:List Addr)(H₀:Hp)(ex:XD->Prop)(s:Sm):TS:=λD τ H=>∃σ O,Good O₀ H₀ O H/\RepS O₀ K O H σ τ/\wpS C s (zj K O₀ H₀ ex D O H) σ
theorem jA(σ:Sto)(i:Nat)(v:Option Sl):(setS σ i v).length=σ.length:=ui σ i v
theorem jj(σ:Sto)(i j:Nat)(v:Option Sl):getS (setS σ i v) j=if i=j/\i<σ.length then v else getS σ j:=kK σ i j v
section
variable {K:bp} {O:List Addr} {H:Hp} {σ:Sto} {τ:L2.St}
theorem Reps.set(R:Reps K O H σ τ){v:V}(h:Is K (je H O) d v):Reps K O H (setS σ i (some (.sh d))) (τ.set i (some v)) where
 len:=by rw[jA,g6];exact R.len
 own:=R.own
 sh:=λj e g=>by
  rw[jj]at g;by_cases hj:i=j/\i<σ.length
  ·rw[if_pos hj]at g;obtain⟨rfl,hl⟩:=hj;cases g;exact⟨v,by rw[dE (by rw[<- R.len];exact hl)],h⟩
  ·rw[if_neg hj]at g;obtain⟨w,e1,e2⟩:=R.sh j e g;refine⟨w,?_,e2⟩;by_cases hij:i=j
   ·subst hij
    have:¬ i<τ.length:=by rw[<- R.len];lia
    rw[bG (by lia)]at e1;cases e1
   ·rw[bX hij];exact e1
 ow:=λj ds g=>by
  rw[jj]at g;by_cases hj:i=j/\i<σ.length
  ·rw[if_pos hj]at g;cases g
  ·rw[if_neg hj]at g;obtain⟨a,vs,e1,e2⟩:=R.ow j ds g;refine⟨a,vs,?_,e2⟩;by_cases hij:i=j
   ·subst hij
    have:¬ i<τ.length:=by rw[<- R.len];lia
    rw[bG (by lia)]at e1;cases e1
   ·rw[bX hij];exact e1
 dj:=λj l ds es hjl g1 g2=>by
  rw[jj]at g1 g2;by_cases hj:i=j/\i<σ.length
  ·rw[if_pos hj]at g1;cases g1
  ·rw[if_neg hj]at g1;by_cases hl:i=l/\i<σ.length
   ·rw[if_pos hl]at g2;cases g2
   ·rw[if_neg hl]at g2;have hd:=R.dj j l ds es hjl g1 g2;obtain⟨a,_,e1,_⟩:=R.ow j ds g1;obtain⟨b,_,e2,_⟩:=R.ow l es g2
    have nj:i≠j:=λz=>by
     subst z
     have:¬ i<τ.length:=by rw[<- R.len];lia
     rw[bG (by lia)]at e1;cases e1
    have nl:i≠l:=λz=>by
     subst z
     have:¬ i<τ.length:=by rw[<- R.len];lia
     rw[bG (by lia)]at e2;cases e2
    rw[bX nj,bX nl];exact hd
 tt:=by
  refine R.tt.step (λj rows g=>?_) (λ_ _ _ _ _ _ _ t=>t) λ_ _ _ _ j ds b _ _ g q=>?_
  ·rw[jj]at g;by_cases hj:i=j/\i<σ.length
   ·rw[if_pos hj]at g;cases g
   ·rw[if_neg hj]at g;obtain⟨a,as,e1,_⟩:=R.tt.1 j rows g
    have hij:i≠j:=λz=>by
     subst z
     have:¬ i<τ.length:=by rw[<- R.len];lia
     rw[bG (by lia)]at e1;cases e1
    exact⟨g,bX hij⟩
  ·rw[jj]at g;by_cases hj:i=j/\i<σ.length
   ·rw[if_pos hj]at g;cases g
   ·rw[if_neg hj]at g;obtain⟨a,vs,e1,_⟩:=R.ow j ds g
    have hij:i≠j:=λz=>by
     subst z
     have:¬ i<τ.length:=by rw[<- R.len];lia
     rw[bG (by lia)]at e1;cases e1
    rw[bX hij]at q;exact .inl ⟨ds,g,q⟩
end
variable{j:Nat}
theorem X4{v w:Option V}(h:(τ.set i v)[j]?=some w):(i=j/\w=v)\/(i≠j/\τ[j]?=some w):=by
 by_cases hij:i=j
 ·subst hij;rcases bU i τ.length with z|z
  ·rw[dE z]at h;cases h;exact .inl ⟨rfl,rfl⟩
  ·rw[bG (by rw[g6];exact z)]at h;cases h
 ·rw[bX hij]at h;exact .inr ⟨hij,h⟩
section
variable {K:bp} {O₀ O:List Addr} {H H':Hp} {σ:Sto} {τ:L2.St}
theorem RepS.set(R:RepS O₀ K O H σ τ){v:V}(h:Is K (je H O) d v):RepS O₀ K O H (setS σ i (some (.sh d))) (τ.set i (some v)):=by
 refine⟨R.toReps.set h,λj ds a g e=>?_,R.mineT.step (λj rows g=>?_) λ_ _ _ _ _=>rfl⟩
 rotate_left
 ·rw[jj]at g;by_cases hj:i=j/\i<σ.length
  ·rw[if_pos hj]at g;cases g
  ·rw[if_neg hj]at g;obtain⟨a,as,e1,_⟩:=R.tt.1 j rows g
   have hij:i≠j:=λz=>by
    subst z
    have:¬ i<τ.length:=by rw[<- R.len];lia
    rw[bG (by lia)]at e1;cases e1
   exact⟨g,bX hij⟩
 rw[jj]at g;by_cases hj:i=j/\i<σ.length
 ·rw[if_pos hj]at g;cases g
 ·rw[if_neg hj]at g;rcases X4 e with⟨q,_⟩|⟨_,q⟩
  ·exfalso;subst q;obtain⟨_,_,e1,_⟩:=R.ow i ds g
   have:i<τ.length:=by
    rcases bU i τ.length with z|z
    ·exact z
    ·rw[bG z]at e1;cases e1
   exact hj ⟨rfl,by rw[R.len];exact this⟩
  ·exact R.mine j ds a g q
theorem Good.fresh(g:Good O₀ H₀ O H)(s:jf H H')(h:H a=none):Good O₀ H₀ (a::O) H':=by
 refine⟨g.same.trans s,λb hb=>bo _ (g.sub b hb),λb hb=>?_⟩;rcases bD.mp hb with rfl|hb
 ·right
  cases q:H₀ b with
  |none=>rfl
  |some o=>rw[g.same b o q]at h;cases h
 ·exact g.new b hb
theorem ZH(hi:i<τ.length)(R:RepS O₀ K O H σ τ):∀j rows,getS (setS σ i (some (.ow xs))) j=some (.ot rows)->getS σ j=some (.ot rows)/\(τ.set i (some (.ref a)))[j]?=τ[j]?:=λj rows g=>by
 rw[jj]at g;by_cases hj:i=j/\i<σ.length
 ·rw[if_pos hj]at g;cases g
 ·rw[if_neg hj]at g
  have hij:i≠j:=λz=>hj ⟨z,by rw[R.len];exact hi⟩
  exact⟨g,bX hij⟩
theorem RepS.fresh(R:RepS O₀ K O H σ τ)(sub:∀b∈O₀,b∈O)(s:jf H H')(h:H a=none)(h1:H' a=some (.lst vs))(is:Iss K (je H' (a::O)) xs vs)(hi:i<τ.length) :
 RepS O₀ K (a::O) H' (setS σ i (some (.ow xs))) (τ.set i (some (.ref a))) where
 len:=by rw[jA,g6];exact R.len
 own:=λb hb=>by
  rcases bD.mp hb with rfl|hb
  ·rw[h1];exact λz=>nomatch z
  ·exact(R.toReps.mono s).own b hb
 sh:=λj d g=>by
  rw[jj]at g;by_cases hj:i=j/\i<σ.length
  ·rw[if_pos hj]at g;cases g
  ·rw[if_neg hj]at g;obtain⟨v,e1,e2⟩:=R.sh j d g
   have hij:i≠j:=λz=>hj ⟨z,by rw[R.len];exact hi⟩
   exact⟨v,by rw[bX hij];exact e1,Is.mono (kg s h) d e2⟩
 ow:=λj ds g=>by
  rw[jj]at g;by_cases hj:i=j/\i<σ.length
  ·rw[if_pos hj]at g;obtain⟨rfl,_⟩:=hj;cases g;exact⟨a,vs,dE hi,bB ..,h1,is⟩
  ·rw[if_neg hj]at g;obtain⟨b,ws,e1,e2,e3,e4⟩:=R.ow j ds g
   have hij:i≠j:=λz=>hj ⟨z,by rw[R.len];exact hi⟩
   exact⟨b,ws,by rw[bX hij];exact e1,bo _ e2,s _ _ e3,Iss.mono (kg s h) ds e4⟩
 dj:=λj l ds es hjl g1 g2=>by
  have key:∀j ds,i≠j->getS σ j=some (.ow ds)->τ[j]? ≠ some (some (.ref a)):=λj ds _ g e=>by
   obtain⟨b,_,e1,e2,e3,_⟩:=R.ow j ds g;rw[e1]at e;cases e;rw[h]at e3;cases e3
  rw[jj]at g1 g2;by_cases hj:i=j/\i<σ.length
  ·obtain⟨rfl,_⟩:=hj;rw[if_neg λz=>hjl z.1]at g2;rw[dE hi,bX hjl]
   exact λz=>key l es hjl g2 z.symm
  ·rw[if_neg hj]at g1
   have hij:i≠j:=λz=>hj ⟨z,by rw[R.len];exact hi⟩
   by_cases hl:i=l/\i<σ.length
   ·obtain⟨rfl,_⟩:=hl;rw[dE hi,bX hij];exact key j ds hij g1
   ·rw[if_neg hl]at g2
    have hil:i≠l:=λz=>hl ⟨z,by rw[R.len];exact hi⟩
    rw[bX hij,bX hil];exact R.dj j l ds es hjl g1 g2
 mine:=λj ds b g e=>by
  rw[jj]at g;rcases X4 e with⟨rfl,q⟩|⟨hij,q⟩
  ·cases q
   exact λz=>R.own _ (sub _ z) h
  ·rw[if_neg λz=>hij z.1]at g;exact R.mine j ds b g q
 tt:=by
  refine R.tt.step (ZH hi R) (λj rows b as g e d t=>⟨s _ _ t.top,t.nd,⟨bo _ t.inO.1,λc hc=>bo _ (t.inO.2 c hc)⟩,t.rw.imp (kg s h) λc _ vs q=>s _ _ q⟩) λ_ _ b as j ds c _ t g q=>?_
  rw[jj]at g;rcases X4 q with⟨rfl,q'⟩|⟨hij,q⟩
  ·cases q';refine .inr ⟨λz=>?_,λz=>?_⟩
   ·subst z;rw[t.top]at h;cases h
   ·obtain⟨_,e⟩:=t.rw.isL _ z;rw[e]at h;cases h
  ·rw[if_neg λz=>hij z.1]at g;exact .inl ⟨ds,g,q⟩
 mineT:=R.mineT.step (ZH hi R) (R.tt.same s)
theorem jO(h:a∈O):je (upd H a o) O=je H O:=by
 funext b;unfold je;by_cases hb:b∈O
 ·rw[if_pos hb,if_pos hb]
 ·rw[if_neg hb,if_neg hb,jh λz=>hb (by rw[z];exact h)]
theorem Good.write(g:Good O₀ H₀ O H)(h:a∈O)(hn:a ∉ O₀):Good O₀ H₀ O (upd H a o):=by
 refine⟨λb u q=>?_,g.sub,g.new⟩;have h0:H₀ a=none:=(g.new a h).resolve_left hn;rw[jh λz=>by subst z;rw[h0]at q;cases q];exact g.same b u q
theorem Ue(es:List D):∀j rows,getS (setS σ i (some (.ow es))) j=some (.ot rows)->getS σ j=some (.ot rows)/\τ[j]?=τ[j]?:=λj rows g=>by
 rw[jj]at g;by_cases hj:i=j/\i<σ.length
 ·rw[if_pos hj]at g;cases g
 ·rw[if_neg hj]at g;exact⟨g,rfl⟩
theorem RepS.write{vs:List V}{es:List D}(R:RepS O₀ K O H σ τ)(g:getS σ i=some (.ow ds))(e1:τ[i]?=some (some (.ref a)))(e2:a∈O)(is:Iss K (je H O) es ws) :
 RepS O₀ K O (upd H a (.lst ws)) (setS σ i (some (.ow es))) τ where
 len:=by rw[jA];exact R.len
 own:=λb hb=>by
  by_cases z:b=a
  ·subst z;rw[jm];exact λz=>nomatch z
  ·rw[jh z];exact R.own b hb
 sh:=λj d h=>by
  rw[jj]at h;by_cases hj:i=j/\i<σ.length
  ·rw[if_pos hj]at h;cases h
  ·rw[if_neg hj]at h;rw[jO e2];exact R.sh j d h
 ow:=λj fs h=>by
  rw[jj]at h;rw[jO e2];by_cases hj:i=j/\i<σ.length
  ·rw[if_pos hj]at h;obtain⟨rfl,_⟩:=hj;cases h;exact⟨a,ws,e1,e2,jm ..,is⟩
  ·rw[if_neg hj]at h;obtain⟨b,us,h1,h2,h3,h4⟩:=R.ow j fs h
   have hij:i≠j:=λz=>hj ⟨z,by
    rw[R.len];rcases bU i τ.length with q|q
    ·exact q
    ·rw[bG q]at e1;cases e1⟩
   have hb:b≠a:=λz=>by subst z;exact R.dj i j ds fs hij g h (e1.trans h1.symm)
   exact⟨b,us,h1,h2,by rw[jh hb];exact h3,h4⟩
 dj:=λj l fs gs hjl g1 g2=>by
  have old:∀j fs,getS (setS σ i (some (.ow es))) j=some (.ow fs)->∃fs',getS σ j=some (.ow fs'):=λj fs h=>by
   rw[jj]at h;by_cases hj:i=j/\i<σ.length
   ·obtain⟨rfl,_⟩:=hj;exact⟨_,g⟩
   ·rw[if_neg hj]at h;exact⟨_,h⟩
  obtain⟨_,k1⟩:=old j fs g1;obtain⟨_,k2⟩:=old l gs g2;exact R.dj j l _ _ hjl k1 k2
 mine:=λj fs b h e=>by
  rw[jj]at h;by_cases hj:i=j/\i<σ.length
  ·obtain⟨rfl,_⟩:=hj;exact R.mine i ds b g e
  ·rw[if_neg hj]at h;exact R.mine j fs b h e
 tt:=by
  refine R.tt.step (Ue es) (λj rows b as q e d t=>?_) λ_ _ _ _ j fs c _ _ q e=>?_
  ·obtain⟨n1,n2⟩:=d i ds a g e1;exact⟨by rw[jh (gX n1)];exact t.top,t.nd,t.inO,t.rw.imp (by rw[jO e2];exact jf.refl _) λc hc vs z=>by rw[jh (show c≠a from λy=>n2 (by rw[<- y];exact hc))];exact z⟩
  ·rw[jj]at q;by_cases hj:i=j/\i<σ.length
   ·obtain⟨rfl,_⟩:=hj;exact .inl ⟨ds,g,e⟩
   ·rw[if_neg hj]at q;exact .inl ⟨fs,q,e⟩
 mineT:=R.mineT.step (Ue es) λj rows b q e=>by
  obtain⟨b',as,e3,t,d⟩:=R.tt.1 j rows q;rw[e]at e3;cases e3;exact jh (gX (d i ds a g e1).1)
theorem RepS.share(R:RepS O₀ K O H σ τ)(g:getS σ i=some (.ow ds))(e1:τ[i]?=some (some (.ref a)))(e3:H a=some (.lst vs))(e4:Iss K (je H O) ds vs):RepS O₀ K (less O a) H (setS σ i (some (.sh (.lst ds)))) τ:=by
 refine⟨R.toReps.share g e1 e3 e4,λj fs b h e=>?_,R.mineT.step (λj rows q=>?_) λ_ _ _ _ _=>rfl⟩
 rotate_left
 ·rw[jj]at q;by_cases hj:i=j/\i<σ.length
  ·rw[if_pos hj]at q;cases q
  ·rw[if_neg hj]at q;exact⟨q,rfl⟩
 rw[jj]at h;by_cases hj:i=j/\i<σ.length
 ·rw[if_pos hj]at h;cases h
 ·rw[if_neg hj]at h;exact R.mine j fs b h e
theorem Good.share(g:Good O₀ H₀ O H)(hn:a ∉ O₀):Good O₀ H₀ (less O a) H :=
 ⟨g.same,λb hb=>j5.mpr ⟨g.sub b hb,λz=>hn (z ▸ hb)⟩,λb hb=>g.new b (j5.mp hb).1⟩
end
section
variable {X:Cx} {k:Ck} {C:Cfg} {O₀:List Addr} {H₀:Hp}
theorem vI{x:Ex}(h:chkE k x e=true)(hc:uC e=false)(t:Option Expr)(n:Nat)(env:Env):pY e t n env=pure false:=by
 have p:=u4 h
 cases e<;>first|rfl|exact bK p|exact bK hc
theorem Ux(e o i:Expr)(n:Nat)(env:Env):pY e (some (.Subscript o i p)) n env=pure false:=by
 cases e<;>rfl
theorem U9(e:Expr)(n:Nat)(env:Env):pY e (some (.Tuple es j p)) n env=pure false:=by
 cases e<;>rfl
theorem zv{elt:Expr}{gs:List jd4}{py:Pos}{y:Str}(n:Nat)(env:Env):∃b,pY (.ListComp elt gs sc pos) (some (.Name y py)) n env=pure b:=⟨_,rfl⟩
structure OkS (X:Cx) (k:Ck) (C:Cfg):Prop extends Ok X k C where
 fn:∀x,X.fn x=true
def YX:List Nat->TGs
 |[]=>gNil
 |i::is=>JL (qA i) (YX is)
theorem Kv(ok:OkS X k C):∀(is:List Nat) (ts:List Expr),Jm k is ts=true->PGs X ts (YX is)/\(nc ts X.env).length=is.length/\(nc ts X.env).findIdx? (·.1)=none
 |[],ts,h=>by
  have e:ts=[]:=by rw[Jm]at h;simpa using h
  subst e
  exact⟨QI,rfl,rfl⟩
 |i::is,ts,h=>by
  obtain⟨x,pos,ts,rfl,h1,h2⟩:=XX h;obtain⟨h1,h3,h4,h5⟩:=ok.vis h1;obtain⟨p,l,f⟩:=Kv ok is ts h2;refine⟨xS (yq ok.nd h1 h3 (.inl (ok.fn _))) p,?_,?_⟩
  ·show (nc ts X.env).length+1=is.length+1;rw[l]
  ·show List.findIdx? _ ((false,assign (.Name x pos) X.env)::nc ts X.env)=none;rw[List.findIdx?_cons,f];rfl
theorem uB{K:bp}{O₀ O:List Addr}{H:Hp}{Q:L2.St->Hp->Prop}:∀(is:List Nat) {ds:List D} {vs:List V} {σ σ':Sto} {τ:L2.St},RepS O₀ K O H σ τ->Iss K (je H O) ds vs->setAll is ds σ=some σ'->(∀τ',RepS O₀ K O H σ' τ'->Q τ' H)->YX is vs τ H Q
 |[],ds,vs,σ,σ',τ,R,i,e,q=>by
  cases ds with
  |nil =>
   unfold Iss at i;simp only[setAll,gy]at e;subst e
   exact⟨i,q τ R⟩
  |cons d ds=>simp[setAll]at e
 |n::is,ds,vs,σ,σ',τ,R,i,e,q=>by
  cases ds with
  |nil=>simp[setAll]at e
  |cons d ds =>
   unfold Iss at i;obtain⟨v,r,rfl,i1,i2⟩:=i;simp only[setAll]at e;exact⟨v,r,rfl,uB is (R.set i1) i2 e q⟩
theorem zw:∀(is:List Nat) {ds:List D} {σ σ':Sto},setAll is ds σ=some σ'->ds.length=is.length
 |[],ds,σ,σ',e=>by cases ds with|nil=>rfl|cons d ds=>simp[setAll]at e
 |n::is,ds,σ,σ',e=>by
  cases ds with
  |nil=>simp[setAll]at e
  |cons d ds=>simp only[setAll]at e;simp[zw is e]
end
def IsRv(h:gQ)(it l:Addr)(j:Int):Prop:=∃o,h.get? it=some o/\o.cls=.type "list_reverseiterator" /\ o.data=.fields #[.ref l,.int j 0]
theorem IsRv.ty{s:Shared}{j:Int}(x:IsRv s.heap it l j):s.TypeIs (.ref it) "list_reverseiterator":=let ⟨o,ho,hc,_⟩:=x;⟨o,ho,hc⟩
def tDL(K:bp)(C:Cfg)(x:Ex):TE:=λτ H Q=>∃σ O,Reps K O H σ τ/\wpE C x σ (isL λxs=>WdF K O H Q (.lst xs))
def rCat(K:bp):R2:=λxv yv H Q=>∃O xs ys,(∀a∈O,H a≠none)/\Is K (je H O) (.lst xs) xv/\Is K (je H O) (.lst ys) yv/\xs.length+ys.length<=lim/\WdF K O H Q (.lst (xs++ys))
theorem op_catL:OpR X (jcY .Add) (rCat X.K):=by
 intro pins s τ H x y v u Q I rx ry h;obtain⟨O,xs,ys,ho,ix,iy,w⟩:=h;obtain⟨a,vs,rfl,h1,h2⟩:=jK ix;obtain⟨b,ws,rfl,h3,h4⟩:=jK iy;cases rx;cases ry;exact Jw I ho w ((jg H O).seq h1) ((jg H O).seq h3) h2 h4
theorem VQ{x y:D}{f:List D->Prop}(w:addD x y (isL f)):∃xs ys,x=.lst xs/\y=.lst ys/\xs.length+ys.length<=lim/\f (xs++ys):=by
 cases x<;>cases y<;>first|exact w.elim|exact w.2.elim|exact⟨_,_,rfl,rfl,w.1,w.2⟩
theorem JJ(w:WdF K O H Q (.lst xs))(hl:H l=none)(i:Iss K (je H O) xs vs):Q (.ref l) (upd H l (.lst vs)) :=
 w xs l _ vs rfl (jE hl _) hl (jm ..) (Iss.mono (kg (jE hl _) hl) xs i)
theorem sF{C:Cfg}(ok:Ok X k C)(x:Ex)(e:Expr)(hf:frE x=true)(h:chkE k x e=true):PE X e (tDL X.K C x):=by
 cases x with
 |bin o a b =>
  cases o<;>first|exact bK hf|skip
  replace h:=jb h;obtain⟨⟨l,op,r⟩,hx,h⟩:=h;obtain⟨pos,rfl⟩:=JA hx;rw[bg,bg]at h
  have hop:op=.Add:=by
   have:=h.1.1
   cases op<;>first|rfl|exact bK this
  subst hop;refine PE.imp (λτ H Q w=>?_) (jaI op_catL (sB ok a _ h.1.2).1 (sB ok b _ h.2).1);obtain⟨σ,O,R,w⟩:=w;refine⟨σ,O,R,ja a (λx wx xv H1 s1 i1=>⟨σ,O,R.mono s1,ja b (λy wy yv H2 s2 i2=>?_) wx⟩) w⟩;obtain⟨xs,ys,rfl,rfl,hl,q⟩:=VQ wy
  exact⟨O,xs,ys,(R.mono (s1.trans s2)).own,Is.mono (jd s2) _ i1,i2,hl,q.mono (s1.trans s2)⟩
 |bi f es =>
  cases f<;>first|exact bK hf|skip
  replace h:=jb h;obtain⟨⟨x,xs,pos⟩,hx,h⟩:=h;obtain⟨q,rfl⟩:=jL hx;simp only[bg,decide_eq_true_eq]at h;obtain⟨⟨⟨h1,h2⟩,hne⟩,h4⟩:=h
  match xs,hne,h1,h4 with
  |y::ys,_,h1,h4 =>
   subst h1;obtain⟨g1,g2,g3⟩:=ok.gl h2
   have hs:bQ (y::ys) X.env=(false,eval y X.env)::bQ ys X.env/\(backTo pos (bQ ys X.env)).any (·.1)=false:=by
    cases es with
    |nil=>have:=jZ h4;cases this
    |cons z zs =>
     obtain⟨y',ys',e',h5,h6⟩:=jM h4;cases e';exact⟨jv h5 _ _,kr h6 _ _⟩
   refine PE.imp (λτ H Q w=>?_) (xh (T:="list") qk g1 (ok.blt _ (jbK .list)) mZ (sA ok es _ h4) g3 g2 hs.1 hs.2);obtain⟨σ,O,R,w⟩:=w;refine⟨σ,O,R,jr es (λds wd vs H1 s1 i1=>?_) w⟩;obtain⟨x,rfl,wd⟩:=yj wd;obtain⟨v,rfl,j1⟩:=Jo i1;clear i1
   cases x<;>first|exact wd.elim|skip
   ·obtain⟨a,vs,rfl,h1,h2⟩:=kY j1;exact⟨a,vs,rfl,.inr ((qm (jg H1 O) h1)),λl hl=>JJ (WdF.mono s1 wd) hl h2⟩
   ·obtain⟨a,vs,rfl,h1,h2⟩:=jK j1
    exact⟨a,vs,rfl,.inl ((jg H1 O).seq h1),λl hl=>JJ (WdF.mono s1 wd) hl h2⟩
 |_=>exact bK hf
variable{e:Ex}{l:Nat}{r:List D}{Dd:Ends}
section
variable {X:Cx} {k:Ck} {C:Cfg}
theorem sL(ok:Ok X k C)(x:Ex)(e:Expr)(hf:frL x=true)(h:chkE k x e=true):PE X e (tDL X.K C x):=by
 cases x with
 |compE a b =>
  replace h:=jb h;obtain⟨⟨elt,x,iter,sc⟩,hz,h⟩:=h;obtain⟨px,pos,rfl⟩:=kW hz;simp only[bg,b8]at h;obtain⟨⟨⟨h1,hn⟩,ha⟩,h3⟩:=h;intro pins s τ H Q I w;obtain⟨cl,co⟩:=ok.comp h1 I.ok;refine xJ (te:=tD X.K C b) ok.calm ok.nd (ok.comp_nE h1) co (yp (sB ok a iter ha).1) (λ_ _ _ _=>qH) (λs H fp Ca=>(sB (ok.block h1 co s H fp Ca) b elt h3).1) (qB hn _) pins s τ H Q I ?_;obtain⟨σ,O,R,w⟩:=w;refine⟨σ,O,R,ja a (λd wd v H1 s1 i1=>?_) w⟩;obtain⟨xs,e1,hx,wd⟩:=wd;have wd':=jY (f:=λd Q=>wpE C b (σ ++ [some (.sh d)]) Q) (λd _ _ hq=>ja b hq) _ (λys (wy:WdF X.K O H Q (.lst ys))=>WdF.mono s1 wy) wd;obtain⟨J,hw,g1,g2,g3⟩:=walk_of e1 i1
  exact⟨J,hw,comp_turnsGF (R.mono s1) hx (λj H2 s2=>g1 j H2 O (jd s2)) (λj H2 s2=>g2 j H2 O (jd s2)) (λj H2 v H' d s2 y e=>by obtain⟨q,i⟩:=g3 j H2 O v H' d (jd s2) y e;subst q;exact⟨jf.refl _,i⟩) wd'⟩
 |compR es b =>
  replace h:=jb h;obtain⟨⟨elt,x,iter,sc⟩,hz,h⟩:=h;obtain⟨px,pos,rfl⟩:=kW hz;simp only[bg]at h;obtain⟨⟨h1,h2⟩,h3⟩:=h;replace h2:=jb h2;obtain⟨⟨f,args,p2⟩,hcn,h2⟩:=h2;obtain⟨q,e2⟩:=jL hcn;subst e2;simp only[bg,decide_eq_true_eq,b8]at h2;obtain⟨⟨⟨hf,hg⟩,hne⟩,ha⟩:=h2;subst hf;obtain⟨g1,_,_⟩:=ok.gl hg
  cases args with
  |nil=>simp at hne
  |cons y ys =>
   have hs:bQ (y::ys) X.env=(false,eval y X.env)::bQ ys X.env/\(backTo p2 (bQ ys X.env)).any (·.1)=false:=by
    cases es with
    |nil=>have:=jZ ha;cases this
    |cons z zs =>
     obtain⟨y',ys',e',h5,h6⟩:=jM ha;cases e';exact⟨jv h5 _ _,kr h6 _ _⟩
   intro pins s τ H Q I w;obtain⟨cl,co⟩:=ok.comp h1 I.ok;refine xJ (te:=tD X.K C b) ok.calm ok.nd (ok.comp_nE h1) co (Kb g1 (ok.blt _ (by decide)) (sA ok es _ ha) hs.1 hs.2) (λ_ _ _ _=>qH) (λs H fp Ca=>(sB (ok.block h1 co s H fp Ca) b elt h3).1) (λ_=>rfl) pins s τ H Q I ?_;obtain⟨σ,O,R,w⟩:=w;refine⟨σ,O,R,jr es (λds wd vs H1 s1 i1=>?_) w⟩;obtain⟨lo,hi,st,e,c,hx,wd⟩:=uT i1 wd;refine⟨lo,hi,st,e,c,?_⟩;refine comp_turnsGF (R.mono s1) hx ?_ ?_ ?_ (jY (f:=λd Q=>wpE C b (σ ++ [some (.sh d)]) Q) (λd _ _ hq=>ja b hq) _ (λys (wy:WdF X.K O H Q (.lst ys))=>WdF.mono s1 wy) wd)
   ·intro j H _ hj;rw[jn]at hj;exact hj
   ·intro j H _ hj;rw[jn]at hj;exact hj
   ·intro j H v H' d _ y hd;obtain⟨e1,e2⟩:=y
    have hj:j<(if lo<hi then (hi-lo-1) / st+1 else 0).toNat:=by
     rcases bU j (if lo<hi then (hi-lo-1) / st+1 else 0).toNat with z|z
     ·exact z
     ·rw[bG (by rw[jn];exact z)]at hd;cases hd
    rw[k8 _ _ _ _ hj]at hd;cases hd;subst e1
    exact⟨jf.refl _,by rw[e2];exact jG _⟩
 |slc a l u =>
  replace h:=jb h;obtain⟨⟨v,i⟩,hx,h⟩:=h;obtain⟨pos,rfl⟩:=yS hx;replace h:=jb h;obtain⟨⟨lo,hi⟩,hs,h⟩:=h;obtain⟨p2,e2⟩:=Xo hs;simp only at e2;subst e2;simp only[bg]at h;obtain⟨⟨⟨⟨ha,hl1⟩,hu1⟩,hl2⟩,hu2⟩:=h
  have pl:PO X lo (tPt X.K C l):=po_D hl1 λx ex nl=>by
   subst ex;rw[nl]at hl2;exact(sB ok l x hl2).1
  have pu:PO X hi (tPt X.K C u):=po_D hu1 λx ex nl=>by
   subst ex;rw[nl]at hu2;exact(sB ok u x hu2).1
  refine PE.imp (λτ H Q w=>?_) (Xl Ub (sB ok a v ha).1 pl pu);obtain⟨σ,O,R,w⟩:=w;refine⟨σ,O,R,ja a (λd wd x H1 s1 i1=>⟨σ,O,R.mono s1,xU (λhq=>ja l hq) (λlo' wl H2 s2=>⟨σ,O,(R.mono s1).mono s2,xU (λhq=>ja u hq) (λhi' wh H3 s3=>?_) wl⟩) wd⟩) w⟩;have ss:=s2.trans s3
  cases d<;>first|exact wh.elim|exact wh.2.elim|skip
  next xs =>
  obtain⟨b,vs,rfl,h1,h2⟩:=jK i1;have wh:WdF X.K O H Q (.lst (yH xs lo' hi')):=wh
  exact⟨b,vs,rfl,(jg _ _).seq ((jd ss).seq h1),λp hp=>JJ (WdF.mono (s1.trans ss) wh) hp (Iss.cut lo' hi' (Iss.mono (jd ss) xs h2))⟩
 |bin o a b=>exact sF ok _ e hf h
 |bi f es=>exact sF ok _ e hf h
 |_=>exact bK hf
def tIt(K:bp)(C:Cfg)(b:Ex):TE:=λτ H Q=>frIt C b=true/\tDL K C b τ H Q
theorem sI(ok:Ok X k C)(x:Ex)(e:Expr)(hf:frI x=true)(h:chkE k x e=true):PE X e (tIt X.K C x):=by
 cases x with
 |call f es =>
  replace h:=jb h;obtain⟨⟨x,xs,pos⟩,hx,h⟩:=h;obtain⟨q,rfl⟩:=jL hx;simp only[bg,decide_eq_true_eq]at h;obtain⟨⟨⟨k1,k2⟩,hne⟩,k4⟩:=h;obtain⟨y,ys,rfl⟩:=xk hne;obtain⟨g1,g2,g3⟩:=ok.gl k2;obtain⟨fa,fd,ps,lv,F,hr,hm,hk,hb⟩:=ok.fns f x _ k1
  have hs:bQ (y::ys) X.env=(false,eval y X.env)::bQ ys X.env/\(backTo pos (bQ ys X.env)).any (·.1)=false:=by
   cases es with
   |nil=>have:=jZ k4;cases this
   |cons z zs =>
    obtain⟨y',ys',e',h5,h6⟩:=jM k4;cases e';exact⟨jv h5 _ _,kr h6 _ _⟩
  refine PE.imp (λτ H Q w=>?_) (y8 (CX:=CXz X.prog X.w X.mg) (E:=E0) (dvs:=[]) F hr g1 hm hk hb .nil Kt (sA ok es _ k4) g2 hs.1 hs.2);obtain⟨hfr,σ,O,R,w⟩:=w;have hfr:C.fr f=true:=hfr;refine⟨σ,O,R,jr es (λds ⟨hl,wd⟩ vs H1 s1 i1=>?_) (xy es w)⟩;show spD X.K (y::ys).length (C.fr f) (C.f2 f) (C.ct f) (vs ++ []) H1 _ E0;rw[dM];refine⟨O,ds,by rw[hl,zq k4],(R.mono s1).own,i1,wd.1,λd r=>?_,λx hx=>(ok.E x (wd.2.2 x hx)).elim⟩;unfold Rw;rw[if_pos hfr]
  obtain⟨xs,rfl,q⟩:∃xs,d=.lst xs/\WdF X.K O H Q (.lst xs):=by
   have:=wd.2.1 d r
   cases d<;>first|exact this.elim|exact⟨_,rfl,this⟩
  exact q.mono s1
 |_=>exact PE.imp (λτ H Q w=>w.2) (sL ok _ e hf h)
theorem qx(s:jf H H')(h:∀b∈as,H b=none):jf (je H O) (je H' (as++O)):=λb o hb=>by
 have e:=jg _ _ _ _ hb
 have na:b ∉ as:=λz=>by rw[h b z]at e;cases e
 have nb:b ∉ O:=λz=>by unfold je at hb;rw[if_pos z]at hb;cases hb
 rw[j8 (by simp[na,nb])];exact s _ _ e
theorem Reps.grow(R:Reps K O H σ τ)(s:jf H H')(hn:∀b∈as,H b=none)(hs:∀b∈as,H' b≠none):Reps K (as++O) H' σ τ where
 len:=R.len
 own:=λb hb=>by
  rcases dP.mp hb with z|z
  ·exact hs b z
  ·exact(R.mono s).own b z
 sh:=λi d g=>by
  obtain⟨v,e1,e2⟩:=R.sh i d g;exact⟨v,e1,Is.mono (qx s hn) d e2⟩
 ow:=λi ds g=>by
  obtain⟨a,vs,e1,e2,e3,e4⟩:=R.ow i ds g;exact⟨a,vs,e1,bR _ e2,s _ _ e3,Iss.mono (qx s hn) ds e4⟩
 dj:=R.dj
 tt:=R.tt.step (λ_ _ g=>⟨g,rfl⟩) (λ_ _ _ _ _ _ _ t=>⟨s _ _ t.top,t.nd,⟨bR _ t.inO.1,λb hb=>bR _ (t.inO.2 b hb)⟩,t.rw.imp (qx s hn) λb _ vs h=>s _ _ h⟩) λ_ _ _ _ j ds b _ _ g q=>.inl ⟨ds,g,q⟩
theorem VZ(h:∀b,b∈O ↔ b∈O'):je H O=je H O':=by
 funext b;unfold je;by_cases z:b∈O
 ·rw[if_pos z,if_pos ((h b).mp z)]
 ·rw[if_neg z,if_neg λy=>z ((h b).mpr y)]
theorem Rws.snoc{K:bp}{O:List Addr}{H:Hp}{r:List D}{b:Addr}{vs:List V}(h1:H b=some (.lst vs))(h2:Iss K (je H O) r vs):∀ {rows:List (List D)} {as:List Addr},Rws K O H rows as->Rws K O H (rows ++ [r]) (as ++ [b])
 |[],as,h=>by cases h;exact⟨b,[],vs,rfl,h1,h2,rfl⟩
 |q::rows,as,h=>by
  obtain⟨c,bs,us,rfl,e1,e2,e3⟩:=h;exact⟨c,bs ++ [b],us,rfl,e1,e2,Rws.snoc h1 h2 e3⟩
theorem Rws.own{rows:List (List D)}(h:∀b,b∈O ↔ b∈O')(r:Rws K O H rows as):Rws K O' H rows as:=r.imp (by rw[VZ h];exact jf.refl _) λ_ _ _ z=>z
theorem vh(R1:Reps K O H1 σ τ)(hx:xs.length<=lim)(hb:frIt C e=true)
 (hgo:∀j H O',jf (je H1 O) (je H O')->j<xs.length->J.go j H) (hst:∀j H O',jf (je H1 O) (je H O')->xs.length<=j->J.stop j H)
 (hy:∀j H O' v H' d,jf (je H1 O) (je H O')->J.yld j H v H'->xs[j]?=some d->H'=H/\Is K (je H O') d v)
 (w:qQ (λd Q=>wpE C e (σ ++ [some (.sh d)]) (isL Q)) xs λrows=>WdG K O H1 Q (kA rows)) :
 ∃W:Nat->Nat->List V->Hp->Prop,(∃m,W 0 m [] H1)/\∀i m ys H,W i m ys H ->
  (J.stop i H/\ys.length<=sizeLine/\∀p,H p=none->Q (.ref p) (upd H p (.lst ys)))\/(J.go i H/\ys.length<sizeLine/\∀x H',J.yld i H x H'->tIt K C e (τ ++ [some x]) H' λy H2=>∃m',m'<m/\W (i+1) m' (ys ++ [y]) H2):=by
 refine⟨λj m ys H=>m=xs.length-j/\j<=xs.length/\jf H1 H/\∃rows as,as.length=j/\ys=as.map V.ref/\(∀b∈as,H1 b=none)/\as.Nodup/\Rws K (as++O) H rows as/\qQ (λd Q=>wpE C e (σ ++ [some (.sh d)]) (isL Q)) (xs.drop j) λrest=>WdG K O H1 Q (kA (rows++rest)),
  ⟨_,rfl,mI _,jf.refl _,[],[],rfl,rfl,(λ_ z=>nomatch z),List.nodup_nil,rfl,by simpa using w⟩,?_⟩
 rintro j m ys H ⟨rfl,hj,sm,rows,as,hd,rfl,fr,nd,rw',w⟩
 have hl:(as.map V.ref).length=j:=by rw[bj,hd]
 have hs:∀b∈as,H b≠none:=λb hb=>by obtain⟨vs,q⟩:=rw'.isL b hb;rw[q];exact λz=>nomatch z
 have R:=R1.grow sm fr hs;have sO:=qx (O:=O) sm fr
 have hlim:lim<=sizeLine:=by decide
 by_cases hlt:j<xs.length
 ·refine .inr ⟨hgo j H _ sO hlt,by lia,λx H' y=>?_⟩;obtain⟨e1,ix⟩:=hy j H _ x H' xs[j] sO y (bE hlt);subst e1;rw[gI hlt]at w;rw[qQ]at w;refine⟨hb,_,as++O,R.snoc ix,ja e (λyd=>qo λr wr r' a H2 vs q s2 h0 h1 is=>?_) w⟩;cases q
  have na:a ∉ as:=λz=>hs a z h0
  have h01:H1 a=none:=by
   cases q:H1 a with
   |none=>rfl
   |some o=>rw[sm a o q]at h0;cases h0
  have mem:∀b,b∈a::(as++O) ↔ b∈(as ++ [a])++O:=λb=>by
   simp only[bD,dP,bM,or_false];constructor
   ·rintro(z|z|z)
    ·exact .inl (.inr z)
    ·exact .inl (.inl z)
    ·exact .inr z
   ·rintro((z|z)|z)
    ·exact .inr (.inl z)
    ·exact .inl z
    ·exact .inr (.inr z)
  refine⟨xs.length-(j+1),by lia,rfl,hlt,sm.trans s2,rows ++ [r],as ++ [a],by simp[hd],by simp,λb hb=>?_,?_,?_,?_⟩
  ·rcases dP.mp hb with z|z
   ·exact fr b z
   ·rw[gD.mp z];exact h01
  ·rw[jeB];exact⟨nd,by simp,λb hb c hc z=>by rw[gD.mp hc]at z;exact na (z ▸ hb)⟩
  ·refine Rws.own mem (Rws.snoc h1 is (rw'.imp (λb o hb=>?_) λb hb vs q=>s2 _ _ q));have q:=jg _ _ _ _ hb
   have nb:b ∉ as++O:=λz=>by unfold je at hb;rw[if_pos z]at hb;cases hb
   rw[j8 (λz=>(bD.mp z).elim (λy=>by rw[y,h0]at q;cases q) nb)];exact s2 _ _ q
  ·simpa using wr
 ·have e1:j=xs.length:=by lia
  refine .inl ⟨hst _ H _ sO (by lia),by lia,λp hp=>?_⟩;rw[tW (by lia)]at w;rw[qQ,dM]at w
  have np:p ∉ as:=λz=>hs p z hp
  have s2:=jE hp (.lst (as.map V.ref))
  have h01:H1 p=none:=by
   cases q:H1 p with
   |none=>rfl
   |some o=>rw[sm p o q]at hp;cases hp
  refine w rows p as _ rfl (sm.trans s2) ⟨h01,fr⟩ ⟨jm ..,⟨np,nd⟩,⟨bB ..,λb hb=>bo _ (dI _ hb)⟩,?_⟩
  exact rw'.imp (kg s2 hp) λb hb vs q=>s2 _ _ q
def tDG(K:bp)(C:Cfg)(x:Ex):TE:=λτ H Q=>∃σ O,Reps K O H σ τ/\wpG C x σ λrows=>WdG K O H Q (kA rows)
theorem WdG.mono(e:jf H H')(w:WdG K O H Q d):WdG K O H' Q d:=λrows a as H'' q s h0 t=>by
 have old:∀b,H' b=none->H b=none:=λb h=>by
  cases z:H b with
  |none=>rfl
  |some o=>rw[e b o z]at h;cases h
 exact w rows a as H'' q (e.trans s) ⟨old _ h0.1,λb hb=>old _ (h0.2 b hb)⟩ t
theorem gcomp(ok:Ok X k C)(z:Ex)(e:Expr)(hf:frG z=true)(h:chkE k z e=true):∃(x:Str) (px:Pos) (iter elt:Expr) (sc:Scope) (pos:Pos) (wi:TI) (b:Ex),e=.ListComp elt [⟨.Name x px,iter,[],0⟩] sc pos/\qN k x sc=true/\PI X (.Name x px) iter wi/\(∀v,mS iter X.env v=pure v) /\
 (∀cl,CompOk X x sc cl->∀s H fp Ca,PE (qy X s H fp x sc cl Ca) elt (tIt X.K C b))/\∀τ H Q,tDG X.K C z τ H Q->tComp wi (tIt X.K C b) τ H Q:=by
 cases z with
 |compE a b =>
  replace h:=jb h;obtain⟨⟨elt,x,iter,sc⟩,hz,h⟩:=h;obtain⟨px,pos,rfl⟩:=kW hz;simp only[bg,b8]at h;obtain⟨⟨⟨h1,hn⟩,ha⟩,h3⟩:=h;refine⟨x,px,iter,elt,sc,pos,_,b,rfl,h1,yp (sB ok a iter ha).1,qB hn _,λcl co s H fp Ca=>sI (ok.block h1 co s H fp Ca) b elt hf h3,λτ H Q w=>?_⟩;obtain⟨σ,O,R,hb,w⟩:=w;refine⟨σ,O,R,ja a (λd wd v H1 s1 i1=>?_) w⟩;obtain⟨xs,e1,hx,wd⟩:=wd;have wd':=qK (f:=λd Q=>wpE C b (σ ++ [some (.sh d)]) (isL Q)) (λd _ _ hq=>ja b λ_=>qo hq) _ (λys (wy:WdG X.K O H Q (kA ys))=>WdG.mono s1 wy) wd;obtain⟨J,hw,g1,g2,g3⟩:=walk_of e1 i1
  exact⟨J,hw,vh (R.mono s1) hx hb g1 g2 g3 wd'⟩
 |compR es b =>
  replace h:=jb h;obtain⟨⟨elt,x,iter,sc⟩,hz,h⟩:=h;obtain⟨px,pos,rfl⟩:=kW hz;simp only[bg]at h;obtain⟨⟨h1,h2⟩,h3⟩:=h;replace h2:=jb h2;obtain⟨⟨f,args,p2⟩,hcn,h2⟩:=h2;obtain⟨q,e2⟩:=jL hcn;subst e2;simp only[bg,decide_eq_true_eq,b8]at h2;obtain⟨⟨⟨hfn,hg⟩,hne⟩,ha⟩:=h2;subst hfn;obtain⟨g1,_,_⟩:=ok.gl hg
  cases args with
  |nil=>simp at hne
  |cons y ys =>
   have hs:bQ (y::ys) X.env=(false,eval y X.env)::bQ ys X.env/\(backTo p2 (bQ ys X.env)).any (·.1)=false:=by
    cases es with
    |nil=>have:=jZ ha;cases this
    |cons z zs =>
     obtain⟨y',ys',e',h5,h6⟩:=jM ha;cases e';exact⟨jv h5 _ _,kr h6 _ _⟩
   refine⟨x,px,_,elt,sc,pos,_,b,rfl,h1,Kb g1 (ok.blt _ (by decide)) (sA ok es _ ha) hs.1 hs.2,λ_=>rfl,λcl co s H fp Ca=>sI (ok.block h1 co s H fp Ca) b elt hf h3,λτ H Q w=>?_⟩;obtain⟨σ,O,R,hb,w⟩:=w;refine⟨σ,O,R,jr es (λds wd vs H1 s1 i1=>?_) w⟩;obtain⟨lo,hi,st,e,c,hx,wd⟩:=uT i1 wd;refine⟨lo,hi,st,e,c,?_⟩;refine vh (R.mono s1) hx hb ?_ ?_ ?_ (qK (f:=λd Q=>wpE C b (σ ++ [some (.sh d)]) (isL Q)) (λd _ _ hq=>ja b λ_=>qo hq) _ (λys (wy:WdG X.K O H Q (kA ys))=>WdG.mono s1 wy) wd)
   ·intro j H _ _ hj;rw[jn]at hj;exact hj
   ·intro j H _ _ hj;rw[jn]at hj;exact hj
   ·intro j H O' v H' d _ y hd;obtain⟨e1,e2⟩:=y
    have hj:j<(if lo<hi then (hi-lo-1) / st+1 else 0).toNat:=by
     rcases bU j (if lo<hi then (hi-lo-1) / st+1 else 0).toNat with z|z
     ·exact z
     ·rw[bG (by rw[jn];exact z)]at hd;cases hd
    rw[k8 _ _ _ _ hj]at hd;cases hd
    exact⟨e1,by rw[e2];exact jG _⟩
 |_=>exact bK hf
theorem sG(ok:Ok X k C)(z:Ex)(e:Expr)(hf:frG z=true)(h:chkE k z e=true):PE X e (tDG X.K C z):=by
 obtain⟨x,px,iter,elt,sc,pos,wi,b,rfl,hck,hpi,hfo,hel,hco⟩:=gcomp ok z e hf h;intro pins s τ H Q I w;obtain⟨cl,co⟩:=ok.comp hck I.ok;exact xJ ok.calm ok.nd (ok.comp_nE hck) co hpi (λ_ _ _ _=>qH) (hel cl co) hfo pins s τ H Q I (hco τ H Q w)
variable {K:bp} {O₀ O O':List Addr} {H H' H₀:Hp} {σ:Sto} {τ:L2.St}
theorem QS:∀ {σ:Sto} {j:Nat} {rows:List (List D)},σ.all VO=true->getS σ j≠some (.ot rows)
 |[],j,rows,_=>λz=>nomatch z
 |x::r,0,rows,h=>λz=>by
  have z:x=some (.ot rows):=z;subst z
  simp[VO]at h
 |x::r,j+1,rows,h=>by
  simp only[jcR,bg]at h;exact QS (σ:=r) h.2
theorem yT:∀ {σ:Sto} {i j:Nat} {rows:List (List D)},noT σ i=true->j≠i->getS σ j≠some (.ot rows)
 |[],i,j,rows,_,_=>λz=>nomatch z
 |x::r,0,0,rows,_,n=>absurd rfl n
 |x::r,0,j+1,rows,h,n=>QS (σ:=r) h
 |x::r,i+1,0,rows,h,n=>λz=>by
  have z:x=some (.ot rows):=z;subst z
  simp[noT,VO]at h
 |x::r,i+1,j+1,rows,h,n=>by
  simp only[noT,bg]at h;exact yT (σ:=r) h.2 (by lia)
theorem zM{bs:List Addr}(h:(HO.lst (as.map V.ref))=HO.lst (bs.map V.ref)):as=bs:=by
 injection h with h
 induction as generalizing bs with
 |nil=>cases bs<;>simp at h;rfl
 |cons a as ih =>
  cases bs with
  |nil=>simp at h
  |cons b bs =>
   simp only[bz,bO]at h;injection h.1 with e;rw[e,ih h.2]
theorem Good.freshT(g:Good O₀ H₀ O H)(s:jf H H')(h:H a=none/\∀b∈as,H b=none):Good O₀ H₀ (a::as++O) H':=by
 have old:∀b,H b=none->H₀ b=none:=λb h=>by
  cases q:H₀ b with
  |none=>rfl
  |some o=>rw[g.same b o q]at h;cases h
 refine⟨g.same.trans s,λb hb=>bR _ (g.sub b hb),λb hb=>?_⟩;rcases dP.mp hb with hb|hb
 ·rcases bD.mp hb with rfl|hb
  ·exact .inr (old _ h.1)
  ·exact .inr (old _ (h.2 b hb))
 ·exact g.new b hb
theorem RepS.freshT{rows:List (List D)}(R:RepS O₀ K O H σ τ)(sub:∀b∈O₀,b∈O)(s:jf H H')(h:H a=none/\∀b∈as,H b=none)(t:OwT K (a::as++O) H' rows a as)(nt:noT σ i=true)(hi:i<τ.length) :
 RepS O₀ K (a::as++O) H' (setS σ i (some (.ot rows))) (τ.set i (some (.ref a))):=by
 have hn:∀b∈a::as,H b=none:=λb hb=>(bD.mp hb).elim (λz=>by rw[z];exact h.1) (h.2 b)
 have G:Reps K (a::as++O) H' σ τ:=R.toReps.grow s hn λb hb=>by
  rcases bD.mp hb with rfl|hb
  ·rw[t.top];exact λz=>nomatch z
  ·obtain⟨vs,q⟩:=t.rw.isL b hb;rw[q];exact λz=>nomatch z
 have at_:∀j z,getS (setS σ i (some (.ot rows))) j=some z->(j=i/\z=.ot rows)\/(i≠j/\getS σ j=some z/\(τ.set i (some (.ref a)))[j]?=τ[j]?):=λj z g=>by
  rw[jj]at g;by_cases hj:i=j/\i<σ.length
  ·rw[if_pos hj]at g;cases g;exact .inl ⟨hj.1.symm,rfl⟩
  ·rw[if_neg hj]at g
   have hij:i≠j:=λz=>hj ⟨z,by rw[R.len];exact hi⟩
   exact .inr ⟨hij,g,bX hij⟩
 have own_ne:∀j ds b,getS σ j=some (.ow ds)->τ[j]?=some (some (.ref b))->b≠a/\b ∉ as:=λj ds b g e=>by
  obtain⟨b',vs,e1,_,e3,_⟩:=R.ow j ds g;rw[e]at e1;cases e1;exact⟨λz=>(by rw[z,h.1]at e3;cases e3),λz=>(by rw[h.2 b z]at e3;cases e3)⟩
 refine⟨⟨by rw[jA,g6];exact R.len,G.own,λj d g=>?_,λj ds g=>?_,λj l ds es hjl g1 g2=>?_,⟨λj rs g=>?_,λj l rs qs g1 g2=>?_⟩⟩,λj ds b g e=>?_,λj rs b bs g e q=>?_⟩
 ·rcases at_ j _ g with⟨_,z⟩|⟨_,g,e⟩
  ·cases z
  ·obtain⟨v,e1,e2⟩:=G.sh j d g;exact⟨v,e.trans e1,e2⟩
 ·rcases at_ j _ g with⟨_,z⟩|⟨_,g,e⟩
  ·cases z
  ·obtain⟨b,vs,e1,e2⟩:=G.ow j ds g;exact⟨b,vs,e.trans e1,e2⟩
 ·rcases at_ j _ g1 with⟨_,z⟩|⟨_,g1,e1⟩
  ·cases z
  rcases at_ l _ g2 with⟨_,z⟩|⟨_,g2,e2⟩
  ·cases z
  rw[e1,e2];exact G.dj j l ds es hjl g1 g2
 ·rcases at_ j _ g with⟨rfl,z⟩|⟨hij,g,e⟩
  ·cases z;refine⟨a,as,dE hi,t,λl ds b g2 e2=>?_⟩;rcases at_ l _ g2 with⟨_,z⟩|⟨_,g2,e⟩
   ·cases z
   ·rw[e]at e2;exact own_ne l ds b g2 e2
  ·exact absurd g (yT nt (gX hij))
 ·rcases at_ j _ g1 with⟨rfl,z⟩|⟨hij,g1,e⟩
  ·rcases at_ l _ g2 with⟨rfl,z⟩|⟨hij,g2,e⟩
   ·rfl
   ·exact absurd g2 (yT nt (gX hij))
  ·exact absurd g1 (yT nt (gX hij))
 ·rcases at_ j _ g with⟨_,z⟩|⟨_,g,e'⟩
  ·cases z
  ·rw[e']at e;exact R.mine j ds b g e
 ·rcases at_ j _ g with⟨rfl,z⟩|⟨hij,g,e'⟩
  ·rw[dE hi]at e;cases e;rw[t.top]at q;have:=zM (gJ q);subst this;exact⟨λz=>R.own _ (sub _ z) h.1,λb hb z=>R.own _ (sub _ z) (h.2 b hb)⟩
  ·exact absurd g (yT nt (gX hij))
theorem Q8{rows:List (List D)}(g:Good O₀ H₀ O H)(R:RepS O₀ K O H σ τ)(s:jf H H')(h:H a=none/\∀b∈as,H b=none)(t:OwT K (a::as++O) H' rows a as)(nt:noT σ i=true)
 (nx:(zj K O₀ H₀ ex Dd O H).nx (setS σ i (some (.ot rows)))):Dd.nx (τ.set i (some (.ref a))) H':=by
 have hn:∀b∈a::as,H b=none:=λb hb=>(bD.mp hb).elim (λz=>by rw[z];exact h.1) (h.2 b)
 rcases bU i τ.length with hi|hi
 ·exact nx _ _ (a::as++O) (g.freshT s h) (qx s hn) (R.freshT g.sub s h t nt hi)
 ·have e1:setS σ i (some (.ot rows))=σ:=by
   have out:∀ {σ:Sto} {i:Nat} (v:Option Sl),σ.length<=i->setS σ i v=σ:=by
    intro σ
    induction σ with
    |nil=>intro i v _;rfl
    |cons x r ih =>
     intro i v hl
     cases i with
     |zero=>simp at hl
     |succ i=>simp only[setS];rw[ih v (by simpa using hl)]
   exact out _ (by rw[R.len];exact hi)
  have e2:τ.set i (some (.ref a))=τ:=sR hi;rw[e1]at nx;rw[e2];exact nx _ _ O (g.mono s) (jd s) (R.mono s)
theorem RepS.reT{as':List Addr}{rows rows':List (List D)}(R:RepS O₀ K O H σ τ)(g:getS σ i=some (.ot rows))(e1:τ[i]?=some (some (.ref a)))(t:OwT K O H rows a as)(hS:jf (je H O) (je H' O'))(hK:∀b∈O,b ∉ a::as->H' b=H b/\b∈O')(hO:∀b∈O',H' b≠none)
 (t':OwT K O' H' rows' a as') (hn:∀b∈as',b∈as\/H b=none) (hm:∀b∈as',b ∉ O₀):RepS O₀ K O' H' (setS σ i (some (.ot rows'))) τ:=by
 have hi:i<σ.length:=by
  rw[R.len];rcases bU i τ.length with q|q
  ·exact q
  ·rw[bG q]at e1;cases e1
 obtain⟨a',as0,e1',t0,d⟩:=R.tt.1 i rows g;rw[e1]at e1';cases e1'
 have eas:as0=as:=by
  have:=t0.top;rw[t.top]at this;exact(zM (gJ this)).symm
 subst eas
 have at_:∀j z,getS (setS σ i (some (.ot rows'))) j=some z->(j=i/\z=.ot rows')\/(i≠j/\getS σ j=some z):=λj z g=>by
  rw[jj]at g;by_cases hj:i=j/\i<σ.length
  ·rw[if_pos hj]at g;cases g;exact .inl ⟨hj.1.symm,rfl⟩
  ·rw[if_neg hj]at g;exact .inr ⟨λz=>hj ⟨z,hi⟩,g⟩
 refine⟨⟨by rw[jA];exact R.len,hO,λj e gg=>?_,λj ds gg=>?_,λj l ds es hjl g1 g2=>?_,⟨λj rs gg=>?_,λj l rs qs g1 g2=>?_⟩⟩,λj ds b gg e=>?_,λj rs b bs gg e q=>?_⟩
 ·rcases at_ j _ gg with⟨_,z⟩|⟨_,gg⟩
  ·cases z
  ·obtain⟨v,e2,e3⟩:=R.sh j e gg;exact⟨v,e2,Is.mono hS e e3⟩
 ·rcases at_ j _ gg with⟨_,z⟩|⟨_,gg⟩
  ·cases z
  ·obtain⟨b,vs,e2,e3,e4,e5⟩:=R.ow j ds gg;obtain⟨n1,n2⟩:=d j ds b gg e2;obtain⟨k1,k2⟩:=hK b e3 (by simp[n1,n2]);exact⟨b,vs,e2,k2,by rw[k1];exact e4,Iss.mono hS ds e5⟩
 ·rcases at_ j _ g1 with⟨_,z⟩|⟨_,g1⟩
  ·cases z
  rcases at_ l _ g2 with⟨_,z⟩|⟨_,g2⟩
  ·cases z
  exact R.dj j l ds es hjl g1 g2
 ·rcases at_ j _ gg with⟨rfl,z⟩|⟨hij,g'⟩
  ·cases z;refine⟨a,as',e1,t',λl ds b g2 e2=>?_⟩;rcases at_ l _ g2 with⟨_,z⟩|⟨_,g2⟩
   ·cases z
   ·obtain⟨n1,n2⟩:=d l ds b g2 e2;refine⟨n1,λz=>?_⟩;rcases hn b z with y|y
    ·exact n2 y
    ·obtain⟨b',vs,e3,_,e4,_⟩:=R.ow l ds g2;rw[e2]at e3;cases e3;rw[y]at e4;cases e4
  ·exact absurd (R.tt.2 i j _ _ g g') hij
 ·rcases at_ j _ g1 with⟨rfl,_⟩|⟨hij,g'⟩
  ·rcases at_ l _ g2 with⟨rfl,_⟩|⟨hij,g'⟩
   ·rfl
   ·exact absurd (R.tt.2 j l _ _ g g') hij
  ·exact absurd (R.tt.2 i j _ _ g g') hij
 ·rcases at_ j _ gg with⟨_,z⟩|⟨_,gg⟩
  ·cases z
  ·exact R.mine j ds b gg e
 ·rcases at_ j _ gg with⟨rfl,_⟩|⟨hij,g'⟩
  ·rw[e1]at e;cases e;rw[t'.top]at q;have:=zM (gJ q);subst this;exact⟨(R.mineT _ rows a as0 g e1 t.top).1,hm⟩
  ·exact absurd (R.tt.2 i j _ _ g g') hij
theorem Iss.setAt:∀ {ds:List D} {vs:List V} {i:Nat} {d:D} {v:V},Iss K S ds vs->Is K S d v->Iss K S (ds.set i d) (vs.set i v)
 |[],vs,i,d,v,h,g=>by unfold Iss at h;subst h;simp;unfold Iss;rfl
 |x::ds,vs,i,d,v,h,g=>by
  unfold Iss at h;obtain⟨u,r,rfl,h1,h2⟩:=h
  cases i with
  |zero=>simp only[jen];unfold Iss;exact⟨v,r,rfl,g,h2⟩
  |succ i=>simp only[jeo];unfold Iss;exact⟨u,_,rfl,h1,h2.setAt g⟩
theorem Rws.get{H:Hp}:∀ {rows:List (List D)} {as:List Addr} {n:Nat} {r:List D},Rws K O H rows as->rows[n]?=some r->∃b vs,as[n]?=some b/\H b=some (.lst vs)/\Iss K (je H O) r vs
 |[],as,n,r,_,e=>by simp at e
 |q::rows,as,n,r,h,e=>by
  obtain⟨b,bs,vs,rfl,h1,h2,h3⟩:=h
  cases n with
  |zero=>simp at e;subst e;exact⟨b,vs,rfl,h1,h2⟩
  |succ n=>exact Rws.get (n:=n) h3 (by simpa using e)
theorem Rws.write{H:Hp}{b:Addr}{r:List D}{ws:List V}(hb:b∈O)(is:Iss K (je H O) r ws):∀ {rows:List (List D)} {as:List Addr} {n:Nat},Rws K O H rows as->as.Nodup->as[n]?=some b->Rws K O (upd H b (.lst ws)) (rows.set n r) as
 |[],as,n,h,_,e=>by cases h;simp at e
 |q::rows,as,n,h,nd,e=>by
  obtain⟨c,bs,vs,rfl,h1,h2,h3⟩:=h;have nd':=nK.mp nd
  cases n with
  |zero =>
   simp at e;subst e;refine⟨c,bs,ws,rfl,jm ..,by rw[jO hb];exact is,h3.imp (by rw[jO hb];exact jf.refl _) λx hx us z=>?_⟩
   rw[jh λy=>nd'.1 (by rw[<- y];exact hx)];exact z
  |succ n =>
   have e':bs[n]?=some b:=by simpa using e
   have ne:c≠b:=λy=>nd'.1 (by rw[y];exact gq e')
   exact⟨c,bs,vs,rfl,by rw[jh ne];exact h1,by rw[jO hb];exact h2,Rws.write hb is h3 nd'.2 e'⟩
theorem RepS.rowT{b:Addr}{rows:List (List D)}{n:Nat}(R:RepS O₀ K O H σ τ)(g:getS σ i=some (.ot rows))(e1:τ[i]?=some (some (.ref a)))(t:OwT K O H rows a as)(hb:as[n]?=some b)(is:Iss K (je H O) r ws) :
 RepS O₀ K O (upd H b (.lst ws)) (setS σ i (some (.ot (rows.set n r)))) τ:=by
 have hm:=gq hb;have hbO:=t.inO.2 b hm
 refine R.reT g e1 t (by rw[jO hbO];exact jf.refl _) (λc hc n=>⟨jh λz=>n (by rw[z];exact bo _ hm),hc⟩) (λc hc=>?_) ⟨?_,t.nd,t.inO,t.rw.write hbO is t.nd.2 hb⟩ (λc hc=>.inl hc) λc hc=>(R.mineT i rows a as g e1 t.top).2 c hc
 ·by_cases z:c=b
  ·subst z;rw[jm];exact λz=>nomatch z
  ·rw[jh z];exact R.own c hc
 ·rw[jh λz=>t.nd.1 (by rw[z];exact hm)];exact t.top
theorem RepS.shareT{rows:List (List D)}(R:RepS O₀ K O H σ τ)(g:getS σ i=some (.ot rows))(e1:τ[i]?=some (some (.ref a)))(t:OwT K O H rows a as)(d:∀j ds b,getS σ j=some (.ow ds)->τ[j]?=some (some (.ref b))->b≠a/\b ∉ as) :
 RepS O₀ K (zl O (a::as)) H (setS σ i (some (.sh (kA rows)))) τ:=by
 have old:∀j z,getS (setS σ i (some (.sh (kA rows)))) j=some z->(∀d,z ≠ .sh d)->getS σ j=some z:=λj z h n=>by
  rw[jj]at h;by_cases hj:i=j/\i<σ.length
  ·rw[if_pos hj]at h;cases h;exact absurd rfl (n _)
  ·rw[if_neg hj]at h;exact h
 exact⟨R.toReps.shareT g e1 t d,λj ds b h e=>R.mine j ds b (old j _ h (λ_ z=>nomatch z)) e,R.mineT.step (λj rs h=>⟨old j _ h (λ_ z=>nomatch z),rfl⟩) λ_ _ _ _ _=>rfl⟩
theorem Good.shareT(g:Good O₀ H₀ O H)(hn:∀b∈as,b ∉ O₀):Good O₀ H₀ (zl O as) H :=
 ⟨g.same,λb hb=>jR.mpr ⟨g.sub b hb,λz=>hn b z hb⟩,λb hb=>g.new b (jR.mp hb).1⟩
theorem RepS.halfT{rows:List (List D)}(R:RepS O₀ K O H σ τ)(g:getS σ i=some (.ot rows))(e1:τ[i]?=some (some (.ref a)))(t:OwT K O H rows a as)(d:∀j ds b,getS σ j=some (.ow ds)->τ[j]?=some (some (.ref b))->b≠a/\b ∉ as) :
 RepS O₀ K (zl O as) H (setS σ i (some (.ow (rows.map .lst)))) τ:=by
 have lessS:jf (je H O) (je H (zl O as)):=jC λb hb=>(jR.mp hb).1
 have hi:i<σ.length:=by
  rw[R.len];rcases bU i τ.length with q|q
  ·exact q
  ·rw[bG q]at e1;cases e1
 have at_:∀j z,getS (setS σ i (some (.ow (rows.map .lst)))) j=some z->(j=i/\z=.ow (rows.map .lst))\/(i≠j/\getS σ j=some z):=λj z g=>by
  rw[jj]at g;by_cases hj:i=j/\i<σ.length
  ·rw[if_pos hj]at g;cases g;exact .inl ⟨hj.1.symm,rfl⟩
  ·rw[if_neg hj]at g;exact .inr ⟨λz=>hj ⟨z,hi⟩,g⟩
 have aO:a∈zl O as:=jR.mpr ⟨t.inO.1,t.nd.1⟩;refine⟨⟨by rw[jA];exact R.len,λb hb=>R.own b (jR.mp hb).1,λj e h=>?_,λj es h=>?_,λj l es fs hjl g1 g2=>?_,⟨λj rs h=>?_,λj l rs qs g1 g2=>?_⟩⟩,λj ds b h e=>?_,λj rs b bs h e q=>?_⟩
 ·rcases at_ j _ h with⟨_,z⟩|⟨_,h⟩
  ·cases z
  ·obtain⟨v,h1,h2⟩:=R.sh j e h;exact⟨v,h1,Is.mono lessS e h2⟩
 ·rcases at_ j _ h with⟨rfl,z⟩|⟨_,h⟩
  ·cases z;exact⟨a,_,e1,aO,t.top,t.rw.iss lessS λb hb z=>(jR.mp z).2 hb⟩
  ·obtain⟨b,ws,h1,h2,h3,h4⟩:=R.ow j es h;exact⟨b,ws,h1,jR.mpr ⟨h2,(d j es b h h1).2⟩,h3,Iss.mono lessS es h4⟩
 ·rcases at_ j _ g1 with⟨rfl,z⟩|⟨_,g1'⟩
  ·rcases at_ l _ g2 with⟨rfl,z⟩|⟨_,g2⟩
   ·exact absurd rfl hjl
   ·intro q;rw[e1]at q;exact(d l fs a g2 q.symm).1 rfl
  ·rcases at_ l _ g2 with⟨rfl,z⟩|⟨_,g2⟩
   ·intro q;rw[e1]at q;exact(d j es a g1' q).1 rfl
   ·exact R.dj j l es fs hjl g1' g2
 ·rcases at_ j _ h with⟨_,z⟩|⟨hij,h⟩
  ·cases z
  ·exact absurd (R.tt.2 i j _ _ g h) hij
 ·rcases at_ j _ g1 with⟨_,z⟩|⟨hij,h⟩
  ·cases z
  ·exact absurd (R.tt.2 i j _ _ g h) hij
 ·rcases at_ j _ h with⟨rfl,z⟩|⟨_,h⟩
  ·rw[e1]at e;cases e;exact(R.mineT _ rows a as g e1 t.top).1
  ·exact R.mine j ds b h e
 ·rcases at_ j _ h with⟨_,z⟩|⟨hij,h⟩
  ·cases z
  ·exact absurd (R.tt.2 i j _ _ g h) hij
theorem Reps.ofGet(R:Reps K O H σ τ)(hl:σ'.length=σ.length)(h:∀j z,getS σ' j=some z->getS σ j=some z):Reps K O H σ' τ where
 len:=by rw[hl];exact R.len
 own:=R.own
 sh:=λj d g=>R.sh j d (h j _ g)
 ow:=λj ds g=>R.ow j ds (h j _ g)
 dj:=λj l ds es n g1 g2=>R.dj j l ds es n (h j _ g1) (h l _ g2)
 tt:=R.tt.step (λj rows g=>⟨h j _ g,rfl⟩) (λ_ _ _ _ _ _ _ t=>t) λ_ _ _ _ j ds b _ _ g q=>.inl ⟨ds,h j _ g,q⟩
theorem RepS.ofGet(R:RepS O₀ K O H σ τ)(hl:σ'.length=σ.length)(h:∀j z,getS σ' j=some z->getS σ j=some z):RepS O₀ K O H σ' τ :=
 ⟨R.toReps.ofGet hl h,λj ds a g e=>R.mine j ds a (h j _ g) e,R.mineT.step (λj rows g=>⟨h j _ g,rfl⟩) λ_ _ _ _ _=>rfl⟩
theorem RepS.lose(R:RepS O₀ K O H σ τ)(j:Nat)(v:Option V):RepS O₀ K O H (setS σ j none) (τ.set j v):=by
 have at_:∀i z,getS (setS σ j none) i=some z->getS σ i=some z/\∀w,τ[i]?=some w->(τ.set j v)[i]?=τ[i]?:=λi z g=>by
  rw[jj]at g;by_cases hj:j=i/\j<σ.length
  ·rw[if_pos hj]at g;cases g
  ·rw[if_neg hj]at g;refine⟨g,λw e=>?_⟩;by_cases hij:j=i
   ·subst hij
    have hl:j<τ.length:=by
     rcases bU j τ.length with q|q
     ·exact q
     ·rw[bG q]at e;cases e
    exact absurd ⟨rfl,by rw[R.len];exact hl⟩ hj
   ·exact bX hij
 have back:∀i z w,getS (setS σ j none) i=some z->(τ.set j v)[i]?=some w->τ[i]?=some w:=λi z w g e=>by
  rcases bU i τ.length with q|q
  ·obtain⟨_,k⟩:=at_ i z g;have:=k _ (bE q);rw[this]at e;exact e
  ·rw[bG (by rw[g6];exact q)]at e;cases e
 refine⟨⟨by rw[jA,g6];exact R.len,R.own,λi d g=>?_,λi ds g=>?_,λi l ds es n g1 g2=>?_,⟨λi rows g=>?_,λi l rs qs g1 g2=>R.tt.2 i l rs qs (at_ i _ g1).1 (at_ l _ g2).1⟩⟩,λi ds a g e=>R.mine i ds a (at_ i _ g).1 (back i _ _ g e),λi rows a as g e t=>R.mineT i rows a as (at_ i _ g).1 (back i _ _ g e) t⟩
 ·obtain⟨u,e1,e2⟩:=R.sh i d (at_ i _ g).1;exact⟨u,((at_ i _ g).2 _ e1).trans e1,e2⟩
 ·obtain⟨a,vs,e1,e2⟩:=R.ow i ds (at_ i _ g).1;exact⟨a,vs,((at_ i _ g).2 _ e1).trans e1,e2⟩
 ·obtain⟨a,vs,e1,_⟩:=R.ow i ds (at_ i _ g1).1;obtain⟨b,ws,e2,_⟩:=R.ow l es (at_ l _ g2).1;rw[(at_ i _ g1).2 _ e1,(at_ l _ g2).2 _ e2];exact R.dj i l ds es n (at_ i _ g1).1 (at_ l _ g2).1
 ·obtain⟨a,as,e1,t,d⟩:=R.tt.1 i rows (at_ i _ g).1;exact⟨a,as,((at_ i _ g).2 _ e1).trans e1,t,λl ds b g2 e2=>d l ds b (at_ l _ g2).1 (back l _ _ g2 e2)⟩
def yi(σ:Sto)(i j:Nat)(rows:List (List D)):Sto:=setS (setS σ i (some (.ot rows))) j none
structure RowAt (K:bp) (O₀:List Addr) (H₀:Hp) (σ:Sto) (i j l:Nat) (a:Addr) (as:List Addr) (rows:List (List D)) (O:List Addr) (H:Hp) (τ:L2.St):Prop where
 g:Good O₀ H₀ O H
 R:RepS O₀ K O H (yi σ i j rows) τ
 ia:τ[i]?=some (some (.ref a))
 top:H a=some (.lst (as.map V.ref))
 row:∃b,as[l]?=some b/\τ[j]?=some (some (.ref b))
theorem zT{rows:List (List D)}(hij:i≠j)(hi:i<σ.length):getS (yi σ i j rows) i=some (.ot rows):=by
 unfold yi;rw[jj,if_neg λz=>hij z.1.symm,jj,if_pos ⟨rfl,hi⟩]
theorem RowAt.get{rows:List (List D)}{row:List D}(A:RowAt K O₀ H₀ σ i j l a as rows O H τ)(hij:i≠j)(hi:i<σ.length)(hr:rows[l]?=some row) :
 ∃b vs,OwT K O H rows a as/\as[l]?=some b/\τ[j]?=some (some (.ref b))/\H b=some (.lst vs)/\Iss K (je H O) row vs/\b∈O:=by
 obtain⟨a',as',e1,t,d⟩:=A.R.tt.1 i rows (zT hij hi);rw[A.ia]at e1;cases e1
 have eas:as'=as:=by
  have:=t.top;rw[A.top]at this;exact(zM (gJ this)).symm
 subst eas;obtain⟨b,hb,ej⟩:=A.row;obtain⟨b',vs,hb',e3,e4⟩:=t.rw.get hr;rw[hb]at hb';cases hb';exact⟨b,vs,t,hb,ej,e3,e4,t.inO.2 b (gq hb)⟩
theorem RowAt.mono{rows:List (List D)}(A:RowAt K O₀ H₀ σ i j l a as rows O H τ)(s:jf H H'):RowAt K O₀ H₀ σ i j l a as rows O H' τ:=⟨A.g.mono s,A.R.mono s,A.ia,s _ _ A.top,A.row⟩
theorem RowAt.rest{rows:List (List D)}(A:RowAt K O₀ H₀ σ i j l a as rows O H τ)(hij:i≠j):Reps K O H (setS (setS σ i none) j none) τ:=by
 refine A.R.toReps.ofGet (by unfold yi;simp only[jA]) λm z g=>?_
 unfold yi;rw[jj]at g ⊢;simp only[jA]at g ⊢;split at g
 ·cases g
 ·next h1 =>
  rw[if_neg h1];rw[jj]at g ⊢;split at g
  ·cases g
  ·next h2=>rw[if_neg h2];exact g
theorem RowAt.seen{rows:List (List D)}{row:List D}{b:Addr}(A:RowAt K O₀ H₀ σ i j l a as rows O H τ)(hij:i≠j)(hi:i<σ.length)(t:OwT K O H rows a as)(hb:as[l]?=some b)(ej:τ[j]?=some (some (.ref b)))(e3:H b=some (.lst vs))(e4:Iss K (je H O) row vs) :
 Reps K (less O b) H (setS (setS σ i none) j (some (.sh (.lst row)))) τ:=by
 have lessS:jf (je H O) (je H (less O b)):=jC λc hc=>(j5.mp hc).1
 have at_:∀m z,getS (setS (setS σ i none) j (some (.sh (.lst row)))) m=some z->(m=j/\z=.sh (.lst row))\/(m≠i/\getS (yi σ i j rows) m=some z):=λm z g=>by
  rw[jj]at g;simp only[jA]at g;split at g
  ·next h=>cases g;exact .inl ⟨h.1.symm,rfl⟩
  ·next h1 =>
   rw[jj]at g;split at g
   ·cases g
   ·next h2 =>
    have hm:m≠i:=λz=>h2 ⟨z.symm,by rw[<- z]at hi;rw[z]at hi;exact hi⟩
    refine .inr ⟨hm,?_⟩;unfold yi;rw[jj];simp only[jA];rw[if_neg h1,jj,if_neg λz=>hm z.1.symm];exact g
 obtain⟨a',as',e1',t',d⟩:=A.R.tt.1 i rows (zT hij hi);rw[A.ia]at e1';cases e1'
 have eas:as'=as:=by
  have:=t'.top;rw[t.top]at this;exact(zM (gJ this)).symm
 subst eas;refine⟨by simp only[jA];have:=A.R.len;unfold yi at this;simp only[jA]at this;exact this,λc hc=>A.R.own c (j5.mp hc).1,λm d' g=>?_,λm ds g=>?_,λm n ds es hmn g1 g2=>?_,⟨λm rs g=>?_,λm n rs qs g1 g2=>?_⟩⟩
 ·rcases at_ m _ g with⟨rfl,z⟩|⟨_,g⟩
  ·cases z;refine⟨.ref b,ej,qE (SqL.of ?_) (Iss.mono lessS row e4)⟩;rw[j8 λz=>(j5.mp z).2 rfl];exact e3
  ·obtain⟨v,q1,q2⟩:=A.R.sh m d' g;exact⟨v,q1,Is.mono lessS d' q2⟩
 ·rcases at_ m _ g with⟨_,z⟩|⟨_,g⟩
  ·cases z
  ·obtain⟨c,ws,q1,q2,q3,q4⟩:=A.R.ow m ds g;refine⟨c,ws,q1,j5.mpr ⟨q2,λz=>(d m ds c g q1).2 ?_⟩,q3,Iss.mono lessS ds q4⟩;rw[z];exact gq hb
 ·rcases at_ m _ g1 with⟨_,z⟩|⟨_,g1⟩
  ·cases z
  rcases at_ n _ g2 with⟨_,z⟩|⟨_,g2⟩
  ·cases z
  exact A.R.dj m n ds es hmn g1 g2
 ·rcases at_ m _ g with⟨_,z⟩|⟨hm,g⟩
  ·cases z
  ·exact absurd (A.R.tt.2 m i _ _ g (zT hij hi)) hm
 ·rcases at_ m _ g1 with⟨_,z⟩|⟨hm,g⟩
  ·cases z
  ·exact absurd (A.R.tt.2 m i _ _ g (zT hij hi)) hm
theorem RowAt.write{rows:List (List D)}{b:Addr}(A:RowAt K O₀ H₀ σ i j l a as rows O H τ)(hij:i≠j)(hi:i<σ.length)(t:OwT K O H rows a as)(hb:as[l]?=some b)(ej:τ[j]?=some (some (.ref b)))(is:Iss K (je H O) r ws) :
 RowAt K O₀ H₀ σ i j l a as (rows.set l r) O (upd H b (.lst ws)) τ:=by
 have hm:=gq hb;have gi:=zT (rows:=rows) hij hi;have e1:=A.ia;have hn:=(A.R.mineT i rows a as gi e1 t.top).2 b hm;refine⟨A.g.write (t.inO.2 b hm) hn,(A.R.rowT gi e1 t hb is).ofGet (by unfold yi;simp only[jA]) λm z g=>?_,A.ia,?_,b,hb,ej⟩
 ·unfold yi at *;rw[jj]at g;rw[jj];simp only[jA]at g ⊢;by_cases him:i=m/\i<σ.length
  ·rw[if_pos him];rw[if_neg λz=>hij (him.1.trans z.1.symm),jj,if_pos him]at g;exact g
  ·rw[if_neg him,jj];simp only[jA];split at g
   ·cases g
   ·next h1 =>
    rw[if_neg h1];rw[jj,if_neg him]at g;rw[jj,if_neg him];exact g
 ·rw[jh λz=>t.nd.1 (by rw[z];exact hm)];exact t.top
def tR1(K:bp)(C:Cfg)(O₀:List Addr)(H₀:Hp)(i j:Nat)(r:RSt):TS:=λD τ H=>∃σ l a as rows row O,(i≠j/\i<σ.length)/\RowAt K O₀ H₀ σ i j l a as rows O H τ/\rows[l]?=some row /\
 U0 C j (setS σ i none) r row λrow'=>∀H',jf (je H O) (je H' O)->RowAt K O₀ H₀ σ i j l a as (rows.set l row') O H' τ->D.nx τ H'
def tR(K:bp)(C:Cfg)(O₀:List Addr)(H₀:Hp)(i j:Nat)(rs:List RSt):TS:=λD τ H=>∃σ l a as rows row O,(i≠j/\i<σ.length)/\RowAt K O₀ H₀ σ i j l a as rows O H τ/\rows[l]?=some row /\
 wpR C j (setS σ i none) rs row λrow'=>∀H',jf (je H O) (je H' O)->RowAt K O₀ H₀ σ i j l a as (rows.set l row') O H' τ->D.nx τ H'
theorem sR_app(ok:OkS X k C){v:Ex}(h:vg k j (.app v) st=true):PS X st (tR1 X.K C O₀ H₀ i j (.app v)):=by
 unfold vg at h;replace h:=jb h;obtain⟨z,hz,h⟩:=h;obtain⟨pos,rfl⟩:=Qy hz;replace h:=jb h;obtain⟨⟨fe,xs,ks,cp⟩,hc,h⟩:=h;have ee:=qY hc;subst ee;simp only[bg,decide_eq_true_eq,gw]at h;obtain⟨⟨⟨hk,hl1⟩,hat⟩,he⟩:=h;replace hat:=jb hat;obtain⟨⟨ob,at',ap⟩,hy,hat⟩:=hat;have ee:=qU hy;subst ee;simp only[bg,decide_eq_true_eq]at hat;obtain⟨⟨ha1,ha2⟩,ha3⟩:=hat;subst ha1 hk;replace ha2:=jb ha2;obtain⟨x,hx,hloc⟩:=ha2;obtain⟨q,rfl⟩:=jo hx;obtain⟨y,rfl⟩:=kQ hl1;have he:chkE k v y=true:=he;obtain⟨h1,h2,h3,h4⟩:=ok.vis hloc;refine PS.imp (λD τ H w=>?_) (zJ (Ka mE sT PySem.F.type_list_append uW (kh h1 (qI h2) h3 h4) (jw (sB ok.toOk v y he).1 jX (jv he _ _)) rfl (by rw[jv he];rfl) ha3 (jv he _ _) rfl));obtain⟨σ,l,a,as,rows,row,O,⟨hij,hi⟩,A,hr,hlim,w⟩:=w;obtain⟨b,vs,t,hb,ej,e3,e4,hbO⟩:=A.get hij hi hr;refine⟨.ref b,ej,.inl ⟨rfl,vs,SqL.of e3⟩,_,O,A.rest hij,ja v (λd wd u H1 s1 i1=>?_) w⟩;have hl:=e4.length;refine⟨b,vs,u,rfl,rfl,s1 _ _ e3,by rw[n6];unfold lim at hlim;lia,?_⟩;refine wd _ ?_ ((A.mono s1).write hij hi (t.mono s1) hb ej ((Iss.mono (jd s1) row e4).append (by unfold Iss;exact⟨u,[],rfl,i1,by unfold Iss;rfl⟩)));rw[jO hbO];exact jd s1
theorem jbg(ok:OkS X k C){v:Ex}(h:vg k j (.sto none e v) st=true):PS X st (tR1 X.K C O₀ H₀ i j (.sto none e v)):=by
 unfold vg at h;replace h:=jb h;obtain⟨⟨ts,vE⟩,ha,h⟩:=h;obtain⟨pos,rfl⟩:=xl ha;replace h:=jb h;obtain⟨t,ht,h⟩:=h;have et:=yJ ht;simp only at et;subst et;replace h:=jb h;obtain⟨⟨ob,ix⟩,hx,h⟩:=h;obtain⟨p,rfl⟩:=yS hx;simp only[bg,b8]at h;obtain⟨⟨⟨⟨hsl,hcm⟩,hloc⟩,he⟩,hv⟩:=h;replace hloc:=jb hloc;obtain⟨x,hn,hloc⟩:=hloc;obtain⟨q,rfl⟩:=jo hn;obtain⟨h1,h2,h3,h4⟩:=ok.vis hloc
 have hasg:∀u,assign (.Subscript (.Name x q) ix p) X.env u=(do
  let ov <- tj [u] (eval (.Name x q) X.env)
  let iv <- tj [u,ov] (eval ix X.env)
  jev p
  tj [u,ov,iv] (setItem ov iv u)
  release [u,ov,iv] []):=by
  intro u
  cases ix<;>first|rfl|exact bK hsl
 refine PS.imp (λD τ H w=>?_) (vZ (sB ok.toOk v vE hv).1 (jbl (kh h1 (qI h2) h3 h4) (sB ok.toOk e ix he).1 XJ hasg) (by unfold jcP;exact vI hv hcm _ _ _) (by cases vE<;>rfl) rfl);obtain⟨σ,l,a,as,rows,row,O,⟨hij,hi⟩,A,hr,w⟩:=w;obtain⟨b,vs,t,hb,ej,e3,e4,hbO⟩:=A.get hij hi hr;refine⟨_,_,A.seen hij hi t hb ej e3 e4,ja v (λd wd u H1 s1 i1=>?_) w⟩;have i1:=jax (s1 _ _ e3) d wd.1 i1;refine⟨.ref b,ej,_,O,(A.mono s1).rest hij,ja e (λy wy yv H2 s2 i2=>?_) wd.2⟩
 cases y with
 |int n =>
  cases jz i2;obtain⟨⟨n0,n1⟩,q⟩:=wy;have s12:=s1.trans s2;have hl:=e4.length;refine⟨b,vs,n,n.toNat,rfl,rfl,s12 _ _ e3,by unfold ixN;rw[if_pos n0,if_pos (by lia)],?_⟩;have i3:Iss X.K (je H2 O) (row.set n.toNat d) (vs.set n.toNat u):=(Iss.mono (jd s12) row e4).setAt (Is.mono (jd s2) d i1);refine q _ ?_ ((A.mono s12).write hij hi (t.mono s12) hb ej i3);rw[jO hbO]
  exact jd s12
 |_=>exact wy.elim
theorem sR1(ok:OkS X k C)(r:RSt)(st:Stmt)(h:vg k j r st=true):PS X st (tR1 X.K C O₀ H₀ i j r):=by
 cases r with
 |app v=>exact sR_app ok h
 |sto c e v =>
  cases c with
  |none=>exact jbg ok h
  |some c =>
   unfold vg at h;replace h:=jb h;obtain⟨⟨t,xs,ys⟩,hz,h⟩:=h;obtain⟨pos,rfl⟩:=Y7 hz;simp only[bg,gw]at h;obtain⟨⟨h0,hc⟩,h⟩:=h;subst h0;replace h:=jb h;obtain⟨s,hs,h⟩:=h;have es:=ja9 hs;subst es;refine PS.imp (λD τ H w=>?_) (Q4 (sB ok.toOk c t hc).2 (Zy (jbg (O₀:=O₀) (H₀:=H₀) (i:=i) ok (e:=e) (v:=v) (show vg k j (.sto none e v) s=true from h))) kl);obtain⟨σ,l,a,as,rows,row,O,⟨hij,hi⟩,A,hr,w⟩:=w;refine⟨_,O,A.rest hij,ja c (λd=>jW λb wb H1 s1=>?_) w⟩
   cases b with
   |true=>exact⟨σ,l,a,as,rows,row,O,⟨hij,hi⟩,A.mono s1,hr,uL (s:=.sto none e v) (λrow' q H' s' A'=>q H' ((jd s1).trans s') A') wb⟩
   |false =>
    have hset:rows.set l row=rows:=by
     apply jeG;intro m;rw[jeH];split
     ·next e=>subst e;split
              ·exact hr.symm
              ·next hh=>rw[bG (by lia)]
     ·rfl
    exact wb H1 (jd s1) (by rw[hset];exact A.mono s1)
theorem sRs(ok:OkS X k C){i j:Nat}:∀(rs:List RSt) (ss:List Stmt),jb9 k j rs ss=true->PSs X ss (tR X.K C O₀ H₀ i j rs)
 |[],ss,h=>by
  have e:ss=[]:=by rw[jb9]at h;simpa using h
  subst e;refine PSs.imp (λD τ H w=>?_) kl;obtain⟨σ,l,a,as,rows,row,O,hh,A,hr,w⟩:=w
  have hset:rows.set l row=rows:=by
   apply jeG;intro m;rw[jeH];split
   ·next e=>subst e;split
            ·exact hr.symm
            ·next hh=>rw[bG (by lia)]
   ·rfl
  exact w H (jf.refl _) (by rw[hset];exact A)
 |r::rs,ss,h=>by
  rw[jb9]at h
  cases ss with
  |nil=>simp at h
  |cons s ss =>
   simp only[bg,dZ,gC]at h;refine PSs.imp (λD τ H w=>?_) (jB (sR1 (i:=i) (O₀:=O₀) (H₀:=H₀) ok r s h.1.2) (sRs (i:=i) ok rs ss h.2));obtain⟨σ,l,a,as,rows,row,O,hh,A,hr,w⟩:=w;refine⟨σ,l,a,as,rows,row,O,hh,A,hr,uL (λrow' q H' s' A'=>?_) w⟩;have hl:l<rows.length:=(gH.mp hr).1;refine⟨σ,l,a,as,rows.set l row',row',O,hh,A',by rw[dE hl],uk rs (λrow2 q2 H2 s2 A2=>q2 H2 (s'.trans s2) ?_) q⟩;rw[List.set_set]at A2;exact A2
theorem XT{ss:List RSt}{rows:List (List D)}(hij:i≠j)(hjl:j<σ.length)(g:Good O₀ H₀ O H)(R:RepS O₀ K O H σ τ)(gs:getS σ i=some (.ot rows))(ea:τ[i]?=some (some (.ref a)))(t:OwT K O H rows a as)
 (w:zO (wpR C j (setS σ i none) ss) rows λrows'=>(zj K O₀ H₀ ex Dd O H).nx (setS (setS σ i (some (.ot rows'))) j none)) :
 ∃W:Nat->Nat->L2.St->Hp->Prop,(∃m,W 0 m τ H)/\∀l m τ H,W l m τ H->((Itl K a).stop l H/\Dd.nx τ H)\/((Itl K a).go l H/\∃N:L2.St->Hp->Prop,(∀τ' H',N τ' H'->∃m',m'<m/\W (l+1) m' τ' H') /\
  ∀x H',(Itl K a).yld l H x H'->qA j x τ H' λτ2 H2=>tR K C O₀ H₀ i j ss { Dd with nx:=N,ct:=N,bk:=Dd.nx } τ2 H2):=by
 have hi:i<σ.length:=by
  rw[R.len];rcases bU i τ.length with q|q
  ·exact q
  ·rw[bG q]at ea;cases ea
 have hlen:=t.rw.len
 have R0:RepS O₀ K O H (yi σ i j rows) τ:=by
  refine R.ofGet (by unfold yi;simp only[jA]) λm z q=>?_
  unfold yi at q;rw[jj]at q;split at q
  ·cases q
  ·rw[jj]at q;split at q
   ·next h=>rw[<- h.1,gs];exact q
   ·exact q
 let P:Nat->L2.St->Hp->Prop:=λl τ' H'=>∃dn rest,dn.length=l/\dn.length+rest.length=as.length/\Good O₀ H₀ O H'/\jf (je H O) (je H' O)/\RepS O₀ K O H' (yi σ i j (dn++rest)) τ'/\τ'[i]?=some (some (.ref a))/\H' a=some (.lst (as.map V.ref)) /\
  zO (wpR C j (setS σ i none) ss) rest λrest'=>(zj K O₀ H₀ ex Dd O H).nx (setS (setS σ i (some (.ot (dn++rest')))) j none)
 refine⟨λl m τ' H'=>m=as.length-l/\l<=as.length/\P l τ' H',⟨_,rfl,mI _,[],rows,rfl,by simp[hlen],g,jf.refl _,R0,ea,t.top,w⟩,?_⟩;rintro l m τ1 H1 ⟨rfl,hl,dn,rest,hd,hsum,g1,s1,R1,ea1,top1,w1⟩
 cases rest with
 |nil =>
  refine .inl ⟨⟨as.map V.ref,SqL.of top1,by rw[bj];simp at hsum;lia⟩,?_⟩;rw[dM]at R1;have w1:(zj K O₀ H₀ ex Dd O H).nx (setS (setS σ i (some (.ot (dn ++ [])))) j none):=w1;rw[dM]at w1
  exact w1 τ1 H1 O g1 s1 R1
 |cons row rest =>
  have hlt:l<as.length:=by simp only[gf]at hsum;lia
  refine .inr ⟨⟨as.map V.ref,.ref as[l],SqL.of top1,by rw[bW,bE hlt];rfl⟩,λτ' H'=>l+1<=as.length/\P (l+1) τ' H',λτ' H' q=>⟨as.length-(l+1),by lia,rfl,q.1,q.2⟩,λx H2 y=>?_⟩;obtain⟨e2,y⟩:=y;subst e2;have hx:=y _ (SqL.of top1);rw[bW,bE hlt]at hx;cases hx
  have hrow:(dn++row::rest)[l]?=some row:=by rw[dO (by lia),hd,tX];rfl
  have R2:=R1.lose j (some (.ref as[l]))
  have R3:RepS O₀ K O H2 (yi σ i j (dn++row::rest)) (τ1.set j (some (.ref as[l]))):=by
   refine R2.ofGet (by unfold yi;simp only[jA]) λm z q=>?_
   rw[jj];split
   ·next h =>
    unfold yi at q;rw[jj]at q;unfold yi at h;simp only[jA]at h q;rw[if_pos h]at q;exact q
   ·exact q
  have ei:(τ1.set j (some (.ref as[l])))[i]?=some (some (.ref a)):=by rw[bX (gX hij)];exact ea1
  have hj:j<τ1.length:=by
   have:=R1.len;unfold yi at this;simp only[jA]at this;lia
  refine⟨σ,l,a,as,_,row,O,⟨hij,hi⟩,⟨g1,R3,ei,top1,as[l],bE hlt,dE hj⟩,hrow,uk ss (λrow' q H' s' A'=>⟨hlt,dn ++ [row'],rest,by simp[hd],by simp only[df,gf,nL]at hsum ⊢;lia,A'.g,s1.trans s',?_,ei,A'.top,by simpa using q⟩) w1⟩
  have e:(dn++row::rest).set l row'=dn ++ [row']++rest:=by rw[List.set_append_right _ _ (by lia),hd,tX];simp
  have:=A'.R;rw[e]at this;exact this
end
end Z
namespace Z
open PySem PySem.Spec PySem.Calls PyProof.Rows PySem.W L2
def YE(D:Addr)(σ:L2.St)(H:Hp):Prop:=∃ea oe u,σ[0]?=some (some (.ref ea))/\H ea=some (.frz oe u)/\oe.cls=.ref D
def tIx(D:Addr)(b:Bool):TE:=λσ H Q=>YE D σ H/\Q (.bl b) H
def isiOk(e:Expr)(c:Str):Bool:=(j9 e).any λz=>decide (z.1=("isinstance":Str))&&decide (z.2.1.length=2)&&decide (ju (z.2.1.getD 0 e)=some ("_law_e":Str))&&decide (ju (z.2.1.getD 1 e)=some c)
variable{e:Expr}{c:Str}
theorem Yb(h:isiOk e c=true):∃q qe qc p,e=.Call (.Name "isinstance" q) [.Name "_law_e" qe,.Name c qc] [] p:=by
 unfold isiOk at h;obtain⟨⟨x,xs,pos⟩,hx,h⟩:=jb h;obtain⟨q,rfl⟩:=jL hx;simp only[bg,decide_eq_true_eq]at h;obtain⟨⟨⟨h1,h2⟩,h3⟩,h4⟩:=h;subst h1;obtain⟨a,b,rfl⟩:=qj h2;obtain⟨qe,rfl⟩:=jo (show ju a=_ from h3);obtain⟨qc,rfl⟩:=jo (show ju b=_ from h4);exact⟨q,qe,qc,pos,rfl⟩
def zx:List Str->List Expr->Bool
 |[],es=>es.isEmpty
 |c::cs,es=>!es.isEmpty&&isiOk (es.getD 0 (.Name "" ⟨0,0,0,0⟩)) c&&zx cs (es.drop 1)
def Zn(cs:List Str)(e:Expr):Bool:=(Ku e).any λes=>zx cs es
def Xr(s:Stmt)(p:Expr->Bool):Bool:=(xV s).any λz=>(zX z.1).any λt=>decide (ju t=some ("_law_flags":Str))&&p z.2
def jaA(cs:List Str)(e:Expr):Bool:=(VP e).any λz=>decide (z.2.1=.Add)&&decide (ju z.1=some ("_law_flags":Str))&&Zn cs z.2.2
variable{p:Pos}
theorem YI{s:Stmt}{p:Expr->Bool}(h:Xr s p=true):∃q v pos,s=.Assign [.Name "_law_flags" q] v pos/\p v=true:=by
 unfold Xr at h;replace h:=jb h;obtain⟨⟨ts,v⟩,ha,h⟩:=h;obtain⟨pos,rfl⟩:=xl ha;replace h:=jb h;obtain⟨t,ht,h⟩:=h;have et:=yJ ht;simp only at et;subst et;simp only[bg,decide_eq_true_eq]at h;obtain⟨q,rfl⟩:=jo h.1;exact⟨q,v,pos,rfl,h.2⟩
structure AX (X:Cx):Prop where
 n0:X.N[0]?=some ("_law_e":Str)
 n1:X.N[1]?=some ("_law_flags":Str)
 nd:X.N.Nodup
 l0:X.env.scope.names.lookup ("_law_e":Str)=some .local
 l1:X.env.scope.names.lookup ("_law_flags":Str)=some .local
 gl:∀c∈("isinstance":Str)::("TrueError":Str)::("ValueError":Str)::names12,Gl X c
 fn:∀x,X.fn x=true
variable{q qe qc:Pos}{cs:List Str}{es:List Expr}
section
variable {X:Cx} {D:Addr} {y:Str}
theorem v8(e:ExcIn X.K D):xD X (.builtin "isinstance") (λvs H Q=>∃ea oe u cv cu b,vs=[.ref ea,cv]/\H ea=some (.frz oe u)/\oe.cls=.ref D/\(∀u',jS cv u'->u'=cu)/\kitOne X.K (.ref D) cu=some b/\Q (.bl b) H):=by
 rintro pins s τ H vs us Q I r ⟨ea,oe,u,cv,cu,b,rfl,he,hc,hr,hk,q⟩;obtain⟨u1,u2,rfl,r1,r2⟩:=Xq r;cases hr u2 r2;cases (show u1=gT ea from r1);have ob:=I.hok ea _ he
 exact nM (jag e) I.kIn ⟨oe,ob.1,hc⟩ hk (λz=>nomatch z) λtk=>⟨.bl b,H,I.tok tk,rfl,q⟩
theorem pe_isx(a:AX X)(F:AloneF X.K X.mg y D)(hc:c∈names12):PE X (.Call (.Name "isinstance" q) [.Name "_law_e" qe,.Name c qc] [] p) (tIx D (decide (c=y))):=by
 obtain⟨Ca,hm,hk⟩:=F.cls c hc;have g:=a.gl c (by simp[hc])
 have hdb:(c == ("__debug__":Str))=false:=by
  have:∀c∈names12,(c == ("__debug__":Str))=false:=by decide +kernel
  exact this c hc
 have pn:PE X (.Name c qc) (tC (.ref Ca)):=K9 g hm rfl hdb;refine PE.imp (λτ H Q w=>?_) (kR (v8 F.ex) (a.gl _ (by simp)) F.isi mV (jw (kh a.n0 (.inl a.l0)) (jw pn jX)));obtain⟨⟨ea,oe,u,h1,h2,h3⟩,w⟩:=w;exact⟨_,h1,ea,oe,u,_,_,_,rfl,h2,h3,λu' r=>r,hk,w⟩
theorem pe_isT(a:AX X)(F:AloneF X.K X.mg y D):PE X (.Call (.Name "isinstance" q) [.Name "_law_e" qe,.Name "TrueError" qc] [] p) (tIx D true):=by
 obtain⟨Ca,hm,hk⟩:=F.te;have pn:PE X (.Name "TrueError" qc) (tC (.ref Ca)):=K9 (a.gl _ (by simp)) hm rfl;refine PE.imp (λτ H Q w=>?_) (kR (v8 F.ex) (a.gl _ (by simp)) F.isi mV (jw (kh a.n0 (.inl a.l0)) (jw pn jX)));obtain⟨⟨ea,oe,u,h1,h2,h3⟩,w⟩:=w;exact⟨_,h1,ea,oe,u,_,_,_,rfl,h2,h3,λu' r=>r,hk,w⟩
theorem pe_isV(a:AX X)(F:AloneF X.K X.mg y D):PE X (.Call (.Name "isinstance" q) [.Name "_law_e" qe,.Name "ValueError" qc] [] p) (tIx D true):=by
 have pn:PE X (.Name "ValueError" qc) (tC (.ty "ValueError")):=Zw (a.gl _ (by simp)) F.vn PyProof.Rows.Boot.«ValueError» rfl;refine PE.imp (λτ H Q w=>?_) (kR (v8 F.ex) (a.gl _ (by simp)) F.isi mV (jw (kh a.n0 (.inl a.l0)) (jw pn jX)));obtain⟨⟨ea,oe,u,h1,h2,h3⟩,w⟩:=w;exact⟨_,h1,ea,oe,u,_,_,_,rfl,h2,h3,λu' r=>r,F.ve,w⟩
def fl(y:Str)(cs:List Str):List Bool:=cs.map λc=>decide (c=y)
theorem ZE(a:AX X)(F:AloneF X.K X.mg y D):∀(cs:List Str) (es:List Expr),zx cs es=true->(∀c∈cs,c∈names12)->PA X es (λσ H Q=>YE D σ H/\Q ((fl y cs).map .bl) H)
 |[],es,h,_=>by
  have e:es=[]:=by rw[zx]at h;simpa using h
  subst e
  exact PA.imp (λτ H Q w=>w.2) jX
 |c::cs,es,h,hc=>by
  rw[zx]at h
  cases es with
  |nil=>simp at h
  |cons e r =>
   simp only[bg,dZ,gC]at h;obtain⟨q,qe,qc,p,rfl⟩:=Yb (show isiOk e c=true from h.1.2);refine PA.imp (λτ H Q w=>?_) (jw (pe_isx a F (hc c (bB ..))) (ZE a F cs r h.2 λz hz=>hc z (bo _ hz)));exact⟨w.1,w.1,w.2⟩
theorem QK(a:AX X)(F:AloneF X.K X.mg y D)(h:zx cs es=true)(hc:∀c∈cs,c∈names12)(hl:cs.length<=100) :
 PE X (.List es p) (λσ H Q=>YE D σ H/\∀p H',jf H H'->SqL X.K H' p ((fl y cs).map .bl)->Q (.ref p) H'):=by
 refine PE.imp (λτ H Q w=>?_) (Jt (ZE a F cs es h hc));refine⟨w.1,?_,λp hp=>w.2 p _ (jE hp _) (SqL.of (jm ..))⟩
 have:100<=sizeLine:=by decide
 simp[fl];exact dg hl this
theorem YR{K:Frag}{S:Hp}:∀bs:List Bool,Iss K S (bs.map Z.D.bl) (bs.map V.bl)
 |[]=>by unfold Iss;rfl
 |b::bs=>by
  simp only[bz];unfold Iss;exact⟨_,_,rfl,qz b,YR bs⟩
theorem ZO{K:Frag}{S:Hp}:∀ {bs:List Bool} {vs:List V},Iss K S (bs.map Z.D.bl) vs->vs=bs.map V.bl
 |[],vs,h=>by unfold Iss at h;exact h
 |b::bs,vs,h=>by
  simp only[bz]at h;unfold Iss at h;obtain⟨v,r,rfl,h1,h2⟩:=h;rw[qM h1,ZO h2];rfl
theorem op_cat:OpR X (jcY .Add) (λx z H Q=>∃(p1 p2:Addr) (bs cs:List Bool),x=.ref p1/\z=.ref p2/\SqL X.K H p1 (bs.map .bl)/\SqL X.K H p2 (cs.map .bl)/\bs.length+cs.length<=lim/\∀p H',jf H H'->SqL X.K H' p ((bs++cs).map .bl)->Q (.ref p) H'):=by
 rintro pins s τ H x z v u Q I rx ry ⟨p1,p2,bs,cs,rfl,rfl,h1,h2,hl,q⟩;cases (show v=gT p1 from rx);cases (show u=gT p2 from ry);refine Kh (O:=[]) (xs:=bs.map Z.D.bl) (ys:=cs.map Z.D.bl) I (λ_ z=>nomatch z) ⟨by simpa using hl,λv H' sm i=>?_⟩ h1 h2 (YR bs) (YR cs);rw[<- b6]at i;obtain⟨p,vs,rfl,sq,is⟩:=jK i;rw[ZO is]at sq;exact q p H' sm ((jg _ _).seq sq)
theorem ZS(a:AX X)(F:AloneF X.K X.mg y D){pos:Pos}(h:zx cs es=true)(hc:∀c∈cs,c∈names12)(hl:cs.length<=100) :
 PE X (.BinOp (.Name "_law_flags" q) .Add (.List es p) pos) (λσ H Q=>YE D σ H/\∃(p1:Addr) (bs:List Bool),σ[1]?=some (some (.ref p1))/\SqL X.K H p1 (bs.map .bl)/\bs.length<=1000/\∀p H',jf H H'->SqL X.K H' p ((bs++fl y cs).map .bl)->Q (.ref p) H'):=by
 refine PE.imp (λτ H Q w=>?_) (jaI op_cat (kh a.n1 (.inl a.l1)) (QK a F h hc hl));obtain⟨hx,p1,bs,e1,sq,hb,w⟩:=w;refine⟨.ref p1,e1,hx,λp2 H' sm sq2=>⟨p1,p2,bs,fl y cs,rfl,rfl,sm.seq sq,sq2,?_,λp H2 s2 sq3=>w p H2 (sm.trans s2) sq3⟩⟩;simp[fl];unfold lim;lia
theorem Xd{h:gQ}:∀ {bs:List Bool} {its:List bq},jJ (bs.map V.bl) its->∃as,ReadsAll h its (bs.map wV) as
 |[],its,r=>by cases r;exact⟨_,.nil⟩
 |b::bs,its,r=>by
  cases r with
  |cons r1 r2 =>
   cases r1;obtain⟨as,ra⟩:=Xd r2;exact⟨_,.cons (.bool b) ra⟩
theorem jbw(bs:List Bool):Spec.countIn (.bool true) (bs.map wV)=(bs.countP id:Nat):=by
 induction bs with
 |nil=>rfl
 |cons b bs ih =>
  rw[bz,Spec.countIn,ih];cases b
  ·rw[show (if Spec.same (wV false) (wV true)=true then (1:Int) else 0)=0 from rfl];simp
  ·rw[show (if Spec.same (wV true) (wV true)=true then (1:Int) else 0)=1 from rfl];simp;lia
theorem VI:MtR X "list.count" (λx xs H Q=>∃(p:Addr) (bs:List Bool),x=.ref p/\xs=[.bl true]/\SqL X.K H p (bs.map .bl)/\Q (.int (bs.countP id:Nat)) H):=by
 rintro pins s τ H x xs v us Q I rx rs ⟨p,bs,rfl,rfl,sq,q⟩;cases (show v=gT p from rx);obtain⟨u,rfl,ru⟩:=rs.one;cases (show u=jeb true from ru);obtain⟨its,r,pl,_⟩:=I.list sq;obtain⟨as,ra⟩:=Xd (h:=s.heap) r;refine count_list_bools pl.isList ra (by simp[Shape.has]) ?_;rw[jbw];exact⟨.int _,H,I.tok _,⟨_,rfl⟩,q⟩
def endC(e:Expr):Bool:=(xq e).any λf=>f.2.2.1.isEmpty&&decide (f.2.1.length=1)&&decide (kB (f.2.1.getD 0 e)=some (.bool true))&&(xA f.1).any λo=>decide (o.2.1=("count":Str))&&decide (ju o.1=some ("_law_flags":Str))&&(o.2.2.endLine == f.2.2.2.line)
def endE(e:Expr):Bool:=(Zi e).any λc=>decide (c.2.1=[.Eq])&&decide (c.2.2.length=1)&&decide (kB (c.2.2.getD 0 e)=some (.int 1))&&endC c.1
def jaN(s:Stmt):Bool:=(Jh s).any λv=>v.any λv=>(QD v).any λz=>decide (z.1=.And)&&decide (z.2.1.length=3)&&isiOk (z.2.1.getD 1 v) "TrueError" && isiOk (z.2.1.getD 2 v) "ValueError" && endE (z.2.1.getD 0 v)
theorem endC_(h:endC e=true):∃q ap cp j p,e=.Call (.Attribute (.Name "_law_flags" q) "count" ap) [.Constant (.bool true) j p] [] cp/\(ap.endLine == cp.line)=true:=by
 unfold endC at h;replace h:=jb h;obtain⟨⟨f,xs,ks,cp⟩,h1,h⟩:=h;cases qY h1;simp only[bg,decide_eq_true_eq,gw]at h;obtain⟨⟨⟨rfl,h2⟩,h3⟩,h⟩:=h;obtain⟨x,rfl⟩:=kQ h2;obtain⟨j,p,rfl⟩:=qJ (show kB x=_ from h3);replace h:=jb h;obtain⟨⟨o,nm,ap⟩,h4,h⟩:=h;cases qU h4;simp only[bg,decide_eq_true_eq]at h;obtain⟨⟨rfl,h5⟩,h6⟩:=h;obtain⟨q,rfl⟩:=jo h5;exact⟨_,_,_,_,_,rfl,h6⟩
theorem endE_(h:endE e=true):∃q ap cp j p j2 p2 p3,e=.Compare (.Call (.Attribute (.Name "_law_flags" q) "count" ap) [.Constant (.bool true) j p] [] cp) [.Eq] [.Constant (.int 1) j2 p2] p3/\(ap.endLine == cp.line)=true:=by
 unfold endE at h;replace h:=jb h;obtain⟨⟨l,ops,rs⟩,h1,h⟩:=h;obtain⟨p3,rfl⟩:=Qt h1;simp only[bg,decide_eq_true_eq]at h;obtain⟨⟨⟨rfl,h2⟩,h3⟩,h⟩:=h;obtain⟨r,rfl⟩:=kQ h2;obtain⟨j2,p2,rfl⟩:=qJ (show kB r=_ from h3);obtain⟨q,ap,cp,j,p,rfl,h4⟩:=endC_ h;exact⟨_,_,_,_,_,_,_,_,rfl,h4⟩
theorem Y4{α:Type}{xs:List α}(h:xs.length=3):∃a b c,xs=[a,b,c]:=by
 match xs,h with
 |[a,b,c],_=>exact⟨a,b,c,rfl⟩
theorem endOk_{s:Stmt}(h:jaN s=true):∃e1 e2 q ap cp j p j2 p2 p3 p4 p5,s=.Return (some (.BoolOp .And [.Compare (.Call (.Attribute (.Name "_law_flags" q) "count" ap) [.Constant (.bool true) j p] [] cp) [.Eq] [.Constant (.int 1) j2 p2] p3,e1,e2] p4)) p5 /\
 isiOk e1 "TrueError"=true/\isiOk e2 "ValueError"=true/\(ap.endLine == cp.line)=true:=by
 unfold jaN at h;replace h:=jb h;obtain⟨ov,h1,h⟩:=h;obtain⟨p5,rfl⟩:=uP h1;replace h:=jb h;obtain⟨v,rfl,h⟩:=h;replace h:=jb h;obtain⟨⟨op,vs,p4⟩,h2,h⟩:=h;cases vz h2;simp only[bg,decide_eq_true_eq]at h;obtain⟨⟨⟨⟨rfl,h4⟩,h5⟩,h6⟩,h⟩:=h;obtain⟨c,e1,e2,rfl⟩:=Y4 h4;obtain⟨_,_,_,_,_,_,_,_,rfl,h7⟩:=endE_ (e:=c) h;exact⟨_,_,_,_,_,_,_,_,_,_,_,_,rfl,h5,h6,h7⟩
def vo:List Stmt->Bool
 |[s1,s2,s3,s4]=>Xr s1 (Zn (names12.take 4))&&Xr s2 (jaA ((names12.drop 4).take 4))&&Xr s3 (jaA (names12.drop 8))&&jaN s4
 |_=>false
theorem sum1{y:Str}(h:y∈names12):(((fl y (names12.take 4)++fl y ((names12.drop 4).take 4))++fl y (names12.drop 8)).countP id)=1:=by
 have:∀y∈names12,(((fl y (names12.take 4)++fl y ((names12.drop 4).take 4))++fl y (names12.drop 8)).countP id)=1:=by decide +kernel
 exact this y h
theorem xW{σ:L2.St}{H H':Hp}{v:V}{D:Addr}(h:YE D σ H)(sm:jf H H'):YE D (σ.set 1 (some v)) H':=by
 obtain⟨ea,oe,u,h1,h2,h3⟩:=h;exact⟨ea,oe,u,by rw[bX (by decide)];exact h1,sm _ _ h2,h3⟩
theorem UJ(a:AX X)(F:AloneF X.K X.mg y D)(hN:1<X.N.length){body:List Stmt}(h:vo body=true):PSs X body (λE σ H=>YE D σ H/\σ.length=X.N.length/\∀H',jf H H'->E.rt (.bl true) H'):=by
 unfold vo at h;split at h
 ·next s1 s2 s3 s4 =>
  simp only[bg]at h;obtain⟨⟨⟨h1,h2⟩,h3⟩,h4⟩:=h;obtain⟨q1,v1,p1,rfl,g1⟩:=YI h1;obtain⟨q2,v2,p2,rfl,g2⟩:=YI h2;obtain⟨q3,v3,p3,rfl,g3⟩:=YI h3;obtain⟨e1,e2,q,ap,cp,j,p,j2,p2',p3',p4,p5,rfl,i1,i2,hl⟩:=endOk_ h4;obtain⟨es1,f1,g1⟩:=jb g1;obtain⟨lp1,rfl⟩:=yO f1;replace g2:=jb g2;obtain⟨⟨l2,o2,r2⟩,b2,g2⟩:=g2;obtain⟨bp2,rfl⟩:=JA b2;simp only[bg,decide_eq_true_eq]at g2;obtain⟨⟨z2,y2⟩,g2⟩:=g2;subst z2;obtain⟨nq2,rfl⟩:=jo y2;replace g2:=jb g2;obtain⟨es2,f2,g2⟩:=g2;obtain⟨lp2,rfl⟩:=yO f2;replace g3:=jb g3;obtain⟨⟨l3,o3,r3⟩,b3,g3⟩:=g3;obtain⟨bp3,rfl⟩:=JA b3;simp only[bg,decide_eq_true_eq]at g3;obtain⟨⟨z3,y3⟩,g3⟩:=g3;subst z3;obtain⟨nq3,rfl⟩:=jo y3;replace g3:=jb g3;obtain⟨es3,f3,g3⟩:=g3;obtain⟨lp3,rfl⟩:=yO f3;obtain⟨a1,a2,a3,a4,rfl⟩:=Yb i1;obtain⟨b1',b2',b3',b4',rfl⟩:=Yb i2
  have m1:∀c∈names12.take 4,c∈names12:=λc hc=>nR hc
  have m2:∀c∈(names12.drop 4).take 4,c∈names12:=λc hc=>gO (nR hc)
  have m3:∀c∈names12.drop 8,c∈names12:=λc hc=>gO hc
  refine PSs.imp (λE σ H w=>?_) (jB (xK a.nd a.n1 (.inl a.l1) (QK a F g1 m1 (by decide)) rfl (.inl (a.fn _))) (jB (xK a.nd a.n1 (.inl a.l1) (ZS a F g2 m2 (by decide)) rfl (.inl (a.fn _))) (jB (xK a.nd a.n1 (.inl a.l1) (ZS a F g3 m3 (by decide)) rfl (.inl (a.fn _))) (jB
   (xM (YW (Z8 op_eq (Ka mE PySem.F.slot_list_count PySem.F.type_list_count VI (kh a.n1 (.inl a.l1)) (jw jbi jX) rfl rfl hl) KW (nomark _)) (YW (pe_isT a F) (X6 (pe_isV a F))))) kl))))
  obtain⟨hx,hln,w⟩:=w
  have h1l:1<σ.length:=by rw[hln];exact hN
  refine⟨hx,λp1 H1 s1 sq1=>?_⟩;refine⟨xW hx s1,p1,_,dE h1l,sq1,by simp[fl,names12],λp2 H2 s2 sq2=>?_⟩;refine⟨xW (xW hx s1) s2,p2,_,dE (by rw[g6];exact h1l),sq2,by simp[fl,names12],λp3 H3 s3 sq3=>?_⟩;have hx3:=xW (v:=.ref p3) (xW (v:=.ref p2) (xW (v:=.ref p1) hx s1) s2) s3;refine⟨.ref p3,dE (by rw[g6,g6];exact h1l),.inl ⟨rfl,_,sq3⟩,p3,_,rfl,rfl,sq3,?_⟩;rw[sum1 F.mem];refine⟨rfl,true,rfl,?_⟩;rw[if_pos rfl];refine⟨hx3,true,rfl,?_⟩;rw[if_pos rfl];exact⟨hx3,w H3 ((s1.trans s2).trans s3)⟩
 ·cases h
end
end Z
namespace Z
open PySem PySem.Spec PyProof.Rows L2
variable{K:bp}{J:It}{i:Nat}{body:Sm}{τ:L2.St}{H1 H:Hp}{σ:Sto}{O1 O:List Addr}{Dd:Ends}{a:Addr}{xs:List D}{us vs:List V}{f:List D->Prop}{o:Option Sl}
section
variable {X:Cx} {k:Ck} {C:Cfg} {O₀:List Addr} {H₀:Hp} {ex:XD->Prop}
theorem Jk:∀ {σ:Sto} {i:Nat} (v:Option Sl),σ.length<=i->setS σ i v=σ
 |[],i,v,_=>rfl
 |x::r,0,v,h=>by simp at h
 |x::r,i+1,v,h=>by simp only[setS];rw[Jk v (by simpa using h)]
theorem Iss.set{S:Hp}:∀ {ds:List D} {vs:List V} {i:Nat} {d:D} {v:V},Iss K S ds vs->Is K S d v->Iss K S (ds.set i d) (vs.set i v)
 |[],vs,i,d,v,h,g=>by unfold Iss at h;subst h;simp;unfold Iss;rfl
 |x::ds,vs,i,d,v,h,g=>by
  unfold Iss at h;obtain⟨u,r,rfl,h1,h2⟩:=h
  cases i with
  |zero=>simp only[jen];unfold Iss;exact⟨v,r,rfl,g,h2⟩
  |succ i=>simp only[jeo];unfold Iss;exact⟨u,_,rfl,h1,h2.set g⟩
theorem for_turnsG{xs:List D}{S:Hp}{D:Ends}(g1:Good O₀ H₀ O1 H1)(R1:RepS O₀ X.K O1 H1 σ τ)
 (hgo:∀j H O,jf (je H1 O1) (je H O)->j<xs.length->J.go j H) (hst:∀j H O,jf (je H1 O1) (je H O)->xs.length<=j->J.stop j H)
 (hy:∀j H O v H' d,(∀a∈O,H a≠none)->jf (je H1 O1) (je H O)->J.yld j H v H'->xs[j]?=some d->jf H H'/\Is X.K (je H' O) d v)
 (w:forL (λK σ=>wpS C body K σ) i (zj X.K O₀ H₀ ex D O1 H1) xs σ) :
 ∃W:Nat->Nat->L2.St->Hp->Prop,(∃m,W 0 m τ H1)/\∀j m τ H,W j m τ H->(J.stop j H/\D.nx τ H)\/(J.go j H/\∃N:L2.St->Hp->Prop,(∀τ' H',N τ' H'->∃m',m'<m/\W (j+1) m' τ' H') /\
  ∀x H',J.yld j H x H'->qA i x τ H' λτ2 H2=>tS X.K C O₀ H₀ ex body { D with nx:=N,ct:=N,bk:=D.nx } τ2 H2):=by
 refine⟨λj m τ H=>m=xs.length-j/\j<=xs.length/\∃σ O,Good O₀ H₀ O H/\jf (je H1 O1) (je H O)/\RepS O₀ X.K O H σ τ/\forL (λK σ=>wpS C body K σ) i (zj X.K O₀ H₀ ex D O1 H1) (xs.drop j) σ,
  ⟨_,rfl,mI _,σ,O1,g1,jf.refl _,R1,by simpa using w⟩,?_⟩
 rintro j m τ H ⟨rfl,hj,σ,O,g,sm,R,w⟩;by_cases hlt:j<xs.length
 ·refine .inr ⟨hgo j H O sm hlt,λτ' H'=>j+1<=xs.length/\∃σ O,Good O₀ H₀ O H'/\jf (je H1 O1) (je H' O)/\RepS O₀ X.K O H' σ τ'/\forL (λK σ=>wpS C body K σ) i (zj X.K O₀ H₀ ex D O1 H1) (xs.drop (j+1)) σ,
   λτ' H' ⟨h1,h2⟩=>⟨xs.length-(j+1),by lia,rfl,h1,h2⟩,λx H' y=>?_⟩
  obtain⟨e,is⟩:=hy j H O x H' xs[j] R.own sm y (bE hlt);rw[gI hlt]at w;rw[forL]at w;refine⟨_,O,g.mono e,(R.mono e).set is,js body ?_ w⟩;exact⟨λσ' q τ' H' O' g' s' r'=>⟨hlt,σ',O',g',(sm.trans (jd e)).trans s',r',q⟩,λ_ q=>q,λσ' q τ' H' O' g' s' r'=>q τ' H' O' g' ((sm.trans (jd e)).trans s') r',λσ' q τ' H' O' g' s' r'=>⟨hlt,σ',O',g',(sm.trans (jd e)).trans s',r',q⟩,λ_ q=>q,λ_ q=>q,λ_ q=>q⟩
 ·have e:j=xs.length:=by lia
  subst e;refine .inl ⟨hst _ H O sm (bV _),?_⟩;rw[jeW]at w;exact w τ H O g sm R
theorem Kj{xs:List D}{S:Hp}{D:Ends}(g1:Good O₀ H₀ O1 H1)(R1:RepS O₀ X.K O1 H1 σ τ)
 (hgo:∀j H O,jf (je H1 O1) (je H O)->j<xs.length->J.go j H) (hst:∀j H O,jf (je H1 O1) (je H O)->xs.length<=j->J.stop j H)
 (hy:∀j H O v H' d,jf (je H1 O1) (je H O)->J.yld j H v H'->xs[j]?=some d->H'=H/\Is X.K (je H O) d v)
 (w:forL (λK σ=>wpS C body K σ) i (zj X.K O₀ H₀ ex D O1 H1) xs σ) :
 ∃W:Nat->Nat->L2.St->Hp->Prop,(∃m,W 0 m τ H1)/\∀j m τ H,W j m τ H->(J.stop j H/\D.nx τ H)\/(J.go j H/\∃N:L2.St->Hp->Prop,(∀τ' H',N τ' H'->∃m',m'<m/\W (j+1) m' τ' H') /\
  ∀x H',J.yld j H x H'->qA i x τ H' λτ2 H2=>tS X.K C O₀ H₀ ex body { D with nx:=N,ct:=N,bk:=D.nx } τ2 H2) :=
 for_turnsG (S:=S) g1 R1 hgo hst (λj H O v H' d _ s y e=>by obtain⟨q,i⟩:=hy j H O v H' d s y e;subst q;exact⟨jf.refl _,i⟩) w
theorem UD(l:Addr)(items:Array bq)(n:Nat)(b:Addr)(items2:Array bq)(n2:Nat)(sl:Array (Option bq))(hc0:¬(!items.isEmpty&&nW (items.size+items2.size))=true)(hc1:items.size<=sizeLine)(hs2:items.size+items2.size<=sizeLine+1) :
 Meets (tE.«list.extend» ⟨[.ref l,.ref b],[]⟩) (λ_ R s=>s.heap.get? l=some { cls:=.type "list",dict:=none,data:=.seq items n,slots:=#[] }/\s.heap.get? b=some { cls:=.type "list",dict:=none,data:=.seq items2 n2,slots:=sl }/\R (.ok (.ret n9)) { s with heap:=s.heap.update l (wj λx=>x++items2),toks:=s.toks }) :=
 .of_wp λprog w A R s h=>by
  obtain⟨hp,g,d,tk,os⟩:=s;obtain⟨hl,hb,h⟩:=h;have f1:=AutoSeq1.idx_int;have f2:=AutoSeq1.sub_tuple_tuple;have f3:=AutoSeq1.sub_list_list;have f4:=AutoSeq1.sub_tuple_list;have f5:=AutoSeq1.sub_list_tuple
  have hz':(items++items2).size<=sizeLine+1:=by rw[Array.size_append];exact hs2
  wp_walk using(wZ hl rfl (hz:=hc1) (_hz':=hz')),jcU hl,jcU hb;exact⟨_,rfl,h⟩
def rExtS(K:bp):V->List V->Hp->VK->Prop:=λx vs H Q=>∃l b xs zs,x=.ref l/\vs=[.ref b]/\H l=some (.lst xs)/\SqL K H b zs/\xs.length+zs.length<=sizeLine/\Q .non (upd H l (.lst (xs++zs)))
theorem mt_extS{X:Cx}:MtM X "list.extend" (rExtS X.K):=by
 intro pins s σ H x vs v us Q I rx rv h;obtain⟨l,b,xs,zs,rfl,rfl,hH,hB,hz,q⟩:=h;cases rx;obtain⟨u,rfl,ru⟩:=rv.one;cases ru;obtain⟨z,its,n,r,hl,e⟩:=I.lstM hH;obtain⟨its2,r2,⟨⟨cl,dd,dt,sl⟩,n2,e2,hc,hd,hs⟩,z2⟩:=I.list hB;simp only at hc hd hs;subst hc hd hs;have hl2:=r2.length
 have hsz:its.toArray.size+its2.toArray.size<=sizeLine:=by rw[di,di];lia
 have hlong:¬ (!its.toArray.isEmpty&&nW (its.toArray.size+its2.toArray.size))=true:=by
  rw[jak hsz,Bool.and_false];exact dY
 refine call_meets jcV ⟨_,e,rfl⟩ PySem.F.entry_list_extend (PySem.F.args_list_extend_2 _ _)
  (UD l its.toArray n b its2.toArray n2 sl hlong (by rw[di];lia) (by lia)) ⟨e,e2,?_⟩
 refine⟨.non,_,I.lset (its':=its++its2) hH e (by simp) (r.append r2) ?_,rfl,q⟩;rw[df];lia
theorem put_new{H':Hp}(g:Good O₀ H₀ O H)(R:RepS O₀ X.K O H σ τ)(s:jf H H')(h0:H a=none)(h1:H' a=some (.lst us))(is:Iss X.K (je H' (a::O)) xs us)
 (nx:(zj X.K O₀ H₀ ex Dd O H).nx (setS σ i (some (.ow xs)))):Dd.nx (τ.set i (some (.ref a))) H':=by
 rcases bU i τ.length with hi|hi
 ·exact nx _ _ (a::O) (g.fresh s h0) (kg s h0) (R.fresh g.sub s h0 h1 is hi)
 ·have e1:setS σ i (some (.ow xs))=σ:=Jk _ (by rw[R.len];exact hi);have e2:τ.set i (some (.ref a))=τ:=sR hi;rw[e1]at nx;rw[e2];exact nx _ _ O (g.mono s) (jd s) (R.mono s)
theorem ja0{p:Addr}(h:H a=some (.lst vs))(hp:p≠a)(n:Jl xs=true)(is:Iss K (je H (p::less O a)) xs us):Iss K (je H (p::O)) xs us:=by
 refine Qb (a:=a) h xs n ?_
 have e:less (p::O) a=p::less O a:=by unfold less;simp[hp]
 rw[e];exact is
theorem oc_of{g:List (List D)->Prop}(w:ocD f g o):(∃ds,o=some (.ow ds)/\f ds)\/∃rows,o=some (.ot rows)/\g rows:=by
 match o,w with
 |some (.ow ds),w=>exact .inl ⟨ds,rfl,w⟩
 |some (.ot rows),w=>exact .inr ⟨rows,rfl,w⟩
theorem VS(w:JI f o):∃ds,o=some (.ow ds)/\f ds:=by
 match o,w with
 |some (.ow ds),w=>exact⟨ds,rfl,w⟩
theorem jbQ{d:D}(w:isL f d):∃xs,d=.lst xs/\f xs:=by
 cases d<;>first|exact w.elim|exact⟨_,rfl,w⟩
theorem Yn{c:Ex}{j m0:Nat}{ds:List D}(hij:i≠j)(g:Good O₀ H₀ O H)(R:RepS O₀ X.K O H σ τ)(gs:getS σ j=some (.ow ds))(ea:τ[j]?=some (some (.ref a)))(h1:H a=some (.lst vs))(is:Iss X.K (je H O) ds vs)
 (w:uo (λσ Q=>wpE C c σ Q) i m0 (zj X.K O₀ H₀ ex Dd O H) ds σ) :
 ∃W:Nat->Nat->L2.St->Hp->Prop,(∃m,W 0 m τ H)/\∀l m τ H,W l m τ H->((Itl X.K a).stop l H/\Dd.nx τ H)\/((Itl X.K a).go l H/\∃N:L2.St->Hp->Prop,(∀τ' H',N τ' H'->∃m',m'<m/\W (l+1) m' τ' H') /\
  ∀x H',(Itl X.K a).yld l H x H'->qA i x τ H' λτ2 H2=>Qe (tD X.K C c) (qA m0) { Dd with nx:=N,ct:=N,bk:=Dd.nx } τ2 H2):=by
 have hl:=is.length
 refine⟨λl m τ' H'=>m=ds.length-l/\l<=ds.length/\jf H H'/\∃σ',RepS O₀ X.K O H' σ' τ'/\uo (λσ Q=>wpE C c σ Q) i m0 (zj X.K O₀ H₀ ex Dd O H) (ds.drop l) σ',
  ⟨_,rfl,mI _,jf.refl _,σ,R,by simpa using w⟩,?_⟩
 rintro l m τ' H' ⟨rfl,hlt,sm,σ',R',w⟩
 have sq:∀ {H2:Hp},jf H H2->SqL X.K H2 a vs:=λs2=>SqL.of (s2 _ _ h1)
 by_cases hl2:l<ds.length
 ·refine .inr ⟨⟨vs,vs[l],sq sm,bE (by lia)⟩,λτ2 H2=>l+1<=ds.length/\jf H H2/\∃σ',RepS O₀ X.K O H2 σ' τ2/\uo (λσ Q=>wpE C c σ Q) i m0 (zj X.K O₀ H₀ ex Dd O H) (ds.drop (l+1)) σ',
   λτ2 H2 q=>⟨ds.length-(l+1),by lia,rfl,q.1,q.2.1,q.2.2⟩,λx H2 y=>?_⟩
  obtain⟨e2,y⟩:=y;subst e2;obtain⟨z,e3,e4⟩:=is.get (bE hl2);have:=y vs (sq sm);rw[e3]at this;cases this;rw[gI hl2]at w;have R2:=R'.set (i:=i) (Is.mono (jd sm) _ e4);exact⟨_,O,R2.toReps,ja c (λd wb v H3 s3 i3=>⟨hl2,sm.trans s3,_,(R2.mono s3).set i3,wb⟩) w⟩
 ·have e:l=ds.length:=by lia
  subst e;refine .inl ⟨⟨vs,sq sm,by lia⟩,?_⟩;rw[jeW]at w;exact w τ' H' O (g.mono sm) (jd sm) R'
theorem Rws.nol{K:bp}{O O':List Addr}{H:Hp}(h:∀b∈O',b ∉ O->∃vs,H b=some (.lst vs)):∀ {rows:List (List D)} {as:List Addr},Rws K O H rows as->rows.all Jl=true->Rws K O' H rows as
 |[],as,r,_=>r
 |q::rows,as,r,n=>by
  obtain⟨b,bs,vs,rfl,h1,h2,h3⟩:=r;simp only[jcR,bg]at n;exact⟨b,bs,vs,rfl,h1,Jg h q n.1 h2,Rws.nol h h3 n.2⟩
theorem uA{r s:List (List D)}(h:kA r=kA s):r=s:=by
 unfold kA at h;injection h with h
 induction r generalizing s with
 |nil=>cases s<;>simp at h;rfl
 |cons a r ih =>
  cases s with
  |nil=>simp at h
  |cons b s =>
   simp only[bz,bO]at h;injection h.1 with e;rw[e,ih h.2]
theorem VX{C:Cfg}{O₀:List Addr}{H₀:Hp}{ex:XD->Prop}{a b:Sm}{D:Ends}(hs:z7 a=true)(w:tS K C O₀ H₀ ex (.seq a b) D τ H):tS K C O₀ H₀ ex b D τ H:=by
 obtain⟨i,e⟩:=isShr_ hs;obtain⟨σ,O,g,R,w⟩:=w;rcases e with rfl|rfl|rfl
 rotate_left
 ·obtain⟨rows,gs,w⟩:=ja4 w;obtain⟨a,as,e1,t,dj⟩:=R.tt.1 i rows gs;have m:=R.mineT i rows a as gs e1 t.top;exact⟨_,_,g.shareT (λb hb=>(bD.mp hb).elim (λz=>by rw[z];exact m.1) (m.2 b)),R.shareT gs e1 t dj,js b (kU (jC λx hx=>(jR.mp hx).1)) w⟩
 ·rcases oc_of w with⟨ds,_,w⟩|⟨rows,gs,w⟩
  ·exact⟨_,_,g,R,w⟩
  obtain⟨a,as,e1,t,dj⟩:=R.tt.1 i rows gs;have m:=R.mineT i rows a as gs e1 t.top;exact⟨_,_,g.shareT m.2,R.halfT gs e1 t dj,js b (kU (jC λx hx=>(jR.mp hx).1)) w⟩
 rw[wS_seq,Za]at w
 cases gs:getS σ i with
 |none=>rw[gs]at w;exact w.elim
 |some u =>
  rw[gs]at w
  cases u with
  |sh d=>exact w.elim
  |ot _=>exact w.elim
  |ow ds =>
   obtain⟨a,vs,e1,e2,e3,e4⟩:=R.ow i ds gs;exact⟨_,_,g.share (R.mine i ds a gs e1),R.share gs e1 e3 e4,js b (kU (jC λx hx=>(j5.mp hx).1)) w⟩
mutual
theorem sS(ok:OkS X k C):∀(s:Sm) (st:Stmt),q9 k s st=true->PS X st (tS X.K C O₀ H₀ ex s)
 |.nop,st,h=>zff h
 |.seq a b,st,h=>zff h
 |.set i e,st,h=>by
  replace h:=jb h;obtain⟨⟨ts,v⟩,ha,h⟩:=h;obtain⟨pos,rfl⟩:=xl ha;replace h:=jb h;obtain⟨t,ht,h⟩:=h;have et:=yJ ht;simp only at et;subst et;replace h:=jb h;obtain⟨x,hx,h⟩:=h;obtain⟨p,rfl⟩:=jo hx
  ·rw[bg]at h;obtain⟨h1,h2,h3,h4⟩:=ok.vis h.1
   have plain:pY v (some (.Name x p)) pos.line X.env=pure false->PS X (.Assign [.Name x p] v pos) (tS X.K C O₀ H₀ ex (.set i e)):=λhsw=>by
    refine PS.imp (λD τ H w=>?_) (xK ok.nd h1 h2 (sB ok.toOk e v h.2).1 hsw (.inl (ok.fn _)));obtain⟨σ,O,g,R,w⟩:=w;exact⟨σ,O,R.toReps,ja e (λd wd v H1 s1 i1=>wd _ H1 O (g.mono s1) (jd s1) ((R.mono s1).set i1)) w⟩
   cases hq:uC v with
   |false=>exact plain (vI h.2 hq _ _ _)
   |true =>
    obtain⟨y,py,iter,elt,ifs,sc,ps,wi,tt,te,rfl,hck,hpi,hfo,hel,hco⟩:=YO ok.toOk e v h.2 hq;obtain⟨b,hb⟩:=zv (elt:=elt) (gs:=[⟨.Name y py,iter,ifs,0⟩]) (sc:=sc) (pos:=ps) (py:=p) (y:=x) pos.line X.env
    cases b with
    |false=>exact plain hb
    |true =>
     intro pins s τ H D I w;obtain⟨cl,co⟩:=ok.toOk.comp hck I.ok;refine KG ok.calm ok.nd (ok.toOk.comp_nE hck) co hpi (hel cl co).1 (hel cl co).2 hfo hb h1 h2 (.inl (ok.fn _)) pins s τ H D I (hco τ H _ ?_);obtain⟨σ,O,g,R,w⟩:=w
     exact⟨σ,O,R.toReps,ja e (λd wd v H1 s1 i1=>wd _ H1 O (g.mono s1) (jd s1) ((R.mono s1).set i1)) w⟩
 |.unp is e,st,h=>by
  replace h:=jb h;obtain⟨⟨ts,v⟩,ha,h⟩:=h;obtain⟨pos,rfl⟩:=xl ha;replace h:=jb h;obtain⟨t,ht,h⟩:=h;have et:=yJ ht;simp only at et;subst et;replace h:=jb h;obtain⟨es,hx,h⟩:=h;obtain⟨j,p,rfl⟩:=QH hx
  ·simp only[bg]at h;obtain⟨⟨h1,h2⟩,h3⟩:=h;obtain⟨pg,hl,hf⟩:=Kv ok is es h1
   have hsw:swappedStores [.Tuple es j p] v X.env=pure none:=by
    cases v<;>first|rfl|exact bK h2
   refine PS.imp (λD τ H w=>?_) (vZ (sB ok.toOk e v h3).1 (pg_sq ok.calm pg hl hf) (by unfold jcP;exact U9 _ _ _) hsw rfl);obtain⟨σ,O,g,R,w⟩:=w;refine⟨σ,O,R.toReps,ja e (λd wd v H1 s1 i1=>?_) w⟩
   cases d with
   |tup ds =>
    obtain⟨σ',e1,q⟩:=wd;obtain⟨a,vs,rfl,h4,h5⟩:=kY i1
    exact .inl ⟨a,vs,rfl,(qm (jg _ _) h4),by rw[h5.length,zw is e1],uB is (R.mono s1) h5 e1 λτ' R'=>q τ' H1 O (g.mono s1) (jd s1) R'⟩
   |lst ds =>
    obtain⟨σ',e1,q⟩:=wd;obtain⟨a,vs,rfl,h4,h5⟩:=jK i1
    exact .inr ⟨a,vs,rfl,(jg _ _).seq h4,by rw[h5.length,zw is e1],uB is (R.mono s1) h5 e1 λτ' R'=>q τ' H1 O (g.mono s1) (jd s1) R'⟩
   |_=>exact wd.elim
 |.ret e,st,h=>by
  replace h:=jb h;obtain⟨ov,ho,h⟩:=h;replace h:=jb h;obtain⟨v,hv,h⟩:=h;subst hv;obtain⟨pos,rfl⟩:=uP ho
  ·refine PS.imp (λD τ H w=>?_) (xM (sB ok.toOk e v h).1);obtain⟨σ,O,g,R,w⟩:=w
   exact⟨σ,O,R.toReps,ja e (λd wd v H1 s1 i1=>wd v H1 (g.same.trans s1) (Is.mono (jC g.sub) d i1)) w⟩
 |.ite c a b,st,h=>by
  replace h:=jb h;obtain⟨⟨t,x,y⟩,hz,h⟩:=h;obtain⟨pos,rfl⟩:=Y7 hz;simp only[bg]at h;refine PS.imp (λD τ H w=>?_) (Q4 (sB ok.toOk c t h.1.1).2 (sK ok a x h.1.2) (sK ok b y h.2));obtain⟨σ,O,g,R,w⟩:=w;refine⟨σ,O,R.toReps,ja c (λd=>jW λt wt H1 s1=>?_) w⟩
  cases t with
  |true=>exact⟨σ,O,g.mono s1,R.mono s1,js a (kU (jd s1)) wt⟩
  |false=>exact⟨σ,O,g.mono s1,R.mono s1,js b (kU (jd s1)) wt⟩
 |.whl c b,st,h=>by
  replace h:=jb h;obtain⟨⟨t,x,oe⟩,hz,h⟩:=h;obtain⟨pos,rfl⟩:=asWhl_ hz;simp only[bg,gw]at h;obtain⟨⟨he,h1⟩,h2⟩:=h;subst he
  ·have h:chkE k c t=true/\yz k b x=true:=⟨h1,h2⟩
   refine PS.imp (λD τ H w=>?_) (jbh (by rw[ok.xe];exact pH) (sB ok.toOk c t h.1).2 (sK ok b x h.2));obtain⟨σ,O,g,R,w⟩:=w;obtain⟨W,⟨m,w0⟩,turn⟩:=w;refine⟨λm τ' H'=>∃σ' O',Good O₀ H₀ O' H'/\jf (je H O) (je H' O')/\RepS O₀ X.K O' H' σ' τ'/\W m σ',⟨m,σ,O,g,jf.refl _,R,w0⟩,?_⟩;rintro m τ1 H1 ⟨σ1,O1,g1,s1,R1,w1⟩;refine⟨σ1,O1,R1.toReps,ja c (λd=>jW λt wt H2 s2=>?_) (turn m σ1 w1)⟩;have s12:jf (je H O) (je H2 O1):=s1.trans (jd s2)
   cases t with
   |true =>
    refine⟨λτ' H'=>∃m',m'<m/\∃σ' O',Good O₀ H₀ O' H'/\jf (je H O) (je H' O')/\RepS O₀ X.K O' H' σ' τ'/\W m' σ',λτ' H' q=>q,σ1,O1,g1.mono s2,R1.mono s2,js b ?_ wt⟩
    exact⟨λσ' ⟨m',l,q⟩ τ' H' O' g' s' r'=>⟨m',l,σ',O',g',s12.trans s',r',q⟩,λ_ q=>q,λσ' q τ' H' O' g' s' r'=>q τ' H' O' g' (s12.trans s') r',λσ' ⟨m',l,q⟩ τ' H' O' g' s' r'=>⟨m',l,σ',O',g',s12.trans s',r',q⟩,λ_ q=>q,λ_ q=>q,λ_ q=>q⟩
   |false=>exact wt τ1 H2 O1 (g1.mono s2) s12 (R1.mono s2)
 |.forR i es b,st,h=>by
  replace h:=jb h;obtain⟨⟨tg,it,body,oe⟩,hz,h⟩:=h;obtain⟨pos,rfl⟩:=Js hz;replace h:=jb h;obtain⟨x,hxn,h⟩:=h;obtain⟨p,e1⟩:=jo hxn;clear hxn;simp only at e1;subst e1;replace h:=jb h;obtain⟨⟨f,args,p2⟩,hc,h⟩:=h;obtain⟨q,e2⟩:=jL hc;simp only at e2;subst e2;simp only[bg,decide_eq_true_eq,gw]at h;obtain⟨⟨⟨⟨⟨⟨he,hx⟩,hf⟩,hg⟩,hne⟩,ha⟩,hb⟩:=h;subst he hf
  ·skip
   obtain⟨h1,h2,h3,h4⟩:=ok.vis hx;obtain⟨g1,_,_⟩:=ok.gl hg
   cases args with
   |nil=>simp at hne
   |cons y ys =>
    have hs:bQ (y::ys) X.env=(false,eval y X.env)::bQ ys X.env/\(backTo p2 (bQ ys X.env)).any (·.1)=false:=by
     cases es with
     |nil=>have:=jZ ha;cases this
     |cons z zs =>
      obtain⟨y',ys',e',h5,h6⟩:=jM ha;cases e';exact⟨jv h5 _ _,kr h6 _ _⟩
    refine PS.imp (λD τ H w=>?_) (vH (by rw[ok.xe];exact pH) ok.calm (Kb g1 (ok.blt _ (by decide)) (sA ok.toOk es _ ha) hs.1 hs.2) (yq ok.nd h1 h2 (.inl (ok.fn _))) (sK ok b body hb) (λ_=>rfl));obtain⟨σ,O,g,R,w⟩:=w;refine⟨σ,O,R.toReps,jr es (λds wd vs H1 s1 i1=>?_) w⟩;obtain⟨lo,hi,st,e,c,wd⟩:=uT i1 wd;refine⟨lo,hi,st,e,c,?_⟩;refine Kj (S:=H1) (g.mono s1) (R.mono s1) (xs:=j3 lo st (if lo<hi then (hi-lo-1) / st+1 else 0).toNat) ?_ ?_ ?_ (qb (body:=λK σ=>wpS C b K σ) (λK K' σ h w=>js b h w) (kU (jd s1)) _ wd)
    ·intro j H O _ hj;rw[jn]at hj;exact hj
    ·intro j H O _ hj;rw[jn]at hj;exact hj
    ·intro j H O v H' d _ y hd;obtain⟨e1,e2⟩:=y
     have hj:j<(if lo<hi then (hi-lo-1) / st+1 else 0).toNat:=by
      rcases bU j (if lo<hi then (hi-lo-1) / st+1 else 0).toNat with z|z
      ·exact z
      ·rw[bG (by rw[jn];exact z)]at hd;cases hd
     rw[k8 _ _ _ _ hj]at hd;cases hd
     exact⟨e1,by rw[e2];exact jG _⟩
 |.forE i e b,st,h=>by
  replace h:=jb h;obtain⟨⟨tg,it,body,oe⟩,hz,h⟩:=h;obtain⟨pos,rfl⟩:=Js hz;replace h:=jb h;obtain⟨x,hxn,h⟩:=h;obtain⟨p,e1⟩:=jo hxn;clear hxn;simp only at e1;subst e1;simp only[bg,b8,gw]at h;obtain⟨⟨⟨⟨he0,hx⟩,hn⟩,he⟩,hb⟩:=h;subst he0
  ·skip
   obtain⟨h1,h2,h3,h4⟩:=ok.vis hx;have pe:=(sB ok.toOk e it he).1;refine PS.imp (λD τ H w=>?_) (vH (by rw[ok.xe];exact pH) ok.calm (yp pe) (yq ok.nd h1 h2 (.inl (ok.fn _))) (sK ok b body hb) (qB hn _));obtain⟨σ,O,g,R,w⟩:=w;refine⟨σ,O,R.toReps,ja e (λd wd v H1 s1 i1=>?_) w⟩;obtain⟨xs,e1,wd⟩:=wd;have wd':=qb (body:=λK σ=>wpS C b K σ) (λK K' σ h w=>js b h w) (kU (K:=X.K) (O₀:=O₀) (H₀:=H₀) (ex:=ex) (D:=D) (jd (O:=O) s1)) _ wd;obtain⟨J,hw,g1,g2,g3⟩:=walk_of e1 i1
   exact⟨J,hw,Kj (S:=H1) (g.mono s1) (R.mono s1) g1 g2 g3 wd'⟩
 |.brk,st,h=>by
  obtain⟨pos,rfl⟩:=isBrk_ h;refine PS.imp (λD τ H w=>?_) jaM;obtain⟨σ,O,g,R,w⟩:=w
  exact w τ H O g (jf.refl _) R
 |.cnt,st,h=>by
  obtain⟨pos,rfl⟩:=isCnt_ h;refine PS.imp (λD τ H w=>?_) QY;obtain⟨σ,O,g,R,w⟩:=w
  exact w τ H O g (jf.refl _) R
 |.never,st,h=>by
  refine PS.imp (λD τ H w=>?_) jbv;obtain⟨σ,O,g,R,w⟩:=w
  exact w
 |.new i,st,h=>by
  replace h:=jb h;obtain⟨⟨ts,v⟩,ha,h⟩:=h;obtain⟨pos,rfl⟩:=xl ha;replace h:=jb h;obtain⟨t,ht,h⟩:=h;have et:=yJ ht;simp only at et;subst et;replace h:=jb h;obtain⟨x,hx,h⟩:=h;obtain⟨p,rfl⟩:=jo hx;rw[bg]at h;obtain⟨h1,h2,h3,h4⟩:=ok.vis h.1;obtain⟨es,he,h5⟩:=jb h.2
  have hes:es=[]:=by simpa using h5
  subst hes;obtain⟨lp,e2⟩:=yO he;simp only at e2;subst e2;refine PS.imp (λD τ H w=>?_) (xK ok.nd h1 h2 (Jt jX) rfl (.inl (ok.fn _)));obtain⟨σ,O,g,R,w⟩:=w;rw[wS_new]at w;refine⟨by decide,λl hl=>?_⟩;have hi:i<τ.length\/τ.length<=i:=bU ..;have s1:jf H (upd H l (.lst [])):=jE hl _;rcases hi with hi|hi
  ·exact w _ _ (l::O) (g.fresh s1 hl) (kg s1 hl) (R.fresh g.sub s1 hl (jm ..) (by unfold Iss;rfl) hi)
  ·have e1:setS σ i (some (.ow []))=σ:=Jk _ (by rw[R.len];exact hi);have e2:τ.set i (some (.ref l))=τ:=sR hi;rw[e1]at w;show D.nx (τ.set i (some (.ref l))) _;rw[e2]
   exact w _ _ O (g.mono s1) (jd s1) (R.mono s1)
 |.app i e,st,h=>by
  replace h:=jb h;obtain⟨z,hz,h⟩:=h;obtain⟨pos,rfl⟩:=Qy hz;replace h:=jb h;obtain⟨⟨fe,xs,ks,cp⟩,hc,h⟩:=h;have ee:=qY hc;subst ee;simp only[bg,decide_eq_true_eq,gw]at h;obtain⟨⟨⟨hk,hl1⟩,hat⟩,he⟩:=h;replace hat:=jb hat;obtain⟨⟨ob,at',ap⟩,hy,hat⟩:=hat;have ee:=qU hy;subst ee;simp only[bg,decide_eq_true_eq]at hat;obtain⟨⟨ha1,ha2⟩,ha3⟩:=hat;subst ha1 hk;replace ha2:=jb ha2;obtain⟨x,hx,hloc⟩:=ha2;obtain⟨q,rfl⟩:=jo hx;obtain⟨y,rfl⟩:=kQ hl1;have he:chkE k e y=true:=he;obtain⟨h1,h2,h3,h4⟩:=ok.vis hloc;refine PS.imp (λD τ H w=>?_) (zJ (Ka mE sT PySem.F.type_list_append uW (kh h1 (qI h2) h3 h4) (jw (sB ok.toOk e y he).1 jX (jv he _ _)) rfl (by rw[jv he];rfl) ha3 (jv he _ _) rfl));obtain⟨σ,O,g,R,w⟩:=w;rw[YY]at w
  cases gs:getS σ i with
  |none=>rw[gs]at w;exact w.elim
  |some u =>
   rw[gs]at w
   cases u with
   |sh d=>exact w.elim
   |ot _=>exact w.elim
   |ow ds =>
    obtain⟨a,vs,e1,e2,e3,e4⟩:=R.ow i ds gs;refine⟨.ref a,e1,.inl ⟨rfl,vs,SqL.of e3⟩,σ,O,R.toReps,ja e (λd wd v H1 s1 i1=>?_) w.2⟩;have hl:=e4.length;have hlim:=w.1;refine⟨a,vs,v,rfl,rfl,s1 _ _ e3,by rw[n6];unfold lim at hlim;lia,?_⟩;have i2:Iss X.K (je H1 O) (ds ++ [d]) (vs ++ [v]):=(Iss.mono (jd s1) ds e4).append (by unfold Iss;exact⟨v,[],rfl,i1,by unfold Iss;rfl⟩);refine wd τ _ O ((g.mono s1).write e2 (R.mine i ds a gs e1)) ?_ ((R.mono s1).write (vs:=vs) gs e1 e2 i2);rw[jO e2]
    exact jd s1
 |.sto i e v,st,h=>by
  replace h:=jb h;obtain⟨⟨ts,vE⟩,ha,h⟩:=h;obtain⟨pos,rfl⟩:=xl ha;replace h:=jb h;obtain⟨t,ht,h⟩:=h;have et:=yJ ht;simp only at et;subst et;replace h:=jb h;obtain⟨⟨ob,ix⟩,hx,h⟩:=h;obtain⟨p,rfl⟩:=yS hx;simp only[bg,b8]at h;obtain⟨⟨⟨hsl,hloc⟩,he⟩,hv⟩:=h;replace hloc:=jb hloc;obtain⟨x,hn,hloc⟩:=hloc;obtain⟨q,rfl⟩:=jo hn;obtain⟨h1,h2,h3,h4⟩:=ok.vis hloc
  have hasg:∀u,assign (.Subscript (.Name x q) ix p) X.env u=(do
   let ov <- tj [u] (eval (.Name x q) X.env)
   let iv <- tj [u,ov] (eval ix X.env)
   jev p
   tj [u,ov,iv] (setItem ov iv u)
   release [u,ov,iv] []):=by
   intro u
   cases ix<;>first|rfl|exact bK hsl
  refine PS.imp (λD τ H w=>?_) (vZ (sB ok.toOk v vE hv).1 (jbl (kh h1 (qI h2) h3 h4) (sB ok.toOk e ix he).1 XJ hasg) (by unfold jcP;exact Ux _ _ _ _ _) (by cases vE<;>rfl) rfl);obtain⟨σ,O,g,R,w⟩:=w;rw[YC]at w
  cases gs:getS σ i with
  |none=>rw[gs]at w;exact w.elim
  |some u =>
   rw[gs]at w
   cases u with
   |sh d=>exact w.elim
   |ot _=>exact w.elim
   |ow ds =>
    obtain⟨a,vs,e1,e2,e3,e4⟩:=R.ow i ds gs;refine⟨σ,O,R.toReps,ja v (λd wd vv H1 s1 i1=>⟨.ref a,e1,σ,O,(R.mono s1).toReps,ja e (λy wy yv H2 s2 i2=>?_) wd⟩) w⟩
    cases y with
    |int n =>
     cases jz i2;obtain⟨⟨n0,n1⟩,q⟩:=wy;have s12:=s1.trans s2;have hl:=e4.length;refine⟨a,vs,n,n.toNat,rfl,rfl,s12 _ _ e3,by unfold ixN;rw[if_pos n0,if_pos (by lia)],?_⟩;have i3:Iss X.K (je H2 O) (ds.set n.toNat d) (vs.set n.toNat vv):=(Iss.mono (jd s12) ds e4).set (Is.mono (jd s2) d i1);refine q τ _ O ((g.mono s12).write e2 (R.mine i ds a gs e1)) ?_ ((R.mono s12).write (vs:=vs) gs e1 e2 i3);rw[jO e2]
     exact jd s12
    |_=>exact wy.elim
 |.shr _,_,h=>zff h
 |.raiseA _ _,_,h=>zff h
 |.retY _ _,_,h=>zff h
 |.ext i e,st,h=>by
  replace h:=jb h;obtain⟨z,hz,h⟩:=h;obtain⟨pos,rfl⟩:=Qy hz;replace h:=jb h;obtain⟨⟨fe,xs,ks,cp⟩,hc,h⟩:=h;have ee:=qY hc;subst ee;simp only[bg,decide_eq_true_eq,gw]at h;obtain⟨⟨⟨hk,hl1⟩,hat⟩,he⟩:=h;replace hat:=jb hat;obtain⟨⟨ob,at',ap⟩,hy,hat⟩:=hat;have ee:=qU hy;subst ee;simp only[bg,decide_eq_true_eq]at hat;obtain⟨⟨ha1,ha2⟩,ha3⟩:=hat;subst ha1 hk;replace ha2:=jb ha2;obtain⟨x,hx,hloc⟩:=ha2;obtain⟨q,rfl⟩:=jo hx;obtain⟨y,rfl⟩:=kQ hl1;have he:chkE k e y=true:=he;obtain⟨h1,h2,h3,h4⟩:=ok.vis hloc;refine PS.imp (λD τ H w=>?_) (zJ (Ka mE jcV PySem.F.type_list_extend mt_extS (kh h1 (qI h2) h3 h4) (jw (sB ok.toOk e y he).1 jX (jv he _ _)) rfl (by rw[jv he];rfl) ha3 (jv he _ _) rfl));obtain⟨σ,O,g,R,w⟩:=w;rw[ja1]at w
  cases gs:getS σ i with
  |none=>rw[gs]at w;exact w.elim
  |some u =>
   rw[gs]at w
   cases u with
   |sh d=>exact w.elim
   |ot _=>exact w.elim
   |ow ds =>
    obtain⟨a,vs,e1,e2,e3,e4⟩:=R.ow i ds gs;refine⟨.ref a,e1,.inl ⟨rfl,vs,SqL.of e3⟩,σ,O,R.toReps,ja e (λd wd v H1 s1 i1=>?_) w⟩
    cases d with
    |lst zs =>
     obtain⟨hlim,wd⟩:=wd;obtain⟨b,ws,rfl,h5,h6⟩:=jK i1;have hl:=e4.length;have hl2:=h6.length;refine⟨a,b,vs,ws,rfl,rfl,s1 _ _ e3,(jg _ _).seq h5,by rw[n6];unfold lim at hlim;lia,?_⟩;have i2:Iss X.K (je H1 O) (ds++zs) (vs++ws):=(Iss.mono (jd s1) ds e4).append h6;refine wd τ _ O ((g.mono s1).write e2 (R.mine i ds a gs e1)) ?_ ((R.mono s1).write (vs:=vs) gs e1 e2 i2);rw[jO e2]
     exact jd s1
    |_=>exact wd.elim
 |.forN i e b,st,h=>by
  replace h:=jb h;obtain⟨⟨tg,it,body,oe⟩,hz,h⟩:=h;obtain⟨pos,rfl⟩:=Js hz;replace h:=jb h;obtain⟨x,hxn,h⟩:=h;obtain⟨p,e1⟩:=jo hxn;clear hxn;simp only at e1;subst e1;replace h:=jb h;obtain⟨⟨f,args,p2⟩,hc,h⟩:=h;obtain⟨q,e2⟩:=jL hc;simp only at e2;subst e2;simp only[bg,decide_eq_true_eq,gw]at h;obtain⟨⟨⟨⟨⟨⟨he,hx⟩,hf⟩,hg⟩,hne⟩,ha⟩,hb⟩:=h;subst he hf;obtain⟨y,rfl⟩:=kQ hne;have ha:chkE k e y=true:=ha;obtain⟨h1,h2,h3,h4⟩:=ok.vis hx;obtain⟨g1,_,_⟩:=ok.gl hg;refine PS.imp (λD τ H w=>?_) (vH (by rw[ok.xe];exact pH) ok.calm (pi_enum g1 (ok.blt _ (by decide)) (sA ok.toOk [e] [y] (by simp[qg,ha])) (jv ha _ _) rfl) (yq ok.nd h1 h2 (.inl (ok.fn _))) (sK ok b body hb) (λ_=>rfl));obtain⟨σ,O,g,R,w⟩:=w;refine⟨σ,O,R.toReps,?_⟩;simp only[wpEs];refine ja e (λd wd us H1 s1 i1=>?_) w;obtain⟨ys,rfl,wd⟩:=jbQ wd;obtain⟨v,rfl,j1⟩:=Jo i1;have wd':=qb (body:=λK σ=>wpS C b K σ) (λK K' σ h w=>js b h w) (kU (K:=X.K) (O₀:=O₀) (H₀:=H₀) (ex:=ex) (D:=D) (jd (O:=O) s1)) _ wd;obtain⟨a,vs,rfl,h5,h6⟩:=jK j1;have hl:=h6.length
  have ln:(XR ys).length=ys.length:=by unfold XR;simp
  have sq:∀ {H:Hp} {O':List Addr},jf (je H1 O) (je H O')->SqL X.K H a vs:=λsm=>(jg _ _).seq (sm.seq h5)
  refine⟨a,rfl,⟨vs,(jg _ _).seq h5⟩,for_turnsG (S:=H1) (g.mono s1) (R.mono s1) ?_ ?_ ?_ wd'⟩
  ·intro j H O' sm hj;rw[ln]at hj;exact⟨vs,vs[j]'(by lia),sq sm,bE _⟩
  ·intro j H O' sm hj;rw[ln]at hj;exact⟨vs,sq sm,by lia⟩
  ·intro j H O' v H' d ho sm y hd;obtain⟨T,x,rfl,hT,hx',rfl⟩:=y;have hz:(XR ys)[j]?=some d:=hd;unfold XR at hz;rw[bW,List.getElem?_zipIdx]at hz
   cases hzz:ys[j]? with
   |none=>rw[hzz]at hz;cases hz
   |some a1 =>
    rw[hzz]at hz;simp only[tu,gy,Nat.zero_add]at hz;subst hz;obtain⟨u1,g2,k1⟩:=h6.get hzz;rw[hx' vs (sq sm)]at g2;cases g2;have s':=jE hT (.tup [.int j,x]);refine⟨s',Ya (zF ho hT) ?_⟩
    ·have sm2:=sm.trans (jd (O:=O') s');unfold Iss;refine⟨.int j,[x],rfl,jG _,?_⟩;unfold Iss
     exact⟨x,[],rfl,Is.mono sm2 a1 k1,by unfold Iss;rfl⟩
 |.forU i j m e,st,h=>by
  replace h:=jb h;obtain⟨⟨tg,it,body,oe⟩,hz,h⟩:=h;obtain⟨pos,rfl⟩:=Js hz;replace h:=jb h;obtain⟨x,hxn,h⟩:=h;obtain⟨p,e1⟩:=jo hxn;clear hxn;simp only at e1;subst e1;replace h:=jb h;obtain⟨y,hyn,h⟩:=h;obtain⟨q,e1⟩:=jo hyn;clear hyn;simp only at e1;subst e1;simp only[bg,decide_eq_true_eq,gw]at h;obtain⟨⟨⟨⟨⟨he,hx⟩,hy⟩,hij⟩,hmj⟩,hb⟩:=h;subst he;replace hb:=jb hb;obtain⟨b,hb1,hb⟩:=hb;have e2:=ja9 hb1
  try simp only at e2
  subst e2;replace hb:=jb hb;obtain⟨⟨ts,v⟩,ha,hb⟩:=hb;obtain⟨ap,rfl⟩:=xl ha;replace hb:=jb hb;obtain⟨t,ht,hb⟩:=hb;have e3:=yJ ht
  try simp only at e3
  subst e3;replace hb:=jb hb;obtain⟨u,hu,hb⟩:=hb;obtain⟨up,rfl⟩:=jo hu;simp only[bg,b8]at hb;obtain⟨⟨hm,hc⟩,hb⟩:=hb;obtain⟨h1,h2,h3,h4⟩:=ok.vis hx;obtain⟨h5,h6,h7,h8⟩:=ok.vis hy;obtain⟨m1,m2,m3,m4⟩:=ok.vis hm;refine PS.imp (λD τ H w=>?_) (vH (by rw[ok.xe];exact pH) ok.calm (yp (kh h5 (qI h6) h7 h8)) (yq ok.nd h1 h2 (.inl (ok.fn _))) (Zy (xK ok.nd m1 m2 (sB ok.toOk e v hb).1 (vI hb hc _ _ _) (.inl (ok.fn _)))) (λ_=>rfl));obtain⟨σ,O,g,R,w⟩:=w;obtain⟨ds,gs,w⟩:=VS w;obtain⟨a,vs,e1,e2,e3,e4⟩:=R.ow j ds gs
  exact⟨.ref a,e1,_,⟨a,rfl,.inl ⟨⟨vs,SqL.of e3⟩,rfl⟩⟩,Yn hij g R gs e1 e3 e4 w⟩
 |.retF e,st,h=>by
  replace h:=jb h;obtain⟨ov,ho,h⟩:=h;replace h:=jb h;obtain⟨v,hv,h⟩:=h;subst hv;obtain⟨pos,rfl⟩:=uP ho;rw[bg]at h;refine PS.imp (λD τ H w=>?_) (xM (sL ok.toOk e v h.1 h.2));obtain⟨σ,O,g,R,w⟩:=w;refine⟨σ,O,R.toReps,ja e (λd=>qo λxs nx ys a H1 us e' s1 h0 hl is=>?_) w⟩;cases e'
  have h0':H₀ a=none:=by
   cases q:H₀ a with
   |none=>rfl
   |some o=>rw[g.same a o q]at h0;cases h0
  exact nx a H1 us (g.same.trans s1) h0' hl (Iss.mono (jC λb hb=>by
   rcases bD.mp hb with rfl|hb
   ·exact bB ..
   ·exact bo _ (g.sub b hb)) xs is)
 |.retG e,st,h=>by
  replace h:=jb h;obtain⟨ov,ho,h⟩:=h;replace h:=jb h;obtain⟨v,hv,h⟩:=h;subst hv;obtain⟨pos,rfl⟩:=uP ho;rw[bg]at h;refine PS.imp (λD τ H w=>?_) (xM (sG ok.toOk e v h.1 h.2));obtain⟨σ,O,g,R,w⟩:=w;refine⟨σ,O,R.toReps,uj (λrows nx rows' a as H1 e' s1 h0 t=>?_) w⟩;have e':=uA e';subst e'
  have old:∀b,H b=none->H₀ b=none:=λb h=>by
   cases q:H₀ b with
   |none=>rfl
   |some o=>rw[g.same b o q]at h;cases h
  exact nx a as H1 (g.same.trans s1) ⟨old _ h0.1,λb hb=>old _ (h0.2 b hb)⟩ ⟨t.top,t.nd,⟨bB ..,λb hb=>bo _ (dI _ hb)⟩,t.rw.imp (jC λb hb=>by
   rcases dP.mp hb with hb|hb
   ·exact dI _ hb
   ·exact bR _ (g.sub b hb)) λ_ _ _ z=>z⟩
 |.setG i f es,st,h=>by
  replace h:=jb h;obtain⟨⟨ts,v⟩,ha,h⟩:=h;obtain⟨pos,rfl⟩:=xl ha;replace h:=jb h;obtain⟨t,ht,h⟩:=h;have et:=yJ ht;simp only at et;subst et;replace h:=jb h;obtain⟨x,hx,h⟩:=h;obtain⟨p,rfl⟩:=jo hx;rw[bg]at h;obtain⟨h1,h2,h3,h4⟩:=ok.vis h.1;replace h:=jb h.2;obtain⟨⟨fx,xs,cp⟩,hc,h⟩:=h;obtain⟨q,rfl⟩:=jL hc;simp only[bg,decide_eq_true_eq]at h;obtain⟨⟨⟨k1,k2⟩,hne⟩,k4⟩:=h;obtain⟨y,ys,rfl⟩:=xk hne;obtain⟨g1,g2,g3⟩:=ok.gl k2;obtain⟨fa,fd,ps,lv,F,hr,hm,hk,hb⟩:=ok.fns f fx _ k1
  have hs:bQ (y::ys) X.env=(false,eval y X.env)::bQ ys X.env/\(backTo cp (bQ ys X.env)).any (·.1)=false:=by
   cases es with
   |nil=>have:=jZ k4;cases this
   |cons z zs =>
    obtain⟨y',ys',e',h5,h6⟩:=jM k4;cases e';exact⟨jv h5 _ _,kr h6 _ _⟩
  refine PS.imp (λD τ H w=>?_) (xK ok.nd h1 h2 (y8 (CX:=CXz X.prog X.w X.mg) (E:=E0) (dvs:=[]) F hr g1 hm hk hb .nil Kt (sA ok.toOk es _ k4) g2 hs.1 hs.2) rfl (.inl (ok.fn _)));obtain⟨σ,O,g,R,w⟩:=w;refine⟨σ,O,R.toReps,jr es (λds ⟨hl,wd⟩ vs H1 s1 i1=>?_) (xy es w)⟩;show spD X.K (y::ys).length (C.fr f) (C.f2 f) (C.ct f) (vs ++ []) H1 _ E0;rw[dM];refine⟨O,ds,by rw[hl,zq k4],(R.mono s1).own,i1,wd.2.1,λd r=>?_,λx hx=>(ok.E x (wd.2.2.2 x hx)).elim⟩;unfold Rw;rw[if_neg (by rw[wd.1.1.1];decide),if_pos wd.1.1.2];refine⟨λrows a as H' e s2 h0 t=>?_,λhn=>?_⟩
  rotate_left
  ·obtain⟨rows',e',_⟩:=wd.2.2.1 _ r;rw[e']at hn;exact bK hn
  obtain⟨rows',e',nx⟩:=wd.2.2.1 _ r;rw[e]at e';have e':=uA e';subst e'
  have old:∀b,H1 b=none->H b=none:=λb h=>by
   cases q:H b with
   |none=>rfl
   |some o=>rw[s1 b o q]at h;cases h
  exact Q8 g R (s1.trans s2) ⟨old _ h0.1,λb hb=>old _ (h0.2 b hb)⟩ t wd.1.2 nx
 |.ownG i e,st,h=>by
  replace h:=jb h;obtain⟨⟨ts,v⟩,ha,h⟩:=h;obtain⟨pos,rfl⟩:=xl ha;replace h:=jb h;obtain⟨t,ht,h⟩:=h;have et:=yJ ht;simp only at et;subst et;replace h:=jb h;obtain⟨x,hx,h⟩:=h;obtain⟨p,rfl⟩:=jo hx;simp only[bg]at h;obtain⟨⟨h0,hfr⟩,he⟩:=h;obtain⟨h1,h2,h3,h4⟩:=ok.vis h0
  have key:∀(D:Ends) (τ:L2.St) (H:Hp),tS X.K C O₀ H₀ ex (.ownG i e) D τ H->tDG X.K C e τ H λu H'=>D.nx (τ.set i (some u)) H':=λD τ H w=>by
   obtain⟨σ,O,g,R,w⟩:=w;refine⟨σ,O,R.toReps,uj (λrows nx rows' a as H1 e' s1 h0 t=>?_) w.2⟩;have e':=uA e';subst e';exact Q8 g R s1 h0 t w.1 nx
  obtain⟨y,py,iter,elt,sc,ps,wi,b',rfl,hck,hpi,hfo,hel,hco⟩:=gcomp ok.toOk e v hfr he;obtain⟨b,hb⟩:=zv (elt:=elt) (gs:=[⟨.Name y py,iter,[],0⟩]) (sc:=sc) (pos:=ps) (py:=p) (y:=x) pos.line X.env
  cases b with
  |false=>exact PS.imp key (xK ok.nd h1 h2 (sG ok.toOk e _ hfr he) hb (.inl (ok.fn _)))
  |true =>
   intro pins s τ H D I w;obtain⟨cl,co⟩:=ok.toOk.comp hck I.ok
   exact KG ok.calm ok.nd (ok.toOk.comp_nE hck) co hpi (λ_ _ _ _=>qH) (hel cl co) hfo hb h1 h2 (.inl (ok.fn _)) pins s τ H D I (hco τ H _ (key D τ H w))
 |.cpO j i es c b,st,h=>by
  replace h:=jb h;obtain⟨⟨ts,v⟩,ha,h⟩:=h;obtain⟨pos,rfl⟩:=xl ha;replace h:=jb h;obtain⟨t,ht,h⟩:=h;have et:=yJ ht;simp only at et;subst et;replace h:=jb h;obtain⟨x,hx,h⟩:=h;obtain⟨p,rfl⟩:=jo hx;rw[bg]at h;obtain⟨h0,h⟩:=h;obtain⟨h1,h2,h3,h4⟩:=ok.vis h0;replace h:=jb h;obtain⟨⟨elt,y,iter,sc,cnd⟩,hz,h⟩:=h;obtain⟨py,ps,e0⟩:=uc hz;simp only at e0;subst e0;simp only[bg]at h;obtain⟨⟨⟨hck,k2⟩,hcd⟩,k3⟩:=h;replace k2:=jb k2;obtain⟨⟨f,args,p2⟩,hcn,k2⟩:=k2;obtain⟨q,e2⟩:=jL hcn;subst e2;simp only[bg,decide_eq_true_eq,b8]at k2;obtain⟨⟨⟨hf,hg⟩,hne⟩,hes⟩:=k2;subst hf;obtain⟨g1,_,_⟩:=ok.gl hg
  cases args with
  |nil=>simp at hne
  |cons y1 ys =>
   have hs:bQ (y1::ys) X.env=(false,eval y1 X.env)::bQ ys X.env/\(backTo p2 (bQ ys X.env)).any (·.1)=false:=by
    cases es with
    |nil=>have:=jZ hes;cases this
    |cons z zs =>
     obtain⟨y',ys',e',h5,h6⟩:=jM hes;cases e';exact⟨jv h5 _ _,kr h6 _ _⟩
   have pi:=Kb (tg:=.Name y py) (p:=q) g1 (ok.blt _ (by decide)) (sA ok.toOk es _ hes) hs.1 hs.2
   have key:∀(D:Ends) (τ:L2.St) (H:Hp),tS X.K C O₀ H₀ ex (.cpO j i es c b) D τ H->yD (iRg (tDs X.K C es)) (tDT X.K C c) (tD X.K C b) τ H λu H'=>D.nx (τ.set i (some u)) H':=λD τ H w=>by
    obtain⟨σ,O,g,R,w⟩:=w;obtain⟨ds,gs,w⟩:=VS w;obtain⟨a,vs,e1,e2,e3,e4⟩:=R.ow j ds gs;refine⟨_,_,R.toReps.share gs e1 e3 e4,jr es (λdd wd us H1 s1 i1=>?_) w⟩;obtain⟨lo,hi,st,e,cc,hx,wd⟩:=uT i1 wd;refine⟨lo,hi,st,e,cc,?_⟩;refine comp_turnsFF (Q:=λu H'=>D.nx (τ.set i (some u)) H') (J:=Its lo st (if lo<hi then (hi-lo-1) / st+1 else 0).toNat) ((R.toReps.share gs e1 e3 e4).mono s1) hx ?_ ?_ ?_ (kE (p:=λd Q=>wpE C c (setS σ j (some (.sh (.lst ds))) ++ [some (.sh d)]) (isB Q)) (f:=λd Q=>wpE C b (setS σ j (some (.sh (.lst ds))) ++ [some (.sh d)]) Q) (λd _ _ hq=>ja c λ_=>jW hq) (λd _ _ hq=>ja b hq) _ (λys nx xs' p' H2 us e' s2 h0 hl is=>?_) wd)
    ·intro j H _ hj;rw[jn]at hj;exact hj
    ·intro j H _ hj;rw[jn]at hj;exact hj
    ·intro j H v H' d _ y hd;obtain⟨e1,e2⟩:=y
     have hj:j<(if lo<hi then (hi-lo-1) / st+1 else 0).toNat:=by
      rcases bU j (if lo<hi then (hi-lo-1) / st+1 else 0).toNat with z|z
      ·exact z
      ·rw[bG (by rw[jn];exact z)]at hd;cases hd
     rw[k8 _ _ _ _ hj]at hd;cases hd;exact⟨e1,by rw[e2];exact jG _⟩
    ·cases e'
     have h0':H p'=none:=by
      cases q:H p' with
      |none=>rfl
      |some o=>rw[s1 p' o q]at h0;cases h0
     exact put_new g R (s1.trans s2) h0' hl (ja0 ((s1.trans s2) _ _ e3) (λz=>by subst z;rw[e3]at h0';cases h0') nx.1 is) nx.2
   obtain⟨bb,hb⟩:=zv (elt:=elt) (gs:=[⟨.Name y py,.Call (.Name "range" q) (y1::ys) [] p2,[cnd],0⟩]) (sc:=sc) (pos:=ps) (py:=p) (y:=x) pos.line X.env
   cases bb with
   |false =>
    refine PS.imp key (xK (te:=yD (iRg (tDs X.K C es)) (tDT X.K C c) (tD X.K C b)) ok.nd h1 h2 (λpins s τ H Q I w=>?_) hb (.inl (ok.fn _)));obtain⟨cl,co⟩:=ok.toOk.comp hck I.ok
    exact xJ ok.calm ok.nd (ok.toOk.comp_nE hck) co pi (λs H fp Ca=>vB (sB (ok.toOk.block hck co s H fp Ca) c cnd hcd).2) (λs H fp Ca=>(sB (ok.toOk.block hck co s H fp Ca) b elt k3).1) (λ_=>rfl) pins s τ H Q I w
   |true =>
    intro pins s τ H D I w;obtain⟨cl,co⟩:=ok.toOk.comp hck I.ok
    exact KG ok.calm ok.nd (ok.toOk.comp_nE hck) co pi (λs H fp Ca=>vB (sB (ok.toOk.block hck co s H fp Ca) c cnd hcd).2) (λs H fp Ca=>(sB (ok.toOk.block hck co s H fp Ca) b elt k3).1) (λ_=>rfl) hb h1 h2 (.inl (ok.fn _)) pins s τ H D I (key D τ H w)
 |.forT j i ss,st,h=>by
  replace h:=jb h;obtain⟨⟨tg,it,body,oe⟩,hz,h⟩:=h;obtain⟨pos,rfl⟩:=Js hz;replace h:=jb h;obtain⟨x,hxn,h⟩:=h;obtain⟨p,e1⟩:=jo hxn;clear hxn;simp only at e1;subst e1;replace h:=jb h;obtain⟨y,hyn,h⟩:=h;obtain⟨q,e1⟩:=jo hyn;clear hyn;simp only at e1;subst e1;simp only[bg,decide_eq_true_eq,gw]at h;obtain⟨⟨⟨⟨he,hx⟩,hy⟩,hij⟩,hb⟩:=h;subst he;obtain⟨h1,h2,h3,h4⟩:=ok.vis hx;obtain⟨h5,h6,h7,h8⟩:=ok.vis hy;intro pins s τ H D I w;refine vH (by rw[ok.xe];exact pH) ok.calm (yp (kh h5 (qI h6) h7 h8)) (yq ok.nd h1 h2 (.inl (ok.fn _))) (sRs (O₀:=O₀) (H₀:=H₀) (i:=i) (j:=j) ok ss body hb) (λ_=>rfl) pins s τ H D I ?_;obtain⟨σ,O,g,R,w⟩:=w;obtain⟨rows,gs,w⟩:=ja4 w;obtain⟨a,as,e1,t,_⟩:=R.tt.1 i rows gs
  have hjl:j<σ.length:=by
   rw[R.len,I.len];exact(gH.mp h1).1
  exact⟨.ref a,e1,_,⟨a,rfl,.inl ⟨⟨_,SqL.of t.top⟩,rfl⟩⟩,XT hij hjl g R gs e1 t w⟩
 |.shrT _,_,h=>zff h
 |.hlfT _,_,h=>zff h
theorem sK(ok:OkS X k C):∀(s:Sm) (st:List Stmt),yz k s st=true->PSs X st (tS X.K C O₀ H₀ ex s)
 |.nop,st,h=>by
  have e:st=[]:=by rw[yz]at h;simpa using h
  subst e;refine PSs.imp (λD τ H w=>?_) kl;obtain⟨σ,O,g,R,w⟩:=w
  exact w τ H O g (jf.refl _) R
 |.seq a b,st,h=>by
  by_cases hs:z7 a=true
  ·exact PSs.imp (λD τ H w=>VX hs w) (sK ok b st (jal hs h))
  ·have hs:z7 a=false:=by simpa using hs
   obtain⟨s,r,rfl,h1,h2⟩:=UC hs h;refine PSs.imp (λD τ H w=>?_) (jB (sS ok a s h1) (sK ok b r h2));obtain⟨σ,O,g,R,w⟩:=w;refine⟨σ,O,g,R,js a ?_ w⟩
   exact⟨λσ' q τ' H' O' g' s' r'=>⟨σ',O',g',r',js b (kU s') q⟩,λ_ q=>q,λ_ q=>q,λ_ q=>q,λ_ q=>q,λ_ q=>q,λ_ q=>q⟩
 |.set _ _,_,h=>zff h
 |.unp _ _,_,h=>zff h
 |.ret _,_,h=>zff h
 |.ite _ _ _,_,h=>zff h
 |.whl _ _,_,h=>zff h
 |.forR _ _ _,_,h=>zff h
 |.forE _ _ _,_,h=>zff h
 |.brk,_,h=>zff h
 |.cnt,_,h=>zff h
 |.never,_,h=>zff h
 |.new _,_,h=>zff h
 |.app _ _,_,h=>zff h
 |.sto _ _ _,_,h=>zff h
 |.shr _,_,h=>zff h
 |.raiseA _ _,_,h=>zff h
 |.retG _,_,h=>zff h
 |.setG _ _ _,_,h=>zff h
 |.retY _ _,_,h=>zff h
 |.ownG _ _,_,h=>zff h
 |.cpO _ _ _ _ _,_,h=>zff h
 |.forT _ _ _,_,h=>zff h
 |.shrT _,_,h=>zff h
 |.hlfT _,_,h=>zff h
 |.ext _ _,_,h=>zff h
 |.forN _ _ _,_,h=>zff h
 |.forU _ _ _ _,_,h=>zff h
 |.retF _,_,h=>zff h
end
end
end Z
namespace Z
open PySem PySem.Spec PySem.Calls PyProof.Rows PySem.W L2
theorem V5:entryFor table "type.__getattribute__"=some tE.«type.__getattribute__»:=entryFor_of_tree (by kernel_rfl)
theorem tg_bind(self:bq):bindSpecial (.builtin "type.__getattribute__") self=pure (.builtin "type.__getattribute__",[self]):=by rfl
variable{K:Frag}{M:Model}{h:gQ}{n:Str}
theorem KP{r:Option bq}(X:K.In h)(e:jep "wrapper_descriptor" n=some r):jdH M h (specialOf (.builtin "type.__init__") n) r:=looks_specialIn X (show specialIn K (.builtin "type.__init__") n=some r from e)
section
variable {prog:dW} {w:World} {A:mq} {E:bq->Shared->Prop} {h:gQ} {g:Array nX} {d:Drawn} {t:Nat} {os:jdU} {K:Frag} {T:Addr} {ddT:Option Addr} {cdT:jeU} {slT:Array (Option bq)}
theorem jbE{expr:Bool}{Q:bq->Shared->Prop}(X:K.In h)(tt:h.get? T=some ⟨.type "type",ddT,.cls cdT,slT⟩)(op:nsIn K cStatics "thirdparty.any"=some none)(fi:findIn K (.ref T) "__init__"=some (some (.builtin "ValueError.__init__")))
 (hq:Q (.builtin "ValueError.__init__") ⟨h,g,d,t+1,os⟩):wpAny (model prog w) A (je9 (.ref T) "__init__" expr) Q E ⟨h,g,d,t,os⟩:=by
 have L0:jdH (model prog w) h (typeOf (.ref T)) (.type "type"):=(jeF tt).andThen .now;have L1:=sj (M:=model prog w) X (show findIn K (.type "type") "__getattribute__"=some (some (.builtin "type.__getattribute__")) from by show jep "type" "__getattribute__"=_;decide +kernel);have L2:=looks_opaque (M:=model prog w) (C:=T) X op;have L3:=sj (M:=model prog w) X (show findIn K (.type "type") "__init__"=some (some (.builtin "type.__init__")) from by show jep "type" "__init__"=_;decide +kernel);have L4:=KP (M:=model prog w) (n:="__get__") (r:=some (.builtin "wrapper_descriptor.__get__")) X (by decide +kernel);have L5:=KP (M:=model prog w) (n:="__set__") (r:=none) X (by decide +kernel);have L6:=KP (M:=model prog w) (n:="__delete__") (r:=none) X (by decide +kernel);have L7:=sj (M:=model prog w) X fi
 have y0:(expr&&onTheHeap (pN "type.__getattribute__"))=false:=by cases expr<;>rfl
 unfold je9 getAttrBy;refine bh (wpAny_mkText (dS (bh (L0.at (bh (L1.at ?_))))));show wpAny _ _ (w8 _ _ _ _ _ _) _ _ _;unfold w8 hookBefore;refine bh (bJ (bh (pM (dS ?_))));unfold callGetattribute;rw[if_neg (by rw[y0];decide)];unfold jdI;refine bh (mJ (tg_bind _) ?_);refine tK (mC (by decide +kernel) V5 ?_)
 have hk:builtinKind "type.__getattribute__"=some .slot:=by decide +kernel
 have hsp:splitId "type.__getattribute__"=some ("type","__getattribute__"):=by decide +kernel
 simp only[sf,hk,hsp];refine bh ?_;unfold wq;refine bh (L0.at ?_);refine mJ (show isSubtype (.type "type") (.type "type")=pure true from by rfl) ?_;rw[if_neg (by decide)];refine mJ (show _=pure () from (show argsOk "type.__getattribute__" ⟨[.ref T,.str "__init__" t],[]⟩ from rfl)) ?_;unfold tE.«type.__getattribute__»;refine bh (mJ (show asStr? (.str "__init__" t)=pure (some ("__init__":Str)) from rfl) ?_);show wpAny _ _ (do let x <- opaqueClassAbove (.ref T);_) _ _ _;refine bh (L2.at ?_);refine bh (L0.at (bh (L3.at (bh (L4.at (bh (L5.at ?_)))))));rw[if_neg (by decide)];refine bh (L6.at (bh (bJ ?_)));show wpAny _ _ (do let z <- mG (.ref T) ("__init__":Str);_) _ _ _;refine bh (L7.at ?_);simp only[];rw[if_neg (by decide +kernel)];refine bh (mJ (show typeOf (.builtin "ValueError.__init__")=pure (.type "wrapper_descriptor") from rfl) ?_);rw[if_pos (by decide +kernel)];refine bJ ?_;refine mJ (show handedOut (.builtin "ValueError.__init__")=pure (.builtin "ValueError.__init__") from rfl) ?_;exact hq
end
theorem ns_some{N:Addr}{m:Str->Option bq}{v:bq}(X:K.In h)(G:h.Ns N m)(e:nsIn K N n=some (some v)):m n=some v:=by
 obtain⟨o,es,ep,ho,hd,_,hf⟩:=G;unfold nsIn at e;split at e
 ·next cls dict es1 epoch slots heq =>
  have this:=X _ _ heq;rw[ho]at this;cases this;cases hd;split at e
  ·next e1 h1 =>
   cases e;rw[<- hf n];unfold nsFind findBy;rw[<- Array.find?_toList,h1];rfl
  ·split at e<;>cases e
 ·cases e
structure InitF (K:Frag) (mg:Str->Option bq) (C T f:Addr) (n:Str):Prop where
 lk:∃nm q N bs sn sub ab col dd k0 k1 k2 k3 k5,K.lookup C=some (gZ nm q C N bs (.ref T::bmV) true sn sub ab col dd k0 k1 k2 k3 k5 UZ)/\nsOkIn K N=true/\nsIn K N "__init__"=some (some (.ref f))/\∀x ∈ [("__getattribute__":Str),"__getattr__","__setattr__",n],nsIn K N x=some none
 lt:∃dd cd sl,K.lookup T=some ⟨.type "type",dd,.cls cd,sl⟩/\nsOkIn K cd.ns=true/\∀x∈n::("__setattr__":Str)::wu,nsIn K cd.ns x=some none
 op:nsIn K cStatics "thirdparty.any"=some none
 fi:findIn K (.ref T) "__init__"=some (some (.builtin "ValueError.__init__"))
 te:mg "TrueError"=some (.ref T)
 fn:isFn K (.ref f)=true
 kp:keepIn K (.ref C)=true
 bl:mG (.type "ValueError") n=pure none
structure InitH (h:gQ) (C T f N:Addr) (n:Str) (o:nv) (mN:Str->Option bq):Prop where
 hC:h.get? C=some o
 hn:h.Ns N mN
 hi:mN "__init__"=some (.ref f)
 no:∀x ∈ [("__getattribute__":Str),"__getattr__","__setattr__",n],mN x=none
 tl:jfc h bmV (.ref T::bmV)
 tq:OwnTailQ h bmV (.ref T::bmV)
 tn:∀x∈n::("__setattr__":Str)::wu,TailN x h bmV (.ref T::bmV)
 hf:∃oI,h.get? f=some oI/\oI.cls=.type "function"
variable{mg:Str->Option bq}{T f:Addr}
theorem InitF.heap{C:Addr}(F:InitF K mg C T f n)(X:K.In h) :
 ∃nm q N bs sn sub ab col dd k0 k1 k2 k3 k5 mN,InitH h C T f N n (gZ nm q C N bs (.ref T::bmV) true sn sub ab col dd k0 k1 k2 k3 k5 UZ) mN:=by
 obtain⟨nm,q,N,bs,sn,sub,ab,col,dd,k0,k1,k2,k3,k5,l1,l2,l3,l4⟩:=F.lk;obtain⟨ddT,cd,sl,t1,t2,t3⟩:=F.lt;have nT:=je8 (isNs_of_in X t2);have nN:=je8 (isNs_of_in X l2)
 have mT:∀x∈n::("__setattr__":Str)::wu,h.nsMap cd.ns x=none:=λx hx=>nsMap_none_of_in X t2 (t3 x hx)
 refine⟨nm,q,N,bs,sn,sub,ab,col,dd,k0,k1,k2,k3,k5,h.nsMap N,X _ _ l1,nN,ns_some X nN l3,λx hx=>nsMap_none_of_in X l2 (l4 x hx),.own (X _ _ t1) nT (mT _ (by simp[wu])) .base,.own (X _ _ t1) nT (λx hx=>mT x (bo _ (bo _ hx))) .base,λx hx=>.own (X _ _ t1) nT (mT x hx) .base,?_⟩;have:=F.fn;unfold isFn typeIn at this;simp only at this
 cases q:K.lookup f with
 |none=>rw[q]at this;cases this
 |some oI =>
  rw[q]at this;exact⟨oI,X _ _ q,by simpa using this⟩
def excO(C t:Addr)(dct:Option Addr):nv:={ cls:=.ref C,dict:=dct,data:=.fields #[.ref t,.none,.none,.none,.bool false,.none] }
abbrev xo(e C:Addr)(dct:Option Addr):HO:=.ext λh=>∃t,h.get? e=some (excO C t dct)
variable{P:dW}{w:World}{H:Hp}{e:Expr}
theorem jb2{e C t:Addr}{dct:Option Addr}(he:h.get? e=some (excO C t dct)):qS P w H h e (xo e C dct):=⟨⟨t,he⟩,⟨_,he⟩,λh1 h2 ⟨t,q⟩ k=>⟨t,k _ q⟩⟩
theorem upd_id{a:Addr}{o:HO}(h:H a=some o):upd H a o=H:=by
 funext b;unfold upd;split
 ·next e=>rw[e,h]
 ·rfl
variable{A:mq}{E:bq->Shared->Prop}
theorem jan{prog:dW}{s:Shared}{ddT:Option Addr}{cdT:jeU}{slT:Array (Option bq)}{pl:Sem Bool}{Q:bq×List bq->Shared->Prop}(X:K.In s.heap)(tt:s.heap.get? T=some ⟨.type "type",ddT,.cls cdT,slT⟩)(op:nsIn K cStatics "thirdparty.any"=some none)(fi:findIn K (.ref T) "__init__"=some (some (.builtin "ValueError.__init__")))
 (hq:Q (.builtin "ValueError.__init__",[]) { s with toks:=s.toks+1 }):wpAny (model prog w) A (getMethod (.ref T) "__init__" pl) Q E s:=by
 obtain⟨h,g,d,t,os⟩:=s;have L0:jdH (model prog w) h (typeOf (.ref T)) (.type "type"):=(jeF tt).andThen .now;have L1:=sj (M:=model prog w) X (show findIn K (.type "type") "__getattribute__"=some (some (.builtin "type.__getattribute__")) from by show jep "type" "__getattribute__"=_;decide +kernel);unfold getMethod specialOf;refine bh (bh (L0.at (L1.at ?_)));simp only[];rw[if_pos (by decide +kernel)];exact bh (jbE X tt op fi (bJ hq))
variable{sp ap pos:Pos}{i:Nat}{x:Str}
section
variable {X:Cx} {C T f:Addr} {n:Str}
theorem jaE{tp xp cp:Pos}{j:Nat}{y:Str}(gl:Gl X "TrueError")(hT:X.mg "TrueError"=some (.ref T))(hi:X.N[i]?=some x)(hj:X.N[j]?=some y)(vx:Vis X.env.scope x)(vy:Vis X.env.scope y)
 (dx:(x == ("__debug__":Str))=false/\(x == ("__classdict__":Str))=false) (dy:(y == ("__debug__":Str))=false/\(y == ("__classdict__":Str))=false) (F:InitF X.K X.mg C T f n) (hline:(ap.endLine == cp.line)=true) :
 PS X (.Expr (.Call (.Attribute (.Name "TrueError" tp) "__init__" ap) [.Name x sp,.Name y xp] [] cp) pos) (λD σ H=>∃e v,σ[i]?=some (some (.ref e))/\σ[j]?=some (some v)/\H e=some (xo e C none)/\D.nx σ H):=by
 refine Z.PS.imp (λD σ H w=>?_) (zJ (te:=λσ H Q=>∃e v,σ[i]?=some (some (.ref e))/\σ[j]?=some (some v)/\H e=some (xo e C none)/\Q .non H) ?_)
 ·exact w
 intro pins s σ H Q I w;obtain⟨e,v,e1,e2,he,q⟩:=w;obtain⟨ddT,cd,sl,t1,t2,t3⟩:=F.lt
 have hfew:methodCallForm ([Expr.Name x sp,.Name y xp].length+([]:List jfa).length) (backTo cp (bQ [Expr.Name x sp,.Name y xp] X.env)) (backToKw cp (keywordEach [] X.env))=true:=by rfl
 rw[arm_eval_Call,show wC (.Name "TrueError" tp) "__init__" X.env (eval (.Name "TrueError" tp) X.env)=eval (.Name "TrueError" tp) X.env from rfl];refine bh (zg I gl hT ?_ (by decide));refine bh (pK ?_);unfold methodCall methodCallPos;rw[hfew,hline];refine bh (dS ?_);show wpAny _ _ (getMethod (.ref T) "__init__" _) _ _ _;refine jan I.kIn (I.kIn _ _ t1) F.op F.fi ?_;refine bh (bJ ?_);have pa:PA X [.Name x sp,.Name y xp] _:=jw (kh hi vx dx.1 dx.2) (jw (kh hj vy dy.1 dy.2) jX);refine wg (thn (pa cp pins _ σ H (λvs H1=>vs=[.ref e,v]/\H1=H) (I.tok _) ⟨_,e1,_,e2,rfl,rfl⟩) λus s1 ⟨vs,H1,I1,r1,q1,q2⟩=>?_);subst q1 q2;obtain⟨nm,qn,N,bs,sn,sub,ab,col,dd,k0,k1,k2,k3,k5,mN,hh⟩:=F.heap I1.kIn
 cases r1 with
 |cons r2 r3 =>
  obtain rfl:_=gT e:=r2
  cases r3 with
  |cons r4 r5 =>
   cases r5;obtain⟨⟨t0,he1⟩,_⟩:=I1.hok e _ he;obtain⟨hp,g,d,tk,os⟩:=s1
   refine UL pW hh.tl hh.hC he1 (by show 1<=sizeLine;decide) λh' kp g1 g2=>?_
   refine⟨.non,H1,?_,rfl,q⟩;have:=I1.write (x:=e) (e:=e) (o:=xo e C none) (t':=tk) (h':=h') (by rw[he];trivial) (.inl rfl) kp ⟨_,g1⟩ (jb2 g1);rw[upd_id he]at this;exact this
theorem ZA{value:Expr}{tv:TE}(hi:X.N[i]?=some x)(vx:Vis X.env.scope x)(dx:(x == ("__debug__":Str))=false/\(x == ("__classdict__":Str))=false)(hv:PE X value tv)(F:InitF X.K X.mg C T f n)(hs:pY value (some (.Attribute (.Name x sp) n ap)) pos.line X.env=pure false) :
 PS X (.Assign [.Attribute (.Name x sp) n ap] value pos) (λD σ H=>tv σ H λy H1=>∃e,σ[i]?=some (some (.ref e))/\H1 e=some (xo e C none)/\∀dA,H1 dA=none->dA≠e->D.nx σ (upd (upd H1 dA (.xd [(n,y)])) e (xo e C (some dA)))):=by
 intro pins s σ H D I w;refine plainObj_wpAny_Assign_Attribute (thn (hv pins s σ H _ I w) λu s1 ⟨y,H1,I1,ry,e,e1,he,q⟩=>thn (kh hi vx dx.1 dx.2 pins s1 σ H1 (λv H2=>v=.ref e/\H2=H1) I1 ⟨_,e1,rfl,rfl⟩) λov s2 ⟨v,H2,I2,rx,q1,q2⟩=>?_) hs;subst q1 q2;obtain rfl:ov=gT e:=rx;obtain⟨nm,qn,N,bs,sn,sub,ab,col,dd,k0,k1,k2,k3,k5,mN,hh⟩:=F.heap I2.kIn;obtain⟨⟨t0,he1⟩,_⟩:=I2.hok e _ he;obtain⟨hp,g,d,tk,os⟩:=s2
 refine Q7 PySem.F.store_ValueError hh.hC hh.hn (hh.no _ (by simp)) (hh.tn _ (by simp)) (hh.no _ (by simp)) (hh.tn _ (by simp)) F.bl he1 rfl rfl rfl λh' tk' g1 g2 g3=>?_
 have ne:hp.objs.size≠e:=pd (bN he1);have fr:H2 hp.objs.size=none:=I2.hok.fresh (bV _);refine⟨σ,_,?_,q hp.objs.size fr ne⟩;have I3:=I2.write (x:=e) (e:=e) (o:=xo e C (some hp.objs.size)) (t':=tk') (h':=h') (by rw[he];trivial) (.inl rfl) g3 ⟨_,g1⟩ (jb2 g1)
 have sz:∀ {b:Addr} {o:nv},hp.get? b=some o->b≠hp.objs.size:=λ{b o} q=>gN (bN q)
 have I4:=uH (v:=.xd [(n,y)]) I3 (a:=hp.objs.size) (pQ I2.sz) (by rw[jh ne];exact fr) (λH'=>⟨_,g2,λz=>?_⟩) (pd I2.lt) (λz c qc=>by obtain⟨v,o,ho,_⟩:=I2.cell z c qc;exact sz ho) (λp hp=>sz (I2.pin p hp).1)
 ·have e3:upd (upd H2 e (xo e C (some hp.objs.size))) hp.objs.size (.xd [(n,y)])=upd (upd H2 hp.objs.size (.xd [(n,y)])) e (xo e C (some hp.objs.size)):=by
   funext b;by_cases hb:b=e
   ·subst hb;rw[jh ne.symm,jm,jm]
   ·rw[jh hb];by_cases hb2:b=hp.objs.size
    ·subst hb2;rw[jm,jm]
    ·rw[jh hb2,jh hb2,jh hb]
  rw[e3]at I4;exact I4
 ·by_cases hz:z=n
  ·subst hz;simp only[gv,beq_self_eq_true,if_true];exact ry
  ·have hb:(z == n)=false:=by simpa using hz
   simp only[gv,hb,List.lookup_nil,if_neg hz];trivial
end
def Qo(s:Stmt):Bool:=(QZ s).any λz=>(xq z).any λc=>c.2.2.1.isEmpty&&decide (c.2.1.length=2)&&decide (ju (c.2.1.getD 0 z)=some ("self":Str))&&decide (ju (c.2.1.getD 1 z)=some ("text":Str))&&(xA c.1).any λy=>decide (y.2.1=("__init__":Str))&&decide (ju y.1=some ("TrueError":Str))&&(y.2.2.endLine == c.2.2.2.line)
theorem jab{s:Stmt}(h:Qo s=true):∃tp ap sp xp cp pos,s=.Expr (.Call (.Attribute (.Name "TrueError" tp) "__init__" ap) [.Name "self" sp,.Name "text" xp] [] cp) pos/\(ap.endLine == cp.line)=true:=by
 unfold Qo at h;replace h:=jb h;obtain⟨z,h1,h⟩:=h;obtain⟨pos,rfl⟩:=Qy h1;replace h:=jb h;obtain⟨⟨f,xs,ks,cp⟩,h2,h⟩:=h;have e2:=qY h2;subst e2;simp only[bg,decide_eq_true_eq]at h;obtain⟨⟨⟨⟨h3,h4⟩,h5⟩,h6⟩,h⟩:=h;obtain⟨a,b,rfl⟩:=qj h4;obtain⟨sp,rfl⟩:=jo (show ju a=_ from h5);obtain⟨xp,rfl⟩:=jo (show ju b=_ from h6);replace h:=jb h;obtain⟨⟨o,n,ap⟩,h7,h⟩:=h;have e7:=qU h7;subst e7;simp only[bg,decide_eq_true_eq]at h;obtain⟨⟨rfl,h8⟩,h9⟩:=h;obtain⟨tp,rfl⟩:=jo h8
 have e3:ks=[]:=by simpa using h3
 subst e3;exact⟨_,_,_,_,_,_,rfl,h9⟩
def nonC(p:Str)(e:Expr):Bool:=(Zi e).any λq=>decide (ju q.1=some p)&&decide (q.2.1=[.Is])&&decide (q.2.2.length=1)&&decide (kB (q.2.2.getD 0 e)=some .none)
def nonL(p:Str)(e:Expr):Bool:=(asIf e).any λf=>nonC p f.1&&(Ku f.2.1).any (·.isEmpty)&&ZM "list" p e f.2.2
def jaa(n p:Str)(l:Bool)(s:Stmt):Bool:=(xV s).any λz=>(zX z.1).any λt=>(xA t).any λy=>decide (ju y.1=some ("self":Str))&&decide (y.2.1=n)&&if l=true then nonL p z.2 else decide (ju z.2=some p)
variable{p:Str}
theorem nonC_(h:nonC p e=true):∃cp j kp mp,e=.Compare (.Name p cp) [.Is] [.Constant .none j kp] mp:=by
 unfold nonC at h;replace h:=jb h;obtain⟨⟨x,ops,xs⟩,h1,h⟩:=h;obtain⟨mp,rfl⟩:=Qt h1;simp only[bg,decide_eq_true_eq]at h;obtain⟨⟨⟨h2,rfl⟩,h3⟩,h4⟩:=h;obtain⟨cp,rfl⟩:=jo h2;obtain⟨k,rfl⟩:=kQ h3;obtain⟨j,kp,rfl⟩:=qJ (show kB k=_ from h4);exact⟨_,_,_,_,rfl⟩
theorem nonL_(h:nonL p e=true):∃cp j kp mp lp gp qp dp ip,e=.IfExp (.Compare (.Name p cp) [.Is] [.Constant .none j kp] mp) (.List [] lp) (.Call (.Name "list" gp) [.Name p qp] [] dp) ip:=by
 unfold nonL at h;replace h:=jb h;obtain⟨⟨c,a,b⟩,h1,h⟩:=h;obtain⟨ip,rfl⟩:=ja5 h1;simp only[bg]at h;obtain⟨⟨h2,h3⟩,h4⟩:=h;obtain⟨_,_,_,_,rfl⟩:=nonC_ h2;obtain⟨_,_,_,rfl⟩:=jbV h4;replace h3:=jb h3;obtain⟨ys,h5,h3⟩:=h3;obtain⟨lp,rfl⟩:=yO h5;cases gw.mp h3;exact⟨_,_,_,_,_,_,_,_,_,rfl⟩
variable{l:Bool}
theorem fldSt_{s:Stmt}(h:jaa n p l s=true):(l=false/\∃sp ap pp pos,s=.Assign [.Attribute (.Name "self" sp) n ap] (.Name p pp) pos) \/
 (l=true/\∃sp ap cp j kp mp lp gp qp dp ip pos,s=.Assign [.Attribute (.Name "self" sp) n ap] (.IfExp (.Compare (.Name p cp) [.Is] [.Constant .none j kp] mp) (.List [] lp) (.Call (.Name "list" gp) [.Name p qp] [] dp) ip) pos):=by
 unfold jaa at h;replace h:=jb h;obtain⟨⟨ts,v⟩,h1,h⟩:=h;obtain⟨pos,rfl⟩:=xl h1;replace h:=jb h;obtain⟨t,h2,h⟩:=h;cases yJ h2;replace h:=jb h;obtain⟨⟨o,n',ap⟩,h3,h⟩:=h;cases qU h3;simp only[bg,decide_eq_true_eq]at h;obtain⟨⟨h4,rfl⟩,h⟩:=h;obtain⟨sp,rfl⟩:=jo h4
 cases l with
 |false =>
  obtain⟨pp,rfl⟩:=jo (of_decide_eq_true h)
  exact .inl ⟨rfl,_,_,_,_,rfl⟩
 |true =>
  obtain⟨_,_,_,_,_,_,_,_,_,rfl⟩:=nonL_ (e:=v) h;exact .inr ⟨rfl,_,_,_,_,_,_,_,_,_,_,_,_,rfl⟩
def vU(n p:Str)(l:Bool):List Stmt->Bool
 |[a,b]=>Qo a&&jaa n p l b
 |_=>false
def spI(K:Frag)(C:Addr)(n:Str)(l:Bool):Sp:=λvs H Q _=>∃e tx v,vs=[.ref e,tx,v]/\H e=some (xo e C none) /\
 (if l=true then ∃a ys,v=.ref a/\SqL K H a ys/\∀q dA,H q=none->H dA=none->q≠dA->Q .non (upd (upd (upd H q (.lst ys)) dA (.xd [(n,.ref q)])) e (xo e C (some dA)))
  else ∀dA,H dA=none->Q .non (upd (upd H dA (.xd [(n,v)])) e (xo e C (some dA))))
variable{base:gQ}{CX:CXT}{st:Stmt}
theorem init_ok{C:Addr}{q:Str}{dV oc kV doc pm cdv ct:bq}{od an:Option Addr}{osl:Array (Option bq)}
 (lk:K.lookup f=some ⟨oc,od,.func (fnOf x q (qZ st) (jU st) (ji st) dV kV doc pm an cdv ct),osl⟩) (hcd:codeIn K cdv q=true) (S:FnScope ["self","text",p] ["self","text",p] (ji st)) (F:InitF K mg C T f n)
 (dp:(p == ("__debug__":Str))=false/\(p == ("__classdict__":Str))=false) (gl:(ji st).names.lookup ("TrueError":Str)=some .globalImplicit) (gl2:l=true->(ji st).names.lookup ("list":Str)=some .globalImplicit) (ml:mg "list"=none) (hb:vU n p l (jU st)=true) :
 FnOk P w K mg base CX 1 f (fnOf x q (qZ st) (jU st) (ji st) dV kV doc pm an cdv ct) ["self","text",p] (spI K C n l):=by
 refine VL (k:=0) lk hcd S (λvs H Q E h=>by obtain⟨e,tx,v,rfl,_⟩:=h;rfl) λA outer s H vs Q E hr h=>?_
 obtain⟨e,tx,v,rfl,he,h⟩:=h;generalize hX:uV CX P w K mg base ["self","text",p] q (ji st) f cdv A outer s H E=X
 have vis:∀c ∈ [("self":Str),"text",p],Vis X.env.scope c:=λc hc=>by subst hX;exact(S.par c hc).elim .inl λz=>.inr (.inl z)
 have hN:X.N=[("self":Str),"text",p]:=by subst hX;rfl
 have hK:X.K=K:=by subst hX;rfl
 have hm:X.mg=mg:=by subst hX;rfl
 have hcx:X.env.scope=ji st:=by subst hX;rfl
 have FX:InitF X.K X.mg C T f n:=by rw[hK,hm];exact F
 match hd:jU st,hb with
 |[a,b],hb =>
  unfold vU at hb;rw[bg]at hb;obtain⟨tp,ap,sp,xp,cp,pos,rfl,hline⟩:=jab hb.1;have p1:=jaE (X:=X) (tp:=tp) (sp:=sp) (xp:=xp) (ap:=ap) (cp:=cp) (pos:=pos) (i:=0) (j:=1) (x:="self") (y:="text") (show X.env.scope.names.lookup _=_ by rw[hcx];exact gl) (by rw[hm];exact F.te) (by rw[hN];rfl) (by rw[hN];rfl) (vis _ (by simp)) (vis _ (by simp)) ⟨by decide,by decide⟩ ⟨by decide,by decide⟩ FX hline
  have pv:∀pp,PE X (.Name p pp) (XM 2):=λpp=>kh (by rw[hN];rfl) (vis _ (by simp)) dp.1 dp.2
  rcases fldSt_ hb.2 with⟨rfl,sp2,ap2,pp,pos2,rfl⟩|⟨rfl,sp2,ap2,cp2,j,kp,mp,lp,gp,qp,dp2,ip,pos2,rfl⟩
  ·rw[if_neg (by decide)]at h;have p2:=ZA (X:=X) (i:=0) (x:="self") (sp:=sp2) (ap:=ap2) (pos:=pos2) (by rw[hN];rfl) (vis _ (by simp)) ⟨by decide,by decide⟩ (pv pp) FX rfl;exact⟨_,jB p1 (jB p2 kl),e,tx,rfl,rfl,he,v,rfl,e,rfl,he,λdA h1 _=>h dA h1⟩
  ·rw[if_pos rfl]at h;obtain⟨aw,ys,rfl,sq,h⟩:=h;have pl:PE X (.Call (.Name "list" gp) [.Name p qp] [] dp2) _:=xh (T:="list") qk (show X.env.scope.names.lookup _=_ by rw[hcx];exact gl2 rfl) (by rw[hm];exact ml) mZ (jw (pv qp) jX);have pi:PE X (.IfExp (.Compare (.Name p cp2) [.Is] [.Constant .none j kp] mp) (.List [] lp) (.Call (.Name "list" gp) [.Name p qp] [] dp2) ip) _:=QJ (pt_cmp (pc_isN (pv cp2))) (Jt jX) pl;have p2:=ZA (X:=X) (i:=0) (x:="self") (sp:=sp2) (ap:=ap2) (pos:=pos2) (by rw[hN];rfl) (vis _ (by simp)) ⟨by decide,by decide⟩ pi FX rfl;refine⟨_,jB p1 (jB p2 kl),e,tx,rfl,rfl,he,⟨_,rfl,false,rfl,?_⟩⟩;refine⟨_,rfl,aw,ys,rfl,.inl (by rw[hK];exact sq),λq hq=>⟨e,rfl,?_,λdA h1 h2=>?_⟩⟩
   ·have ne:e≠q:=λz=>by rw[<- z,he]at hq;cases hq
    rw[jh ne];exact he
   ·have n1:dA≠q:=λz=>by rw[z,jm]at h1;cases h1
    rw[jh n1]at h1;exact h q dA hq h1 n1.symm
structure InitX (X:Cx) (C T f:Addr) (n:Str) (l:Bool):Prop where
 F:InitF X.K X.mg C T f n
 fn:∃fd p,FnOk X.prog X.w X.K X.mg X.base (CXz X.prog X.w X.mg) 1 f fd ["self","text",p] (spI X.K C n l)/\zm X.K fd ["self","text",p] []
 rm:Room 2 X.A
variable{pins:List (Addr×nv)}{σ:L2.St}
section
variable {X:Cx} {C T f:Addr} {n x:Str} {l:Bool} {e1 e2:Expr} {np pos cp:Pos} {t:TA}
theorem jbN{s:Shared}{h':gQ}{e:Addr}{args:List bq}(I:Inv X pins σ H s)(w:Own X)(m:pU s.heap h' e (.ref C) args):H e=none/\X.s₀.heap.get? e=none/\Inv X pins σ (upd H e (xo e C none)) { s with heap:=h' }:=by
 have hH:H e=none:=by
  cases q:H e with
  |none=>rfl
  |some u =>
   obtain⟨o,z⟩:=K1 (I.hok e u q);rw[m.new]at z;cases z
 have old:∀ {b:Addr} {o:nv},s.heap.get? b=some o->b≠e:=λ{b o} z y=>by rw[y,m.new]at z;cases z
 have h0:X.s₀.heap.get? e=none:=by
  cases q:X.s₀.heap.get? e with
  |none=>rfl
  |some o =>
   obtain⟨o',z⟩:=I.base.there e o q (by rw[w.ex];simp);exact absurd rfl (old z)
 have I1:Inv X pins σ H { s with heap:=h' }:=I.un (t':=s.toks) (Un.kept m.keeps) (I.hok.kept m.keeps);obtain⟨t0,g1,_⟩:=m.there;exact⟨hH,h0,uH I1 h0 hH (λ_=>jb2 g1) (λz=>by obtain⟨m',⟨o,_,_,ho',_⟩,_⟩:=I.loc;exact old ho' z.symm) (λy cc q=>by obtain⟨v,o,ho',_⟩:=I.cell y cc q;exact old ho') (λp hp=>old (I.pin p hp).1)⟩
theorem pe_exc(w:Own X)(ix:InitX X C T f n l)(hg:Gl X x)(hm:X.mg x=some (.ref C))(ha:PA X [e1,e2] t)(hdb:(x == ("__debug__":Str))=false)(he:bQ [e1,e2] X.env=(false,eval e1 X.env)::bQ [e2] X.env)(hpl:(backTo cp (bQ [e2] X.env)).any (·.1)=false) :
 PE X (.Call (.Name x np) [e1,e2] [] cp) (λσ H Q=>t σ H λvs H1=>vs.length=2/\∀e,H1 e=none->X.s₀.heap.get? e=none->spI X.K C n l (.ref e::vs) (upd H1 e (xo e C none)) (λr H2=>r=.non/\Q (.ref e) H2) E0):=by
 intro pins s σ H Q I h;refine tL (zg I hg hm ?_ hdb);refine jed (h₀:=X.base) I.ok.mod.kin ix.F.kp (thn (ha cp pins s σ H _ I h) λus s1 ⟨vs,H1,I1,r,hl,q⟩=>⟨I1.kIn,?_⟩) he hpl;obtain⟨fd,p,FO,hb⟩:=ix.fn;obtain⟨nm,qn,N,bs,sn,sub,ab,col,dd,k0,k1,k2,k3,k5,mN,hh⟩:=ix.F.heap I1.kIn;obtain⟨oI,hfI,hfc⟩:=hh.hf;obtain⟨hp,g,d,tk,os⟩:=s1
 have hu:us.length=2:=by rw[<- r.length];exact hl
 refine YT (Q:=EP X pins σ Q) pW (by decide +kernel) pW hh.tl hh.hC hh.hn hh.hi hfI hfc (λh' e md=>?_) (by rw[show ([]:List bq)++us=us from rfl,hu];decide);obtain⟨hH,h0,I2⟩:=jbN (C:=C) I1 w md;have r2:jJ (V.ref e::vs) (gT e::us):=.cons rfl r
 refine tK (jcm (FO.run _ X.stack _ _ ⟨gT e::us,[]⟩ (gT e::us) _ _ E0 (ix.rm.make C us []) (I2.env0.make C us []) (by
  have:=hb ⟨h',g,d,tk,os⟩ (gT e::us) I2.kIn (by simp[hu]);rw[dM]at this
  exact this) r2 (q e hH h0)) λrr s' hq'=>?_)
 cases rr with
 |error e=>exact(Kt (X:=X) pins σ _ _ e s' I2 hq')
 |ok fl =>
  cases fl with
  |ret u =>
   obtain⟨v,H',I3,rv,ev,q3⟩:=I2.after hq';subst ev
   exact⟨rv,⟨V.ref e,H',I3,rfl,q3⟩⟩
  |next=>exact mL hq'
  |brk=>exact mL hq'
  |cont=>exact mL hq'
theorem raise_x{s:Shared}{y:Expr}{te:TE}{Q:Flow->Shared->Prop}(I:Inv X pins σ H s)(hh:X.A.handled=none)(F:InitF X.K X.mg C T f n)(hy:PE X y te)
 (h:te σ H λv H1=>∃e dct,v=.ref e/\H1 e=some (xo e C dct)/\∀s1,Inv X pins σ H1 s1->X.xe (.ref e) s1):wpAny (model X.prog X.w) X.A (exec (.Raise (some y) none pos) X.env) Q X.xe s:=by
 rw[arm_exec_Raise];refine bh (pK ?_);obtain⟨nm,qn,N,bs,sn,sub,ab,col,dd,k0,k1,k2,k3,k5,l1,_⟩:=F.lk;show wpAny _ _ (raiseStmt X.env (some (do let v <- eval y X.env;jev pos;pure v)) none) _ _ _;refine Ze (C:=C) (nm:=nm) (q:=qn) (N:=N) (bs:=bs) (bm:=.ref T::bmV) (hdct:=true) (sn:=sn) (sub:=sub) (ab:=ab) (col:=col) (dd:=dd) (k0:=k0) (k1:=k1) (k2:=k2) (k3:=k3) (k5:=k5) (newId:=UZ) (by rfl) hh ?_;refine bh (thn (hy pins s σ H _ I h) λu s1 ⟨v,H1,I1,r,e,dct,ev,he,q⟩=>bh (pK (bJ ?_)));subst ev;obtain rfl:u=gT e:=r;obtain⟨⟨t0,he1⟩,_⟩:=I1.hok e _ he;exact⟨e,t0,dct,rfl,I1.kIn _ _ l1,he1,q _ I1⟩
end
theorem jar{fd:pF}(F:Fun K x x st f fd)(S:FnScope ["_law_e","_law_flags"] ["_law_e"] (ji st))
 (l0:(ji st).names.lookup ("_law_e":Str)=some .local) (l1:(ji st).names.lookup ("_law_flags":Str)=some .local)
 (gl:∀c∈("isinstance":Str)::("TrueError":Str)::("ValueError":Str)::names12,(ji st).names.lookup c=some .globalImplicit) (hb:vo (jU st)=true):FnOk P w K mg base CX 1 f fd ["_law_e"] (spA K mg):=by
 obtain⟨oc,od,kV,doc,pm,an,cdv,ct,osl,rfl,lk,hcd⟩:=F.ex
 refine VL (k:=0) lk hcd S (λvs H Q E h=>by obtain⟨y,D,ea,oe,u,_,rfl,_⟩:=h;rfl) λA outer s H vs Q E hr h=>?_
 obtain⟨y,D,ea,oe,u,af,rfl,he,hc,q⟩:=h
 have ax:AX (uV CX P w K mg base ["_law_e","_law_flags"] x (ji st) f cdv A outer s H E):=⟨rfl,rfl,S.nd,l0,l1,λc hc=>gl c hc,λ_=>rfl⟩
 exact⟨_,UJ (D:=D) (y:=y) ax af (show 1<2 by decide) hb,⟨ea,oe,u,rfl,he,hc⟩,rfl,q⟩
def jbI(w:Str)(e:Expr):Bool:=(Ku e).any λxs=>decide (xs.length=2)&&decide (kB (xs.getD 0 e)=some (.str w))&&decide (kB (xs.getD 1 e)=some (.str "other"))
def jaH(e:Expr):Bool:=(asUn e).any λn=>decide (n.1=.Not)&&ZM "_law_alone" "_law_e" e n.2
def jaP(e:Expr):Bool:=(j9 e).any λc=>decide (c.1=("int":Str))&&decide (c.2.1.length=1)&&jaH (c.2.1.getD 0 e)
def zH(w:Str)(v:Expr):Bool:=pq w&&(vc v).any λz=>jbI w z.1&&jaP z.2
def tellOk(w:Str):Option Str->Expr->Bool
 |none,v=>zH w v
 |some n,v=>(QW v).any λxs=>decide (xs.length=2)&&zH w (xs.getD 0 v)&&(xA (xs.getD 1 v)).any λy=>decide (ju y.1=some ("_law_e":Str))&&decide (y.2.1=n)
def KO(w:Str)(n:Option Str):List Stmt->Bool
 |[s]=>(Jh s).any λv=>v.any λv=>tellOk w n v
 |_=>false
variable{w:Str}
theorem wordL_(h:jbI w e=true):∃j1 p1 j2 p2 lp,e=.List [.Constant (.str w) j1 p1,.Constant (.str "other") j2 p2] lp:=by
 unfold jbI at h;replace h:=jb h;obtain⟨xs,h3,h⟩:=h;obtain⟨lp,rfl⟩:=yO h3;simp only[bg,decide_eq_true_eq]at h;obtain⟨⟨h4,h5⟩,h6⟩:=h;obtain⟨x1,x2,rfl⟩:=qj h4;obtain⟨j1,p1,rfl⟩:=qJ (show kB x1=_ from h5);obtain⟨j2,p2,rfl⟩:=qJ (show kB x2=_ from h6);exact⟨_,_,_,_,_,rfl⟩
theorem wordN_(h:jaH e=true):∃qf qe cp up,e=.UnaryOp .Not (.Call (.Name "_law_alone" qf) [.Name "_law_e" qe] [] cp) up:=by
 unfold jaH at h;replace h:=jb h;obtain⟨⟨o,n⟩,h1,h⟩:=h;obtain⟨up,rfl⟩:=Zj h1;simp only[bg,decide_eq_true_eq]at h;obtain⟨rfl,h⟩:=h;obtain⟨qf,qe,cp,rfl⟩:=jbV h;exact⟨_,_,_,_,rfl⟩
theorem wordI_(h:jaP e=true):∃qi qf qe cp up ip,e=.Call (.Name "int" qi) [.UnaryOp .Not (.Call (.Name "_law_alone" qf) [.Name "_law_e" qe] [] cp) up] [] ip:=by
 unfold jaP at h;replace h:=jb h;obtain⟨⟨i,ys,ip⟩,h1,h⟩:=h;obtain⟨qi,rfl⟩:=jL h1;simp only[bg,decide_eq_true_eq]at h;obtain⟨⟨rfl,h2⟩,h⟩:=h;obtain⟨u,rfl⟩:=kQ h2;obtain⟨qf,qe,cp,up,rfl⟩:=wordN_ (e:=u) h;exact⟨_,_,_,_,_,_,rfl⟩
theorem ZW{v:Expr}(h:zH w v=true):pq w=true/\∃j1 p1 j2 p2 lp qi qf qe cp up ip sp,v=.Subscript (.List [.Constant (.str w) j1 p1,.Constant (.str "other") j2 p2] lp) (.Call (.Name "int" qi) [.UnaryOp .Not (.Call (.Name "_law_alone" qf) [.Name "_law_e" qe] [] cp) up] [] ip) sp:=by
 unfold zH at h;replace h:=(bg _ _).mp h;refine⟨h.1,?_⟩;replace h:=jb h.2;obtain⟨⟨a,b⟩,h2,h⟩:=h;obtain⟨sp,rfl⟩:=yS h2;replace h:=(bg _ _).mp h;obtain⟨_,_,_,_,_,rfl⟩:=wordL_ (e:=a) h.1;obtain⟨_,_,_,_,_,_,rfl⟩:=wordI_ (e:=b) h.2;exact⟨_,_,_,_,_,_,_,_,_,_,_,_,rfl⟩
structure Alone (X:Cx):Prop where
 fn:∃f fd,FnOk X.prog X.w X.K X.mg X.base (CXz X.prog X.w X.mg) 1 f fd ["_law_e"] (spA X.K X.mg)/\X.mg "_law_alone"=some (.ref f)/\mP X.K (.ref f)=true/\zm X.K fd ["_law_e"] []
 rm:X.A.depth+3*1+5<jcx/\X.A.units+16*1+200<cLine
 int:X.mg "int"=none
variable{ea:Addr}
section
variable {X:Cx} {D:Addr} {y:Str} {i:Nat}
def K2(i:Nat)(D:Addr)(σ:L2.St)(H:Hp):Prop:=∃e oe u,σ[i]?=some (some (.ref e))/\H e=some (.frz oe u)/\oe.cls=.ref D
theorem Zm(al:Alone X)(hi:X.N[i]?=some ("_law_e":Str))(hl:X.env.scope.names.lookup ("_law_e":Str)=some .local)(gi:Gl X "int")(ga:Gl X "_law_alone")(af:AloneF X.K X.mg y D){v:Expr}(h:zH w v=true) :
 PE (mkX X ea) v (λσ H Q=>K2 i D σ H/\∀H',jf H H'->Q (.str w) H')/\pq w=true:=by
 obtain⟨h0,j1,p1,j2,p2,lp,qi,qf,qe,cp,up,ip,sp,rfl⟩:=ZW h;refine⟨?_,h0⟩;obtain⟨f,fd,F,hm,hk,hb⟩:=al.fn
 have rm:Room 1 (mkX X ea).A:=⟨λz=>absurd z (by decide),al.rm.1,al.rm.2⟩
 have pc:PE (mkX X ea) (.Call (.Name "_law_alone" qf) [.Name "_law_e" qe] [] cp) _:=y8 (X:=mkX X ea) (CX:=CXz X.prog X.w X.mg) (E:=E0) (dvs:=[]) F rm ga hm hk hb .nil Kt (jw (kh hi (.inl hl)) jX);refine PE.imp (λσ H Q z=>?_) (jbo ix_list (Jt (jw Jr (jw Jr jX))) (xh (T:="int") uF gi al.int t9 (jw (jac pc) jX)) (λ_ _=>rfl));obtain⟨⟨e,oe,u,e1,he,hc⟩,z⟩:=z;refine⟨by show 2<=sizeLine;decide,λp hp=>?_⟩;have s1:=jE hp (.lst [.str w,.str "other"]);refine⟨.ref e,e1,y,D,e,oe,u,af,rfl,s1 _ _ he,hc,λH' s2=>⟨true,rfl,.inr ⟨false,rfl,?_⟩⟩⟩;exact⟨p,_,_,.str w,rfl,rfl,SqL.of (s2 _ _ (jm ..)),rfl,z H' (s1.trans s2)⟩
theorem pe_xfld{p:Pos}(F:InitF X.K X.mg D T f n)(hi:X.N[i]?=some ("_law_e":Str))(hl:X.env.scope.names.lookup ("_law_e":Str)=some .local) :
 PE (mkX X ea) (.Attribute (.Name "_law_e" p) n pos) (λσ H Q=>∃e oe u vs dA v,σ[i]?=some (some (.ref e))/\H e=some (.frz oe u)/\oe.cls=.ref D/\oe.data=.fields vs/\oe.dict=some dA/\H dA=some (.xd [(n,v)])/\Q v H):=by
 intro pins s σ H Q I h;obtain⟨e,oe,u,vs,dA,v,e1,he,hc,hd,hdc,hx,q⟩:=h;refine attr_of rfl (thn (kh (X:=mkX X ea) hi (.inl hl) (by decide) (by decide) pins s σ H (λv H2=>v=.ref e/\H2=H) I ⟨_,e1,rfl,rfl⟩) λov s1 ⟨v1,H1,I1,rx,q1,q2⟩=>?_);subst q1 q2;obtain rfl:ov=gT e:=rx;obtain⟨nm,qn,N,bs,sn,sub,ab,col,dd,k0,k1,k2,k3,k5,mN,hh⟩:=F.heap I1.kIn;obtain⟨he1,_⟩:=I1.hok e _ he;obtain⟨mA,hns,hf⟩:=I1.hok dA _ hx;have hf:=hf n;simp only[gv,beq_self_eq_true,if_true]at hf;obtain⟨hp,g,d,tk,os⟩:=s1
 cases hv:mA n with
 |none=>rw[hv]at hf;exact hf.elim
 |some uv =>
  rw[hv]at hf;have rv:jS v uv:=hf;refine ja6 PySem.F.attrBase_ValueError hh.hC hh.hn (hh.no _ (by simp)) (hh.no _ (by simp)) hh.tq (hh.tn _ (by simp[wu])) (hh.tn _ (by simp[wu])) (hh.tn _ (by simp)) F.bl (hh.no _ (by simp)) he1 hc hd hdc hns.ns hv ?_ ⟨v,H1,I1.tok _,rv,q⟩;intro id z;subst z
  cases v<;>first|exact nomatch rv|(obtain⟨_,z⟩:=rv;exact nomatch z)
def TellE(i:Nat)(D:Addr)(w:Str):Option Str->Ends->L2.St->Hp->Prop
 |none,E,_,H=>∀H',jf H H'->E.rt (.str w) H'
 |some n,E,σ,H=>∃e oe u vs dA v,σ[i]?=some (some (.ref e))/\H e=some (.frz oe u)/\oe.cls=.ref D/\oe.data=.fields vs/\oe.dict=some dA/\H dA=some (.xd [(n,v)])/\∀t H',jf H H'->H t=none->H' t=some (.tup [.str w,v])->E.rt (.ref t) H'
theorem U2(al:Alone X)(hi:X.N[i]?=some ("_law_e":Str))(hl:X.env.scope.names.lookup ("_law_e":Str)=some .local)(gi:Gl X "int")(ga:Gl X "_law_alone")(af:AloneF X.K X.mg y D){ss:List Stmt}{nf:Option Str}(hF:∀n,nf=some n->∃T f,InitF X.K X.mg D T f n)(h:KO w nf ss=true) :
 PSs (mkX X ea) ss (λE σ H=>K2 i D σ H/\TellE i D w nf E σ H)/\pq w=true:=by
 unfold KO at h;split at h
 ·next s =>
  replace h:=jb h;obtain⟨ov,h1,h⟩:=h;obtain⟨rp,rfl⟩:=uP h1;replace h:=jb h;obtain⟨v,rfl,h⟩:=h
  cases nf with
  |none =>
   obtain⟨p1,h0⟩:=Zm (ea:=ea) al hi hl gi ga af h
   exact⟨PSs.imp (λE σ H w=>w) (jB (xM p1) kl),h0⟩
  |some n =>
   obtain⟨T,f,F⟩:=hF n rfl;replace h:=jb h;obtain⟨xs,h2,h⟩:=h;obtain⟨j,tp,rfl⟩:=QH h2;simp only[bg,decide_eq_true_eq]at h;obtain⟨⟨h3,h4⟩,h5⟩:=h;obtain⟨v1,v2,rfl⟩:=qj h3;replace h5:=jb h5;obtain⟨⟨b,n',ap⟩,h6,h5⟩:=h5;have e6:=qU (show xA v2=_ from h6);subst e6;simp only[bg,decide_eq_true_eq]at h5;obtain⟨h7,rfl⟩:=h5;obtain⟨ep,rfl⟩:=jo h7;obtain⟨p1,h0⟩:=Zm (ea:=ea) al hi hl gi ga af (show zH w v1=true from h4)
   have st:∀ys env,bQ (v1::ys) env=(false,eval v1 env)::bQ ys env:=λys env=>by
    obtain⟨_,j1,p1,j2,p2,lp,qi,qf,qe,cp,up,ip,sp,rfl⟩:=ZW (show zH w v1=true from h4);rfl
   refine⟨PSs.imp (λE σ H w=>?_) (jB (xM (K7 (jw p1 (jw (pe_xfld (ea:=ea) F hi hl) jX rfl) (st _ _)))) kl),h0⟩;obtain⟨c,e,oe,u,vs,dA,v,z1,z2,z3,z4,z5,z6,q⟩:=w;refine⟨c,λH' s1=>⟨e,oe,u,vs,dA,v,z1,s1 _ _ z2,z3,z4,z5,s1 _ _ z6,by show 2<=sizeLine;decide,λp hp=>?_⟩⟩;exact q p _ (s1.trans (jE hp _)) (s1.free hp) (jm ..)
 ·cases h
end
section
variable {X:Cx} {pins:List (Addr×nv)} {σ:L2.St} {H:Hp} {s:Shared}
theorem ki{t:TS}(h:PS X.nox st t):PS X st t:=λpins s σ H D I hw =>
 gA (h pins s σ H D (I.wish _) hw) (λf s' z=>z.unwish) λ_ _ z=>z.elim
theorem pe_nox{t:TE}(h:PE X.nox e t):PE X e t:=λpins s σ H Q I hw =>
 gA (h pins s σ H Q (I.wish _) hw) (λu s' ⟨v,H',J,r,q⟩=>⟨v,H',J.unwish,r,q⟩) λ_ _ z=>z.elim
theorem pa_nox{es:List Expr}{t:TA}(h:PA X.nox es t):PA X es t:=λpos pins s σ H Q I hw =>
 gA (h pos pins s σ H Q (I.wish _) hw) (λus s' ⟨vs,H',J,r,q⟩=>⟨vs,H',J.unwish,r,q⟩) λ_ _ z=>z.elim
theorem US{Q:Unit->Shared->Prop}(I:Inv X pins σ H s)(w:Own X)(hl:X.env.scope.names.lookup n=some .local)
 (hq:∀s',Inv X pins (gc X.N.length none) H s'->Q () s'):wpAny M A (do bindName X.env n .none;wR X.env n pos) Q E s:=by
 obtain⟨m,hn,_⟩:=I.loc
 refine wpAny_nameGoes hl hn (by rw[I.ok.kind];rfl) λh' m' hn' sb=>hq _ ?_
 have old:∀ {b:Addr} {o:nv},X.s₀.heap.get? b=some o->b≠X.env.locals:=λ{b o} e z=>by
  have:=bN e;rw[z]at this;exact absurd this (jcy.mpr I.ok.above)
 have same:∀b,b≠X.env.locals->h'.get? b=s.heap.get? b:=λb hb=>sb.2 b hb
 refine⟨I.ok,I.os,I.bare,⟨λb o e n hb hx=>?_,λb o e n hb hx=>?_,I.base.free,λb o e hx=>?_,I.base.tups,I.base.frzs,I.base.tbls⟩,⟨m',hn',λi x v _ h2 _=>?_⟩,λx c e=>?_,I.free,I.freeC,λp hp=>?_,λb u e=>?_,by simp⟩
 ·exact(same b (old e)).trans (I.base.keep b o e n hb hx)
 ·obtain⟨sl,q⟩:=I.base.slot b o e n hb hx;exact⟨sl,(same b (old e)).trans q⟩
 ·obtain⟨o',q⟩:=I.base.there b o e hx;exact⟨o',(same b (old e)).trans q⟩
 ·rw[jcZ]at h2
  split at h2<;>cases h2
 ·obtain⟨v,o,q,d⟩:=I.cell x c e;exact⟨v,o,(same c (I.cne x c e)).trans q,d⟩
 ·obtain⟨g1,g2,g3,g4⟩:=I.pin p hp;exact⟨(same p.1 g3).trans g1,g2,g3,g4⟩
 ·refine(I.hok b u e).stay (λc v hc q=>(same c λz=>?_).trans q) (λ_ z=>z) λ_ _ z=>z
  have hf:=I.free;rcases hc with hc|hc
  ·rw[<- z,hc,e]at hf;cases hf
  ·rw[<- z,hc]at hf;cases hf
end
def Qs:Stmt->Option Expr
 |.Raise (some e) none _=>some e
 |_=>none
theorem jaB{s:Stmt}(h:Qs s=some e):∃p,s=.Raise (some e) none p:=by
 unfold Qs at h;split at h
 ·cases h;exact⟨_,rfl⟩
 ·cases h
def isStrC:Const->Bool
 |.str _=>true
 |_=>false
def VV(x:Str):Bool:=x == ("BadText":Str) ||x == ("Dependent":Str)
def jbJ(k:Ck)(f:Nat)(es:List Ex):List (Nat×List Ex)->Expr->Bool
 |[],v=>(j9 v).any λc=>decide (k.fns[f]?=some (c.1,c.2.1.length))&&k.gl c.1 && !c.2.1.isEmpty&&qg k es c.2.1
 |gr::rest,v=>(j9 v).any λc=>decide (k.fns[gr.1]?=some (c.1,c.2.1.length))&&k.gl c.1 && !c.2.1.isEmpty&&jbJ k f es rest (c.2.1.getD 0 v)&&qg k gr.2 (c.2.1.drop 1)
mutual
noncomputable def chkX(k:Ck):Sm->Stmt->Bool
 |.ite c a b,s=>(Zu s).any λz=>chkE k c z.1&&ur k a z.2.1&&ur k b z.2.2
 |.raiseA x e,s=>k.rs&&decide (x∈k.cls)&&k.gl x&&VV x&&(Qs s).any λy=>(j9 y).any λc=>decide (c.1=x)&&decide (c.2.1.length=2)&&(kB (c.2.1.getD 0 y)).any isStrC&&chkE k e (c.2.1.getD 1 y)
 |.nop,_=>false
 |.seq _ _,_=>false
 |.shr _,_=>false
 |.set i e,s=>q9 k (.set i e) s
 |.unp i e,s=>q9 k (.unp i e) s
 |.ret e,s=>q9 k (.ret e) s
 |.whl c b,s=>q9 k (.whl c b) s
 |.forR i e b,s=>q9 k (.forR i e b) s
 |.forE i e b,s=>q9 k (.forE i e b) s
 |.brk,s=>q9 k .brk s
 |.cnt,s=>q9 k .cnt s
 |.never,s=>q9 k .never s
 |.new i,s=>q9 k (.new i) s
 |.app i e,s=>q9 k (.app i e) s
 |.ext i e,s=>q9 k (.ext i e) s
 |.sto i e v,s=>q9 k (.sto i e v) s
 |.forN i e b,s=>q9 k (.forN i e b) s
 |.forU i j m e,s=>q9 k (.forU i j m e) s
 |.retF e,s=>q9 k (.retF e) s
 |.retG e,s=>q9 k (.retG e) s
 |.setG i f e,s=>q9 k (.setG i f e) s
 |.retY f es,s=>(Jh s).any λv=>v.any λv=>jbJ k f es [] v
 |.ownG i e,s=>q9 k (.ownG i e) s
 |.cpO j i es c e,s=>q9 k (.cpO j i es c e) s
 |.forT j i e,s=>q9 k (.forT j i e) s
 |.shrT _,_=>false
 |.hlfT _,_=>false
noncomputable def ur(k:Ck):Sm->List Stmt->Bool
 |.nop,ss=>ss.isEmpty
 |.seq a b,ss=>if z7 a then ur k b ss else !ss.isEmpty&&chkX k a (ss.getD 0 (.Pass ⟨0,0,0,0⟩))&&ur k b (ss.drop 1)
 |_,_=>false
end
structure ClsOk (K:Frag) (mg:Str->Option bq) (x:Str) (Ca:Addr) (al:Bool):Prop where
 cl:Zp K Ca
 pl:VV x=false->excIn K Ca bmV UZ=true
 ow:VV x=true->∃T f,InitF K mg Ca T f (yC x)/\∀(P:dW) (w:World) (base:gQ),∃fd p,FnOk P w K mg base (CXz P w mg) 1 f fd ["self","text",p] (spI K Ca (yC x) (x == ("Dependent":Str)))/\zm K fd ["self","text",p] []
 al:al=true->AloneF K mg x Ca
structure OkX (X:Cx) (k:Ck) (C:Cfg) (O₀:List Addr) (H₀:Hp) (ex:XD->Prop):Prop where
 ok:OkS X.nox k C
 own:Own X
 o0:∀a∈O₀,H₀ a≠none
 thr:∀y Ca,ex y->X.mg y.t=some (.ref Ca)->∀pins σ H s H1 da e s',Inv X pins σ H s->jf H₀ H1->Fld X.K O₀ y H1 da->zD X.prog X.w Ca X.stack H s H1 da e s'->X.xe e s'
 raz:k.rs=true->∀x Ca,ex ⟨0,x,[]⟩->X.mg x=some (.ref Ca)->∀pins σ H s h1 e args,Inv X pins σ H s->jf H₀ H->pU s.heap h1 e (.ref Ca) args->X.xe (.ref e) { s with heap:=h1 }
 rax:k.rs=true->Room 2 X.A/\∀y Ca,ex y->X.mg y.t=some (.ref Ca)->∀pins σ H s e da,Inv X pins σ H s->H e=some (xo e Ca da)->H₀ e=none->X.s₀.heap.get? e=none->jf H₀ (del H e)->Fld X.K O₀ y (del H e) da->X.xe (.ref e) s
 exc:∀x∈k.cls,∃Ca,X.mg x=some (.ref Ca)/\ClsOk X.K X.mg x Ca k.al
 al:k.al=true->Alone X
section
variable {k:Ck} {C:Cfg} {O₀:List Addr} {H₀:Hp}
def XE0(K:Frag)(O₀:List Addr)(H₀:Hp)(ex:XD->Prop):XK:=λv da H=>∃y:XD,v=.str y.t 0/\ex y/\jf H₀ H/\Fld K O₀ y H da
mutual
theorem sY{X:Cx}{k:Ck}{ex:XD->Prop}(ok:OkX X k C O₀ H₀ ex)(f:Nat)(es:List Ex)(v:Expr)(h:jbJ k f es [] v=true):PE X v λτ H Q=>∃σ O,jf H₀ H/\(∀a∈O₀,a∈O)/\Reps X.K O H σ τ/\wpEs C es σ λds=>C.fr f=true/\(C.ct f).wp ds (λd=>WdF X.K O H Q d) ex:=by
 rw[jbJ]at h;replace h:=jb h;obtain⟨⟨fx,xs,cp⟩,hc,h⟩:=h;obtain⟨q,rfl⟩:=jL hc;simp only[bg,decide_eq_true_eq]at h;obtain⟨⟨⟨k1,k2⟩,hne⟩,k4⟩:=h;obtain⟨y,ys,rfl⟩:=xk hne;obtain⟨g1,g2,g3⟩:=ok.ok.toOk.gl k2;obtain⟨fa,fd,ps,lv,F,hr,hm,hk,hb⟩:=ok.ok.toOk.fns f fx _ k1
 have hs:bQ (y::ys) X.env=(false,eval y X.env)::bQ ys X.env/\(backTo cp (bQ ys X.env)).any (·.1)=false:=by
  cases es with
  |nil=>have:=jZ k4;cases this
  |cons z zs =>
   obtain⟨y',ys',e',h5,h6⟩:=jM k4;cases e';exact⟨jv h5 _ _,kr h6 _ _⟩
 have pass:Qp (CXz X.prog X.w X.mg) X (XE0 X.K O₀ H₀ ex):=λpins σ H s e s' I ⟨x,Ca,H1,da,⟨y,e1,hx,sm,fd⟩,hm,T⟩=>by
  cases e1;exact ok.thr y Ca hx hm pins σ H s H1 da e s' I sm fd T
 refine PE.imp (λτ H Q w=>?_) (y8 (CX:=CXz X.prog X.w X.mg) (E:=XE0 X.K O₀ H₀ ex) (dvs:=[]) F hr g1 hm hk hb .nil pass (pa_nox (sA ok.ok.toOk es _ k4)) g2 hs.1 hs.2);obtain⟨σ,O,sm,so,R,w⟩:=w;refine⟨σ,O,R,jr es (λds ⟨hl,wd⟩ vs H1 s1 i1=>?_) (xy es w)⟩;show spD X.K (y::ys).length (C.fr f) (C.f2 f) (C.ct f) (vs ++ []) H1 _ _;rw[dM];refine⟨O,ds,by rw[hl,zq k4],(R.mono s1).own,i1,wd.2.1,λd r=>?_,λz hz H2 da s2 fd=>⟨z,rfl,wd.2.2.2 z hz,(sm.trans s1).trans s2,fd.less so⟩⟩;unfold Rw;rw[if_pos wd.1];exact(wd.2.2.1 d r).mono s1
theorem sX:∀ {X:Cx} {k:Ck} {ex:XD->Prop} (ok:OkX X k C O₀ H₀ ex) (s:Sm) (st:Stmt),chkX k s st=true->PS X st (tS X.K C O₀ H₀ ex s)
 |X,k,ex,ok,.ite c a b,st,h=>by
  replace h:=jb h;obtain⟨⟨t,x,y⟩,hz,h⟩:=h;obtain⟨pos,rfl⟩:=Y7 hz;simp only[bg]at h;refine PS.imp (λD τ H w=>?_) (Q4 (sB ok.ok.toOk c t h.1.1).2.nox (sXB ok a x h.1.2) (sXB ok b y h.2));obtain⟨σ,O,g,R,w⟩:=w;refine⟨σ,O,R.toReps,ja c (λd=>jW λt wt H1 s1=>?_) w⟩
  cases t with
  |true=>exact⟨σ,O,g.mono s1,R.mono s1,js a (kU (jd s1)) wt⟩
  |false=>exact⟨σ,O,g.mono s1,R.mono s1,js b (kU (jd s1)) wt⟩
 |X,k,ex,ok,.raiseA x e,st,h=>by
  replace h:(_&&_)=true:=h;simp only[bg,decide_eq_true_eq]at h;obtain⟨⟨⟨⟨hrs,hcl⟩,hgl⟩,hpl⟩,h⟩:=h;replace h:=jb h;obtain⟨y,he,h⟩:=h;obtain⟨pos,rfl⟩:=jaB he;replace h:=jb h;obtain⟨⟨x',xs,cp⟩,hc,h⟩:=h;obtain⟨np,rfl⟩:=jL hc;simp only[bg,decide_eq_true_eq]at h;obtain⟨⟨⟨h1,h2⟩,h3⟩,h4⟩:=h;subst h1;obtain⟨z,z2,rfl⟩:=qj h2;replace h3:=jb h3;obtain⟨cc,hcc,h3⟩:=h3;obtain⟨j,zp,rfl⟩:=qJ (show kB z=_ from hcc)
  obtain⟨tx,rfl⟩:∃tx,cc=.str tx:=by
   cases cc with
   |str tx=>exact⟨tx,rfl⟩
   |_=>cases h3
  obtain⟨Ca,hm,co⟩:=ok.exc x' hcl;obtain⟨T,f,F,fn⟩:=co.ow hpl;obtain⟨g1,g2,g3⟩:=ok.ok.toOk.gl hgl;obtain⟨rm,rax⟩:=ok.rax hrs;have h4:chkE k e z2=true:=h4;have pa:PA X [.Constant (.str tx) j zp,z2] _:=jw Jr (jw (pe_nox (sB ok.ok.toOk e z2 h4).1) jX (jv h4 _ _));have px:=pe_exc (np:=np) (cp:=cp) ok.own ⟨F,fn X.prog X.w X.base,rm⟩ g1 hm pa g2 rfl (by rw[jv h4];rfl);intro pins s τ H D I w;obtain⟨σ,O,g,R,w⟩:=w;have hh:X.A.handled=none:=I.ok.hd ok.ok.calm;refine raise_x (te:=_) I hh F px ?_;refine⟨σ,O,R.toReps,ja e (λd wd v H1 s1 i1=>⟨rfl,λea h0 h0'=>?_⟩) w⟩;have sm:jf H₀ H1:=g.same.trans s1;have fr0:H₀ ea=none:=sm.free h0
  have ne:∀ {b:Addr} {u:HO},H1 b=some u->b≠ea:=λ{b u} q z=>by rw[z,h0]at q;cases q
  refine⟨ea,.str tx,v,rfl,jm ..,?_⟩;obtain⟨fo,xn⟩:=wd;have xn:ex ⟨0,x',[d]⟩:=xn;split
  ·next hd =>
   obtain⟨xs,rfl⟩:=fo (by simpa using hd);obtain⟨a,vs,rfl,sq,iv⟩:=jK i1;refine⟨a,vs,rfl,?_,λq dA hq hdA nq=>⟨rfl,ea,some dA,rfl,jm ..,λs2 I2=>?_⟩⟩
   ·rcases(jg _ _).seq sq with(z|⟨o,z⟩)|z
    ·exact .inl (.inl (by rw[jh (ne z)];exact z))
    ·exact .inl (.inr ⟨o,by rw[jh (ne z)];exact z⟩)
    ·exact .inr z
   ·have nq':q≠ea:=λz=>by rw[z,jm]at hq;cases hq
    have nd':dA≠ea:=λz=>by rw[z,jm]at hdA;cases hdA
    have hq0:H1 q=none:=by rw[jh nq']at hq;exact hq
    have hd0:H1 dA=none:=by rw[jh nd']at hdA;exact hdA
    have sd:jf H1 (del (upd (upd (upd (upd H1 ea (xo ea Ca none)) q (.lst vs)) dA (.xd [(yC x',.ref q)])) ea (xo ea Ca (some dA))) ea):=λb o z=>by
     have n1:=ne z
     have n2:b≠q:=λy=>by rw[y,hq0]at z;cases z
     have n3:b≠dA:=λy=>by rw[y,hd0]at z;cases z
     rw[k9 n1,jh n1,jh n3,jh n2,jh n1];exact z
    have at1:del (upd (upd (upd (upd H1 ea (xo ea Ca none)) q (.lst vs)) dA (.xd [(yC x',.ref q)])) ea (xo ea Ca (some dA))) ea dA=some (.xd [(yC x',.ref q)]):=by rw[k9 nd',jh nd',jm]
    have at2:del (upd (upd (upd (upd H1 ea (xo ea Ca none)) q (.lst vs)) dA (.xd [(yC x',.ref q)])) ea (xo ea Ca (some dA))) ea q=some (.lst vs):=by rw[k9 nq',jh nq',jh nq,jm]
    refine rax ⟨0,x',[.lst xs]⟩ Ca xn hm pins τ _ s2 ea (some dA) I2 (jm ..) fr0 h0' (sm.trans sd) λd hd=>?_
    rw[gD.mp hd]
    have nO:q ∉ O₀:=λz=>(R.mono s1).own q (g.sub q z) hq0
    refine⟨dA,.ref q,rfl,at1,qE (SqL.of ?_) (Iss.mono ((jC g.sub).trans (jd sd)) xs iv)⟩;rw[j8 nO];exact at2
  ·next hd =>
   intro dA hdA
   have nd':dA≠ea:=λz=>by rw[z,jm]at hdA;cases hdA
   have hd0:H1 dA=none:=by rw[jh nd']at hdA;exact hdA
   have sd:jf H1 (del (upd (upd (upd H1 ea (xo ea Ca none)) dA (.xd [(yC x',v)])) ea (xo ea Ca (some dA))) ea):=λb o z=>by
    have n1:=ne z
    have n3:b≠dA:=λy=>by rw[y,hd0]at z;cases z
    rw[k9 n1,jh n1,jh n3,jh n1];exact z
   have at1:del (upd (upd (upd H1 ea (xo ea Ca none)) dA (.xd [(yC x',v)])) ea (xo ea Ca (some dA))) ea dA=some (.xd [(yC x',v)]):=by rw[k9 nd',jh nd',jm]
   refine⟨rfl,ea,some dA,rfl,jm ..,λs2 I2=>?_⟩
   refine rax ⟨0,x',[d]⟩ Ca xn hm pins τ _ s2 ea (some dA) I2 (jm ..) fr0 h0' (sm.trans sd) λd' hd=>?_
   rw[gD.mp hd]
   exact⟨dA,v,rfl,at1,Is.mono ((jC g.sub).trans (jd sd)) d i1⟩
 |X,k,ex,ok,.nop,st,h=>zff h
 |X,k,ex,ok,.seq a b,st,h=>zff h
 |X,k,ex,ok,.shr i,st,h=>zff h
 |X,k,ex,ok,.set i e,st,h=>by exact ki (sS ok.ok _ st h)
 |X,k,ex,ok,.unp i e,st,h=>by exact ki (sS ok.ok _ st h)
 |X,k,ex,ok,.ret e,st,h=>by exact ki (sS ok.ok _ st h)
 |X,k,ex,ok,.whl c b,st,h=>by exact ki (sS ok.ok _ st h)
 |X,k,ex,ok,.forR i e b,st,h=>by exact ki (sS ok.ok _ st h)
 |X,k,ex,ok,.forE i e b,st,h=>by exact ki (sS ok.ok _ st h)
 |X,k,ex,ok,.brk,st,h=>by exact ki (sS ok.ok _ st h)
 |X,k,ex,ok,.cnt,st,h=>by exact ki (sS ok.ok _ st h)
 |X,k,ex,ok,.never,st,h=>by exact ki (sS ok.ok _ st h)
 |X,k,ex,ok,.new i,st,h=>by exact ki (sS ok.ok _ st h)
 |X,k,ex,ok,.app i e,st,h=>by exact ki (sS ok.ok _ st h)
 |X,k,ex,ok,.ext i e,st,h=>by exact ki (sS ok.ok _ st h)
 |X,k,ex,ok,.sto i e v,st,h=>by exact ki (sS ok.ok _ st h)
 |X,k,ex,ok,.forN i e b,st,h=>by exact ki (sS ok.ok _ st h)
 |X,k,ex,ok,.forU i j m e,st,h=>by exact ki (sS ok.ok _ st h)
 |X,k,ex,ok,.retF e,st,h=>by exact ki (sS ok.ok _ st h)
 |X,k,ex,ok,.retG e,st,h=>by exact ki (sS ok.ok _ st h)
 |X,k,ex,ok,.setG i f e,st,h=>by exact ki (sS ok.ok _ st h)
 |X,k,ex,ok,.retY f es,st,h=>by
  replace h:=jb h;obtain⟨ov,ho,h⟩:=h;replace h:=jb h;obtain⟨v,hv,h⟩:=h;subst hv;obtain⟨pos,rfl⟩:=uP ho;refine PS.imp (λD τ H w=>?_) (xM (sY ok f es v h));obtain⟨σ,O,g,R,w⟩:=w;refine⟨σ,O,g.same,g.sub,R.toReps,jr es (λds wd=>⟨wd.1,wd.2.1,λd r xs a H1 us e s1 h0 hl is=>?_,wd.2.2.2⟩) w⟩;obtain⟨ys,e',nx⟩:=jbQ (wd.2.2.1 d r);rw[e]at e';cases e';have h0':H₀ a=none:=g.same.free h0
  exact nx a H1 us (g.same.trans s1) h0' hl (Iss.mono (jC λb hb=>by rcases bD.mp hb with z|z;exact bD.mpr (.inl z);exact bo _ (g.sub b z)) xs is)
 |X,k,ex,ok,.ownG i e,st,h=>by exact ki (sS ok.ok _ st h)
 |X,k,ex,ok,.cpO j i es c e,st,h=>by exact ki (sS ok.ok _ st h)
 |X,k,ex,ok,.forT j i e,st,h=>by exact ki (sS ok.ok _ st h)
 |X,k,ex,ok,.shrT i,st,h=>zff h
 |X,k,ex,ok,.hlfT i,st,h=>zff h
theorem sXB:∀ {X:Cx} {k:Ck} {ex:XD->Prop} (ok:OkX X k C O₀ H₀ ex) (s:Sm) (st:List Stmt),ur k s st=true->PSs X st (tS X.K C O₀ H₀ ex s)
 |X,k,ex,ok,.nop,st,h=>by
  have e:st=[]:=by rw[ur]at h;simpa using h
  subst e;refine PSs.imp (λD τ H w=>?_) kl;obtain⟨σ,O,g,R,w⟩:=w
  exact w τ H O g (jf.refl _) R
 |X,k,ex,ok,.seq a b,st,h=>by
  by_cases hs:z7 a=true
  ·rw[ur,if_pos hs]at h;exact PSs.imp (λD τ H w=>VX hs w) (sXB ok b st h)
  rw[ur,if_neg hs]at h
  cases st with
  |nil=>simp at h
  |cons s r =>
   simp only[bg,dZ,gC]at h;refine PSs.imp (λD τ H w=>?_) (jB (sX ok a s h.1.2) (sXB ok b r h.2));obtain⟨σ,O,g,R,w⟩:=w;refine⟨σ,O,g,R,js a ?_ w⟩
   exact⟨λσ' q τ' H' O' g' s' r'=>⟨σ',O',g',r',js b (kU s') q⟩,λ_ q=>q,λ_ q=>q,λ_ q=>q,λ_ q=>q,λ_ q=>q,λ_ q=>q⟩
 |X,k,ex,ok,.set _ _,_,h=>zff h
 |X,k,ex,ok,.unp _ _,_,h=>zff h
 |X,k,ex,ok,.ret _,_,h=>zff h
 |X,k,ex,ok,.ite _ _ _,_,h=>zff h
 |X,k,ex,ok,.whl _ _,_,h=>zff h
 |X,k,ex,ok,.forR _ _ _,_,h=>zff h
 |X,k,ex,ok,.forE _ _ _,_,h=>zff h
 |X,k,ex,ok,.brk,_,h=>zff h
 |X,k,ex,ok,.cnt,_,h=>zff h
 |X,k,ex,ok,.never,_,h=>zff h
 |X,k,ex,ok,.new _,_,h=>zff h
 |X,k,ex,ok,.app _ _,_,h=>zff h
 |X,k,ex,ok,.ext _ _,_,h=>zff h
 |X,k,ex,ok,.sto _ _ _,_,h=>zff h
 |X,k,ex,ok,.shr _,_,h=>zff h
 |X,k,ex,ok,.forN _ _ _,_,h=>zff h
 |X,k,ex,ok,.forU _ _ _ _,_,h=>zff h
 |X,k,ex,ok,.retF _,_,h=>zff h
 |X,k,ex,ok,.retG _,_,h=>zff h
 |X,k,ex,ok,.setG _ _ _,_,h=>zff h
 |X,k,ex,ok,.retY _ _,_,h=>zff h
 |X,k,ex,ok,.ownG _ _,_,h=>zff h
 |X,k,ex,ok,.cpO _ _ _ _ _,_,h=>zff h
 |X,k,ex,ok,.forT _ _ _,_,h=>zff h
 |X,k,ex,ok,.shrT _,_,h=>zff h
 |X,k,ex,ok,.hlfT _,_,h=>zff h
 |X,k,ex,ok,.raiseA _ _,_,h=>zff h
end
end
end Z
namespace Z
open PySem PySem.Spec PyProof.Rows L2
structure FnI where
 x:Str
 st:Stmt
 N:List Str
 ps:List Str
 b:Sm
 c:Ctr
 fr:Bool:=false
 rz:Bool:=false
 cls:List Str:=[]
 al:Bool:=true
 g:Bool:=false
def FnI.Keep(i:FnI)(C:Cfg):Prop:=if i.rz=true then if i.fr=true then Yh C i.N.length i.b i.c else i.fr=false/\(if i.g=true then KeepsQ C i.N.length i.b i.c else KeepsX C i.N.length i.b i.c) else if i.fr=true then KeepsF C i.N.length i.b i.c else if i.g=true then V1 C i.N.length i.b i.c else jQ C i.N.length i.b i.c
def FnI.ck(i:FnI)(L:List FnI)(cns:List Str):Ck:={ N:=i.N,names:=(ji i.st).names,fns:=L.map λj=>(j.x,j.ps.length),cns:=cns,cls:=i.cls,rz:=i.rz,rs:=i.rz,al:=i.al }
def xI(i:FnI):Bool :=
 decide ((ji i.st).kind=.function) && !(ji i.st).isCoroutine && !(ji i.st).isGenerator&&decide i.N.Nodup&&decide (i.N.take i.ps.length=i.ps) &&
  i.ps.all (λx=>decide ((ji i.st).names.lookup x=some .local) ||decide ((ji i.st).names.lookup x=some .cell))&&(ji i.st).names.all λy=>decide (y.2 ≠ .free)
variable{i:FnI}
theorem zY(h:xI i=true):FnScope i.N i.ps (ji i.st):=by
 unfold xI at h;simp only[bg,decide_eq_true_eq,b8,m9,tG]at h;obtain⟨⟨⟨⟨⟨⟨h1,h2⟩,h3⟩,h4⟩,h5⟩,h6⟩,h7⟩:=h;exact⟨h1,h2,h3,h4,h5,h6,h7⟩
def ZP(i:FnI)(L:List FnI)(cns:List Str):Bool:=xI i&&if i.rz=true then ur (i.ck L cns) i.b (jU i.st) else yz (i.ck L cns) i.b (jU i.st)
def QA(L:List FnI)(cns:List Str):Bool:=(bw L.length).all λn=>match L[n]? with
 |some i=>ZP i (L.take n) cns
 |none=>true
variable{L:List FnI}{n:Nat}
theorem chk_at{cns:List Str}(h:QA L cns=true)(e:L[n]?=some i):ZP i (L.take n) cns=true:=by
 unfold QA at h;rw[m9]at h
 have hn:n<L.length:=by
  rcases bU n L.length with z|z
  ·exact z
  ·rw[bG z]at e;cases e
 have:=h n (dw.mpr hn);rw[e]at this;exact this
structure FnAt (K:bp) (mg:Str->Option bq) (i:FnI) (f:Addr) (fd:pF):Prop where
 fn:Fun K i.x i.x i.st f fd
 mg:mg i.x=some (.ref f)
 bd:∀us:List bq,us.length=i.ps.length->bindArgs fd ⟨us,[]⟩=pure (i.ps.zip us)
def zu(K:bp)(mg:Str->Option bq)(i:FnI):Prop:=∃f fd,FnAt K mg i f fd
section
variable {α:Type} {P:List α->Prop}
theorem len0(k:P []):∀us,us.length=0->P us
 |[],_=>k
theorem len1(k:∀a,P [a]):∀us,us.length=1->P us
 |[a],_=>k a
theorem len2(k:∀a b,P [a,b]):∀us,us.length=2->P us
 |[a,b],_=>k a b
theorem len3(k:∀a b c,P [a,b,c]):∀us,us.length=3->P us
 |[a,b,c],_=>k a b c
theorem len4(k:∀a b c d,P [a,b,c,d]):∀us,us.length=4->P us
 |[a,b,c,d],_=>k a b c d
theorem len5(k:∀a b c d e,P [a,b,c,d,e]):∀us,us.length=5->P us
 |[a,b,c,d,e],_=>k a b c d e
end
variable{K:bp}{h:gQ}{mg:Str->Option bq}{f:Addr}{od an:Option Addr}{sl:Array (Option bq)}{oc pm:bq}
theorem fact_mk{kV dc cd ct:bq}(X:K.In h)(G:h.Ns gn mg)
 (b:∀(kV doc pm:bq) (an:Option Addr) (cdv ct:bq) (us:List bq),us.length=i.ps.length->bindArgs (nQ i.x i.x (qZ i.st) (jU i.st) (ji i.st) .none kV doc pm an cdv ct) ⟨us,[]⟩=pure (i.ps.zip us))
 (a:gh K gn i.x=some (some (.ref f))) (l:K.lookup f=some ⟨oc,od,.func (nQ i.x i.x (qZ i.st) (jU i.st) (ji i.st) .none kV dc pm an cd ct),sl⟩) (c:tP K cd i.x=true) (k:mP K (.ref f)=true):zu K mg i :=
 ⟨f,_,fun_mk l c k,pL X G a,λus h=>b kV dc pm an cd ct us h⟩
variable{fd:pF}
theorem FnAt.one{f':Addr}{fd':pF}(a:FnAt K mg i f fd)(b:FnAt K mg i f' fd'):f=f'/\fd=fd':=by
 have e:=a.mg.symm.trans b.mg;cases e;obtain⟨oc,od,kV,doc,pm,an,cdv,ct,osl,e1,e2,_⟩:=a.fn.ex;obtain⟨oc',od',kV',doc',pm',an',cdv',ct',osl',e1',e2',_⟩:=b.fn.ex;rw[e2]at e2';injection e2' with e3;injection e3 with _ _ e4 _;injection e4 with e5;exact⟨rfl,e5⟩
variable{H:Hp}{N:List Str}{x:Str}
section
variable {P:dW} {w:World} {K:bp} {mg:Str->Option bq} {base:gQ} {C:Cfg} {cns:List Str}
theorem u7:∀(ds:List D) (j m:Nat) (rs:List (List D)),getS (startS m ds) j≠some (.ot rs):=by
 intro ds j m rs;unfold startS;generalize m-ds.length=r
 induction ds generalizing j with
 |nil =>
  have:∀(m j:Nat),getS (gc m none) j=none:=by
   intro m
   induction m with
   |zero=>intro j;rfl
   |succ m ih=>intro j;cases j with|zero=>rfl|succ j=>exact ih j
  simp only[dR,dG]
  rw[this];exact λz=>nomatch z
 |cons e es ih =>
  cases j with
  |zero=>simp only[bz,bS,getS];exact λz=>nomatch z
  |succ j=>simp only[bz,bS,getS];exact ih j
theorem vW{O:List Addr}{ds:List D}{vs:List V}(hn:N.length=n)(ho:∀a∈O,H a≠none)(i:Iss K (je H O) ds vs):Reps K O H (startS n ds) (L2.start N vs) where
 len:=by
  unfold startS L2.start;rw[df,df,bj,bj,t8,t8,i.length,hn]
 own:=ho
 sh:=λj d g=>by
  have aux:∀(ds:List D) (vs:List V) (j:Nat) (d:D) (m m':Nat),Iss K (je H O) ds vs->getS (ds.map (λd=>some (Sl.sh d))++gc m none) j=some (.sh d)->∃v,(vs.map some++gc m' none)[j]?=some (some v)/\Is K (je H O) d v:=by
   intro ds
   induction ds with
   |nil =>
    intro vs j d m m' i g
    have:∀(m j:Nat),getS (gc m none) j=none:=by
     intro m
     induction m with
     |zero=>intro j;rfl
     |succ m ih=>intro j;cases j with|zero=>rfl|succ j=>exact ih j
    simp only[dR,dG]at g
    rw[this]at g;cases g
   |cons e es ih =>
    intro vs j d m m' i g;unfold Iss at i;obtain⟨v,r,rfl,i1,i2⟩:=i
    cases j with
    |zero =>
     simp only[bz,bS,getS]at g;cases g
     exact⟨v,rfl,i1⟩
    |succ j =>
     simp only[bz,bS,getS]at g;obtain⟨u,e1,e2⟩:=ih r j d m m' i2 g;exact⟨u,by simpa using e1,e2⟩
  exact aux ds vs j d _ _ i g
 ow:=λj es g=>by
  exfalso
  have aux:∀(ds:List D) (j:Nat) (m:Nat),getS (ds.map (λd=>some (Sl.sh d))++gc m none) j≠some (.ow es):=by
   intro ds
   induction ds with
   |nil =>
    intro j m
    have:∀(m j:Nat),getS (gc m none) j=none:=by
     intro m
     induction m with
     |zero=>intro j;rfl
     |succ m ih=>intro j;cases j with|zero=>rfl|succ j=>exact ih j
    simp only[dR,dG]
    rw[this];exact λz=>nomatch z
   |cons e es ih =>
    intro j m
    cases j with
    |zero=>simp only[bz,bS,getS];exact λz=>nomatch z
    |succ j=>simp only[bz,bS,getS];exact ih j m
  exact aux ds j _ g
 dj:=λj l es fs hjl g1 g2=>by
  exfalso
  have aux:∀(ds:List D) (j:Nat) (m:Nat),getS (ds.map (λd=>some (Sl.sh d))++gc m none) j≠some (.ow es):=by
   intro ds
   induction ds with
   |nil =>
    intro j m
    have:∀(m j:Nat),getS (gc m none) j=none:=by
     intro m
     induction m with
     |zero=>intro j;rfl
     |succ m ih=>intro j;cases j with|zero=>rfl|succ j=>exact ih j
    simp only[dR,dG]
    rw[this];exact λz=>nomatch z
   |cons e es ih =>
    intro j m
    cases j with
    |zero=>simp only[bz,bS,getS];exact λz=>nomatch z
    |succ j=>simp only[bz,bS,getS];exact ih j m
  exact aux ds j _ g1
 tt:=⟨λj rows g=>absurd g (u7 ds j _ rows),λj l rs qs g1 _=>absurd g1 (u7 ds j _ rs)⟩
theorem jbk:∀(ds:List D) (j m:Nat) (es:List D),getS (startS m ds) j≠some (.ow es):=by
 intro ds j m es;unfold startS;generalize m-ds.length=r
 induction ds generalizing j with
 |nil =>
  have:∀(m j:Nat),getS (gc m none) j=none:=by
   intro m
   induction m with
   |zero=>intro j;rfl
   |succ m ih=>intro j;cases j with|zero=>rfl|succ j=>exact ih j
  simp only[dR,dG]
  rw[this];exact λz=>nomatch z
 |cons e es ih =>
  cases j with
  |zero=>simp only[bz,bS,getS];exact λz=>nomatch z
  |succ j=>simp only[bz,bS,getS];exact ih j
theorem Z5{CX:CXT}{qual:Str}{st:Stmt}{ps:List Str}{k:Nat}{sp:Sp}(F:Fun K x qual st f fd)(S:FnScope N ps (ji st))(len:∀vs H Q E,sp vs H Q E->vs.length=ps.length)
 (hb:∀(cdv:bq) (A:mq) (outer:List Env) (s:Shared) (H:Hp) (vs:List V) (Q:VK) (E:XK),Room k (A.deeper (envOfC qual (ji st) s.heap.objs.size f cdv))->sp vs H Q E ->
  ∃t,PSs (uV CX P w K mg base N qual (ji st) f cdv A outer s H E) (jU st) t/\t { nx:=λ_ H'=>Q .non H',rt:=Q } (L2.start N vs) H):FnOk P w K mg base CX (k+1) f fd ps sp:=by
 obtain⟨oc,od,kV,doc,pm,an,cdv,ct,osl,rfl,lk,hcd⟩:=F.ex
 exact VL lk hcd S len λA outer s H vs Q E hr hsp=>hb cdv A outer s H vs Q E hr hsp
def KY(i:FnI):Bool:=xI i&&decide (i.x=("_law_alone":Str))&&decide (i.ps=[("_law_e":Str)])&&decide (i.N=[("_law_e":Str),("_law_flags":Str)])&&decide ((ji i.st).names.lookup ("_law_e":Str)=some .local)&&decide ((ji i.st).names.lookup ("_law_flags":Str)=some .local) &&
 ((("isinstance":Str)::("TrueError":Str)::("ValueError":Str)::names12).all λc=>decide ((ji i.st).names.lookup c=some .globalImplicit))&&vo (jU i.st)
structure ExcOk (K:bp) (mg:Str->Option bq) (cls:List Str) (b:Bool):Prop where
 al:b=true->∃i,zu K mg i/\KY i=true
 exc:∀x∈cls,∃Ca,mg x=some (.ref Ca)/\ClsOk K mg x Ca b
theorem ExcOk.fn{cls:List Str}{b:Bool}(e:ExcOk K mg cls b)(hb:b=true):∃f fd,FnOk P w K mg base (CXz P w mg) 1 f fd ["_law_e"] (spA K mg)/\mg "_law_alone"=some (.ref f)/\mP K (.ref f)=true/\zm K fd ["_law_e"] []:=by
 obtain⟨i,⟨f,fd,A⟩,h⟩:=e.al hb;unfold KY at h;simp only[bg,decide_eq_true_eq,m9]at h;obtain⟨⟨⟨⟨⟨⟨⟨h1,h2⟩,h3⟩,h4⟩,h5⟩,h6⟩,h7⟩,h8⟩:=h;have S:=zY h1;have b:=A.bd;have m:=A.mg;rw[h3]at b;rw[h2]at m;rw[h3,h4]at S;exact⟨f,fd,jar A.fn S h5 h6 h7 h8,m,A.fn.kp,.all b⟩
theorem jaT{lv:Nat}(h2:2<=lv)(F:FnAt K mg i f fd)(hc:ZP i L cns=true)(hk:i.Keep C)
 (fns:∀n j,L[n]?=some j->∃f fd,FnOk P w K mg base (CXz P w mg) lv f fd j.ps (spD K j.ps.length (C.fr n) (C.f2 n) (C.ct n))/\FnAt K mg j f fd)
 (hcn:∀n x,cns[n]?=some x->∃u v,mg x=some u/\jS v u/\∀S,Is K S (C.cn n) v) (hb:∀x∈blts,mg x=none) (hE:∀x,¬ C.E x) (hz:i.rz=true->ExcOk K mg i.cls i.al) :
 FnOk P w K mg base (CXz P w mg) (lv+1) f fd i.ps (spD K i.ps.length i.fr i.g i.c):=by
 unfold ZP at hc;rw[bg]at hc;have S:=zY hc.1;refine Z5 F.fn S (λvs H Q E h=>?_) (λcdv A outer s H vs Q E hr h=>?_)
 ·obtain⟨O,ds,hl,_,is,_⟩:=h;rw[is.length,hl]
 obtain⟨O,ds,hl,ho,is,hp,hq,hx⟩:=h
 have hun:(A.deeper (envOfC i.x (ji i.st) s.heap.objs.size f cdv)).units+100<cLine:=by have:=hr.un;lia
 have hdp:=hr.dp
 have hcalm:A.handled.isNone=true:=by
  have e:A.handled=none:=hr.hd h2;rw[e];rfl
 have ok:OkS (uV (CXz P w mg) P w K mg base i.N i.x (ji i.st) f cdv A outer s H E).nox (i.ck L cns) C:=by
  refine⟨⟨rfl,S.nd,rfl,S.kind,hcalm,rfl,hun,?_,hcn,hb,hE⟩,λ_=>rfl⟩;intro n x m e;have e':(L.map λj=>(j.x,j.ps.length))[n]?=some (x,m):=e;rw[bW]at e'
  cases q:L[n]? with
  |none=>rw[q]at e';cases e'
  |some j =>
   rw[q]at e';cases e';obtain⟨f',fd',F',A'⟩:=fns n j q;exact⟨f',fd',j.ps,lv,F',hr,A'.mg,A'.fn.kp,.all A'.bd⟩
 have st:=vW (K:=K) (N:=i.N) rfl ho is
 have mine:∀j es a,getS (startS i.N.length ds) j=some (.ow es)->(L2.start i.N vs)[j]?=some (some (.ref a))->a ∉ O:=λj es a g=>(jbk ds j _ es g).elim
 have mineT:MT O H (startS i.N.length ds) (L2.start i.N vs):=λj rs a as g=>(u7 ds j _ rs g).elim
 unfold FnI.Keep at hk;by_cases hrz:i.rz=true
 ·rw[if_pos hrz]at hk;rw[if_pos hrz]at hc;have eo:=hz hrz
  have own:Own (uV (CXz P w mg) P w K mg base i.N i.x (ji i.st) f cdv A outer s H E):=⟨rfl,rfl,rfl⟩
  have okx:OkX (uV (CXz P w mg) P w K mg base i.N i.x (ji i.st) f cdv A outer s H E) (i.ck L cns) C O H (i.c.exn ds):=by
   refine⟨ok,own,ho,?_,?_,λ_=>⟨hr.mono h2,?_⟩,eo.exc,λq=>⟨eo.fn q,⟨?_,?_⟩,hb _ (by decide)⟩⟩
   ·intro y Ca hex hm pins σ H' s' H1 da e s2 I sm fd T
    exact UO I own sm T λs3 T3=>⟨y.t,Ca,H1,da,hx y hex H1 da sm fd,hm,T3⟩
   ·intro _ x Ca hex hm pins σ H' s' h1 e args I sm M
    exact XH I own sm M λs3 T3=>⟨x,Ca,H',none,hx ⟨0,x,[]⟩ hex H' none sm (λd hd=>nomatch hd),hm,T3⟩
   ·intro y Ca hex hm pins σ H' s' e da I he h0 h0' sm fd;obtain⟨⟨t0,he1⟩,_⟩:=I.hok e _ he
    exact Ye (inv_del I he h0) own sm he1 rfl rfl rfl rfl rfl XS h0' λs3 T3=>⟨y.t,Ca,_,da,hx y hex _ da sm fd,hm,T3⟩
   ·show (A.deeper (envOfC i.x (ji i.st) s.heap.objs.size f cdv)).depth+3*1+5<jcx;lia
   ·have:=hr.un;show (A.deeper (envOfC i.x (ji i.st) s.heap.objs.size f cdv)).units+16*1+200<cLine;lia
  by_cases hfr:i.fr=true
  ·rw[if_pos hfr]at hk;unfold Rw at hq;simp only[hfr,if_true]at hq;refine⟨_,sXB (O₀:=O) okx i.b _ hc.2,startS i.N.length ds,O,⟨jf.refl _,λ_ z=>z,λ_ z=>.inl z⟩,⟨st,mine,mineT⟩,js i.b ?_ (hk ds hp)⟩;exact⟨λ_ z=>z.elim,λ_ z=>z.elim,λ_ z=>z.elim,λ_ z=>z.elim,λxs q a H' us s' h0 hl' is'=>hq _ q xs a H' us rfl s' h0 hl' is',λ_ z=>z,λ_ z=>z.elim⟩
  rw[if_neg hfr]at hk;obtain⟨hf,hk⟩:=hk;unfold Rw at hq;simp only[hf,dF,if_false]at hq;by_cases hg:i.g=true
  ·rw[if_pos hg]at hk;simp only[hg,if_true]at hq;refine⟨_,sXB (O₀:=O) okx i.b _ hc.2,startS i.N.length ds,O,⟨jf.refl _,λ_ z=>z,λ_ z=>.inl z⟩,⟨st,mine,mineT⟩,js i.b ?_ (hk ds hp)⟩;exact⟨λ_ z=>z.elim,λd q v H' s' i'=>(hq d q.2).2 q.1 v H' s' i',λ_ z=>z.elim,λ_ z=>z.elim,λ_ z=>z.elim,λ_ z=>z,λrows q a as H' s' h0 t=>(hq _ q).1 rows a as H' rfl s' h0 t⟩
  rw[if_neg hg]at hk;simp only[hg,dF,if_false]at hq;refine⟨_,sXB (O₀:=O) okx i.b _ hc.2,startS i.N.length ds,O,⟨jf.refl _,λ_ z=>z,λ_ z=>.inl z⟩,⟨st,mine,mineT⟩,js i.b ?_ (hk ds hp)⟩;exact⟨λσ' q τ' H' O' g' s' r'=>hq _ q _ _ g'.same JD,λd q v H' s' i'=>hq d q v H' s' i',λ_ z=>z.elim,λ_ z=>z.elim,λ_ z=>z.elim,λ_ z=>z,λ_ z=>z.elim⟩
 rw[if_neg hrz]at hk;rw[if_neg hrz]at hc;refine⟨tS K C O H (λ_=>False) i.b,PSs.nox (sK ok i.b _ hc.2),?_⟩;unfold Rw at hq;by_cases hf:i.fr=true
 ·rw[if_pos hf]at hk;simp only[hf,if_true]at hq;refine⟨startS i.N.length ds,O,⟨jf.refl _,λ_ z=>z,λ_ z=>.inl z⟩,⟨st,mine,mineT⟩,js i.b ?_ (hk ds hp)⟩;exact⟨λ_ z=>z.elim,λ_ z=>z.elim,λ_ z=>z.elim,λ_ z=>z.elim,λxs q a H' us s' h0 hl' is'=>hq _ q xs a H' us rfl s' h0 hl' is',λ_ z=>z,λ_ z=>z.elim⟩
 rw[if_neg hf]at hk;by_cases hg:i.g=true
 ·rw[if_pos hg]at hk;simp only[hf,hg,dF,if_false,if_true]at hq;refine⟨startS i.N.length ds,O,⟨jf.refl _,λ_ z=>z,λ_ z=>.inl z⟩,⟨st,mine,mineT⟩,js i.b ?_ (hk ds hp)⟩;exact⟨λ_ z=>z.elim,λ_ z=>z.elim,λ_ z=>z.elim,λ_ z=>z.elim,λ_ z=>z.elim,λ_ z=>z,λrows q a as H' s' h0 t=>(hq _ q).1 rows a as H' rfl s' h0 t⟩
 ·rw[if_neg hg]at hk;simp only[hf,hg,dF,if_false]at hq;refine⟨startS i.N.length ds,O,⟨jf.refl _,λ_ z=>z,λ_ z=>.inl z⟩,⟨st,mine,mineT⟩,js i.b ?_ (hk ds hp)⟩;exact⟨λσ' q τ' H' O' g' s' r'=>hq _ q _ _ g'.same JD,λd q v H' s' i'=>hq d q v H' s' i',λ_ z=>z.elim,λ_ z=>z.elim,λ_ z=>z.elim,λ_ z=>z,λ_ z=>z.elim⟩
theorem Uv(F:∀i∈L,zu K mg i)(hc:QA L cns=true)(hk:∀i∈L,i.Keep C)(ct:∀n i,L[n]?=some i->C.ct n=i.c/\C.fr n=i.fr/\C.f2 n=i.g)
 (hcn:∀n x,cns[n]?=some x->∃u v,mg x=some u/\jS v u/\∀S,Is K S (C.cn n) v) (hb:∀x∈blts,mg x=none) (hE:∀x,¬ C.E x) (hz:∀i∈L,i.rz=true->ExcOk K mg i.cls i.al) :
 ∀(n:Nat) (i:FnI) (f:Addr) (fd:pF),L[n]?=some i->FnAt K mg i f fd->FnOk P w K mg base (CXz P w mg) (n+3) f fd i.ps (spD K i.ps.length i.fr i.g i.c):=by
 intro n
 induction n using Nat.strongRecOn with
 |ind n ih =>
  intro i f fd e A;refine jaT (L:=L.take n) (lv:=n+2) (by lia) A (chk_at hc e) (hk i (gq e)) (λm j q=>?_) hcn hb hE (hz i (gq e))
  have hm:m<n:=by
   rcases bU m n with z|z
   ·exact z
   ·rw[bG (by rw[gK];lia)]at q;cases q
  rw[nV hm]at q;obtain⟨f',fd',A'⟩:=F j (gq q);rw[(ct m j q).1,(ct m j q).2.1,(ct m j q).2.2];exact⟨f',fd',(ih m hm j f' fd' q A').mono (by lia),A'⟩
end
variable{Ca T:Addr}
section
variable {K:bp} {h:gQ} {mg:Str->Option bq}
theorem jb6{D:Addr}{b:Bool}(t:jdJ K (.ref Ca)=some (.type "type"))(m:sV K Ca (.type "object")=some true)(s:jcW K (.ref D) (.ref Ca)=some b)(hd:decide (D=Ca)=true->b=true):pV K (.ref D) (.ref Ca)=some b:=by
 have hs:(jfr K Ca).isSome=true:=by
  unfold sV at m
  cases q:jfr K Ca with
  |none=>rw[q]at m;cases m
  |some c=>rfl
 unfold pV;split
 ·next e =>
  have e':D=Ca:=jfq (beq_iff_eq.mp e);rw[hd (by simpa using e')]
 ·unfold jfm;simp only[hs,t,beq_self_eq_true,Bool.and_self,if_true,s]
theorem kit_cl(X:K.In h)(G:h.Ns gn mg){c y:Str}{D:Addr}{b:Bool}(a:gh K gn c=some (some (.ref Ca)))(t:jdJ K (.ref Ca)=some (.type "type"))(m:sV K Ca (.type "object")=some true)
 (s:jcW K (.ref D) (.ref Ca)=some b) (hb:b=decide (c=y)) (hd:decide (D=Ca)=true->b=true):∃Ca,mg c=some (.ref Ca)/\pV K (.ref D) (.ref Ca)=some (decide (c=y)) :=
 ⟨Ca,pL X G a,by rw[<- hb];exact jb6 t m s hd⟩
theorem alone_mk(X:K.In h)(G:h.Ns gn mg){D:Addr}
 (e1:jcB K (.ref D) "__getattribute__"=some (some (.builtin "BaseException.__getattribute__"))) (e2:jcB K (.ref D) "__getattr__"=some none) (e3:jcB K (.ref D) "__class__"=some (some (.builtin "object.__class__")))
 (e4:PySem.W.specialIn K (.builtin "object.__class__") "__get__"=some (some (.builtin "getset_descriptor.__get__"))) (e5:PySem.W.takesIn K (.builtin "object.__class__")=some true) (e6:sV K D (.type "object")=some true) (e7:sV K D (.type "BaseException")=some true)
 (t1:gh K gn "TrueError"=some (some (.ref T))) (t2:jdJ K (.ref T)=some (.type "type")) (t3:sV K T (.type "object")=some true) (t4:jcW K (.ref D) (.ref T)=some true)
 (v1:jcW K (.ref D) (.type "ValueError")=some true) (v2:gh K gn "ValueError"=some none) (v3:gh K gn "isinstance"=some none) (mem:x∈names12)
 (cl:∀c∈names12,∃Ca,mg c=some (.ref Ca)/\pV K (.ref D) (.ref Ca)=some (decide (c=x))):AloneF K mg x D:=by
 refine⟨⟨e1,e2,e3,e4,e5,e6,e7⟩,cl,⟨T,pL X G t1,jb6 t2 t3 t4 λ_=>rfl⟩,?_,tM X G v2,tM X G v3,mem⟩;unfold pV;rw[if_neg (by intro z;cases beq_iff_eq.mp z)];unfold jfm
 have km:PySem.W.kitMeta "ValueError"=true:=by decide +kernel
 simp only[km,if_true,v1]
end
theorem exc_ok{cls:List Str}(_:K.In h)(al:zu K mg i)(st:KY i=true)(ex:∀x∈cls,∃Ca,mg x=some (.ref Ca)/\ClsOk K mg x Ca true):ExcOk K mg cls true:=⟨λ_=>⟨i,al,st⟩,ex⟩
theorem bl_at:mG (.type "ValueError") "at"=pure none:=by kernel_rfl
theorem bl_w:mG (.type "ValueError") "weights"=pure none:=by kernel_rfl
theorem bl_f(x:Str):mG (.type "ValueError") (yC x)=pure none:=by
 unfold yC;split
 ·exact bl_w
 ·exact bl_at
@[inline] def clsDef:Stmt->Stmt
  |.ClassDef _ _ _ b ..=>b.getD 0 (.Pass ⟨0,0,0,0⟩)
  |s=>s
def Y1(e:jeQ):Bool:=match e.key with
 |.str ..=>true
 |_=>false
variable{N:Addr}
theorem ZV{c:bq}{d:Option Addr}{es:Array jeQ}{ep:Nat}(l:K.lookup N=some ⟨c,d,.dict es ep,sl⟩)(a:es.toList.all Y1=true):jfn K N=true:=by
 unfold jfn;rw[l];simp only;rw[<- Array.all_toList];exact a
def iniSt(x:Str)(i:FnI):Bool:=xI i&&match i.ps with
 |[a,b,p]=>decide (i.N=i.ps)&&decide (a=("self":Str))&&decide (b=("text":Str)) && !(p == ("__debug__":Str)) && !(p == ("__classdict__":Str))&&decide ((ji i.st).names.lookup ("TrueError":Str)=some .globalImplicit)&&(!(x == ("Dependent":Str)) ||decide ((ji i.st).names.lookup ("list":Str)=some .globalImplicit))&&vU (yC x) p (x == ("Dependent":Str)) (jU i.st)
 |_=>false
theorem exc_mkO{bb:Bool}(X:K.In h)(G:h.Ns gn mg){C:Addr}{nm qn q:Str}{bs:List bq}{sn:List Str}{sub:List bq}{ab:Bool}{col:Option Bool}{dd ddT d1 d2 dD:Option Addr}{k0 k1 k2 k3 k5:Option bq}{cdT:jeU}{slT sl1 sl2 osl slD:Array (Option bq)}{c1 c2 d0 cD kV doc cdv ct:bq}{Td:Addr}{nD:Nat}{es1 es2:Array jeQ}{ep1 ep2:Nat}
 (hs:iniSt x i=true) (hf:VV x=true)
 (b:∀(kV doc pm:bq) (an:Option Addr) (cdv ct d0 u1 u2 u3:bq) (Td:Addr),∃k,bindArgs (nQ "__init__" q (qZ i.st) (jU i.st) (ji i.st) (.ref Td) kV doc pm an cdv ct) ⟨[u1,u2,u3],[]⟩=jeR (.ref Td) >>= k/\k (some #[d0])=pure (i.ps.zip [u1,u2,u3]))
 (a:gh K gn x=some (some (.ref C))) (te:gh K gn "TrueError"=some (some (.ref T))) (ml:gh K gn "list"=some none)
 (l:K.lookup C=some (gZ nm qn C N bs (.ref T::bmV) true sn sub ab col dd k0 k1 k2 k3 k5 UZ)) (lN:K.lookup N=some ⟨c1,d1,.dict es1 ep1,sl1⟩) (aN:es1.toList.all Y1=true)
 (lT:K.lookup T=some ⟨.type "type",ddT,.cls cdT,slT⟩) (lM:K.lookup cdT.ns=some ⟨c2,d2,.dict es2 ep2,sl2⟩) (aM:es2.toList.all Y1=true)
 (ii:gh K N "__init__"=some (some (.ref f))) (n1:gh K N "__getattribute__"=some none) (n2:gh K N "__getattr__"=some none) (n3:gh K N "__setattr__"=some none) (n4:gh K N (yC x)=some none)
 (m1:gh K cdT.ns (yC x)=some none) (m2:gh K cdT.ns "__setattr__"=some none) (m3:gh K cdT.ns "__init__"=some none) (m4:gh K cdT.ns "__getattribute__"=some none) (m5:gh K cdT.ns "__getattr__"=some none) (m6:gh K cdT.ns "args"=some none)
 (op:gh K cStatics "thirdparty.any"=some none) (fi:jcB K (.ref T) "__init__"=some (some (.builtin "ValueError.__init__"))) (fn:PySem.W.isFn K (.ref f)=true) (kp:mP K (.ref C)=true)
 (lf:K.lookup f=some ⟨oc,od,.func (nQ "__init__" q (qZ i.st) (jU i.st) (ji i.st) (.ref Td) kV doc pm an cdv ct),osl⟩) (lD:K.lookup Td=some ⟨cD,dD,.seq #[d0] nD,slD⟩) (hcd:tP K cdv q=true) (al:bb=true->AloneF K mg x C):∃Ca,mg x=some (.ref Ca)/\ClsOk K mg x Ca bb:=by
 have F:InitF K mg C T f (yC x):=by
  refine⟨⟨nm,qn,N,bs,sn,sub,ab,col,dd,k0,k1,k2,k3,k5,l,ZV lN aN,ii,λy hy=>?_⟩,⟨ddT,cdT,slT,lT,ZV lM aM,λy hy=>?_⟩,op,fi,pL X G te,fn,kp,bl_f x⟩
  ·simp only[bD,bM,or_false]at hy
   rcases hy with rfl|rfl|rfl|rfl<;>assumption
  ·simp only[wu,bD,bM,or_false]at hy
   rcases hy with rfl|rfl|rfl|rfl|rfl|rfl<;>assumption
 unfold iniSt at hs;rw[bg]at hs;obtain⟨hsc,hs⟩:=hs;have S:=zY hsc;split at hs
 ·next a' b' p hps =>
  simp only[bg,decide_eq_true_eq,b8,tG]at hs;obtain⟨⟨⟨⟨⟨⟨⟨hN,rfl⟩,rfl⟩,hp1⟩,hp2⟩,hg1⟩,hg2⟩,hb⟩:=hs;rw[hN,hps]at S;rw[hps]at b;refine⟨C,pL X G a,?_,(λz=>by rw[hf]at z;cases z),λ_=>⟨T,f,F,λP w base=>⟨_,p,init_ok lf hcd S F ⟨hp1,hp2⟩ hg1 (λz=>?_) (tM X G ml) hb,λs us Xs hl=>?_⟩⟩,al⟩
  ·intro h' X';obtain⟨_,_,_,_,_,_,_,_,_,_,_,_,_,_,_,hh⟩:=F.heap X';exact⟨_,_,_,_,_,_,_,_,_,_,_,_,_,_,_,_,hh.hC,hh.tl⟩
  ·rcases hg2 with q|q
   ·rw[z]at q;cases q
   ·exact q
  ·rw[dM]at hl ⊢;obtain⟨u1,r,rfl⟩:=xk (xs:=us) (by cases us<;>first|rfl|cases hl);obtain⟨u2,u3,rfl⟩:=qj (xs:=r) (by simpa using hl);obtain⟨k,e1,e2⟩:=b kV doc pm an cdv ct d0 u1 u2 u3 Td;exact BindsTo.of_defaults rfl (Xs _ _ lD) rfl e1 e2
 ·cases hs
variable{a:Addr}
theorem cn_mkT{o:nv}{i j:Int}{t t':Tok}(X:K.In h)(G:h.Ns gn mg)(z:gh K gn x=some (some (.ref a)))(l:K.lookup a=some o)(c:o.cls=.type "tuple")(e:o.data=.seq #[.int i t,.int j t'] n):∃u v,mg x=some u/\jS v u/\∀S,Is K S (.tup [.int i,.int j]) v :=
 ⟨_,.ref a,pL X G z,rfl,λS=>KJ (.inr ⟨o,_,n,l,c,e,by show 2<=sizeLine;decide,(show jJ [V.int i,V.int j] [.int i t,.int j t'] from .cons ⟨_,rfl⟩ (.cons ⟨_,rfl⟩ .nil))⟩) (by unfold Iss;exact⟨_,_,rfl,jG _,by unfold Iss;exact⟨_,_,rfl,jG _,by unfold Iss;rfl⟩⟩)⟩
theorem law_sp{ns:List Int}(hl:ns.length<=63)(h:SqL K H a (ns.map V.int)):spD K 1 false false ux [.ref a] H (λv _=>v=.bl true) λ_ _ _=>False:=by
 have is:∀ns:List Int,Iss K (je H []) (ns.map D.int) (ns.map V.int):=by
  intro ns
  induction ns with
  |nil=>unfold Iss;rfl
  |cons n r ih =>
   simp only[bz];unfold Iss;exact⟨_,_,rfl,jG n,ih⟩
 refine⟨[],[.lst (ns.map .int)],rfl,(λ_ z=>nomatch z),?_,⟨ns,rfl,hl⟩,λd e v H' s i=>?_,λ_ z=>z.elim⟩
 ·unfold Iss;refine⟨_,_,rfl,qE ?_ (is ns),?_⟩
  ·have e:je H []=H:=by
    funext b;exact j8 (by simp)
   rw[e];exact h
  ·unfold Iss;rfl
 ·have e':d=.bl true:=e;subst e';exact qM i
end Z
namespace Z
open PySem
def qG:Sm :=
 (.seq (.set 2 (.bi .abs [(.var 0)]))
 (.seq (.set 3 (.bi .abs [(.var 1)]))
 (.seq (.whl (.cmp .gt (.var 3) (.cst (.int 0))) (.seq (.set 4 (.bin .mod (.var 2) (.var 3)))
  (.seq (.set 2 (.var 3))
  (.seq (.set 3 (.var 4))
  .nop))))
 (.seq (.ret (.var 2))
 .nop))))
def Qu(i_common_divisor:Nat):Sm :=
 (.seq (.ite (.cmp .eq (.var 1) (.cst (.int 0))) (.seq .never
  .nop) .nop)
 (.seq (.set 2 (.call i_common_divisor [(.var 0),(.var 1)]))
 (.seq (.ite (.cmp .lt (.var 1) (.cst (.int 0))) (.seq (.set 2 (.neg (.var 2)))
  .nop) .nop)
 (.seq (.ret (.tup [(.bin .fdiv (.var 0) (.var 2)),(.bin .fdiv (.var 1) (.var 2))]))
 .nop))))
def rq(r:Rat):D:=.tup [.int r.num,.int r.den]
def szr(n:Nat)(r:Rat):Prop:=bits r.num<=n/\bits (r.den:Int)<=n
variable{n:Nat}{m:Int}{r:Rat}
theorem szr.mono{m:Nat}(h:szr n r)(hm:n<=m):szr m r:=⟨dg h.1 hm,dg h.2 hm⟩
variable{u:Int}
theorem U7(t:Int)(h:u≠0):bits (gW t u).num<=bits t/\bits ((gW t u).den:Int)<=bits u:=by
 rw[jdK,jcC,if_neg h];have hg:0<u.gcd t:=pP _ h;constructor
 ·refine dg (zb (by lia)) (ku ?_);rw[mr];rw[Int.natAbs_sign_of_ne_zero h,Nat.one_mul];exact bV _
 ·refine ku ?_;rw[pf];exact Nat.div_le_self u.natAbs (u.gcd t)
theorem rat_eq(r:Rat):r=gW r.num r.den:=(jeq r).symm
variable{a:Rat}
theorem rq_inj{b:Rat}(h:rq a=rq b):a=b:=by
 simp only[rq,D.tup.injEq,bO,D.int.injEq]at h;exact Rat.ext h.1 (by lia)
theorem ja7(a:Rat):qv (rq a)=1:=by simp[rq,QE,uG,uR,vk]
variable{Q:D->Prop}
theorem ix_rq0:ixD (rq a) (.int 0) Q=Q (.int a.num):=by
 simp only[rq,ix_tup,XN,gy,exists_eq_left']
theorem jaW:ixD (rq a) (.int 1) Q=Q (.int a.den):=by
 simp only[rq,ix_tup,jad,gy,exists_eq_left']
def jN:Ctr where
 pre ds:=match ds with|[.int _,.int _]=>True|_=>False
 res ds d:=match ds with|[.int a,.int b]=>d=.int (gY a b)|_=>False
theorem uz{C:Cfg}:jQ C 5 qG jN:=by
 rintro ds h;simp only[jN]at h;split at h
 case h_2=>exact h.elim
 next a b =>
 simp_all_arith! only[qG,jN,YJ]
 refine Qx (λσ=>∃(x y:Nat) (o:Option Sl),jeA x y=gY a b/\σ=[some (.sh (.int a)),some (.sh (.int b)),some (.sh (.int x)),some (.sh (.int y)),o]) (λσ=>(Q5 σ 3).toNat) ?_ ?_
 ·exact⟨_,_,_,rfl,rfl⟩
 ·rintro σ ⟨x,y,o,hg,rfl⟩
  simp_all_arith! only[Q5]
  by_cases h0:0<(y:Int)
  ·rw[if_pos h0,jD (by lia)];have hm:x%y<y:=jfh _ (by lia);refine⟨by lia,by lia,y,x%y,some (.sh (.int ((x:Int)%y))),?_,by simp⟩;rw[jco,<- je0,jco];exact hg
  ·rw[if_neg h0]
   have:y=0:=by lia
   subst this;simp only[jee]at hg;rw[hg]
def xG:Ctr where
 pre ds:=match ds with|[.int _,.int u]=>u≠0/\bits u<=9000|_=>False
 res ds d:=match ds with|[.int t,.int u]=>d=rq (gW t u)|_=>False
theorem k_ratio{C:Cfg}{i:Nat}(h1:C.ct i=jN):jQ C 3 (Qu i) xG:=by
 rintro ds h;simp only[xG]at h;split at h
 case h_2=>exact h.elim
 next t u =>
 obtain⟨hu,hb⟩:=h;have hg:0<gY t u:=Int.gcd_pos_of_ne_zero_right _ hu
 have hgb:bits (gY t u:Int)<=9000:=by
  refine dg (ku ?_) hb;have:=jd5 (by lia) (jcX t u);lia
 have dt:((gY t u:Nat):Int) ∣ t:=Int.gcd_dvd_left ..;have du:((gY t u:Nat):Int) ∣ u:=Int.gcd_dvd_right ..;have en:=jdK t u;have ed:=jcC t u;rw[if_neg hu]at ed;rw[Int.gcd_comm]at en ed
 simp_all_arith! only[Qu,xG,h1,jN]
 rw[if_neg hu];generalize gY t u=g at *;obtain⟨t',rfl⟩:=dt;obtain⟨u',rfl⟩:=du
 have g0:(g:Int)≠0:=by lia
 by_cases hs:(g:Int)*u'<0
 ·rw[if_pos hs];refine⟨⟨by lia,by rw[xm];exact hgb⟩,⟨by lia,by rw[xm];exact hgb⟩,?_⟩
  have hu':u'<0:=by
   rcases tY u' 0 with z|z
   ·exact z
   ·have:=Int.mul_nonneg (show (0:Int)<=g by lia) z;lia
  have e1:((g:Int)*t').fdiv (-g)=-t':=by
   rw[show (g:Int)*t'=-t' * -g by rw[Int.neg_mul_neg,mO]];exact mX _ (by lia)
  have e2:((g:Int)*u').fdiv (-g)=-u':=by
   rw[show (g:Int)*u'=-u' * -g by rw[Int.neg_mul_neg,mO]];exact mX _ (by lia)
  rw[e1,e2];unfold rq;rw[en,ed,Int.sign_eq_neg_one_of_neg hs]
  have e3:-1*((g:Int)*t') / g=-t':=by
   rw[show -1*((g:Int)*t')=g * -t' by grind,sW _ g0]
  have e4:((g:Int)*u').natAbs / g=u'.natAbs:=by
   rw[mr,pf,jc5 _ hg]
  rw[e3,e4]
  have:((u'.natAbs:Nat):Int)=-u':=by lia
  rw[this]
 ·rw[if_neg hs];refine⟨⟨by lia,hgb⟩,⟨by lia,hgb⟩,?_⟩
  have hu':0<u':=by
   have:u'≠0:=λz=>by subst z;simp at hu
   rcases tY u' 0 with z|z
   ·have:=jcH (show (0:Int)<g by lia) z;lia
   ·lia
  have hp:0<(g:Int)*u':=jcN (by lia) hu'
  have e1:((g:Int)*t').fdiv g=t':=by
   rw[mO];exact mX _ (by lia)
  have e2:((g:Int)*u').fdiv g=u':=by
   rw[mO];exact mX _ (by lia)
  rw[e1,e2];unfold rq;rw[en,ed,jdj hp,jcK,sW _ g0]
  have e4:((g:Int)*u').natAbs / g=u'.natAbs:=by
   rw[mr,pf,jc5 _ hg]
  rw[e4]
  have:((u'.natAbs:Nat):Int)=u':=by lia
  rw[this]
section
variable {C:Cfg} {i:Nat} (h1:C.ct i=xG)
include h1
end
def v2(n:Nat):Nat:=if h:n=0 then 0 else if n%2=1 then 0 else v2 (n / 2)+1
 termination_by n
 decreasing_by lia
theorem jbO(h:n%2=1):v2 n=0:=by
 unfold v2
 have:n≠0:=by lia
 simp[this,h]
theorem v2_even(h0:n≠0)(h:n%2=0):v2 n=v2 (n / 2)+1:=by
 rw[v2]
 have:¬ n%2=1:=by lia
 simp[h0,this]
theorem Yy{m:Nat}(h:m%2=1):∀v:Nat,v2 (2^v*m)=v
 |0=>by simpa using jbO h
 |v+1=>by
  have e:2^(v+1)*m=2*(2^v*m):=by rw[mM];grind
  have hp:0<2^v*m:=jeZ (gR v) (by lia);rw[e,v2_even (by lia) (by lia)]
  have:2*(2^v*m) / 2=2^v*m:=by lia
  rw[this,Yy h v]
def ko(w p:Int):Int×Int:=if w=0 then (0,0) else (w / 2^v2 w.natAbs,p+v2 w.natAbs)
theorem zo(p:Int):ko 0 p=(0,0):=by simp[ko]
theorem kJ(h:m%2=1)(v:Nat)(p:Int):ko (m*2^v) p=(m,p+v):=by
 have hm:m≠0:=by lia
 have hp:=two_pow_pos v;have h0:m*2^v≠0:=tH hm (by lia)
 have e:(m*2^v).natAbs=2^v*m.natAbs:=by rw[mr,nY,Nat.mul_comm];rfl
 unfold ko;rw[if_neg h0,e,Yy (by lia),jdW _ (by lia)]
variable{w:Int}
theorem uM(h:w≠0):∃(m:Int) (v:Nat),w=m*2^v/\m%2=1:=by
 obtain⟨v,m,e,ho,_⟩:=Qm h;exact⟨m,v,e,ho⟩
variable{p w' p':Int}
theorem Bare.eq(b:Bare w p w' p'):(w',p')=ko w p:=by
 by_cases h:w=0
 ·obtain⟨rfl,rfl⟩:=b.nought h;subst h;exact(zo p).symm
 ·obtain⟨v,e,ep,ho⟩:=b.same h;rw[e,kJ ho,ep]
theorem xt(w p:Int):Bare w p (ko w p).1 (ko w p).2:=by
 by_cases h:w=0
 ·subst h;exact⟨λ_=>by simp[ko],λz=>absurd rfl z⟩
 ·obtain⟨m,v,rfl,ho⟩:=uM h;rw[kJ ho];exact⟨λz=>absurd z h,λ_=>⟨v,rfl,rfl,ho⟩⟩
theorem U3(w p:Int):ko (-w) p=(-(ko w p).1,(ko w p).2):=by
 by_cases h:w=0
 ·subst h;simp[ko]
 ·obtain⟨m,v,rfl,ho⟩:=uM h
  have e:-(m*2^v)=-m*2^v:=by rw[Int.neg_mul]
  rw[e,kJ ho,kJ (by lia)]
def nq(x:Int×Int):D:=.tup [.int x.1,.int x.2]
def Sc(t p:Int):Int:=t*2^(-p).toNat
def Vc(u p:Int):Int:=u*2^p.toNat
theorem K8(h:0<u):0<Vc u p:=jcN h (two_pow_pos _)
theorem sc_step(t u p:Int):(Sc t (p+1)=Sc t p/\Vc u (p+1)=2*Vc u p)\/(Sc t p=2*Sc t (p+1)/\Vc u (p+1)=Vc u p):=by
 unfold Sc Vc;by_cases h:0<=p
 ·left
  have e1:(-(p+1)).toNat=(-p).toNat:=by lia
  have e2:(p+1).toNat=p.toNat+1:=by lia
  rw[e1,e2,pj];exact⟨rfl,by grind⟩
 ·right
  have e1:(-p).toNat=(-(p+1)).toNat+1:=by lia
  have e2:(p+1).toNat=p.toNat:=by lia
  rw[e1,e2,pj];exact⟨by grind,rfl⟩
structure Cut (n:Nat) (t u w p:Int):Prop where
 lo:2^(n-1)<=w
 hi:w<2^n
 le:w*Vc u p<=Sc t p
 lt:Sc t p<(w+1)*Vc u p
def kF(n:Nat)(t u:Int):Int:=let p:=(bits t:Int)-bits u-n;if 2^n<=Sc t p / Vc u p then p+1 else p
def QO(n:Nat)(t u:Int):Int:=Sc t (kF n t u) / Vc u (kF n t u)
variable{t:Int}
theorem yU(h:0<t):(2:Int)^(bits t-1)<=t/\t<2^bits t:=by
 have h1:=zc t;have h2:=Xj (show t≠0 by lia)
 have c1:((2^bits t:Nat):Int)=2^bits t:=by simp
 have c2:((2^(bits t-1):Nat):Int)=2^(bits t-1):=by simp
 lia
theorem guess(hn:1<=n)(ht:0<t)(hu:0<u)(p:Int)(hp:p=(bits t:Int)-bits u-n):2^(n-1)*Vc u p<=Sc t p/\Sc t p<2^(n+1)*Vc u p:=by
 obtain⟨t1,t2⟩:=yU ht;obtain⟨u1,u2⟩:=yU hu;have bt:=Jx (show t≠0 by lia);have bu:=Jx (show u≠0 by lia);generalize ha:bits t=a at *;generalize hb:bits u=b at *;unfold Sc Vc;have k1:(0:Int)<=2^(-p).toNat:=pZ (two_pow_pos _);have k2:(0:Int)<=2^p.toNat:=pZ (two_pow_pos _);have kn:(0:Int)<=2^(n-1):=pZ (two_pow_pos _);have kn1:(0:Int)<=2^(n+1):=pZ (two_pow_pos _);constructor
 ·have s1:2^(n-1)*(u*2^p.toNat)<=2^(n-1)*(2^b*2^p.toNat):=wW (gS (by lia) k2) kn;have s2:(2:Int)^(a-1)*2^(-p).toNat<=t*2^(-p).toNat:=gS t1 k1
  have s3:(2:Int)^(n-1)*(2^b*2^p.toNat)=2^(a-1)*2^(-p).toNat:=by
   rw[<- m7,<- m7,<- m7];congr 1;lia
  lia
 ·have s1:2^(n+1)*(2^(b-1)*2^p.toNat)<=2^(n+1)*(u*2^p.toNat):=wW (gS (by lia) k2) kn1;have s2:t*2^(-p).toNat<2^a*2^(-p).toNat:=jcs t2 (two_pow_pos _)
  have s3:(2:Int)^(n+1)*(2^(b-1)*2^p.toNat)=2^a*2^(-p).toNat:=by
   rw[<- m7,<- m7,<- m7];congr 1;lia
  lia
theorem vJ(s:Int){v:Int}(hv:0<v):s / v*v<=s/\s<(s / v+1)*v:=⟨jdq s (by lia),Int.lt_ediv_add_one_mul_self s hv⟩
theorem jaG(hn:1<=n)(ht:0<t)(hu:0<u):Cut n t u (QO n t u) (kF n t u):=by
 have g:=guess hn ht hu _ rfl
 have e2:(2:Int)^n=2*2^(n-1):=by
  conv=>lhs;rw[show n=(n-1)+1 by lia,pj]
  lia
 have e3:(2:Int)^(n+1)=2*2^n:=by rw[pj];lia
 have kn:=two_pow_pos n;unfold QO kF;simp only[];generalize hp:(bits t:Int)-bits u-n=p at *;have hv:=K8 (p:=p) hu;by_cases c:2^n<=Sc t p / Vc u p
 ·rw[if_pos c];have hv1:=K8 (p:=p+1) hu;have f:=vJ (Sc t (p+1)) hv1;have c':=Int.mul_le_of_le_ediv hv c;rcases sc_step t u p with⟨s1,s2⟩|⟨s1,s2⟩
  ·refine⟨?_,?_,f.1,f.2⟩
   ·refine wa hv1 ?_;rw[s1,s2]
    have:(2:Int)^(n-1)*(2*Vc u p)=2^n*Vc u p:=by rw[e2];grind
    lia
   ·refine jdx hv1 ?_;rw[s1,s2]
    have:(2:Int)^n*(2*Vc u p)=2^(n+1)*Vc u p:=by rw[e3];grind
    lia
  ·refine⟨?_,?_,f.1,f.2⟩
   ·refine wa hv1 ?_;rw[s2]
    have:(2:Int)^n*Vc u p=2*(2^(n-1)*Vc u p):=by rw[e2];grind
    lia
   ·refine jdx hv1 ?_;rw[s2]
    have:(2:Int)^(n+1)*Vc u p=2*(2^n*Vc u p):=by rw[e3];grind
    lia
 ·rw[if_neg c];have f:=vJ (Sc t p) hv;exact⟨wa hv g.1,by lia,f.1,f.2⟩
def cls(r v:Int):Int:=if r=0 then 0 else if 2*r=v then 2 else if 2*r<v then 1 else 3
def cutR(n:Nat)(t u:Int):Int:=Sc t (kF n t u)-QO n t u*Vc u (kF n t u)
def Xx(n:Nat)(t u:Int):Int:=if 2*cutR n t u > Vc u (kF n t u)\/(2*cutR n t u=Vc u (kF n t u)/\QO n t u%2=1) then QO n t u+1 else QO n t u
def JZ(n:Nat)(t u:Int):Int×Int:=if t=0 then (0,0) else if t<0 then ko (-Xx n (-t) u) (kF n (-t) u) else ko (Xx n t u) (kF n t u)
def qP(x:Int×Int):Int×Int:=(-x.1,x.2)
abbrev tw(p:Int):Rat:=(2:Rat)^p
theorem V4:(2:Rat)≠0:=by decide
theorem uq(p:Int):tw (p+1)=2*tw p:=by rw[tw,Rat.zpow_add_one V4,sk]
theorem qX:tw 0=1:=by decide
theorem Yp(n:Nat):tw n=((2^n:Int):Rat):=by
 induction n with
 |zero=>decide
 |succ n ih=>rw[show ((n+1:Nat):Int)=(n:Int)+1 by lia,uq,ih,pj];grind
theorem j7(p:Int)(k:Nat):tw (p+k)=tw p*((2^k:Int):Rat):=by
 induction k with
 |zero=>simp
 |succ k ih=>rw[show p+((k+1:Nat):Int)=p+k+1 by lia,uq,ih,pj];grind
theorem uY(a b:Rat):a<b\/b<=a:=by grind
theorem ka(p:Int):0<tw p:=by
 have pos:∀n:Nat,0<tw n:=λn=>by rw[Yp];have:=two_pow_pos n;exact_mod_cast this
 rcases jct 0 p with h|h
 ·obtain⟨n,rfl⟩:∃n:Nat,p=n:=⟨p.toNat,by lia⟩
  exact pos n
 ·obtain⟨n,rfl⟩:∃n:Nat,p=-(n:Int):=⟨(-p).toNat,by lia⟩
  have e:=j7 (-(n:Int)) n;rw[show -(n:Int)+n=0 by lia,qX]at e
  have h2:(0:Rat)<((2^n:Int):Rat):=by have:=two_pow_pos n;exact_mod_cast this
  generalize ha:tw (-(n:Int))=a at *;generalize hb:((2^n:Int):Rat)=b at *;rcases uY 0 a with z|z
  ·exact z
  ·have:=Rat.mul_nonneg (a:=-a) (b:=b) (by grind) (by grind)
   grind
variable{c:Rat}
theorem qR{b:Rat}(h:a<=b)(hc:0<c):a*c<=b*c:=by
 have:=Rat.mul_nonneg (a:=b-a) (b:=c) (by grind) (by grind)
 grind
theorem jbZ{b:Rat}(h:a<b)(hc:0<c):a*c<b*c:=by
 have:=jdL (a:=b-a) (b:=c) (by grind) (by grind)
 grind
theorem JG{b:Rat}(hc:0<c):a*c<=b*c ↔ a<=b :=
 ⟨λh=>by
  rcases uY b a with y|y
  ·have:=jbZ y hc;grind
  ·exact y,λh=>qR h hc⟩
theorem yW{b:Rat}(hc:0<c):a*c<b*c ↔ a<b :=
 ⟨λh=>by
  rcases uY a b with z|z
  ·exact z
  ·have:=qR z hc;grind,λh=>jbZ h hc⟩
theorem XZ{b:Rat}(hc:0<c):a*c=b*c ↔ a=b :=
 ⟨λh=>by
  have h1:=(JG (a:=a) (b:=b) hc).mp (by grind);have h2:=(JG (a:=b) (b:=a) hc).mp (by grind)
  grind,λh=>by rw[h]⟩
def vr(x:Int×Int):Rat:=(x.1:Rat)*tw x.2
theorem vr_mul(m:Int)(v:Nat)(p:Int):vr (m*2^v,p)=vr (m,p+v):=by
 unfold vr;simp only[];rw[j7,bY];grind
theorem xZ(w p:Int):vr (ko w p)=w*tw p:=by
 by_cases h:w=0
 ·subst h;simp[ko,vr]
 ·obtain⟨m,v,rfl,ho⟩:=uM h;rw[kJ ho,<- vr_mul];rfl
theorem yA(x:Int×Int):vr (qP x)=-vr x:=by
 unfold vr qP;simp only[pI];grind
structure CutR (n:Nat) (r:Rat) (w p:Int):Prop where
 lo:2^(n-1)<=w
 hi:w<2^n
 le:w*tw p<=r
 lt:r<(w+1)*tw p
theorem QT(p:Int):((2^(-p).toNat:Int):Rat)*tw p=((2^p.toNat:Int):Rat):=by
 rcases jct 0 p with h|h
 ·obtain⟨n,rfl⟩:∃n:Nat,p=n:=⟨p.toNat,by lia⟩
  rw[Yp,show (-(n:Int)).toNat=0 by lia,bZ];simp
 ·obtain⟨n,rfl⟩:∃n:Nat,p=-(n:Int):=⟨(-p).toNat,by lia⟩
  have e:=j7 (-(n:Int)) n;rw[show -(n:Int)+n=0 by lia,qX]at e;rw[show (- -(n:Int)).toNat=n by lia,show (-(n:Int)).toNat=0 by lia,sk,<- e];simp
theorem QF(hu:0<u):gW t u*u=t:=by
 have hu':(u:Rat)≠0:=by
  intro z
  have:u=0:=by exact_mod_cast z
  lia
 rw[jcO,jer hu']
theorem jaK(hu:0<u)(p:Int):(Sc t p:Rat)*tw p=gW t u*(Vc u p:Int):=by
 have e:=QF (t:=t) hu;unfold Sc Vc;rw[bY,bY,jd6,QT,<- jd6,e]
theorem cut_rat(hu:0<u):Cut n t u w p ↔ CutR n (gW t u) w p:=by
 have hV:(0:Rat)<(Vc u p:Int):=by have:=K8 (p:=p) hu;exact_mod_cast this
 have ht:=ka p;have e:=jaK (t:=t) hu p
 have a1:w*Vc u p<=Sc t p ↔ w*tw p<=gW t u:=by
  rw[<- JG hV,<- e,<- jdk,<- JG ht,bY]
  grind
 have a2:Sc t p<(w+1)*Vc u p ↔ gW t u<(w+1)*tw p:=by
  rw[<- yW hV,<- e,<- pC,<- yW ht,bY,w9]
  grind
 exact⟨λc=>⟨c.lo,c.hi,a1.mp c.le,a2.mp c.lt⟩,λc=>⟨c.lo,c.hi,a1.mpr c.le,a2.mpr c.lt⟩⟩
theorem JP{q:Int}(h:p<=q):tw p<=tw q:=by
 obtain⟨k,rfl⟩:∃k:Nat,q=p+k:=⟨(q-p).toNat,by lia⟩
 have hp:=ka p
 have h1:(1:Rat)<=((2^k:Int):Rat):=by have:=two_pow_pos k;exact_mod_cast (show (1:Int)<=2^k by lia)
 have:=qR h1 hp;rw[j7];grind
variable{a:Int}
theorem yL{b:Int}(h:a<=b):(a:Rat)<=b:=by exact_mod_cast h
theorem pow_n(hn:1<=n):(2:Int)^n=2*2^(n-1):=by
 conv=>lhs;rw[show n=(n-1)+1 by lia,pj]
 lia
theorem CutR.mono{s:Rat}(hn:1<=n)(c:CutR n r w p)(c':CutR n s w' p')(h:r<=s):p<p'\/(p=p'/\w<=w'):=by
 rcases tZ p p' with z|z|z
 ·exact .inl z
 ·subst z;refine .inr ⟨rfl,?_⟩;have hp:=ka p;have h1:=c.le;have h2:=c'.lt
  have:(w:Rat)*tw p<(w'+1)*tw p:=by grind
  rw[yW hp]at this
  have:w<w'+1:=by exact_mod_cast this
  lia
 ·exfalso;have h1:=c.le;have h2:=c'.lt;have hp:=ka p;have hp':=ka p';have l1:=qR (yL c.lo) hp;have l2:=qR (yL (show w'+1<=2^n by have:=c'.hi;lia)) hp';have l3:tw (p'+1)<=tw p:=JP (by lia);rw[uq]at l3
  have e:((2^n:Int):Rat)=2*((2^(n-1):Int):Rat):=by rw[pow_n hn];grind
  have hq:(0:Rat)<((2^(n-1):Int):Rat):=by have:=two_pow_pos (n-1);exact_mod_cast this
  have l4:=qR l3 hq
  have l5:((w'+1:Int):Rat)=(w':Rat)+1:=by grind
  rw[e,l5]at l2;generalize ((2^(n-1):Int):Rat)=m at *;generalize tw p=a at *;generalize tw p'=b at *
  grind
theorem CutR.unique(hn:1<=n)(c:CutR n r w p)(c':CutR n r w' p'):w=w'/\p=p':=by
 have h1:=c.mono hn c' je3;have h2:=c'.mono hn c je3;lia
structure NearR (n:Nat) (r:Rat) (W p:Int):Prop where
 ex:∃w,CutR n r w p/\((W=w/\(2*(r-w*tw p)<tw p\/(2*(r-w*tw p)=tw p/\w%2=0)))\/(W=w+1/\(tw p<2*(r-w*tw p)\/(2*(r-w*tw p)=tw p/\w%2=1))))
theorem NearR.unique(hn:1<=n)(c:NearR n r w p)(c':NearR n r w' p'):w=w'/\p=p':=by
 obtain⟨v,c,h⟩:=c.ex;obtain⟨v',c',h'⟩:=c'.ex;obtain⟨rfl,rfl⟩:=c.unique hn c';refine⟨?_,rfl⟩
 rcases h with⟨e,h⟩|⟨e,h⟩<;>rcases h' with⟨e',h'⟩|⟨e',h'⟩<;>grind
variable{W:Int}
theorem NearR.bound(c:NearR n r W p):2^(n-1)<=W/\W<=2^n:=by
 obtain⟨v,c,h⟩:=c.ex;have:=c.lo;have:=c.hi
 rcases h with⟨e,h⟩|⟨e,h⟩<;>lia
theorem NearR.mono{s:Rat}{W':Int}(hn:1<=n)(c:NearR n r W p)(c':NearR n s W' p')(h:r<=s):W*tw p<=W'*tw p':=by
 have b:=c.bound;have b':=c'.bound;obtain⟨v,c,k⟩:=c.ex;obtain⟨v',c',k'⟩:=c'.ex;have hp:=ka p;have hp':=ka p';rcases c.mono hn c' h with z|⟨rfl,z⟩
 ·have l1:=qR (yL b.2) hp;have l2:=qR (yL b'.1) hp';have l3:tw (p+1)<=tw p':=JP (by lia);rw[uq]at l3
  have e:((2^n:Int):Rat)=2*((2^(n-1):Int):Rat):=by rw[pow_n hn];grind
  have hq:(0:Rat)<((2^(n-1):Int):Rat):=by have:=two_pow_pos (n-1);exact_mod_cast this
  have l4:=qR l3 hq;rw[e]at l1;generalize ((2^(n-1):Int):Rat)=m at *;generalize tw p=a at *;generalize tw p'=b at *
  grind
 ·refine qR (yL ?_) hp;rcases jes z with z|z
  ·rcases k with⟨e,k⟩|⟨e,k⟩<;>rcases k' with⟨e',k'⟩|⟨e',k'⟩<;>lia
  ·subst z
   rcases k with⟨e,k⟩|⟨e,k⟩<;>rcases k' with⟨e',k'⟩|⟨e',k'⟩
   ·lia
   ·lia
   ·exfalso;grind
   ·lia
theorem jbd(hn:1<=n)(ht:0<t)(hu:0<u):NearR n (gW t u) (Xx n t u) (kF n t u):=by
 have c:=jaG hn ht hu;refine⟨QO n t u,(cut_rat hu).mp c,?_⟩;have e:=jaK (t:=t) hu (kF n t u)
 have hV:(0:Rat)<(Vc u (kF n t u):Int):=by have:=K8 (p:=kF n t u) hu;exact_mod_cast this
 have hp:=ka (kF n t u);unfold Xx;generalize hw:QO n t u=w at *;generalize hq:kF n t u=p at *
 have er:cutR n t u=Sc t p-w*Vc u p:=by unfold cutR;rw[hw,hq]
 rw[er]
 have k:(((2*(Sc t p-w*Vc u p):Int):Rat))*tw p=2*(gW t u-w*tw p)*(Vc u p:Int):=by
  have:((2*(Sc t p-w*Vc u p):Int):Rat)=2*((Sc t p:Rat)-w*(Vc u p:Int)):=by grind
  rw[this];grind
 have a1:2*(Sc t p-w*Vc u p) > Vc u p ↔ tw p<2*(gW t u-w*tw p):=by
  rw[<- yW hV,<- k,gt_iff_lt,<- pC,<- yW hp,sk (tw p)]
 have a2:2*(Sc t p-w*Vc u p)=Vc u p ↔ 2*(gW t u-w*tw p)=tw p:=by
  rw[<- XZ hV,<- k,<- tI,<- XZ hp,sk (tw p)]
 have a3:2*(Sc t p-w*Vc u p)<Vc u p ↔ 2*(gW t u-w*tw p)<tw p:=by
  rw[<- yW hV,<- k,<- pC,<- yW hp,sk (tw p)]
 rw[<- a1,<- a2,<- a3]
 split<;>lia
def j4(n:Nat)(r:Rat):Int×Int:=JZ n r.num r.den
theorem den_pos(r:Rat):(0:Int)<r.den:=by have:=r.den_nz;lia
theorem num_pos:0<r.num ↔ 0<r:=by rw[Rat.lt_iff];simp
theorem JC(w p:Int):ko (-w) p=qP (ko w p):=by rw[U3];rfl
theorem J0(x:Int×Int):qP (qP x)=x:=by unfold qP;simp
theorem UV(n:Nat)(t u:Int):JZ n (-t) u=qP (JZ n t u):=by
 unfold JZ;rcases tZ t 0 with h|h|h
 ·rw[if_neg (by lia),if_neg (by lia),if_neg (by lia),if_pos h,JC,J0]
 ·subst h;simp[qP]
 ·rw[if_neg (by lia),if_pos (by lia),if_neg (by lia),if_neg (by lia),Int.neg_neg,JC]
theorem xf(n:Nat)(r:Rat):j4 n (-r)=qP (j4 n r):=by
 unfold j4;rw[Rat.neg_num,Rat.neg_den,UV]
theorem xw(n:Nat):j4 n 0=(0,0):=by unfold j4 JZ;simp
theorem xi(hn:1<=n)(h:0<r):∃W p,NearR n r W p/\j4 n r=ko W p:=by
 have h1:0<r.num:=num_pos.mpr h;refine⟨Xx n r.num r.den,kF n r.num r.den,?_,?_⟩
 ·have:=jbd hn h1 (den_pos r);rw[<- rat_eq]at this;exact this
 ·unfold j4 JZ;rw[if_neg (by lia),if_neg (by lia)]
theorem jaw(hn:1<=n)(h:0<r)(k:NearR n r W p):j4 n r=ko W p:=by
 obtain⟨W',p',k',e⟩:=xi hn h;obtain⟨rfl,rfl⟩:=k.unique hn k';exact e
theorem yG{s:Rat}(hn:1<=n)(h0:0<r)(h:r<=s):vr (j4 n r)<=vr (j4 n s):=by
 obtain⟨W,p,k,e⟩:=xi hn h0;obtain⟨W',p',k',e'⟩:=xi (r:=s) hn (by grind);rw[e,e',xZ,xZ];exact k.mono hn k' h
theorem vd(hn:1<=n)(h:0<r):0<vr (j4 n r):=by
 obtain⟨W,p,k,e⟩:=xi hn h;have b:=k.bound;have:=two_pow_pos (n-1);rw[e,xZ];exact jdL (by exact_mod_cast (show 0<W by lia)) (ka p)
theorem Yx{s:Rat}(hn:1<=n)(h:r<=s):vr (j4 n r)<=vr (j4 n s):=by
 rcases uY 0 r with z|z
 ·exact yG hn z h
 ·rcases uY s 0 with y|y
  ·have:=yG (n:=n) (r:=-s) (s:=-r) hn (by grind) (by grind);rw[xf,xf,yA,yA]at this
   grind
  ·have h1:vr (j4 n r)<=0:=by
    by_cases e:r=0
    ·subst e;rw[xw];simp[vr]
    ·have:=vd (n:=n) (r:=-r) hn (by grind);rw[xf,yA]at this
     grind
   have h2:0<=vr (j4 n s):=by
    by_cases e:s=0
    ·subst e;rw[xw];simp[vr]
    ·have:=vd (n:=n) (r:=s) hn (by grind)
     grind
   grind
variable{x:Int×Int}
theorem uy(hn:1<=n)(h:Num n x.1 x.2):j4 n (vr x)=x:=by
 have pos:∀m p:Int,0<m->m%2=1->m.natAbs<2^n->j4 n (vr (m,p))=(m,p):=by
  intro m p hm ho hs;obtain⟨m1,m2⟩:=yU hm;have bm:=Jx (show m≠0 by lia);have bn:bits m<=n:=jk.mpr hs
  obtain⟨k,hk⟩:∃k:Nat,bits m+k=n:=⟨n-bits m,by lia⟩
  have hkp:=two_pow_pos k
  have e:vr (m,p)=((m*2^k:Int):Rat)*tw (p-k):=by
   have h1:=j7 (p-k) k;rw[show p-(k:Int)+k=p by lia]at h1;unfold vr;simp only[];rw[h1,bY];grind
  have tp:=ka (p-k)
  have c:NearR n (vr (m,p)) (m*2^k) (p-k):=by
   refine⟨m*2^k,⟨?_,?_,?_,?_⟩,.inl ⟨rfl,.inl ?_⟩⟩
   ·rw[show n-1=(bits m-1)+k by lia,m7];exact gS m1 (by lia)
   ·rw[<- hk,m7];exact jcs m2 hkp
   ·rw[e];exact je3
   ·rw[e];grind
   ·rw[e];grind
  have hv:0<vr (m,p):=jdL (by exact_mod_cast hm) (ka p);rw[jaw hn hv c,kJ ho];simp only[wG,true_and];lia
 obtain⟨m,p⟩:=x;obtain⟨ho,hs⟩:=h;simp only[]at ho hs;rcases ho with ho|⟨rfl,rfl⟩
 ·rcases tZ m 0 with z|z|z
  ·have:=pos (-m) p (by lia) (by lia) (by lia);have e:vr (-m,p)=-vr (m,p):=yA (m,p);rw[e,xf]at this;rw[<- J0 (j4 n (vr (m,p))),this];simp[qP]
  ·lia
  ·exact pos m p z ho hs
 ·have:vr (0,0)=0:=by simp[vr]
  rw[this,xw]
theorem Vz(h1:0<=W)(h2:W<=2^n)(hn:1<=n):Num n (ko W p).1 (ko W p).2:=by
 by_cases h0:W=0
 ·subst h0;rw[zo];exact⟨.inr ⟨rfl,rfl⟩,gR n⟩
 ·rcases jes h2 with z|z
  ·have hw:W.natAbs<2^n:=by
    have:((2^n:Nat):Int)=2^n:=by simp
    lia
   exact(xt W p).num hw
  ·have e:W=1*2^n:=by lia
   rw[e,kJ (by decide)];exact⟨.inl (by show (1:Int)%2=1;decide),by have:=jdz (a:=2) (by decide) (show 0<n by lia);simpa using this⟩
structure OkN (n:Nat) (M:Int) (x:Int×Int):Prop where
 num:Num n x.1 x.2
 lo:-M<=x.2
 hi:x.2<=M
theorem OkN.neg{M:Int}(h:OkN n M x):OkN n M (qP x):=by
 obtain⟨⟨ho,hs⟩,h1,h2⟩:=h;exact⟨⟨by unfold qP;simp only[];lia,by unfold qP;simp only[];lia⟩,h1,h2⟩
theorem gcd_odd(h:w%2=1):gY w (2^n)=1:=by
 have:je4 w.natAbs (2^n):=Nat.Coprime.pow_right n (by
  have:w.natAbs%2=1:=by lia
  unfold je4
  rw[jco,je0,this];rfl)
 show jeA w.natAbs (2^n:Int).natAbs=1;rw[nY];exact this
theorem rq_of{b:Int}(hb:0<b)(hg:gY a b=1):.tup [.int a,.int b]=rq (gW a b):=by
 unfold rq;rw[jdK,jcC,if_neg (by lia),jdj hb,jcK,Int.gcd_comm,hg];simp;lia
theorem jas(h:Num n x.1 x.2):.tup [.int (if x.2<0 then x.1 else x.1*2^x.2.toNat),.int (if x.2<0 then 2^(-x.2).toNat else 1)]=rq (vr x):=by
 obtain⟨w,p⟩:=x;simp only[]at h ⊢;by_cases hp:p<0
 ·simp only[hp,if_true]
  have ho:w%2=1:=by rcases h.odd with z|z<;>lia
  rw[rq_of (two_pow_pos _) (gcd_odd ho)];congr 1;have hq:=two_pow_pos (-p).toNat
  have hQ:(0:Rat)<((2^(-p).toNat:Int):Rat):=by exact_mod_cast hq
  refine(XZ hQ).mp ?_;rw[QF hq];have e:=QT p;rw[show p.toNat=0 by lia]at e;unfold vr;simp only[];rw[jd6,sk (tw p),e];simp
 ·simp only[hp,if_false];rw[rq_of (by decide) (by simp)];congr 1
  obtain⟨k,rfl⟩:∃k:Nat,p=k:=⟨p.toNat,by lia⟩
  unfold vr;simp only[];rw[Yp,bZ,<- bY];have h:=QF (t:=w*2^k) (u:=1) (by decide);rw[<- h];have e1:((1:Int):Rat)=1:=rfl;rw[e1,Rat.mul_one]
theorem dep_nq(x:Int×Int):qv (nq x)=1:=by simp[nq,QE,uG,uR,vk]
theorem VR{E:XD->Prop}(h:u≠0)(hb:bits u<=9000):xG.wp [.int t,.int u] Q E ↔ Q (rq (gW t u)):=by
 unfold Ctr.wp xG;simp only[];exact⟨λw=>w.2.1 _ rfl,λq=>⟨⟨h,hb⟩,λd e=>by rw[e];exact q,λx z=>z.elim⟩⟩
theorem jba(p q:Int):tw (p+q)=tw p*tw q:=by unfold tw;exact Rat.zpow_add V4 ..
theorem zA(p:Int):tw (-p)*tw p=1:=by rw[<- jba,show -p+p=0 by lia,qX]
def YH(x:Int×Int):Prop:=x.1%2=1\/(x.1=0/\x.2=0)
theorem YH.num(h:YH x):∃n,1<=n/\∀m,n<=m->Num m x.1 x.2:=by
 refine⟨bits x.1+1,by lia,λm hm=>⟨h,?_⟩⟩;exact jk.mp (by lia)
theorem YS{y:Int×Int}(hx:YH x)(hy:YH y)(e:vr x=vr y):x=y:=by
 obtain⟨n,n1,h1⟩:=hx.num;obtain⟨m,m1,h2⟩:=hy.num;have f1:=uy (n:=n+m) (by lia) (h1 _ (by lia));have f2:=uy (n:=n+m) (by lia) (h2 _ (by lia));rw[<- f1,<- f2,e]
theorem KA(w p:Int):YH (ko w p):=by
 have b:=xt w p;by_cases h:w=0
 ·exact .inr (b.nought h)
 ·obtain⟨v,_,_,ho⟩:=b.same h;exact .inl ho
def dq(v:Rat):Int×Int:=ko v.num (-(v2 v.den:Int))
theorem dq_of(h:YH x):dq (vr x)=x:=by
 obtain⟨n,_,hn⟩:=h.num;have e:=jas (hn n (bV _));unfold rq at e;simp only[D.tup.injEq,bO,D.int.injEq,and_true]at e;obtain⟨e1,e2⟩:=e;obtain⟨w,p⟩:=x;simp only[]at e1 e2;unfold dq;rw[<- e1];by_cases hp:p<0
 ·rw[if_pos hp]at e2 ⊢
  have ho:w%2=1:=by
   rcases h with h|h
   ·exact h
   ·simp only[]at h;lia
  have e3:(vr (w,p)).den=2^(-p).toNat*1:=by
   have:(((vr (w,p)).den:Nat):Int)=((2^(-p).toNat:Nat):Int):=by rw[<- e2];simp
   lia
  rw[e3,Yy (by decide)];have:=kJ ho 0 (-(((-p).toNat:Nat):Int));rw[Int.pow_zero,Int.mul_one]at this;rw[this];simp only[wG,true_and];lia
 ·rw[if_neg hp]at e2 ⊢
  have e3:(vr (w,p)).den=1:=by lia
  rw[e3,jbO (by decide)];rcases h with h|h
  ·simp only[]at h;rw[kJ h];simp only[wG,true_and];lia
  ·simp only[]at h;rw[h.1,h.2];simp[ko]
theorem KI(w p:Int):ko w p=dq (w*tw p):=by
 rw[<- xZ,dq_of (KA w p)]
theorem jaF(hn:1<=n):Num n (j4 n r).1 (j4 n r).2:=by
 have pos:∀r:Rat,0<r->Num n (j4 n r).1 (j4 n r).2:=λr h=>by
  obtain⟨W,p,k,e⟩:=xi hn h;rw[e];have:=two_pow_pos (n-1);exact Vz (by have:=k.bound;lia) k.bound.2 hn
 rcases uY 0 r with y|y
 ·exact pos r y
 ·by_cases h0:r=0
  ·subst h0;rw[xw];exact⟨.inr ⟨rfl,rfl⟩,gR n⟩
  ·have:=pos (-r) (by grind);rw[xf]at this;obtain⟨ho,hs⟩:=this;unfold qP at ho hs;simp only[]at ho hs;exact⟨by lia,by lia⟩
theorem rabs_le{a b:Rat}(h1:-b<=a)(h2:a<=b):a.abs<=b:=by
 unfold jft;split<;>grind
theorem QM(a:Rat):(-a).abs=a.abs:=by unfold jft;split<;>split<;>grind
theorem uu{a:Rat}(h:0<=a):a.abs=a:=by unfold jft;rw[if_pos h]
theorem NearR.half(c:NearR n r W p):2*(r-W*tw p).abs<=tw p:=by
 obtain⟨w,c,h⟩:=c.ex;have h1:=c.le;have h2:=c.lt;have tp:=ka p;rcases h with⟨e,h⟩|⟨e,h⟩
 ·subst e;rw[uu (by grind)]
  grind
 ·subst e
  have e1:((w+1:Int):Rat)=w+1:=by grind
  rw[<- QM,uu (by rw[e1];grind),e1]
  grind
variable{k:Int}
theorem qV{d:Nat}:((k*2^d:Int):Rat)*tw m=k*tw (m+d):=by
 rw[j7,bY];grind
theorem tw_cmp{b:Int}:(a:Rat)*tw m<b*tw m ↔ a<b:=by rw[yW (ka m)];exact pC
theorem kI{b:Int}:(a:Rat)*tw m<=b*tw m ↔ a<=b:=by rw[JG (ka m)];exact jdk
theorem vf(j m:Int):((j:Rat)*tw m).abs=((j.natAbs:Int):Rat)*tw m:=by
 have tp:=ka m;rcases jct 0 j with h|h
 ·have e:(j.natAbs:Int)=j:=by lia
  have:(0:Rat)<=j:=by exact_mod_cast h
  rw[uu,e];have:=qR this tp
  grind
 ·have e:(j.natAbs:Int)=-j:=by lia
  have:(j:Rat)<=0:=by exact_mod_cast h
  have:=qR this tp;rw[<- QM,uu (by grind),e,pI];grind
theorem rest_of{N:Nat}(hn:1<=n)(hk:k.natAbs<2^N):∃j:Int,(k:Rat)*tw m-vr (j4 n (k*tw m))=j*tw m/\2*j.natAbs*2^n<=2^N:=by
 have pos:∀k:Int,0<k->k.natAbs<2^N->∃j:Int,(k:Rat)*tw m-vr (j4 n (k*tw m))=j*tw m/\2*j.natAbs*2^n<=2^N:=by
  intro k h0 hk;have tm:=ka m;have hv:(0:Rat)<k*tw m:=jdL (by exact_mod_cast h0) tm;obtain⟨W,p,kk,e⟩:=xi hn hv;have hh:=kk.half;have bd:=kk.bound;obtain⟨w,c,alt⟩:=kk.ex;have c1:=c.le;have c2:=c.lt;rw[e,xZ];rcases jct p m with hp|hp
  ·obtain⟨d,rfl⟩:∃d:Nat,m=p+d:=⟨(m-p).toNat,by lia⟩
   rw[<- qV]at *;have l1:=kI.mp c1
   have e3:((w:Rat)+1)=((w+1:Int):Rat):=by grind
   rw[e3]at c2;have l2:=tw_cmp.mp c2
   have ew:k*2^d=w:=by lia
   rw[ew]at alt ⊢;have tp:=ka p;refine⟨0,?_,by simp⟩;rcases alt with⟨rfl,alt⟩|⟨rfl,alt⟩
   ·have:((0:Int):Rat)=0:=rfl;rw[this];grind
   ·exfalso
    rcases alt with z|⟨z,_⟩<;>grind
  ·obtain⟨d,rfl⟩:∃d:Nat,p=m+d:=⟨(p-m).toNat,by lia⟩
   have e1:(W:Rat)*tw (m+d)=((W*2^d:Int):Rat)*tw m:=qV.symm
   have e2:(k:Rat)*tw m-W*tw (m+d)=((k-W*2^d:Int):Rat)*tw m:=by rw[e1,jch];grind
   refine⟨k-W*2^d,e2,?_⟩;rw[e2,vf]at hh
   have e4:tw (m+d)=((2^d:Int):Rat)*tw m:=by rw[j7];grind
   rw[e4]at hh
   have e5:2*((((k-W*2^d).natAbs:Int):Rat)*tw m)=((2*((k-W*2^d).natAbs:Int):Int):Rat)*tw m:=by rw[bY];grind
   rw[e5]at hh;have l1:=kI.mp hh;have e6:(w:Rat)*tw (m+d)=((w*2^d:Int):Rat)*tw m:=qV.symm;rw[e6]at c1;have l2:=kI.mp c1;have l3:=c.lo;have k1:(2:Int)^(n-1)*2^d<=w*2^d:=gS l3 (pZ (two_pow_pos d))
   have k2:(2:Int)^(n-1+d)<2^N:=by
    rw[m7]
    have:((k.natAbs:Nat):Int)<((2^N:Nat):Int):=by exact_mod_cast hk
    have e7:((2^N:Nat):Int)=2^N:=by simp
    lia
   have k3:n-1+d<N:=by
    have:(2:Nat)^(n-1+d)<2^N:=by exact_mod_cast k2
    exact(jcS (by decide)).mp this
   have k4:2*(k-W*2^d).natAbs<=2^d:=by
    have e7:((2^d:Nat):Int)=2^d:=by simp
    lia
   calc 2*(k-W*2^d).natAbs*2^n<=2^d*2^n:=mQ _ k4
    _=2^(d+n):=(jdy ..).symm
    _<=2^N:=mB (by decide) (by lia)
 rcases tZ k 0 with h|h|h
 ·obtain⟨j,e,hj⟩:=pos (-k) (by lia) (by lia);refine⟨-j,?_,by rw[Int.natAbs_neg];exact hj⟩
  have e1:((-k:Int):Rat)*tw m=-(k*tw m):=by rw[pI];grind
  rw[e1,xf,yA]at e;rw[pI];grind
 ·subst h;refine⟨0,?_,by simp⟩
  have e0:((0:Int):Rat)*tw m=0:=by grind
  rw[e0,xw]
  have:vr (0,0)=0:=by simp[vr]
  rw[this];grind
 ·exact pos k h hk
theorem vr_up(h:m<=p):vr (w,p)=((w*2^(p-m).toNat:Int):Rat)*tw m:=by
 obtain⟨d,rfl⟩:∃d:Nat,p=m+d:=⟨(p-m).toNat,by lia⟩
 rw[show (m+(d:Int)-m).toNat=d by lia,qV];rfl
end Z
set_option exponentiation.threshold 3000
namespace Z
open PySem
variable{x y:Int×Int}
theorem V0(h:nq x=nq y):x=y:=by
 obtain⟨a,b⟩:=x;obtain⟨c,d⟩:=y;simp only[nq,D.tup.injEq,bO,D.int.injEq,and_true]at h;rw[h.1,h.2]
variable{Q:D->Prop}
theorem yF(x:Int×Int):ixD (nq x) (.int 0) Q=Q (.int x.1):=by
 unfold nq;rw[ix_tup];simp[XN]
theorem yo(x:Int×Int):ixD (nq x) (.int 1) Q=Q (.int x.2):=by
 unfold nq;rw[ix_tup];simp[jad]
theorem mk_nq(a b:Int):D.tup [.int a,.int b]=nq (a,b):=rfl
def wOk(n:Int):Prop:=8<=n/\n<=64
def farOk(x:Int×Int):Prop:=(-100000<=x.2/\x.2<=100000)/\bits x.1<=100000
def jcb(x y:Int×Int)(n:Int):Prop:=wOk n/\((-20000<=x.2/\x.2<=20000)/\(-20000<=y.2/\y.2<=20000))/\bits x.1<=2200/\bits y.1<=2200
theorem jcb.bits{n:Int}(h:jcb x y n):bits (x.1*y.1)<=4400:=by
 have:=kc x.1 y.1;have:=h.2.2;lia
end Z
set_option exponentiation.threshold 3000
namespace Z
open PySem
theorem jq{α:Type}{f:D->(D->Prop)->Prop}{g h:α->D}:∀ {l:List α} {Q:List D->Prop},(∀a∈l,∀Q,f (g a) Q ↔ Q (h a))->(kN f (l.map g) Q ↔ Q (l.map h))
 |[],Q,_=>by simp[kN]
 |a::l,Q,k=>by
  rw[bz,kN,k a (bB ..),jq λb hb=>k b (bo _ hb)];rfl
theorem pick_le(a b:Int):yR false a b<=a/\yR false a b<=b/\(yR false a b=a\/yR false a b=b):=by
 unfold yR;simp only[dF,if_false];split<;>lia
theorem ZU:∀(ns:List Int) (m:Int),ns.foldl (yR false) m<=m/\(∀x∈ns,ns.foldl (yR false) m<=x)/\(ns.foldl (yR false) m=m\/ns.foldl (yR false) m∈ns)
 |[],m=>by simp
 |n::ns,m=>by
  have p:=pick_le m n;obtain⟨h1,h2,h3⟩:=ZU ns (yR false m n);rw[w5];refine⟨by lia,λx hx=>?_,?_⟩
  ·rcases bD.mp hx with rfl|hx
   ·lia
   ·exact h2 x hx
  ·rcases h3 with z|z
   ·rcases p.2.2 with q|q
    ·left;lia
    ·right;rw[z,q];exact bB ..
   ·right;exact bo _ z
theorem Ql{d:Int}{ns:List Int}:(∀x∈ns,mmF false d ns<=x)/\(mmF false d ns∈ns\/(ns=[]/\mmF false d ns=d)):=by
 cases ns with
 |nil=>exact⟨λx hx=>absurd hx (by simp),Or.inr ⟨rfl,rfl⟩⟩
 |cons n ns =>
  obtain⟨h1,h2,h3⟩:=ZU ns n;refine⟨λx hx=>?_,Or.inl ?_⟩
  ·rcases bD.mp hx with rfl|hx
   ·exact h1
   ·exact h2 x hx
  ·rcases h3 with z|z
   ·show ns.foldl (yR false) n∈_;rw[z];exact bB ..
   ·exact bo _ z
theorem vN{xs ys:List (Int×Int)}(h:[D.lst (xs.map nq)]=[D.lst (ys.map nq)]):xs=ys:=by
 simp only[bO,D.lst.injEq,and_true]at h;exact kx (λa b h=>V0 h) h
end Z
set_option exponentiation.threshold 3000
namespace Z
open PySem
variable{c:Int}
theorem Zz{C:Cfg}{c:Ex}{a b:Sm}{K:DE}{σ:Sto}(hc:wpE C c σ λd=>d=.bl false)(h:wpS C b K σ):wpS C (.seq (.ite c a .nop) b) K σ:=by
 rw[jI,kC];refine ja c (λd e=>?_) hc;subst e;rw[jbU,if_neg (by decide),xN];exact h
variable{w:Int}
section
variable {Q:D->Prop} {E:XD->Prop}
theorem Qz{p:Int}(h:bits w<=9000):xC.wp [.int w,.int p] Q E ↔ Q (nq (dq (w*tw p))):=by
 unfold Ctr.wp xC;simp only[];constructor
 ·intro ⟨_,q,_⟩;rw[<- KI];exact q _ ⟨_,_,rfl,xt w p⟩
 ·intro q;refine⟨h,?_,λ_ z=>z.elim⟩;rintro d ⟨w',p',rfl,hb⟩;rw[mk_nq,hb.eq,KI];exact q
end
variable{k:Int}
theorem yV{k:Nat}:bits (w*2^k)<=bits w+k:=by
 by_cases h:w=0
 ·subst h
  have:bits 0=0:=by decide
  rw[jeI];lia
 ·rw[jk,mr,nY,jdy];exact Nat.mul_lt_mul_of_pos_right (jk.mp (bV _)) (gR k)
variable{n:Nat}{M:Int}{x:Int×Int}
theorem OkN.bits(h:OkN n M x):bits x.1<=n:=jk.mpr h.num.sz
theorem Ji:∀d:D,eqD d d=true:=by
 intro d;refine D.rec (motive_1:=λd=>eqD d d=true) (motive_2:=λds=>xO ds ds=true) ?_ ?_ ?_ ?_ ?_ ?_ ?_ ?_ d
 ·simp[eqD]
 ·intro b;simp[eqD]
 ·intro i;simp[eqD]
 ·intro x;simp[eqD]
 ·intro xs h;simpa[eqD]using h
 ·intro xs h;simpa[eqD]using h
 ·simp[xO]
 ·intro h t a b;simp[xO,a,b]
theorem OkN.far(h:OkN n M x)(hn:n<=64)(hM:M<=100000):farOk x:=by
 have:=h.bits;have:=h.lo;have:=h.hi;exact⟨⟨by lia,by lia⟩,by lia⟩
theorem jaJ{z:Int×Int}{j m:Int}(hz:YH z)(e:vr z=j*tw m):m<=z.2\/z=(0,0):=by
 have h:z=ko j m:=YS hz (KA _ _) (by rw[xZ,e]);rw[h];have b:=xt j m;by_cases h0:j=0
 ·right;subst h0;exact zo m
 ·obtain⟨v,_,ep,_⟩:=b.same h0;left;lia
variable{ns:List Int}
section
variable {Q:D->Prop} {E:XD->Prop}
theorem jah(hl:ns.length<=63)(hk:0<=k):zK.wp [.lst (ns.map .int),.int k] Q E ↔ ∀n:Nat,8<=n->n<=64->Q (.int n):=by
 unfold Ctr.wp zK;constructor
 ·intro w n h1 h2;exact w.2.1 _ ⟨n,rfl,by lia,by lia⟩
 ·intro q;refine⟨⟨ns,k,rfl,hl,hk⟩,?_,λ_ z=>z.elim⟩;rintro d ⟨i,rfl,h1,h2⟩
  obtain⟨n,rfl⟩:∃m:Nat,i=m:=⟨i.toNat,by lia⟩
  exact q n (by lia) (by lia)
theorem Zl(hl:ns.length<=63)(hk:0<=k):yu.wp [.lst (ns.map .int),.int k] Q E ↔ ∀c:Int,Q (.int c):=by
 unfold Ctr.wp yu;constructor
 ·intro w c;exact w.2.1 _ ⟨c,rfl⟩
 ·intro q;refine⟨⟨ns,k,rfl,hl,hk⟩,?_,λ_ z=>z.elim⟩;rintro d ⟨c,rfl⟩;exact q c
theorem vS:kL.wp [.int c,.int k] Q E ↔ ∀m:Int,0<=m->m<340282366920938463463374607431768211297->Q (.int m):=by
 unfold Ctr.wp kL;simp only[];constructor
 ·intro w m h1 h2;exact w.2.1 _ ⟨m,rfl,h1,h2⟩
 ·intro q;refine⟨trivial,?_,λ_ z=>z.elim⟩;rintro d ⟨m,rfl,h1,h2⟩;exact q m h1 h2
theorem UT{far:Int}(h1:8<=n)(h2:n<=64)(f1:1<=far)(f2:far<=5000):xB.wp [.int c,.int k,.int n,.int far] Q E ↔ ∀x:Int×Int,OkN n (far+63) x->-far<=x.2->Q (nq x):=by
 unfold Ctr.wp xB;simp only[bZ];constructor
 ·intro w x hx hf;exact w.2.1 _ ⟨x.1,x.2,rfl,hx.num,hf,by have:=hx.hi;lia⟩
 ·intro q;refine⟨⟨by lia,f1,f2⟩,?_,λ_ z=>z.elim⟩;rintro d ⟨x,p,rfl,hx,p1,p2⟩;exact q (x,p) ⟨hx,by simp only[];lia,by simp only[];lia⟩ p1
end
end Z
set_option exponentiation.threshold 3000
namespace Z
open PySem
end Z
set_option exponentiation.threshold 3000
namespace Z
open PySem
def Rep(n:Nat)(v:Rat):Prop:=∃z:Int×Int,Num n z.1 z.2/\vr z=v
def rn(n:Nat)(v:Rat):Rat:=vr (j4 n v)
section
variable {n:Nat} {u v x y:Rat}
theorem Rep.neg(h:Rep n v):Rep n (-v):=by
 obtain⟨z,⟨ho,hs⟩,e⟩:=h;exact⟨qP z,⟨by unfold qP;simp only[];lia,by unfold qP;simp only[];lia⟩,by rw[yA,e]⟩
theorem jaL(hn:1<=n)(h:Rep n v):rn n v=v:=by
 obtain⟨z,hz,e⟩:=h;unfold rn;rw[<- e,uy hn hz]
theorem Z1(hn:1<=n)(h:u<=v):rn n u<=rn n v:=Yx hn h
theorem rn_le(hn:1<=n)(h:u<=v)(r:Rep n v):rn n u<=v:=by have:=Z1 hn h;rwa [jaL hn r]at this
theorem le_rn(hn:1<=n)(h:u<=v)(r:Rep n u):u<=rn n v:=by have:=Z1 hn h;rwa [jaL hn r]at this
end
theorem tw_lt{p q:Int}(h:tw p<=tw q):p<=q:=by
 rcases tY q p with z|z
 ·have:=JP (show q+1<=p by lia);rw[uq]at this;have:=ka q;exfalso;grind
 ·exact z
variable{n:Nat}
theorem rep_tw(hn:1<=n)(p:Int):Rep n (tw p):=⟨(1,p),⟨.inl (show (1:Int)%2=1 by decide),by
 have:2^1<=2^n:=mB (by decide) hn
 simp only[];lia⟩,by unfold vr;simp⟩
structure Box (n:Nat) (M H:Int) (x:Int×Int):Prop where
 ok:OkN n M x
 lo:-tw H<=vr x
 hi:vr x<=tw H
variable{M H:Int}{x:Int×Int}
theorem Box.neg(h:Box n M H x):Box n M H (qP x):=⟨h.ok.neg,by rw[yA];have:=h.hi;grind,by rw[yA];have:=h.lo;grind⟩
theorem okn_box(h:OkN n M x)(hH:M+n<=H):Box n M H x:=by
 have hs:=h.num.sz;have hp:=h.hi;have tp:=ka x.2
 have e:tw (x.2+n)=((2^n:Int):Rat)*tw x.2:=by rw[j7];grind
 have l1:=JP (show x.2+n<=H by lia)
 have pn:((2^n:Nat):Int)=2^n:=by simp
 have l2:(x.1:Rat)*tw x.2<=((2^n:Int):Rat)*tw x.2:=kI.mpr (by lia);have l3:((-2^n:Int):Rat)*tw x.2<=(x.1:Rat)*tw x.2:=kI.mpr (by lia)
 have e2:((-2^n:Int):Rat)*tw x.2=-(((2^n:Int):Rat)*tw x.2):=by rw[pI];grind
 exact⟨h,by unfold vr;grind,by unfold vr;grind⟩
end Z
set_option exponentiation.threshold 3000
namespace Z
open PySem
def xP(i_law_number i_law_drawn i_law_bare:Nat):Sm :=
 (.seq (.set 3 (.ix (.call i_law_number [(.var 0),(.var 1),(.var 2),(.cst (.int 9))]) (.cst (.int 0))))
 (.seq (.set 4 (.bin .sub (.bin .mod (.call i_law_drawn [(.var 0),(.bin .add (.var 1) (.cst (.int 977)))]) (.cst (.int 120))) (.cst (.int 60))))
 (.seq (.ite (.cmp .eq (.var 3) (.cst (.int 0))) (.seq (.ret (.tup [(.cst (.int 0)),(.cst (.int 0))]))
  .nop) .nop)
 (.seq (.ite (.and (.cmp .eq (.var 4) (.cst (.int 59))) (.cmp .eq (.bi .abs [(.var 3)]) (.cst (.int 1)))) (.seq (.ret (.tup [(.var 3),(.cst (.int 60))]))
  .nop) .nop)
 (.seq (.ret (.call i_law_bare [(.var 3),(.bin .add (.bin .sub (.var 4) (.meth .bitlen (.var 3))) (.cst (.int 1)))]))
 .nop)))))
def uO(i_law_cell i_law_drawn i_law_measure i_law_bare:Nat):Sm :=
 (.seq (.new 4)
 (.seq (.forR 5 [(.var 2)] (.seq (.set 6 (.call i_law_cell [(.var 0),(.bin .add (.var 1) (.var 5))]))
  (.seq (.set 7 (.call i_law_drawn [(.var 6),(.bin .add (.bin .add (.var 1) (.var 5)) (.cst (.int 5000)))]))
  (.seq (.set 8 (.call i_law_measure [(.var 6),(.bin .add (.var 1) (.var 5)),(.var 3)]))
  (.seq (.ite (.and (.cmp .gt (.var 5) (.cst (.int 0))) (.cmp .lt (.bin .mod (.var 7) (.cst (.int 5))) (.cst (.int 2)))) (.seq (.set 9 (.oix 4 (.bin .mod (.bin .fdiv (.var 7) (.cst (.int 5))) (.var 5))))
   (.seq (.ite (.cmp .eq (.bin .mod (.var 7) (.cst (.int 5))) (.cst (.int 0))) (.seq (.set 8 (.ix (.lst [(.tup [(.bin .sub (.cst (.int 0)) (.ix (.var 9) (.cst (.int 0)))),(.ix (.var 9) (.cst (.int 1)))]),(.var 9)]) (.bin .mod (.bin .fdiv (.var 7) (.cst (.int 400))) (.cst (.int 2)))))
    .nop) (.seq (.ite (.and (.cmp .ne (.ix (.var 9) (.cst (.int 0))) (.cst (.int 0))) (.cmp .ne (.ix (.var 8) (.cst (.int 0))) (.cst (.int 0)))) (.seq (.set 10 (.bi .max [(.neg (.cst (.int 60))),(.bi .min [(.cst (.int 59)),(.bin .sub (.bin .add (.meth .bitlen (.ix (.var 9) (.cst (.int 0)))) (.ix (.var 9) (.cst (.int 1)))) (.cst (.int 1)))])]))
     (.seq (.set 8 (.call i_law_bare [(.ix (.var 8) (.cst (.int 0))),(.bin .add (.bin .sub (.var 10) (.meth .bitlen (.ix (.var 8) (.cst (.int 0))))) (.cst (.int 1)))]))
     .nop)) .nop)
    .nop))
   .nop)) .nop)
  (.seq (.app 4 (.var 8))
  .nop))))))
 (.seq (.shr 4)
 (.seq (.ret (.var 4))
 .nop))))
structure Meas (n:Nat) (x:Int×Int):Prop where
 num:Num n x.1 x.2
 at_:(x.1=0/\x.2=0)\/(-60<=x.2+bits x.1-1/\x.2+bits x.1<=61)
variable{n:Nat}{x:Int×Int}
theorem Meas.ok(h:Meas n x)(hn:n<=64):OkN n 130 x:=by
 have:=jk.mpr h.num.sz;exact⟨h.num,by rcases h.at_ with z|z<;>lia,by rcases h.at_ with z|z<;>lia⟩
theorem Meas.neg(h:Meas n x):Meas n (qP x):=by
 obtain⟨⟨ho,hs⟩,ha⟩:=h;refine⟨⟨by unfold qP;simp only[];lia,by unfold qP;simp only[];lia⟩,?_⟩;unfold qP;simp only[xm];lia
theorem ZZ{w q:Int}(ho:w%2=1)(hs:w.natAbs<2^n)(q1:-60<=q)(q2:q<=59):Meas n (dq (w*tw (q-bits w+1))):=by
 have e:dq (w*tw (q-bits w+1))=(w,q-bits w+1):=by
  have:=dq_of (x:=(w,q-bits w+1)) (.inl ho);exact this
 rw[e];exact⟨⟨.inl ho,hs⟩,.inr ⟨by simp only[];lia,by simp only[];lia⟩⟩
def xg:Ctr where
 pre ds:=∃c k n:Int,ds=[.int c,.int k,.int n]/\wOk n
 res ds d:=∀c k n:Int,ds=[.int c,.int k,.int n]->∃x,d=nq x/\Meas n.toNat x
variable{c k:Int}{Q:D->Prop}{E:XD->Prop}
theorem Zd(h1:8<=n)(h2:n<=64):xg.wp [.int c,.int k,.int n] Q E ↔ ∀x,Meas n x->Q (nq x):=by
 unfold Ctr.wp xg;constructor
 ·intro w x hx
  refine w.2.1 _ λc' k' n' e=>?_
  simp only[bO,D.int.injEq,and_true]at e;obtain⟨_,_,rfl⟩:=e;exact⟨x,rfl,hx⟩
 ·intro q;refine⟨⟨c,k,n,rfl,by lia,by lia⟩,λd hd=>?_,λ_ z=>z.elim⟩;obtain⟨x,rfl,hx⟩:=hd c k n rfl;exact q x hx
theorem yX(h:Meas n x):xg.res [.int c,.int k,.int n] (nq x):=by
 intro c' k' n' e;simp only[bO,D.int.injEq,and_true]at e;obtain⟨_,_,rfl⟩:=e;exact⟨x,rfl,h⟩
theorem meas0(n:Nat):Meas n (0,0):=⟨⟨.inr ⟨rfl,rfl⟩,gR n⟩,.inl ⟨rfl,rfl⟩⟩
variable{i1 i2 i3:Nat}
theorem U1{C:Cfg}(h1:C.ct i1=xB)(h2:C.ct i2=kL)(h3:C.ct i3=xC):jQ C 5 (xP i1 i2 i3) xg:=by
 rintro ds ⟨c,k,n,rfl,w1,w2⟩
 obtain⟨n,rfl⟩:∃m:Nat,n=m:=⟨n.toNat,by lia⟩
 have n1:8<=n:=by lia
 have n2:n<=64:=by lia
 have q1:(1:Int)<=9:=by decide
 have q2:(9:Int)<=5000:=by decide
 rw[xP];simp_all! only[h1,UT n1 n2 q1 q2,yF,h2,vS];intro x hx _ m m0 m1;rw[jD (by decide)]
 obtain⟨q,hq,p1,p2⟩:∃q:Int,m%120-60=q /\ -60<=q/\q<=59:=⟨_,rfl,by lia,by lia⟩
 rw[hq];have bx:=hx.bits;refine jV (λσ=>x.1≠0/\σ=[some (.sh (.int c)),some (.sh (.int k)),some (.sh (.int n)),some (.sh (.int x.1)),some (.sh (.int q))]) ?_ ?_
 ·simp_all_arith! only[]
  by_cases h0:x.1=0
  ·rw[if_pos h0];exact yX (meas0 n)
  ·rw[if_neg h0]
   first|exact⟨h0,rfl⟩|exact h0
 rintro σ ⟨h0,rfl⟩
 have ho:x.1%2=1:=by have:=hx.num.odd;lia
 refine jV (λσ=>σ=[some (.sh (.int c)),some (.sh (.int k)),some (.sh (.int n)),some (.sh (.int x.1)),some (.sh (.int q))]) ?_ ?_
 ·simp_all_arith! only[YJ]
  by_cases h1:q=59
  ·rw[if_pos h1];by_cases h2:(x.1.natAbs:Int)=1
   ·rw[if_pos h2];refine yX (x:=(x.1,60)) ⟨⟨.inl ho,hx.num.sz⟩,.inr ?_⟩
    have b1:bits x.1=1:=by
     have:x.1=1\/x.1=-1:=by lia
     rcases this with e|e<;>rw[e]<;>decide
    exact⟨by simp only[];lia,by simp only[];lia⟩
   ·rw[if_neg h2];trivial
  ·rw[if_neg h1];trivial
 rintro σ rfl
 have b9:bits x.1<=9000:=by lia
 simp_all! only[h3,Qz b9];exact yX (ZZ ho hx.num.sz p1 p2)
def QR:Ctr where
 pre ds:=∃(ns:List Int) (s m n:Int),ds=[.lst (ns.map .int),.int s,.int m,.int n]/\ns.length<=63/\0<=s/\(m<=1000)/\(-1000<=m)/\wOk n
 res ds d:=∀(ns:List Int) (s m n:Int),ds=[.lst (ns.map .int),.int s,.int m,.int n]->∃xs:List (Int×Int),d=.lst (xs.map nq)/\xs.length=m.toNat/\∀x∈xs,Meas n.toNat x
theorem wp_row{ns:List Int}{s m:Int}(hl:ns.length<=63)(hs:0<=s)(m1:m<=1000)(m2:-1000<=m)(h1:8<=n)(h2:n<=64) :
 QR.wp [.lst (ns.map .int),.int s,.int m,.int n] Q E ↔ ∀xs:List (Int×Int),xs.length=m.toNat->(∀x∈xs,Meas n x)->Q (.lst (xs.map nq)):=by
 unfold Ctr.wp QR;constructor
 ·intro w xs l hx
  refine w.2.1 _ λns' s' m' n' e=>?_
  simp only[bO,D.int.injEq,and_true]at e;obtain⟨_,_,rfl,rfl⟩:=e;exact⟨xs,rfl,l,hx⟩
 ·intro q;refine⟨⟨ns,s,m,n,rfl,hl,hs,m1,m2,by lia,by lia⟩,λd hd=>?_,λ_ z=>z.elim⟩;obtain⟨xs,rfl,l,hx⟩:=hd ns s m n rfl;exact q xs l hx
theorem nq_get{xs:List (Int×Int)}{i:Int}(h0:0<=i)(h:i<xs.length):∃x∈xs,atD (xs.map nq) i=some (nq x):=by
 have hl:i.toNat<xs.length:=by lia
 refine⟨xs[i.toNat],dH hl,?_⟩;unfold atD;rw[if_pos h0,bW,bE hl];rfl
theorem k_row{C:Cfg}{i4:Nat}(h1:C.ct i1=yu)(h2:C.ct i2=kL)(h3:C.ct i3=xg)(h4:C.ct i4=xC):jQ C 11 (uO i1 i2 i3 i4) QR:=by
 rintro ds ⟨ns,s,m,n,rfl,hl,hs,m1,m2,w1,w2⟩
 obtain⟨n,rfl⟩:∃m:Nat,n=m:=⟨n.toNat,by lia⟩
 have n1:8<=n:=by lia
 have n2:n<=64:=by lia
 rw[uO];simp_all! only[]
 let P:List D->Sto->Prop:=λds σ=>∃(xs:List (Int×Int)) (a b c d e f:Option Sl),(xs.length<=m.toNat/\ds=j3 xs.length 1 (m.toNat-xs.length)/\∀x∈xs,Meas n x) /\
  σ=[some (.sh (.lst (ns.map .int))),some (.sh (.int s)),some (.sh (.int m)),some (.sh (.int n)),some (.ow (xs.map nq)),a,b,c,d,e,f]
 refine jV (P []) ?_ ?_
 ·rw[vq]
  simp_arith only[]
  refine⟨by unfold qO;lia,kS P ⟨[],_,_,_,_,_,_,⟨by simp,by simp,by simp⟩,rfl⟩ ?_ λσ h=>h⟩;rintro d ds σ ⟨xs,a,b,c,dd,e,f,⟨hx,hd,hm⟩,rfl⟩
  have hlt:xs.length<m.toNat:=by
   rcases bU xs.length m.toNat with z|z
   ·exact z
   ·rw[show m.toNat-xs.length=0 by lia]at hd;cases hd
  rw[show m.toNat-xs.length=(m.toNat-(xs.length+1))+1 by lia,j3]at hd;simp only[bO]at hd;obtain⟨rfl,rfl⟩:=hd
  have hk:(0:Int)<=s+xs.length:=by lia
  simp_all! only[h1,Zl hl hk,h2,vS,h3,Zd n1 n2];intro cc r r0 _ x hx';refine jV (λσ=>∃(y:Int×Int) (a b:Option Sl),Meas n y/\σ=[some (.sh (.lst (ns.map .int))),some (.sh (.int s)),some (.sh (.int m)),some (.sh (.int n)),some (.ow (xs.map nq)),some (.sh (.int xs.length)),some (.sh (.int cc)),some (.sh (.int r)),some (.sh (nq y)),a,b]) ?_ ?_
  ·rw[kC];dsimp! only[];have f5:r.fmod 5=r%5:=jD (by decide);rw[f5];by_cases c1:0<(xs.length:Int)
   ·rw[if_pos c1];by_cases c2:r%5<2
    ·rw[if_pos (by simpa using c2)];have e1:r.fdiv 5=r / 5:=ky (by decide);have e2:(r / 5).fmod xs.length=(r / 5)%xs.length:=jD (by lia);have e3:r.fdiv 400=r / 400:=ky (by decide);have e4:(r / 400).fmod 2=r / 400%2:=jD (by decide)
     have b5:bits 5<=9000:=by decide
     have b4:bits 400<=9000:=by decide
     have u0:=g7 (r / 5) (show (xs.length:Int)≠0 by lia);have u1:=gV (r / 5) c1;obtain⟨y,hy,ey⟩:=nq_get u0 u1;have hy':=hm y hy;simp_all! only[e1,e2,b5,ey];refine⟨by lia,?_⟩;rw[jI,kC];dsimp! only[f5];by_cases c3:r%5=0
     ·rw[if_pos c3];simp_all! only[e3,e4,b4,yF,yo,mk_nq];obtain⟨d,e,hd⟩:=z9 (xs:=[nq (0-y.1,y.2),nq y]) (i:=r / 400%2) (by lia) (by simp;lia);refine⟨d,e,?_⟩;simp only[bD,bM,or_false]at hd;rcases hd with rfl|rfl
      ·have ng:(0-y.1,y.2)=qP y:=by unfold qP;rw[jeJ]
       rw[ng];exact⟨qP y,_,_,hy'.neg,rfl⟩
      ·exact⟨y,_,_,hy',rfl⟩
     ·rw[if_neg c3];rw[jI,kC];dsimp! only[yF,yo];by_cases c4:y.1=0
      ·rw[if_neg (by simpa using c4)];simp only[dF,if_false,xN];exact⟨x,_,_,hx',rfl⟩
      ·rw[if_pos (by simpa using c4)];by_cases c5:x.1=0
       ·rw[if_neg (by simpa using c5)];simp only[xN];exact⟨x,_,_,hx',rfl⟩
       ·rw[if_pos (by simpa using c5)];have bx:=(hx'.ok n2).bits
        have b9:bits x.1<=9000:=by lia
        have ho:x.1%2=1:=by have:=hx'.num.odd;lia
        simp_all! only[yF,yo,h4,Qz b9];refine⟨_,_,_,ZZ ho hx'.num.sz ?_ ?_,rfl⟩
        ·split<;>split<;>lia
        ·split<;>split<;>lia
    ·rw[if_neg (by simpa using c2),xN];exact⟨x,_,_,hx',rfl⟩
   ·rw[if_neg c1]
    first|(rw[xN];exact⟨x,_,_,hx',rfl⟩)|(simp only[dF,if_false,xN];exact⟨x,_,_,hx',rfl⟩)
  rintro σ ⟨y,a,b,hy,rfl⟩;simp_all! only[bj];refine⟨by unfold lim;lia,xs ++ [y],_,_,_,_,_,_,⟨by simp;lia,?_,?_⟩,by rw[b6];rfl⟩
  ·simp
  ·intro z hz;rcases dP.mp hz with q|q
   ·exact hm z q
   ·simp only[bD,bM,or_false]at q;subst q;exact hy
 rintro σ ⟨xs,a,b,c,dd,e,f,⟨hx,hd,hm⟩,rfl⟩
 have hlen:xs.length=m.toNat:=by
  rcases bU xs.length m.toNat with z|z
  ·rw[show m.toNat-xs.length=(m.toNat-(xs.length+1))+1 by lia,j3]at hd;cases hd
  ·lia
 simp_all! only[];intro ns' s' m' n' e';simp only[bO,D.int.injEq,and_true]at e';obtain⟨_,_,rfl,rfl⟩:=e';exact⟨xs,rfl,hlen,hm⟩
end Z
set_option exponentiation.threshold 3000
namespace Z
open PySem
theorem YV(xs:List (Int×Int)):xT (xs.map nq)<=1:=by
 induction xs with
 |nil=>simp[uR]
 |cons x xs ih=>rw[bz,uG,dep_nq];lia
theorem Q3{xs ys:List (Int×Int)}(h:D.lst (xs.map nq)=D.lst (ys.map nq)):xs=ys:=by
 injection h with h;exact kx (λa b h=>V0 h) h
theorem Box.up{n:Nat}{M H:Int}{x:Int×Int}(K:Int)(h:Box n M H x)(hk:H<=K):Box n M K x:=by
 have:=JP hk;exact⟨h.ok,by have:=h.lo;grind,by have:=h.hi;grind⟩
end Z
set_option exponentiation.threshold 3000
namespace Z
open PySem
def UP(x:Int×Int):Int×Int:=((x.1.natAbs:Int),x.2)
theorem vr_absF(x:Int×Int):vr (UP x)=(vr x).abs:=by
 unfold vr UP;rw[vf]
variable{n:Nat}
theorem Box.abs{M H:Int}{x:Int×Int}(h:Box n M H x):Box n M H (UP x):=by
 have e:=vr_absF x;refine⟨⟨⟨?_,?_⟩,h.ok.lo,h.ok.hi⟩,?_,?_⟩
 ·have:=h.ok.num.odd;unfold UP;simp only[];lia
 ·have:=h.ok.num.sz;unfold UP;simp only[];lia
 ·rw[e];have:=h.lo;have:=h.hi
  unfold jft;split<;>grind
 ·rw[e];exact rabs_le h.lo h.hi
structure RowOk (n:Nat) (xs:List (Int×Int)):Prop where
 n1:8<=n
 n2:n<=64
 len:xs.length<=200
 row:∀x∈xs,Box n 1000 300 x
theorem RowOk.abs{xs:List (Int×Int)}(h:RowOk n xs):RowOk n (xs.map UP):=by
 refine⟨h.n1,h.n2,by rw[bj];exact h.len,λx hx=>?_⟩;obtain⟨y,hy,rfl⟩:=bI.mp hx;exact(h.row y hy).abs
end Z
set_option exponentiation.threshold 3000
namespace Z
open PySem
variable{n:Nat}{M H k m:Int}
theorem Y8(hn:1<=n)(hm:-M<=m)(lo:-tw H<=(k:Rat)*tw m)(hi:(k:Rat)*tw m<=tw H)(hM:H<=M)(h0:0<=M):Box n M H (j4 n (k*tw m)):=by
 have num:=jaF (n:=n) (r:=(k:Rat)*tw m) hn;have r2:=rep_tw hn H;have hi:vr (j4 n (k*tw m))<=tw H:=rn_le hn hi r2;have lo:-tw H<=vr (j4 n (k*tw m)):=le_rn hn lo r2.neg;refine⟨⟨num,?_,?_⟩,lo,hi⟩
 ·obtain⟨j,ej,_⟩:=rest_of (n:=n) (N:=bits k) (k:=k) (m:=m) hn (jk.mp (bV _))
  have e3:vr (j4 n (k*tw m))=((k-j:Int):Rat)*tw m:=by
   rw[jch];grind
  rcases jaJ num.odd e3 with z|z
  ·lia
  ·rw[z];simp only[];lia
 ·generalize hz:j4 n (k*tw m)=z at *;rcases num.odd with ho|ho
  ·have tp:=ka z.2
   have:tw z.2<=tw H:=by
    rcases tY 0 z.1 with q|q
    ·have l1:((1:Int):Rat)*tw z.2<=(z.1:Rat)*tw z.2:=kI.mpr (by lia);have:((1:Int):Rat)=1:=rfl;unfold vr at hi
     grind
    ·have l1:(z.1:Rat)*tw z.2<=((-1:Int):Rat)*tw z.2:=kI.mpr (by lia);have:((-1:Int):Rat)=-1:=rfl;unfold vr at lo
     grind
   have:=tw_lt this;lia
  ·lia
theorem jbR(w p:Int):-tw (p+bits w)<=(w:Rat)*tw p/\(w:Rat)*tw p<=tw (p+bits w):=by
 have hs:=jk.mp (bV (bits w))
 have e:tw (p+bits w)=((2^bits w:Int):Rat)*tw p:=by rw[j7];grind
 have pn:((2^bits w:Nat):Int)=2^bits w:=by simp
 have l2:(w:Rat)*tw p<=((2^bits w:Int):Rat)*tw p:=kI.mpr (by lia);have l3:((-2^bits w:Int):Rat)*tw p<=(w:Rat)*tw p:=kI.mpr (by lia)
 have e2:((-2^bits w:Int):Rat)*tw p=-(((2^bits w:Int):Rat)*tw p):=by rw[pI];grind
 constructor<;>grind
theorem Ym(hn:1<=n)(hm:-M<=m)(hk:m+bits k<=H)(hM:H<=M)(h0:0<=M):Box n M H (j4 n (k*tw m)):=by
 have a:=jbR k m;have:=JP hk;exact Y8 hn hm (by grind) (by grind) hM h0
variable{x:Int×Int}
theorem Meas.row(h:Meas n x)(hn:n<=64):Box n 1000 300 x:=by
 have o:=h.ok hn;have b:=okn_box o (H:=300) (by lia);exact⟨⟨o.num,by have:=o.lo;lia,by have:=o.hi;lia⟩,b.lo,b.hi⟩
def VF(n:Nat)(xs ys:List (Int×Int)):List (Int×Int):=(xs.zip ys).map λp=>j4 n (vr p.1*vr p.2)
theorem Meas.top(h:Meas n x):x.2+bits x.1<=61:=by
 rcases h.at_ with⟨z,e⟩|z
 ·rw[z,e];decide
 ·exact z.2
theorem vr_prod(x y:Int×Int):vr x*vr y=((x.1*y.1:Int):Rat)*tw (x.2+y.2):=by
 unfold vr;rw[bY,jba];grind
theorem Meas.prod{y:Int×Int}(hx:Meas n x)(hy:Meas n y)(n1:8<=n)(n2:n<=64):Box n 1000 300 (j4 n (vr x*vr y)):=by
 rw[vr_prod];have a:=(hx.ok n2).lo;have b:=(hy.ok n2).lo;have c:=hx.top;have d:=hy.top;have e:=kc x.1 y.1;exact Ym (by lia) (by lia) (by lia) (by lia) (by lia)
structure DotOk (n:Nat) (xs ys:List (Int×Int)):Prop where
 n1:8<=n
 n2:n<=64
 len:xs.length<=200
 same:ys.length=xs.length
 x:∀x∈xs,Meas n x
 y:∀y∈ys,Meas n y
variable{xs ys:List (Int×Int)}
theorem V7(h:ys.length=xs.length):(VF n xs ys).length=xs.length:=by
 unfold VF;rw[bj,pJ,h,Nat.min_self]
theorem DotOk.rows(h:DotOk n xs ys):RowOk n (VF n xs ys):=by
 refine⟨h.n1,h.n2,by rw[V7 h.same];exact h.len,λp hp=>?_⟩;obtain⟨⟨a,b⟩,hq,rfl⟩:=bI.mp hp;have:=mw hq;exact(h.x a this.1).prod (h.y b this.2) h.n1 h.n2
theorem kZ:∀(m:Nat) (lo:Int),j3 lo 1 m=(bw m).map λ(i:Nat)=>D.int (lo+i)
 |0,lo=>rfl
 |m+1,lo=>by
  rw[j3,kZ m (lo+1),t5,bz,bL];congr 1
  ·simp
  ·refine bP λi _=>?_
   simp only[sQ,D.int.injEq,Nat.succ_eq_add_one];lia
theorem kG{f:D->(D->Prop)->Prop}{h:Nat->D}{m:Nat}{Q:List D->Prop}(k:∀i,i<m->∀Q,f (.int i) Q ↔ Q (h i)):kN f (j3 0 1 m) Q ↔ Q ((bw m).map h):=by
 rw[kZ]
 refine jq λi hi Q=>?_
 have:=k i (dw.mp hi) Q
 rwa [jcu]
end Z
set_option exponentiation.threshold 3000
namespace Z
open PySem
def c1(ok:List (Int×Int)->Prop)(f:List (Int×Int)->D):Ctr where
 pre ds:=∃xs,ds=[.lst (xs.map nq)]/\ok xs
 res ds d:=∀xs,ds=[.lst (xs.map nq)]->d=f xs
variable{xs:List (Int×Int)}
theorem res_1{ok f}{d:D}:(c1 ok f).res [.lst (xs.map nq)] d ↔ d=f xs:=by
 refine⟨λh=>h xs rfl,λh xs' e=>?_⟩;cases vN e;exact h
theorem wp_1{ok f}{Q:D->Prop}{E:XD->Prop}:(c1 ok f).wp [.lst (xs.map nq)] Q E ↔ ok xs/\Q (f xs):=by
 unfold Ctr.wp;simp only[res_1,forall_eq];refine⟨λ⟨⟨xs',e,h⟩,w,_⟩=>⟨?_,w⟩,λ⟨h,w⟩=>⟨⟨xs,rfl,h⟩,w,λ_ z=>z.elim⟩⟩;cases vN e;exact h
structure SmallP (x:Int×Int):Prop where
 b:bits x.1<=64
 lo:-130<=x.2
 hi:x.2<=130
structure Smalls (xs:List (Int×Int)):Prop where
 len:xs.length<=200
 all:∀x∈xs,SmallP x
theorem Meas.small{n:Nat}{x:Int×Int}(h:Meas n x)(hn:n<=64):SmallP x:=⟨by have:=(h.ok hn).bits;lia,(h.ok hn).lo,(h.ok hn).hi⟩
theorem ud{B:Nat}:∀ {l:List Int},(∀x∈l,bits x<=B)->bits l.sum<=B+l.length
 |[],_=>by
  have:bits 0=0:=by decide
  simp only[mH,nL];lia
 |x::l,h=>by
  have ih:=ud (l:=l) λy hy=>h y (bo _ hy)
  have h1:=h x (bB ..);have:=QQ x l.sum;simp only[dN,gf];omega
end Z
set_option exponentiation.threshold 3000
namespace Z.K42
open PySem Z
def b_one_by_one:Sm :=
 (.seq (.new 1)
 (.seq (.forE 2 (.var 0) (.seq (.ext 1 (.var 2))
  .nop))
 (.seq (.shr 1)
 (.seq (.ret (.var 1))
 .nop))))
def b_least_power:Sm :=
 (.seq (.ret (.bi .min [(.compE (.var 0) (.ix (.var 1) (.cst (.int 1))))]))
 .nop)
def b_in_steps(i_two_to:Nat):Sm :=
 (.seq (.ret (.compE (.var 0) (.bin .mul (.ix (.var 2) (.cst (.int 0))) (.call i_two_to [(.bin .sub (.ix (.var 2) (.cst (.int 1))) (.var 1))]))))
 .nop)
def b_law_table(i_law_row:Nat):Sm :=
 (.seq (.set 5 (.call i_law_row [(.var 0),(.var 1),(.bin .mul (.var 2) (.var 3)),(.var 4)]))
 (.seq (.ret (.compR [(.var 2)] (.slc (.var 5) (.bin .mul (.var 6) (.var 3)) (.bin .mul (.bin .add (.var 6) (.cst (.int 1))) (.var 3)))))
 .nop))
def tabD(rows:List (List (Int×Int))):D:=.lst (rows.map λr=>.lst (r.map nq))
theorem vC(n d k:Nat):sIx n d (some (k:Int))=min k n:=by
 show (if (k:Int)<0 then ((k:Int)+(n:Int)).toNat else min (k:Int).toNat n)=min k n;rw[if_neg (by lia),bZ]
variable{xs:List (Int×Int)}{i:Nat}
theorem cut_row{A N:Nat}(h:xs.length=N*A)(hi:i<N):yH (xs.map nq) (some ((i:Int)*A)) (some (((i:Int)+1)*A))=((xs.drop (i*A)).take A).map nq:=by
 have e1:(i:Int)*A=((i*A:Nat):Int):=by push_cast;rfl
 have e2:((i:Int)+1)*A=(((i+1)*A:Nat):Int):=by push_cast;rfl
 have le:(i+1)*A<=N*A:=mQ A hi;have ex:(i+1)*A=i*A+A:=jdl i A;unfold yH;rw[e1,e2,bj,h,vC,vC,jci (by lia),jci (by lia),jd7,List.map_drop];congr 1;lia
def c_one_by_one:Ctr where
 pre ds:=∃rows,ds=[tabD rows]/\rows.flatten.length<=200
 res ds d:=∀rows,ds=[tabD rows]->d=.lst (rows.flatten.map nq)
theorem qu{r r':List (List (Int×Int))}(h:[tabD r]=[tabD r']):r=r':=by
 unfold tabD at h;simp only[bO,D.lst.injEq,and_true]at h;exact kx (λa b e=>Q3 e) h
theorem k_one_by_one{C:Cfg}:jQ C 3 b_one_by_one c_one_by_one:=by
 rintro ds ⟨rows,rfl,hl⟩;rw[b_one_by_one,tabD];simp_all! only[]
 let P:List D->Sto->Prop:=λds σ=>∃(pre post:List (List (Int×Int))) (a:Option Sl),(pre++post=rows/\ds=post.map λr=>.lst (r.map nq))/\σ=[some (.sh (.lst (rows.map λr=>.lst (r.map nq)))),some (.ow (pre.flatten.map nq)),a]
 refine jV (P []) ?_ ?_
 ·rw[yh]
  simp_arith only[]
  refine kS P ⟨[],rows,none,⟨rfl,rfl⟩,rfl⟩ ?_ λσ h=>h
  rintro d ds σ ⟨pre,post,a,⟨hp,hd⟩,rfl⟩
  cases post with
  |nil=>cases hd
  |cons r post =>
   simp only[bz,bO]at hd;obtain⟨rfl,rfl⟩:=hd
   have e:(pre ++ [r]).flatten=pre.flatten++r:=by simp
   have ll:pre.flatten.length+r.length<=200:=by
    rw[<- hp]at hl;simp only[List.flatten_append,jeK,df]at hl;lia
   simp_all! only[extD,bj]
   have es:pre.flatten.map nq++r.map nq=(pre ++ [r]).flatten.map nq:=by rw[e,b6]
   refine⟨by rw[bj,bj];unfold lim;lia,?_⟩;rw[es];exact⟨pre ++ [r],post,_,⟨by rw[<- hp];simp,rfl⟩,rfl⟩
 rintro σ ⟨pre,post,a,⟨hp,hd⟩,rfl⟩
 have:post=[]:=by simpa using hd.symm
 subst this;rw[dM]at hp;subst hp;simp_all! only[];intro rows' e;rw[qu e]
variable{Q:D->Prop}{E:XD->Prop}
theorem wp_obo{rows:List (List (Int×Int))}(h:rows.flatten.length<=200):c_one_by_one.wp [tabD rows] Q E ↔ Q (.lst (rows.flatten.map nq)) :=
 ⟨λw=>w.2.1 _ λr e=>by rw[qu e],λq=>⟨⟨rows,rfl,h⟩,λd hd=>by rw[hd rows rfl];exact q,λ_ z=>z.elim⟩⟩
def c_least_power:Ctr:=c1 (λxs=>xs ≠ []/\xs.length<=200) λxs=>.int (mmF false 0 (xs.map (·.2)))
theorem k_least_power{C:Cfg}:jQ C 1 b_least_power c_least_power:=by
 rintro ds ⟨xs,rfl,h0,hl⟩;rw[b_least_power];simp_all! only[bj];refine⟨by unfold lim;lia,?_⟩;rw[jq (g:=nq) (h:=λx:Int×Int=>D.int x.2) (λx _ Q=>by rw[yo]),show (xs.map λx=>D.int x.2)=(xs.map (·.2)).map .int by rw[bL];rfl,Qd];refine⟨by simpa using h0,?_⟩;rw[c_least_power,res_1]
def atW(low:Int)(x:Int×Int):Int:=x.1*2^(x.2-low).toNat
def c_in_steps:Ctr where
 pre ds:=∃(xs:List (Int×Int)) (p:Int),ds=[.lst (xs.map nq),.int p]/\Smalls xs /\ -200<=p/\∀x∈xs,p<=x.2
 res ds d:=∀(xs:List (Int×Int)) (p:Int),ds=[.lst (xs.map nq),.int p]->d=.lst (xs.map λx=>.int (atW p x))
variable{p:Int}
theorem jbf{xs':List (Int×Int)}{p':Int}(e:[D.lst (xs.map nq),.int p]=[D.lst (xs'.map nq),.int p']):xs=xs'/\p=p':=by
 simp only[bO,D.int.injEq,and_true]at e;exact⟨Q3 e.1,e.2⟩
theorem UI{k:Int}(h:0<=k/\k<=1000000):xR.wp [.int k] Q E ↔ Q (.int (2^k.toNat)) :=
 ⟨λq=>q.2.1 _ rfl,λq=>⟨h,λd e=>by rw[e];exact q,λ_ z=>z.elim⟩⟩
theorem k_in_steps{C:Cfg}(h1:C.ct i=xR):jQ C 2 (b_in_steps i) c_in_steps:=by
 rintro ds ⟨xs,p,rfl,g,hp,hx⟩;have hl:=g.len;rw[b_in_steps];simp_all! only[bj];refine⟨by unfold lim;lia,?_⟩
 rw[jq (g:=nq) (h:=λx:Int×Int=>D.int (atW p x)) (λx hx' Q=>by
  have h2:=hx x hx';have h3:=(g.all x hx').hi;have h4:=(g.all x hx').b
  have w:=λQ E=>UI (k:=x.2-p) (Q:=Q) (E:=E) ⟨by lia,by lia⟩
  have b:bits ((2:Int)^(x.2-p).toNat)<=400:=by rw[qq];lia
  have mo:qh x.1 (2^(x.2-p).toNat):=jH (by lia);dsimp! only[yF,yo,h1,w,mo]
  rfl)]
 intro xs' p' e;obtain⟨rfl,rfl⟩:=jbf e;rfl
theorem Xk(g:Smalls xs)(hp:-200<=p)(hx:∀x∈xs,p<=x.2):c_in_steps.wp [.lst (xs.map nq),.int p] Q E ↔ Q (.lst (xs.map λx=>.int (atW p x))):=by
 constructor
 ·intro w
  refine w.2.1 _ λxs' p' e=>?_
  obtain⟨rfl,rfl⟩:=jbf e;rfl
 ·intro q;exact⟨⟨xs,p,rfl,g,hp,hx⟩,λd h=>by rw[h xs p rfl];exact q,λ_ z=>z.elim⟩
theorem atW_vr{low:Int}{x:Int×Int}(h:low<=x.2):(atW low x:Rat)*tw low=vr x:=(vr_up (w:=x.1) (p:=x.2) h).symm
end Z.K42
set_option exponentiation.threshold 3000
namespace Z.K40
open PySem Z Z.K42
def b_column:Sm :=
 (.seq (.retF (.compE (.var 0) (.ix (.var 2) (.var 1))))
 .nop)
def b_turned(i_column:Nat):Sm :=
 (.seq (.retG (.compR [(.bi .len [(.ix (.var 0) (.cst (.int 0)))])] (.call i_column [(.var 0),(.var 1)])))
 .nop)
def colF(p:Nat)(rows:List (List (Int×Int))):List (Int×Int):=rows.map λr=>r.getD p (0,0)
variable{p:Nat}
theorem getD_at{α:Type}{r:List α}{z:α}(h:p<r.length):r.getD p z=r[p]:=by simp[jcv,bE h]
theorem XF{r:List (Int×Int)}(h:p<r.length):atD (r.map nq) (p:Int)=some (nq (r.getD p (0,0))):=by
 unfold atD;rw[if_pos (by lia),bZ,bW,bE h,getD_at h];rfl
theorem zG{α:Type}{f:D->(List D->Prop)->Prop}{g:α->D}{h:α->List D}:∀ {l:List α} {Q:List (List D)->Prop},(∀a∈l,∀Q,f (g a) Q ↔ Q (h a))->(qQ f (l.map g) Q ↔ Q (l.map h))
 |[],Q,_=>Iff.rfl
 |a::l,Q,k=>by
  rw[bz,bz,qQ,k a (bB ..),zG λb hb=>k b (bo _ hb)]
variable{Q:D->Prop}
theorem KH{f:D->(List D->Prop)->Prop}{h:Nat->List D}{m:Nat}{Q:List (List D)->Prop}(k:∀i,i<m->∀Q,f (.int i) Q ↔ Q (h i)):qQ f (j3 0 1 m) Q ↔ Q ((bw m).map h):=by
 rw[kZ,zG (h:=h) (λi hi Q=>by rw[jcu];exact k i (dw.mp hi) Q)]
theorem Jz(T:List (List (Int×Int))):K42.tabD T=kA (T.map λr=>r.map nq):=by
 unfold K42.tabD kA;rw[bL];rfl
def c_column:Ctr where
 pre ds:=∃(rows:List (List (Int×Int))) (p:Nat),ds=[K42.tabD rows,.int p]/\rows.length<=200/\∀r∈rows,p<r.length
 res ds d:=∀(rows:List (List (Int×Int))) (p:Nat),ds=[K42.tabD rows,.int p]->d=.lst ((colF p rows).map nq)
theorem col_inj{r r':List (List (Int×Int))}{p':Nat}(h:[K42.tabD r,D.int p]=[K42.tabD r',D.int p']):r=r'/\p=p':=by
 simp only[bO,D.int.injEq,and_true]at h;exact⟨qu (by rw[h.1]),by lia⟩
variable{E:XD->Prop}
theorem JR{rows:List (List (Int×Int))}(hl:rows.length<=200)(hp:∀r∈rows,p<r.length):c_column.wp [K42.tabD rows,.int p] Q E ↔ Q (.lst ((colF p rows).map nq)):=by
 constructor
 ·intro w
  refine w.2.1 _ λrows' p' e=>?_
  obtain⟨rfl,rfl⟩:=col_inj e;rfl
 ·intro q;exact⟨⟨rows,p,rfl,hl,hp⟩,λd h=>by rw[h rows p rfl];exact q,λ_ z=>z.elim⟩
def turnF(A:Nat)(rows:List (List (Int×Int))):List (List (Int×Int)):=(bw A).map λp=>colF p rows
def c_turned:Ctr where
 pre ds:=∃(A:Nat) (rows:List (List (Int×Int))),ds=[K42.tabD rows]/\(rows ≠ []/\rows.length<=200/\A<=200)/\∀r∈rows,r.length=A
 res ds d:=∀(A:Nat) (rows:List (List (Int×Int))),ds=[K42.tabD rows]->rows ≠ []->(∀r∈rows,r.length=A)->d=K42.tabD (turnF A rows)
variable{A:Nat}
theorem Va{A':Nat}{rows:List (List (Int×Int))}(h0:rows ≠ [])(h:∀r∈rows,r.length=A)(h':∀r∈rows,r.length=A'):A=A':=by
 obtain⟨r,rs,rfl⟩:=nr h0;rw[<- h r (bB ..),<- h' r (bB ..)]
theorem JT{rows:List (List (Int×Int))}(h0:rows ≠ [])(hl:rows.length<=200)(hA:A<=200)(hr:∀r∈rows,r.length=A):c_turned.wp [K42.tabD rows] Q E ↔ Q (K42.tabD (turnF A rows)):=by
 constructor
 ·intro w
  refine w.2.1 _ λA' rows' e h0' hr'=>?_
  have e:=qu e;subst e;rw[Va h0 hr hr']
 ·intro q;exact⟨⟨A,rows,rfl,⟨h0,hl,hA⟩,hr⟩,λd h=>by rw[h A rows rfl h0 hr];exact q,λ_ z=>z.elim⟩
theorem dep_tab(T:List (List (Int×Int))):qv (K42.tabD T)<=3:=by
 unfold K42.tabD;rw[K0]
 have:xT (T.map λr=>D.lst (r.map nq))<=2:=by
  induction T with
  |nil=>simp[uR]
  |cons r rs ih=>rw[bz,uG,K0];have:=YV r;lia
 lia
end Z.K40
set_option exponentiation.threshold 3000
namespace Z.J51
open PySem Z Z.K42 Z.K40
def b_rows_in_steps(i_in_steps:Nat):Sm :=
 (.seq (.ret (.compE (.var 0) (.call i_in_steps [(.var 2),(.var 1)])))
 .nop)
def b_rows_of_fit(i_rows_in_steps i_least_power i_one_by_one c_ONE:Nat):Sm :=
 (.seq (.set 3 (.compE (.var 0) (.bin .add (.bin .add (.lst [(.con c_ONE)]) (.compE (.var 1) (.ix (.var 4) (.var 5)))) (.lst [(.ix (.var 4) (.var 2))]))))
 (.seq (.ret (.call i_rows_in_steps [(.var 3),(.call i_least_power [(.call i_one_by_one [(.var 3)])])]))
 .nop))
def b_whole_dot:Sm :=
 (.seq (.ret (.bi .sum [(.compZ (.var 0) (.var 1) (.bin .mul (.ix (.var 2) (.cst (.int 0))) (.ix (.var 2) (.cst (.int 1)))))]))
 .nop)
def wD(M:List (List Int)):D:=.lst (M.map λr=>.lst (r.map .int))
def plD(ps:List Nat):D:=.lst (ps.map λp:Nat=>.int p)
def c_rows_in_steps:Ctr where
 pre ds:=∃(rows:List (List (Int×Int))) (p:Int),ds=[tabD rows,.int p]/\rows.length<=200/\(∀r∈rows,Smalls r) /\ -200<=p/\∀r∈rows,∀x∈r,p<=x.2
 res ds d:=∀(rows:List (List (Int×Int))) (p:Int),ds=[tabD rows,.int p]->d=wD (rows.map λr=>r.map (atW p))
variable{p:Int}
theorem injs{r r':List (List (Int×Int))}{p':Int}(h:[tabD r,D.int p]=[tabD r',D.int p']):r=r'/\p=p':=by
 simp only[bO,D.int.injEq,and_true]at h;exact⟨qu (by rw[h.1]),h.2⟩
theorem k_rows_in_steps{C:Cfg}{i:Nat}(h1:C.ct i=c_in_steps):jQ C 2 (b_rows_in_steps i) c_rows_in_steps:=by
 rintro ds ⟨rows,p,rfl,hl,g,hp,hx⟩;rw[b_rows_in_steps,tabD];simp_all! only[bj];refine⟨by unfold lim;lia,?_⟩
 rw[jq (g:=λr:List (Int×Int)=>D.lst (r.map nq)) (h:=λr=>D.lst ((r.map (atW p)).map .int)) (λr hr Q=>by
  have w:=λQ E=>Xk (Q:=Q) (E:=E) (g r hr) hp (hx r hr)
  dsimp! only[h1,w,bL]
  rfl)]
 intro rows' p' e;obtain⟨rfl,rfl⟩:=injs (r:=rows) e;unfold wD;rw[bL];rfl
variable{Q:D->Prop}{E:XD->Prop}
theorem wp_ris{rows:List (List (Int×Int))}(hl:rows.length<=200)(g:∀r∈rows,Smalls r)(hp:-200<=p)(hx:∀r∈rows,∀x∈r,p<=x.2):c_rows_in_steps.wp [tabD rows,.int p] Q E ↔ Q (wD (rows.map λr=>r.map (atW p))) :=
 ⟨λw=>w.2.1 _ λr p' e=>by obtain⟨rfl,rfl⟩:=injs e;rfl,λq=>⟨⟨rows,p,rfl,hl,g,hp,hx⟩,λd h=>by rw[h rows p rfl];exact q,λ_ z=>z.elim⟩⟩
def kq(ps:List Nat)(t:Nat)(r:List (Int×Int)):List (Int×Int):=((1,0)::ps.map λp=>r.getD p (0,0)) ++ [r.getD t (0,0)]
structure FitOk (T:List (List (Int×Int))) (ps:List Nat) (t:Nat):Prop where
 n0:T ≠ []
 few:T.length<=60
 cells:T.length*(ps.length+2)<=200
 up:∀r∈T,∀x∈r,x.2+bits x.1<=64
 pl:ps.length<=3
 p1:1<=ps.length
 row:∀r∈T,Smalls r/\t<r.length/\∀p∈ps,p<r.length
theorem Xm{r:List (Int×Int)}{p:Nat}(g:Smalls r)(h:p<r.length):SmallP (r.getD p (0,0)):=by
 rw[K40.getD_at h];exact g.all _ (dH h)
theorem Ur:SmallP ((1,0):Int×Int):=⟨by decide,by decide,by decide⟩
variable{T:List (List (Int×Int))}{ps:List Nat}{t:Nat}
theorem FitOk.sm(g:FitOk T ps t):∀r∈T,Smalls (kq ps t r):=by
 intro r hr;obtain⟨s,ht,hp⟩:=g.row r hr;refine⟨by have:=g.pl;unfold kq;simp;lia,λx hx=>?_⟩;unfold kq at hx;rcases dP.mp hx with z|z
 ·rcases bD.mp z with rfl|z
  ·exact Ur
  ·obtain⟨p,hp',rfl⟩:=bI.mp z;exact Xm s (hp p hp')
 ·simp only[bD,bM,or_false]at z;subst z;exact Xm s ht
theorem vp(ps:List Nat)(t:Nat)(r:List (Int×Int)):(kq ps t r).length=ps.length+2:=by unfold kq;simp
theorem Xz{ps:List Nat}{t:Nat}:∀(T:List (List (Int×Int))),(T.map (kq ps t)).flatten.length=T.length*(ps.length+2)
 |[]=>by simp
 |r::T=>by rw[bz,jeK,df,Xz T,vp,gf,jdl];lia
structure LowOk (T:List (List (Int×Int))) (ps:List Nat) (t:Nat) (low:Int):Prop where
 lo:-130<=low
 hi:low<=0
 le:∀r∈T,∀x∈kq ps t r,low<=x.2
 at_:∃r∈T,∃x∈kq ps t r,x.2=low
theorem LowOk.uni{a b:Int}(h:LowOk T ps t a)(g:LowOk T ps t b):a=b:=by
 obtain⟨r,hr,x,hx,e⟩:=h.at_;obtain⟨q,hq,y,hy,f⟩:=g.at_;have:=h.le q hq y hy;have:=g.le r hr x hx;lia
def c_rows_of_fit:Ctr where
 pre ds:=∃T ps t,ds=[tabD T,plD ps,.int (t:Nat)]/\FitOk T ps t
 res ds d:=∀T ps t,ds=[tabD T,plD ps,.int (t:Nat)]->∃low,LowOk T ps t low/\d=wD (T.map λr=>(kq ps t r).map (atW low))
variable{qs:List Rat}
theorem jbP{qs:List Nat}(h:plD ps=plD qs):ps=qs:=by
 unfold plD at h;injection h with h;exact kx (λa b e=>by injection e with e;lia) h
variable{T':List (List (Int×Int))}{ps':List Nat}{t':Nat}
theorem VD(h:[tabD T,plD ps,D.int t]=[tabD T',plD ps',D.int t']):T=T'/\ps=ps'/\t=t':=by
 simp only[bO,D.int.injEq,and_true]at h;exact⟨qu (by rw[h.1]),jbP h.2.1,by lia⟩
theorem k_rows_of_fit{C:Cfg}{i1 i2 i3 c:Nat}(h1:C.ct i1=c_rows_in_steps)(h2:C.ct i2=c_least_power)(h3:C.ct i3=c_one_by_one)(e1:C.cn c=.tup [.int 1,.int 0]):jQ C 4 (b_rows_of_fit i1 i2 i3 c) c_rows_of_fit:=by
 rintro ds ⟨T,ps,t,rfl,g⟩;have few:=g.few;have pl:=g.pl;rw[b_rows_of_fit,tabD,plD];simp_all! only[bj];refine⟨by unfold lim;lia,?_⟩
 rw[jq (g:=λr:List (Int×Int)=>D.lst (r.map nq)) (h:=λr=>D.lst ((kq ps t r).map nq)) (λr hr Q=>by
  obtain⟨s,ht,hp⟩:=g.row r hr;have at_:=XF ht;dsimp! only[e1,bj]
  have l4:ps.length<=lim:=by unfold lim;lia
  rw[and_iff_right l4,jq (g:=λp:Nat=>D.int p) (h:=λp=>nq (r.getD p (0,0))) (λp hp' Q=>by
   have a:=XF (hp p hp')
   dsimp! only[a])]
  dsimp! only[at_,bj,df]
  have l5:0+1+ps.length<=lim:=by unfold lim;lia
  have l6:ps.length+1+(0+1)<=lim:=by unfold lim;lia
  simp only[l5,l6,true_and,kq,b6,bz,dR,bL,bS,dG]
  rfl)]
 have eT:D.lst (T.map λr=>D.lst ((kq ps t r).map nq))=tabD (T.map (kq ps t)):=by unfold tabD;rw[bL];rfl
 rw[eT];have fl:=Xz (ps:=ps) (t:=t) T;have f2:=g.cells
 have fw:=λQ E=>wp_obo (rows:=T.map (kq ps t)) (Q:=Q) (E:=E) (by lia)
 have ne:(T.map (kq ps t)).flatten ≠ []:=by
  intro z;have:=congrArg jeY z;rw[fl]at this;have:0<T.length:=sH.mpr g.n0;have:1*2<=T.length*(ps.length+2):=Nat.mul_le_mul (by lia) (by lia);simp at *;lia
 have few2:(T.map (kq ps t)).flatten.length<=200:=by lia
 simp_all! only[h3,fw,h2,c_least_power,wp_1,ne,few2];obtain⟨p1,p2⟩:=Ql (d:=0) (ns:=(T.map (kq ps t)).flatten.map (·.2));generalize mmF false 0 ((T.map (kq ps t)).flatten.map (·.2))=low at *
 have le:∀r∈T,∀x∈kq ps t r,low<=x.2:=λr hr x hx=>p1 _ (bI.mpr ⟨x,jeX.mpr ⟨_,bI.mpr ⟨r,hr,rfl⟩,hx⟩,rfl⟩)
 have at_:∃r∈T,∃x∈kq ps t r,x.2=low:=by
  rcases p2 with z|z
  ·obtain⟨x,hx,e⟩:=bI.mp z;obtain⟨l,hl,hx⟩:=jeX.mp hx;obtain⟨r,hr,rfl⟩:=bI.mp hl;exact⟨r,hr,x,hx,e⟩
  ·exact absurd (jck.mp z.1) ne
 have lo:-130<=low:=by
  obtain⟨r,hr,x,hx,e⟩:=at_;have:=((g.sm r hr).all x hx).lo;lia
 have hi:low<=0:=by
  obtain⟨r,rs,e⟩:=nr g.n0;exact le r (by rw[e];exact bB ..) (1,0) (by unfold kq;simp)
 have w4:=λQ E=>wp_ris (rows:=T.map (kq ps t)) (p:=low) (Q:=Q) (E:=E) (by rw[bj];lia) (λl hl=>by obtain⟨r,hr,rfl⟩:=bI.mp hl;exact g.sm r hr) (by lia) (λl hl=>by obtain⟨r,hr,rfl⟩:=bI.mp hl;exact le r hr)
 simp_all! only[h1,w4];intro T' ps' t' e;obtain⟨rfl,rfl,rfl⟩:=VD (T:=T) (ps:=ps) (t:=t) e;exact⟨low,⟨lo,hi,le,at_⟩,by rw[bL];rfl⟩
theorem wp_rof(g:FitOk T ps t):c_rows_of_fit.wp [tabD T,plD ps,.int t] Q E ↔ ∀low,LowOk T ps t low->Q (wD (T.map λr=>(kq ps t r).map (atW low))):=by
 constructor
 ·intro w low hl
  refine w.2.1 _ λT' ps' t' e=>?_
  obtain⟨rfl,rfl,rfl⟩:=VD e;exact⟨low,hl,rfl⟩
 ·intro q;refine⟨⟨T,ps,t,rfl,g⟩,λd h=>?_,λ_ z=>z.elim⟩;obtain⟨low,hl,rfl⟩:=h T ps t rfl;exact q low hl
def kv(as bs:List Int):Int:=((as.zip bs).map λp=>p.1*p.2).sum
def c_whole_dot:Ctr where
 pre ds:=∃as bs:List Int,ds=[.lst (as.map .int),.lst (bs.map .int)]/\as.length<=200/\(∀a∈as,bits a<=20000)/\∀b∈bs,bits b<=20000
 res ds d:=∀as bs:List Int,ds=[.lst (as.map .int),.lst (bs.map .int)]->d=.int (kv as bs)
variable{as:List Int}
theorem v5{bs:List Int}(h:D.lst (as.map .int)=D.lst (bs.map .int)):as=bs:=by
 injection h with h;exact kx (λa b e=>by injection e) h
theorem injd{bs as' bs':List Int}(e:[D.lst (as.map .int),.lst (bs.map .int)]=[D.lst (as'.map .int),.lst (bs'.map .int)]):as=as'/\bs=bs':=by
 simp only[bO,and_true]at e;exact⟨v5 e.1,v5 e.2⟩
theorem zL(as bs:List Int):zk (as.map .int) (bs.map .int)=(as.zip bs).map λp=>.tup [.int p.1,.int p.2]:=by
 unfold zk;rw[List.zip_map,bL];rfl
theorem k_whole_dot{C:Cfg}:jQ C 2 b_whole_dot c_whole_dot:=by
 rintro ds ⟨as,bs,rfl,hl,ha,hb⟩
 have hz:(zk (as.map .int) (bs.map .int)).length<=lim:=by
  rw[zL,bj,pJ];unfold lim;lia
 rw[b_whole_dot];simp_all! only[];refine⟨_,_,⟨rfl,rfl⟩,hz,?_⟩
 rw[zL,jq (h:=λp:Int×Int=>D.int (p.1*p.2)) (λp hp Q=>by
  have:=mw hp;have m:qh p.1 p.2:=jH (by have x:=ha _ this.1;have y:=hb _ this.2;lia)
  dsimp! only[m])]
 rw[show ((as.zip bs).map λp:Int×Int=>D.int (p.1*p.2))=((as.zip bs).map λp=>p.1*p.2).map .int by rw[bL];rfl,KU];intro as' bs' e;obtain⟨rfl,rfl⟩:=injd e;rfl
theorem wp_wd{bs:List Int}(hl:as.length<=200)(ha:∀a∈as,bits a<=20000)(hb:∀b∈bs,bits b<=20000):c_whole_dot.wp [.lst (as.map .int),.lst (bs.map .int)] Q E ↔ Q (.int (kv as bs)) :=
 ⟨λw=>w.2.1 _ λas' bs' e=>by obtain⟨rfl,rfl⟩:=injd e;rfl,λq=>⟨⟨as,bs,rfl,hl,ha,hb⟩,λd h=>by rw[h as bs rfl];exact q,λ_ z=>z.elim⟩⟩
theorem Xb{bs:List Int}{A B:Nat}(ha:∀a∈as,bits a<=A)(hb:∀b∈bs,bits b<=B):bits (kv as bs)<=A+B+as.length:=by
 unfold kv
 have:=ud (B:=A+B) (l:=(as.zip bs).map λp=>p.1*p.2) λx hx=>by
  obtain⟨p,hp,rfl⟩:=bI.mp hx;have q:=mw hp;have:=kc p.1 p.2;have:=ha _ q.1;have:=hb _ q.2;lia
 rw[bj,pJ]at this;lia
structure UnderOk (qs:List Rat) (u:Int):Prop where
 pos:0<u
 dvd:∀q∈qs,(q.den:Int) ∣ u
 b:∀m:Int,(∀q∈qs,(q.den:Int) ∣ m)->u ∣ m
structure PartB (qs:List Rat):Prop where
 sz:∀q∈qs,szr 1900 q
 mm:∃m:Int,0<m/\bits m<=1900/\∀q∈qs,(q.den:Int) ∣ m
variable{u:Int}
theorem UnderOk.bits{zs:List Rat}(h:UnderOk zs u)(p:PartB qs)(hz:∀q∈zs,q∈qs):bits u<=1900:=by
 obtain⟨m,m0,mb,md⟩:=p.mm;have:=Int.le_of_dvd m0 (h.b m λq hq=>md q (hz q hq));have:=h.pos;exact dg (ku (by lia)) mb
theorem rqs_inj{as bs:List Rat}(h:D.lst (as.map rq)=D.lst (bs.map rq)):as=bs:=by
 injection h with h;exact kx (λa b e=>rq_inj e) h
theorem uE(r:Rat):(0:Int)<r.den:=by have:=r.den_nz;lia
theorem V6{d:Int}(hu:0<u)(hd:0<d):∃v,(u*d).fdiv (gY u d)=v/\0<v/\u ∣ v/\d ∣ v/\(∀m,u ∣ m->d ∣ m->v ∣ m)/\bits v<=bits u+bits d:=by
 have g0:0<gY u d:=pP _ (by lia)
 have e:u*d=(Int.lcm u d:Int)*(gY u d:Int):=by
  have:=Int.gcd_mul_lcm u d;have h:(((u*d).natAbs:Nat):Int)=u*d:=Int.natAbs_of_nonneg (pZ (jcN hu hd));rw[<- h,mr,<- this,Int.natCast_mul,mO]
 refine⟨Int.lcm u d,?_,?_,Int.dvd_lcm_left ..,Int.dvd_lcm_right ..,λm h1 h2=>Int.coe_lcm_dvd h1 h2,?_⟩
 ·rw[e];exact mX _ (by lia)
 ·have:=Int.lcm_pos (m:=u) (n:=d) (by lia) (by lia);lia
 ·refine dg (ku ?_) (kc u d);have:=Int.le_of_dvd (jcN hu hd) (show (Int.lcm u d:Int) ∣ u*d from ⟨_,e⟩);lia
def KR(xs:List (Int×Int))(qs:List Rat):Rat:=((xs.zip qs).map λz=>vr z.1*z.2).sum
theorem uQ(x:Int×Int)(xs:List (Int×Int))(q:Rat)(qs:List Rat):KR (x::xs) (q::qs)=vr x*q+KR xs qs:=by
 unfold KR;rw[jcD,bz,dN]
theorem vr_one:vr ((1,0):Int×Int)=1:=by unfold vr;simp[qX]
variable{low:Int}{x:Int×Int}
theorem atW_vr(h:low<=x.2):((atW low x:Int):Rat)=vr x*tw (-low):=by
 have e:=j7 low (x.2-low).toNat;rw[show low+((x.2-low).toNat:Nat)=x.2 by lia]at e;have e2:=zA low;unfold atW vr;rw[e,bY]
 grind
def kj(u:Int)(q:Rat):Int:=q.num*u.fdiv q.den
theorem q_den(q:Rat):q*((q.den:Int):Rat)=(q.num:Rat):=by
 have:=jeq q;rw[jcO]at this
 conv=>lhs;lhs;rw[<- this]
 exact jer (by have:=uE q;intro z;have:((q.den:Int):Rat)=((0:Int):Rat):=z;have:=tI.mp this;lia)
variable{q:Rat}
theorem Q0(h:(q.den:Int) ∣ u):((kj u q:Int):Rat)=q*u:=by
 obtain⟨k,rfl⟩:=h;have d:=uE q
 have f:((q.den:Int)*k).fdiv q.den=k:=by rw[mO];exact mX _ (by lia)
 unfold kj;rw[f,bY,bY];have:=q_den q
 grind
theorem ZQ{low u:Int}:∀(xs:List (Int×Int)) (qs:List Rat),(∀x∈xs,low<=x.2)->(∀q∈qs,(q.den:Int) ∣ u)->((kv (xs.map (atW low)) (qs.map (kj u)):Int):Rat)=KR xs qs*u*tw (-low)
 |[],qs,_,_=>by simp[kv,KR]
 |x::xs,[],_,_=>by simp[kv,KR]
 |x::xs,q::qs,hx,hq=>by
  have ih:=ZQ xs qs (λy hy=>hx y (bo _ hy)) (λy hy=>hq y (bo _ hy));have e1:=atW_vr (hx x (bB ..));have e2:=Q0 (hq q (bB ..));rw[uQ,bz,bz]
  have:kv (atW low x::xs.map (atW low)) (kj u q::qs.map (kj u))=atW low x*kj u q+kv (xs.map (atW low)) (qs.map (kj u)):=by
   unfold kv;rw[jcD,bz,dN]
  rw[this,w9,bY,ih,e1,e2]
  grind
def kM(ps:List Nat)(r:List (Int×Int)):List (Int×Int):=(1,0)::ps.map λp=>r.getD p (0,0)
def Jj(ps:List Nat)(t:Nat)(qs:List Rat)(r:List (Int×Int)):Rat:=vr (r.getD t (0,0))-KR (kM ps r) qs
def ZC(r:List Int):Int:=r.getLast?.getD 0
theorem yy{M N:List (List Int)}(h:wD M=wD N):M=N:=by
 unfold wD at h;injection h with h;exact kx (λa b e=>v5 e) h
theorem Uk{r:List Int}(h:r ≠ []):atD (r.map .int) (-1)=some (.int (ZC r)):=by
 have l:0<r.length:=sH.mpr h;unfold atD ZC;rw[if_neg (by decide),bj,if_pos (by lia),bW,show (-1+(r.length:Int)).toNat=r.length-1 by lia,<- List.getLast?_eq_getElem?,List.getLast?_eq_some_getLast h];rfl
structure PartsOk (ps:List Nat) (qs:List Rat):Prop where
 len:qs.length=ps.length+1
 pb:PartB qs
structure MissOk (T:List (List (Int×Int))) (ps:List Nat) (t:Nat) (qs:List Rat) (F:List (Int×Int)->Int) (u:Int):Prop where
 pos:0<u
 bu:bits u<=3000
 bF:∀r∈T,bits (F r)<=4300
 eq:∀r∈T,(F r:Rat)=Jj ps t qs r*u
def UQ(T:List (List (Int×Int)))(ps:List Nat)(t:Nat)(qs:List Rat):List D:=[tabD T,plD ps,.int t,.lst (qs.map rq)]
theorem ZG{qs':List Rat}(h:UQ T ps t qs=UQ T' ps' t' qs'):T=T'/\ps=ps'/\t=t'/\qs=qs':=by
 unfold UQ at h;simp only[bO,D.int.injEq,and_true]at h;exact⟨qu (by rw[h.1]),jbP h.2.1,by lia,rqs_inj h.2.2.2⟩
theorem x6(h:SmallP x)(l:-130<=low):bits (atW low x)<=330:=by
 have:=yV (w:=x.1) (k:=(x.2-low).toNat);have:=h.b;have:=h.hi;unfold atW;lia
theorem ue(hu:0<u)(h:szr 1900 q):bits (kj u q)<=1900+bits u:=by
 have d:=uE q;unfold kj;rw[ky (by lia)];have:=kc q.num (u / q.den);have:bits (u / (q.den:Int))<=bits u:=zb d;have:=h.1;lia
end Z.J51
set_option exponentiation.threshold 3000
namespace Z.K51
open PySem Z Z.K42 Z.K40 Z.J51
def b_law_table(i_law_row:Nat):Sm :=
 (.seq (.set 5 (.call i_law_row [(.var 0),(.var 1),(.bin .mul (.var 2) (.var 3)),(.var 4)]))
 (.seq (.retG (.compR [(.var 2)] (.slc (.var 5) (.bin .mul (.var 6) (.var 3)) (.bin .mul (.bin .add (.var 6) (.cst (.int 1))) (.var 3)))))
 .nop))
def b_law_wholes:Sm :=
 (.seq (.set 1 (.bi .min [(.compE (.var 0) (.bi .min [(.compE (.var 2) (.ix (.var 3) (.cst (.int 1))))]))]))
 (.seq (.ret (.tup [(.compE (.var 0) (.compE (.var 2) (.bin .shl (.ix (.var 3) (.cst (.int 0))) (.bin .sub (.ix (.var 3) (.cst (.int 1))) (.var 1))))),(.var 1)]))
 .nop))
def b_law_lefts(i_law_wholes i_law_common:Nat):Sm :=
 (.seq (.unp [4,5] (.call i_law_wholes [(.compE (.var 0) (.compE (.bin .add (.var 1) (.lst [(.var 2)])) (.ix (.var 13) (.var 14))))]))
 (.seq (.set 6 (.cst (.int 1)))
 (.seq (.forE 7 (.var 3) (.seq (.set 6 (.bin .fdiv (.bin .mul (.var 6) (.ix (.var 7) (.cst (.int 1)))) (.call i_law_common [(.var 6),(.ix (.var 7) (.cst (.int 1)))])))
  .nop))
 (.seq (.set 8 (.compE (.var 3) (.bin .mul (.ix (.var 13) (.cst (.int 0))) (.bin .fdiv (.var 6) (.ix (.var 13) (.cst (.int 1)))))))
 (.seq (.set 9 (.bi .max [(.cst (.int 0)),(.var 5)]))
 (.seq (.new 10)
 (.seq (.forE 11 (.var 4) (.seq (.set 12 (.bi .sum [(.compR [(.bi .len [(.var 1)])] (.bin .mul (.ix (.var 8) (.bin .add (.var 13) (.cst (.int 1)))) (.ix (.var 11) (.var 13))))]))
  (.seq (.app 10 (.bin .sub (.bin .shl (.bin .sub (.bin .mul (.ix (.var 11) (.neg (.cst (.int 1)))) (.var 6)) (.var 12)) (.var 9)) (.bin .shl (.ix (.var 8) (.cst (.int 0))) (.bi .max [(.cst (.int 0)),(.bin .sub (.cst (.int 0)) (.var 5))]))))
  .nop)))
 (.seq (.shr 10)
 (.seq (.ret (.tup [(.var 10),(.var 4),(.bin .shl (.var 6) (.bi .max [(.cst (.int 0)),(.bin .sub (.cst (.int 0)) (.var 5))]))]))
 .nop)))))))))
def b_law_are_ratios(i_law_whole i_law_common:Nat):Sm :=
 (.seq (.ite (.or (.not (.isi (.var 0) .list)) (.cmp .ne (.bi .len [(.var 0)]) (.var 1))) (.seq (.ret (.cst (.bl false)))
  .nop) .nop)
 (.seq (.forE 2 (.var 0) (.seq (.ite (.or (.not (.isi (.var 2) .tuple)) (.or (.cmp .ne (.bi .len [(.var 2)]) (.cst (.int 2))) (.or (.not (.call i_law_whole [(.ix (.var 2) (.cst (.int 0)))])) (.not (.call i_law_whole [(.ix (.var 2) (.cst (.int 1)))]))))) (.seq (.ret (.cst (.bl false)))
  .nop) .nop)
  (.seq (.ite (.or (.cmp .lt (.ix (.var 2) (.cst (.int 1))) (.cst (.int 1))) (.cmp .ne (.call i_law_common [(.ix (.var 2) (.cst (.int 0))),(.ix (.var 2) (.cst (.int 1)))]) (.cst (.int 1)))) (.seq (.ret (.cst (.bl false)))
   .nop) .nop)
  .nop)))
 (.seq (.ret (.cst (.bl true)))
 .nop)))
structure SharpP (x:Int×Int):Prop where
 sm:SmallP x
 up:x.2+bits x.1<=64
variable{n:Nat}{x:Int×Int}
theorem _root_.Z.Meas.sharp(h:Meas n x)(hn:n<=64):SharpP x:=⟨h.small hn,by
 rcases h.at_ with⟨z1,z2⟩|z
 ·rw[z1,z2];decide
 ·lia⟩
structure Shape (N A:Nat) (T:List (List (Int×Int))):Prop where
 len:T.length=N
 row:∀r∈T,r.length=A
 num:∀r∈T,∀x∈r,SharpP x
def c_tab:Ctr where
 pre ds:=∃(ns:List Int) (s:Int) (N A n:Nat),ds=[.lst (ns.map .int),.int s,.int N,.int A,.int n]/\(ns.length<=63/\0<=s)/\(1<=A/\1<=N/\N*A<=100)/\8<=n/\n<=64
 res ds d:=∀(ns:List Int) (s:Int) (N A n:Nat),ds=[.lst (ns.map .int),.int s,.int N,.int A,.int n]->∃T,Shape N A T/\d=tabD T
variable{i:Nat}
theorem k_tab{C:Cfg}(h1:C.ct i=QR):V1 C 6 (b_law_table i) c_tab:=by
 rintro ds ⟨ns,s,N,A,n,rfl,⟨hl,hs⟩,⟨a1,n1,few⟩,w1,w2⟩
 have eNA:(N:Int)*A=((N*A:Nat):Int):=by push_cast;rfl
 have mo:∀z:Int,bits z<=20->qh z A:=λz hz=>jH (by have:bits (A:Int)<=10:=jk.mpr (by have:1*A<=N*A:=mQ A n1;lia);lia)
 have nb:N<=100:=by have:N*1<=N*A:=sJ N a1;lia
 have moN:=mo N (jk.mpr (by lia))
 have k3:(N:Int)*A<=1000:=by rw[eNA];lia
 have k4:-1000<=(N:Int)*A:=by rw[eNA];lia
 rw[b_law_table];simp_all! only[moN,h1,wp_row hl hs k3 k4 w1 w2];intro xs lx hx
 have lx:xs.length=N*A:=by rw[lx,eNA,bZ]
 simp_all! only[wpG];refine⟨rfl,by unfold qO;lia,by rw[kZ];simp;unfold lim;lia,?_⟩
 rw[bZ,KH (h:=λi=>((xs.drop (i*A)).take A).map nq) (λi hi Q=>by
  have m1:=mo i (jk.mpr (by lia));have m2:=mo ((i:Int)+1) (jk.mpr (by lia));have c:=cut_row lx hi
  dsimp! only[m1,m2,prt,kO,Je,slD,yN,c])]
 intro ns' s' N' A' n' e;simp only[bO,D.int.injEq,and_true]at e;obtain⟨_,_,e1,e2,e3⟩:=e
 have e1:N=N':=by lia
 have e2:A=A':=by lia
 subst e1 e2;refine⟨(bw N).map λi=>(xs.drop (i*A)).take A,⟨by simp,λr hr=>?_,λr hr x hx'=>?_⟩,?_⟩
 ·obtain⟨i,hi,rfl⟩:=bI.mp hr;have hi:=dw.mp hi;have h1:(i+1)*A<=N*A:=mQ A hi;have ex:(i+1)*A=i*A+A:=jdl i A;rw[gK,mz];lia
 ·obtain⟨i,hi,rfl⟩:=bI.mp hr;exact(hx x (gO (nR hx'))).sharp w2
 ·rw[Jz,bL];rfl
variable{ns:List Int}{N A:Nat}{Q:D->Prop}{E:XD->Prop}
theorem wp_tab{s:Int}(hl:ns.length<=63)(hs:0<=s)(h:1<=A/\1<=N/\N*A<=100)(w1:8<=n)(w2:n<=64):c_tab.wp [.lst (ns.map .int),.int s,.int N,.int A,.int n] Q E ↔ ∀T,Shape N A T->Q (tabD T):=by
 constructor
 ·intro w T g
  refine w.2.1 _ λns' s' N' A' n' e=>?_
  simp only[bO,D.int.injEq,and_true]at e;obtain⟨_,_,e1,e2,e3⟩:=e
  have e1:N=N':=by lia
  have e2:A=A':=by lia
  subst e1 e2;exact⟨T,g,rfl⟩
 ·intro q;refine⟨⟨ns,s,N,A,n,rfl,⟨hl,hs⟩,h,w1,w2⟩,λd hd=>?_,λ_ z=>z.elim⟩;obtain⟨T,g,rfl⟩:=hd ns s N A n rfl;exact q T g
structure RowsOk (M:List (List (Int×Int))):Prop where
 n0:M ≠ []
 few:M.length<=200
 row:∀r∈M,r ≠ []/\Smalls r
structure LowW (M:List (List (Int×Int))) (low:Int):Prop where
 lo:-130<=low
 hi:low<=130
 le:∀r∈M,∀x∈r,low<=x.2
def c_wholes:Ctr where
 pre ds:=∃M,ds=[tabD M]/\RowsOk M
 res ds d:=∀M,ds=[tabD M]->∃low,LowW M low/\d=.tup [wD (M.map λr=>r.map (atW low)),.int low]
theorem k_wholes{C:Cfg}:jQ C 2 b_law_wholes c_wholes:=by
 rintro ds ⟨M,rfl,g⟩;have few:=g.few
 have l1:M.length<=lim:=by unfold lim;lia
 rw[b_law_wholes,tabD];simp_all! only[bj];refine⟨l1,?_⟩
 rw[jq (g:=λr:List (Int×Int)=>D.lst (r.map nq)) (h:=λr=>D.int (mmF false 0 (r.map (·.2)))) (λr hr Q=>by
  obtain⟨r0,s⟩:=g.row r hr
  have l2:r.length<=lim:=by have:=s.len;unfold lim;lia
  dsimp! only[bj,l2];rw[jq (g:=nq) (h:=λx:Int×Int=>D.int x.2) (λx _ Q=>by rw[yo]),show (r.map λx=>D.int x.2)=(r.map (·.2)).map .int by rw[bL];rfl,Qd]
  exact and_iff_right (by simpa using r0))]
 rw[show (M.map λr=>D.int (mmF false 0 (r.map (·.2))))=(M.map λr=>mmF false 0 (r.map (·.2))).map .int by rw[bL];rfl,Qd];refine⟨by simpa using g.n0,?_⟩;obtain⟨p1,p2⟩:=Ql (d:=0) (ns:=M.map λr=>mmF false 0 (r.map (·.2)));generalize mmF false 0 (M.map λr=>mmF false 0 (r.map (·.2)))=low at *
 have le:∀r∈M,∀x∈r,low<=x.2:=λr hr x hx=>Int.le_trans (p1 _ (bI.mpr ⟨r,hr,rfl⟩)) ((Ql (d:=0) (ns:=r.map (·.2))).1 _ (bI.mpr ⟨x,hx,rfl⟩))
 have lb:-130<=low/\low<=130:=by
  rcases p2 with z|z
  ·obtain⟨r,hr,e⟩:=bI.mp z;obtain⟨r0,s⟩:=g.row r hr;rcases(Ql (d:=0) (ns:=r.map (·.2))).2 with y|y
   ·obtain⟨x,hx,e2⟩:=bI.mp y;have:=(s.all x hx).lo;have:=(s.all x hx).hi;lia
   ·exact absurd (jck.mp y.1) r0
  ·exact absurd (jck.mp z.1) g.n0
 simp_all! only[bj];refine⟨l1,?_⟩
 rw[jq (g:=λr:List (Int×Int)=>D.lst (r.map nq)) (h:=λr=>D.lst ((r.map (atW low)).map .int)) (λr hr Q=>by
  obtain⟨r0,s⟩:=g.row r hr
  have l2:r.length<=lim:=by have:=s.len;unfold lim;lia
  dsimp! only[bj,l2]
  rw[jq (g:=nq) (h:=λx:Int×Int=>D.int (atW low x)) (λx hx Q=>by
   have h1:=le r hr x hx;have h2:=(s.all x hx).b;have h3:=(s.all x hx).hi
   have so:ShlOk x.1 (x.2-low):=⟨by lia,by lia⟩
   rw[yF,yo,ZD,KN]
   exact and_iff_right so),bL]
  rfl)]
 intro M' e;rw[<- qu (r:=M) e];exact⟨low,⟨lb.1,lb.2,le⟩,by unfold wD;rw[bL];rfl⟩
variable{M:Int}
theorem zd{M:List (List (Int×Int))}(g:RowsOk M):c_wholes.wp [tabD M] Q E ↔ ∀low,LowW M low->Q (.tup [wD (M.map λr=>r.map (atW low)),.int low]):=by
 constructor
 ·intro w low h
  refine w.2.1 _ λM' e=>?_
  rw[<- qu e];exact⟨low,h,rfl⟩
 ·intro q;refine⟨⟨M,rfl,g⟩,λd h=>?_,λ_ z=>z.elim⟩;obtain⟨low,hw,rfl⟩:=h M rfl;exact q low hw
def c_are_ratios:Ctr where
 pre ds:=∃qs:List Rat,ds=[.lst (qs.map rq),.int qs.length]/\∀q∈qs,szr 9000 q
 res _ d:=d=.bl true
variable{j:Nat}
theorem k_are_ratios{C:Cfg}(h1:C.ct i=qW)(h2:C.ct j=kH):jQ C 3 (b_law_are_ratios i j) c_are_ratios:=by
 rintro ds ⟨qs,rfl,hs⟩;rw[b_law_are_ratios];refine Zz (by dsimp! only[bj]) ?_;refine jV (λσ=>∃a,σ=[some (.sh (.lst (qs.map rq))),some (.sh (.int qs.length)),a]) ?_ ?_
 ·refine jbX (λd=>∃q∈qs,d=rq q) (λσ=>∃a,σ=[some (.sh (.lst (qs.map rq))),some (.sh (.int qs.length)),a]) ?_ ⟨none,rfl⟩ ?_ λσ h=>h
  ·dsimp! only[];intro d hd;obtain⟨q,hq,rfl⟩:=bI.mp hd;exact⟨q,hq,rfl⟩
  ·rintro d σ ⟨q,hq,rfl⟩ ⟨a,rfl⟩
   have e2:gY q.num q.den=1:=by
    have:=q.reduced;unfold je4 at this;unfold gY;simpa using this
   have d0:=uE q
   have b1:bits q.num<=9000/\bits (q.den:Int)<=9000:=⟨(hs q hq).1,(hs q hq).2⟩
   have d1:¬ (q.den:Int)<1:=by lia
   unfold rq;refine Zz ?_ (Zz ?_ ?_)
   ·simp_arith only[h1,h2,qW,kH,isInt,e2,b1,d1]
   ·simp_arith only[h1,h2,qW,kH,isInt,e2,b1,d1]
   rw[xN];exact⟨_,rfl⟩
 rintro σ ⟨a,rfl⟩;simp_all! only[];rfl
variable{qs:List Rat}{k:Nat}
theorem wp_are{k:Int}(e:k=qs.length)(h:∀q∈qs,szr 9000 q):c_are_ratios.wp [.lst (qs.map rq),.int k] Q E ↔ Q (.bl true):=by
 subst e;exact⟨λw=>w.2.1 _ rfl,λq=>⟨⟨qs,rfl,h⟩,λd e=>by rw[e];exact q,λ_ z=>z.elim⟩⟩
def kf(ps:List Nat)(t:Nat)(r:List (Int×Int)):List (Int×Int):=(ps ++ [t]).map λp=>r.getD p (0,0)
theorem yl(ps:List Nat)(t:Nat)(r:List (Int×Int)):kf ps t r=(ps.map λp=>r.getD p (0,0)) ++ [r.getD t (0,0)]:=by unfold kf;rw[b6];rfl
variable{ps:List Nat}{t:Nat}
theorem vD{r:List (Int×Int)}(h:x∈kf ps t r):x∈kq ps t r:=by
 rw[yl]at h;unfold kq;rw[bS];exact bo _ h
variable{T:List (List (Int×Int))}
theorem lef_ok(g:FitOk T ps t):RowsOk (T.map (kf ps t)):=by
 refine⟨by simpa using g.n0,by have:=g.few;rw[bj];lia,λl hl=>?_⟩;obtain⟨r,hr,rfl⟩:=bI.mp hl;refine⟨by rw[yl];simp,⟨by have:=g.pl;rw[yl];simp;lia,λx hx=>(g.sm r hr).all x (vD hx)⟩⟩
variable{l:List Int}
theorem V9(h:k<l.length):atD (l.map .int) (k:Int)=some (.int (l.getD k 0)):=by
 unfold atD;rw[if_pos (by lia),bZ,bW,bE h,K40.getD_at h];rfl
theorem VU{x:Int}(h:k<l.length):(l ++ [x]).getD k 0=l.getD k 0:=by simp[jcv,dz h]
theorem UX{as bs:List Int}(h:bs.length=as.length):((bw as.length).map λk=>bs.getD k 0*as.getD k 0).sum=kv as bs:=by
 unfold kv;congr 1
 refine wA (by simp[h]) λi h1 h2=>?_
 simp only[bj,nS]at h1;rw[dC,dC,nu,List.getElem_zip,K40.getD_at (by lia),K40.getD_at (by lia),mO]
theorem KZ(k:Nat):((2^k:Int):Rat)=tw k:=by
 have:=j7 0 k;rw[jcu,qX]at this;rw[this]
 grind
def c_lefts:Ctr where
 pre ds:=∃T ps t qs,ds=UQ T ps t qs/\FitOk T ps t/\PartsOk ps qs
 res ds d:=∀T ps t qs,ds=UQ T ps t qs->∃F u low,MissOk T ps t qs F u/\LowW (T.map (kf ps t)) low/\d=.tup [.lst (T.map λr=>.int (F r)),wD ((T.map (kf ps t)).map λr=>r.map (atW low)),.int u]
def uw(low u:Int)(ps:List Nat)(t:Nat)(q0:Rat)(qt:List Rat)(r:List (Int×Int)):Int:=(atW low (r.getD t (0,0))*u-kv ((ps.map λp=>r.getD p (0,0)).map (atW low)) (qt.map (kj u)))*2^low.toNat-kj u q0*2^(-low).toNat
theorem Uz{q0:Rat}{qt:List Rat}{low u:Int}(g:FitOk T ps t)(p:PartsOk ps (q0::qt))(L:LowW (T.map (kf ps t)) low)(U:UnderOk (q0::qt) u):MissOk T ps t (q0::qt) (uw low u ps t q0 qt) (u*2^(-low).toNat):=by
 have u0:=U.pos;have pl:=g.pl;have ql:=p.len
 have ub:=U.bits p.pb λ_ z=>z
 have lo:=L.lo;have hi:=L.hi;refine⟨jcN u0 (two_pow_pos _),?_,λr hr=>?_,λr hr=>?_⟩
 ·have:=yV (w:=u) (k:=(-low).toNat);lia
 ·have m1:=g.sm r hr;have x1:=x6 (low:=low) (m1.all (r.getD t (0,0)) (by unfold kq;simp)) lo
  have bT:∀a∈qt.map (kj u),bits a<=3800:=by
   intro a ha;obtain⟨q,hq,rfl⟩:=bI.mp ha;have:=ue u0 (p.pb.sz q (bo _ hq));lia
  have b0:=ue u0 (p.pb.sz q0 (bB ..))
  have bd:=Xb (as:=(ps.map λp=>r.getD p (0,0)).map (atW low)) (bs:=qt.map (kj u)) (A:=330) (B:=3800) (λa ha=>by
   obtain⟨x,hx,rfl⟩:=bI.mp ha
   exact x6 (m1.all x (vD (by rw[yl];exact dI _ hx))) lo) bT
  rw[bj,bj]at bd;unfold uw;generalize kv ((ps.map λp=>r.getD p (0,0)).map (atW low)) (qt.map (kj u))=d at *;generalize atW low (r.getD t (0,0))=a at *;generalize kj u q0=b at *;have:=kc a u;have:=uf (a*u) d;have:=yV (w:=a*u-d) (k:=low.toNat);have:=yV (w:=b) (k:=(-low).toNat);have:=uf ((a*u-d)*2^low.toNat) (b*2^(-low).toNat);lia
 ·have le:∀x∈kf ps t r,low<=x.2:=L.le _ (bI.mpr ⟨r,hr,rfl⟩);have e1:=J51.atW_vr (le (r.getD t (0,0)) (by rw[yl];simp));have e2:=ZQ (u:=u) (ps.map λp=>r.getD p (0,0)) qt (λx hx=>le x (by rw[yl];exact dI _ hx)) (λq hq=>U.dvd q (bo _ hq));have e3:=Q0 (U.dvd q0 (bB ..));have e4:=zA low;unfold uw Jj kM;rw[uQ,vr_one,jch,bY,jch,bY,bY,bY,e1,e2,e3,KZ,KZ];generalize KR (ps.map λp=>r.getD p (0,0)) qt=S;generalize vr (r.getD t (0,0))=v;rcases tY low 0 with z|z
  ·rw[show ((low.toNat:Nat):Int)=0 by lia,show (((-low).toNat:Nat):Int)=-low by lia,qX]
   grind
  ·rw[show ((low.toNat:Nat):Int)=low by lia,show (((-low).toNat:Nat):Int)=0 by lia,qX]
   grind
variable{i1 i2:Nat}
theorem k_lefts{C:Cfg}(h1:C.ct i1=c_wholes)(h2:C.ct i2=kH):jQ C 13 (b_law_lefts i1 i2) c_lefts:=by
 rintro ds ⟨T,ps,t,qs,rfl,g,p⟩;have few:=g.few;have pl:=g.pl;have ql:=p.len
 have l1:T.length<=lim:=by unfold lim;lia
 have l2:ps.length<=lim:=by unfold lim;lia
 have l3:ps.length+1<=lim:=by unfold lim;lia
 have w1:=λQ E=>zd (Q:=Q) (E:=E) (lef_ok g)
 have eT:D.lst (T.map λr=>D.lst ((kf ps t r).map nq))=tabD (T.map (kf ps t)):=by unfold tabD;rw[bL];rfl
 rw[b_law_lefts,UQ,tabD,plD];simp_all! only[bj,l1]
 rw[jq (g:=λr:List (Int×Int)=>D.lst (r.map nq)) (h:=λr=>D.lst ((kf ps t r).map nq)) (λr hr Q=>by
  obtain⟨s,ht,hp⟩:=g.row r hr;dsimp! only[bj,df,l3]
  rw[show (ps.map λp:Nat=>D.int p) ++ [D.int t]=(ps ++ [t]).map λp:Nat=>D.int p by rw[b6];rfl,jq (g:=λp:Nat=>D.int p) (h:=λp=>nq (r.getD p (0,0))) (λp hp' Q=>by
   have a:=XF (r:=r) (p:=p) (by
    rcases dP.mp hp' with z|z
    ·exact hp p z
    ·simp only[bD,bM,or_false]at z;subst z;exact ht)
   dsimp! only[a])]
  unfold kf;rw[bL]
  rfl),eT]
 simp_all! only[h1,w1];intro low L
 obtain⟨q0,qt,rfl⟩:∃q0 qt,qs=q0::qt:=by
  cases qs with
  |nil=>simp at ql
  |cons a l=>exact⟨a,l,rfl⟩
 have lt:qt.length=ps.length:=by simpa using ql
 let St (u:Int) (one:Option Sl):Sto:=[some (.sh (.lst (T.map λr=>.lst (r.map nq)))),some (.sh (.lst (ps.map λp:Nat=>.int p))),some (.sh (.int t)),some (.sh (.lst ((q0::qt).map rq))),some (.sh (wD ((T.map (kf ps t)).map λr=>r.map (atW low)))),some (.sh (.int low)),some (.sh (.int u)),one,none,none,none,none,none]
 let P:List D->Sto->Prop:=λds σ=>∃(zs ys:List Rat) (u:Int) (a:Option Sl),(zs++ys=q0::qt/\ds=ys.map rq/\UnderOk zs u)/\σ=St u a
 refine jV (P []) ?_ ?_
 ·rw[yh]
  simp_arith only[]
  refine kS P ⟨[],q0::qt,1,_,⟨rfl,rfl,by decide,λq hq=>absurd hq (by simp),λm _=>Int.one_dvd m⟩,rfl⟩ ?_ λσ h=>h
  rintro _ ds σ ⟨zs,ys,u,a,⟨ha,hd,gu⟩,rfl⟩
  cases ys with
  |nil=>simp at hd
  |cons y ys =>
   simp only[bz,bO]at hd;obtain⟨rfl,rfl⟩:=hd;have sy:=p.pb.sz y (by rw[<- ha];simp)
   have bu:=gu.bits p.pb λq hq=>by rw[<- ha];exact dI _ hq
   have mo:qh u y.den:=jH (by have:=sy.2;lia);have dy:=uE y;obtain⟨v,ev,v0,v1,v2,v3,_⟩:=V6 gu.pos dy;have g0:0<gY u y.den:=pP _ (by have:=gu.pos;lia)
   have gb:bits (gY u y.den:Int)<=9000:=by
    refine dg (ku ?_) (dg sy.2 (by decide));have:=jd5 (by lia) (jcX u y.den);lia
   have pc:bits u<=9000/\bits (y.den:Int)<=9000:=⟨by lia,by have:=sy.2;lia⟩
   simp only[St];simp_all! only[jaW,mo,h2,Ctr.wp,kH,ev,pc];refine⟨⟨by lia,gb⟩,zs ++ [y],ys,v,_,⟨by simp[ha],rfl,v0,λq hq=>?_,λm hq=>?_⟩,rfl⟩
   ·rcases dP.mp hq with z|z
    ·exact Int.dvd_trans (gu.dvd q z) v1
    ·simp only[bD,bM,or_false]at z;subst z;exact v2
   ·exact v3 _ (gu.b _ λq hq'=>hq q (dI _ hq')) (hq y (by simp))
 rintro σ ⟨zs,ys,u,a,⟨ha,hd,U⟩,rfl⟩
 have:ys=[]:=by simpa using hd.symm
 subst this;rw[dM]at ha;subst ha;have u0:=U.pos
 have ub:=U.bits p.pb λ_ z=>z
 simp only[St];simp_all! only[bj];refine⟨by unfold lim;lia,?_⟩
 rw[show rq q0::qt.map rq=(q0::qt).map rq from rfl,jq (g:=rq) (h:=λq=>D.int (kj u q)) (λq hq Q=>by
  have d:=uE q;have sz:=p.pb.sz q hq
  have f:(q.den:Int)≠0/\bits (q.den:Int)<=9000:=⟨by lia,by have:=sz.2;lia⟩
  have mo:qh q.num (u.fdiv q.den):=jH (by
   rw[ky (by lia)];have:bits (u / (q.den:Int))<=bits u:=zb d;have:=sz.1
   lia)
  dsimp! only[ix_rq0,jaW,f,mo]
  rfl)]
 rw[show ((q0::qt).map λq=>D.int (kj u q))=((kj u q0)::qt.map (kj u)).map .int by rw[bz,bz,bL];rfl]
 have em:(if (low:Int) > 0 then low else 0).toNat=low.toNat:=by split<;>lia
 have em2:(if (0:Int)-low > 0 then 0-low else 0).toNat=(-low).toNat:=by split<;>lia
 have lo:=L.lo;have hi:=L.hi
 have e0:0<=(if (low:Int) > 0 then low else 0)/\(if (low:Int) > 0 then low else 0)<=130:=by split<;>lia
 have e1:0<=(if (0:Int)-low > 0 then 0-low else 0)/\(if (0:Int)-low > 0 then 0-low else 0)<=130:=by split<;>lia
 generalize hdn:(if (low:Int) > 0 then low else 0)=dn at *;generalize hup:(if (0:Int)-low > 0 then 0-low else 0)=up at *;simp_all! only[hdn]
 have eW:wD ((T.map (kf ps t)).map λr=>r.map (atW low))=D.lst (T.map λr=>D.lst (((kf ps t r).map (atW low)).map .int)):=by unfold wD;rw[bL,bL];rfl
 rw[eW]
 let S2 (md:List D) (x y:Option Sl):Sto:=[some (.sh (.lst (T.map λr=>.lst (r.map nq)))),some (.sh (.lst (ps.map λp:Nat=>.int p))),some (.sh (.int t)),some (.sh (.lst (rq q0::qt.map rq))),some (.sh (.lst (T.map λr=>.lst (((kf ps t r).map (atW low)).map .int)))),some (.sh (.int low)),some (.sh (.int u)),a,some (.sh (.lst (.int (kj u q0)::(qt.map (kj u)).map .int))),some (.sh (.int dn)),some (.ow md),x,y]
 have b0:=ue u0 (p.pb.sz q0 (bB ..))
 have so0:ShlOk (kj u q0) up:=⟨e1.1,by lia⟩
 refine jV (λσ=>∃x y,σ=S2 (T.map λr=>.int (uw low u ps t q0 qt r)) x y) ?_ ?_
 ·rw[yh]
  simp_arith only[]
  refine kS (λds σ=>∃(pre post:List (List (Int×Int))) (x y:Option Sl),(pre++post=T/\ds=post.map λr=>D.lst (((kf ps t r).map (atW low)).map .int))/\σ=S2 (pre.map λr=>.int (uw low u ps t q0 qt r)) x y) ⟨[],T,none,none,⟨rfl,rfl⟩,rfl⟩ ?_ ?_
  ·rintro d ds σ ⟨pre,post,x,y,⟨hp,hd⟩,rfl⟩
   cases post with
   |nil=>cases hd
   |cons r post =>
    simp only[bz,bO]at hd;obtain⟨rfl,rfl⟩:=hd
    have hr:r∈T:=by rw[<- hp];simp
    have m1:=g.sm r hr
    have lp:pre.length<lim:=by rw[<- hp,df,gf]at few;unfold lim;lia
    let as:=(ps.map λp=>r.getD p (0,0)).map (atW low)
    have la:as.length=ps.length:=by simp[as]
    have lb:(qt.map (kj u)).length=as.length:=by rw[la,bj];exact lt
    have ea:(kf ps t r).map (atW low)=as ++ [atW low (r.getD t (0,0))]:=by rw[yl,b6];rfl
    have bA:∀a∈as,bits a<=330:=λa ha=>by
     obtain⟨x,hx,rfl⟩:=bI.mp ha;exact x6 (m1.all x (vD (by rw[yl];exact dI _ hx))) lo
    have bT:∀a∈qt.map (kj u),bits a<=3800:=λa ha=>by
     obtain⟨q,hq,rfl⟩:=bI.mp ha;have:=ue u0 (p.pb.sz q (bo _ hq));lia
    have bx:=x6 (low:=low) (m1.all (r.getD t (0,0)) (by unfold kq;simp)) lo;have bd:=Xb bA bT
    have at1:∀k:Nat,k<ps.length->atD (D.int (kj u q0)::(qt.map (kj u)).map .int) ((k:Int)+1)=some (.int ((qt.map (kj u)).getD k 0)):=λk hk=>by
     have:=V9 (l:=kj u q0::qt.map (kj u)) (k:=k+1) (by simp;lia);rw[show ((k:Int)+1)=((k+1:Nat):Int) by push_cast;rfl,show D.int (kj u q0)::(qt.map (kj u)).map .int=(kj u q0::qt.map (kj u)).map .int from rfl,this];rfl
    have at2:∀k:Nat,k<ps.length->atD (((kf ps t r).map (atW low)).map .int) (k:Int)=some (.int (as.getD k 0)):=λk hk=>by
     rw[V9 (by rw[ea];simp;lia),ea,VU (by lia)]
    have at3:atD (((kf ps t r).map (atW low)).map .int) (-1)=some (.int (atW low (r.getD t (0,0)))):=by
     rw[Uk (by rw[ea];simp),ea];unfold ZC;rw[List.getLast?_concat];rfl
    simp only[S2];simp_all! only[bj,rg_1];refine⟨by unfold qO;lia,by rw[kZ];simp;unfold lim;lia,?_⟩
    rw[bZ,kG (h:=λk=>D.int ((qt.map (kj u)).getD k 0*as.getD k 0)) (λk hk Q=>by
     have a1:=at1 k hk;have a2:=at2 k hk
     have mo:qh ((qt.map (kj u)).getD k 0) (as.getD k 0):=jH (by
      have x1:=bT ((qt.map (kj u)).getD k 0) (by rw[K40.getD_at (by lia)];exact dH _);have x2:=bA (as.getD k 0) (by rw[K40.getD_at (by lia)];exact dH _)
      lia)
     dsimp! only[a1,a2,mo])]
    rw[show ((bw ps.length).map λk=>D.int ((qt.map (kj u)).getD k 0*as.getD k 0))=((bw as.length).map λk=>(qt.map (kj u)).getD k 0*as.getD k 0).map .int by rw[la,bL];rfl,KU,UX lb];have mo:qh (atW low (r.getD t (0,0))) u:=jH (by lia);have bb:=uf (atW low (r.getD t (0,0))*u) (kv as (qt.map (kj u)));have bm:=kc (atW low (r.getD t (0,0))) u
    have so:ShlOk (atW low (r.getD t (0,0))*u-kv as (qt.map (kj u))) dn:=⟨e0.1,by lia⟩
    simp_all! only[at3,mo,so,hup,so0,bj,lp]
    have eF:D.int ((atW low (r.getD t (0,0))*u-kv as (qt.map (kj u)))*2^dn.toNat-kj u q0*2^up.toNat)=D.int (uw low u ps t q0 qt r):=by rw[em,em2];rfl
    rw[eF,show (pre.map λr=>D.int (uw low u ps t q0 qt r)) ++ [D.int (uw low u ps t q0 qt r)]=(pre ++ [r]).map λr=>D.int (uw low u ps t q0 qt r) by rw[b6];rfl];exact⟨pre ++ [r],post,_,_,⟨by rw[<- hp];simp,rfl⟩,rfl⟩
  ·rintro σ ⟨pre,post,x,y,⟨hp,hd⟩,rfl⟩
   have:post=[]:=by simpa using hd.symm
   subst this;rw[dM]at hp;subst hp;exact⟨x,y,rfl⟩
 rintro σ ⟨x,y,rfl⟩;simp only[S2]
 have sou:ShlOk u up:=⟨e1.1,by lia⟩
 simp_all! only[hup,sou];intro T' ps' t' qs' e;obtain⟨rfl,rfl,rfl,rfl⟩:=ZG (T:=T) (ps:=ps) (t:=t) (qs:=q0::qt) e;exact⟨_,_,_,Uz g p L U,L,by rw[em2];unfold wD;rw[bL,bL];rfl⟩
theorem jaj(g:FitOk T ps t)(p:PartsOk ps qs):c_lefts.wp [tabD T,plD ps,.int t,.lst (qs.map rq)] Q E ↔ ∀F u low,MissOk T ps t qs F u->LowW (T.map (kf ps t)) low->Q (.tup [.lst (T.map λr=>.int (F r)),wD ((T.map (kf ps t)).map λr=>r.map (atW low)),.int u]):=by
 constructor
 ·intro w F u low m L
  refine w.2.1 _ λT' ps' t' qs' e=>?_
  obtain⟨rfl,rfl,rfl,rfl⟩:=ZG (T:=T) (ps:=ps) (t:=t) (qs:=qs) e;exact⟨F,u,low,m,L,rfl⟩
 ·intro q;refine⟨⟨T,ps,t,qs,rfl,g,p⟩,λd h=>?_,λ_ z=>z.elim⟩;obtain⟨F,u,low,m,L,rfl⟩:=h T ps t qs rfl;exact q F u low m L
theorem compLF_map{α:Type}{p:D->(Bool->Prop)->Prop}{f:D->(D->Prop)->Prop}{g h:α->D}{b:α->Bool}:∀ {l:List α} {Q:List D->Prop},(∀a∈l,∀Q,p (g a) Q ↔ Q (b a))->(∀a∈l,∀Q,f (g a) Q ↔ Q (h a))->(kz p f (l.map g) Q ↔ Q ((l.filter b).map h))
 |[],Q,_,_=>Iff.rfl
 |a::l,Q,k1,k2=>by
  have ih:=λQ=>compLF_map (Q:=Q) (λx hx=>k1 x (bo _ hx)) (λx hx=>k2 x (bo _ hx))
  rw[bz,kz,k1 a (bB ..),se]
  cases b a with
  |true=>simp only[if_true];rw[k2 a (bB ..),ih,bz]
  |false=>simp only[dF,if_false];rw[ih]
theorem hole:∀(A:Nat) (ps:List Nat),(∀i,i<A->i∈ps)->A<=ps.length
 |0,_,_=>mI _
 |A+1,ps,h=>by
  have m:=h A (by lia)
  have:=hole A (ps.erase A) λi hi=>(List.mem_erase_of_ne (by lia)).mpr (h i (by lia))
  rw[List.length_erase_of_mem m]at this;have:0<ps.length:=List.length_pos_of_mem m;lia
theorem Ki{f:List D->(List D->Prop)->Prop}{P:List D->Prop}(hf:∀r,P r->∀Q:List D->Prop,(∀r',P r'->Q r')->f r Q):∀ {rows:List (List D)} {Q:List (List D)->Prop},(∀r∈rows,P r)->(∀rows',rows'.length=rows.length->(∀r∈rows',P r)->Q rows')->zO f rows Q
 |[],Q,_,q=>q [] rfl (λr hr=>absurd hr (by simp))
 |r::rows,Q,h,q=>by
  unfold zO
  refine hf r (h r (bB ..)) _ λr' hr'=>Ki hf (λx hx=>h x (bo _ hx)) λrows' hl hp=>q (r'::rows') (by simp[hl]) λx hx=>?_
  rcases bD.mp hx with rfl|z
  ·exact hr'
  ·exact hp x z
def vG(A:Nat)(r:List D):Prop:=∃l:List (Int×Int),r=l.map nq/\l.length=A/\∀x∈l,SharpP x
theorem vG.set{p:Nat}{l:List (Int×Int)}{y:Int×Int}(h:l.length=A)(hx:∀x∈l,SharpP x)(hy:SharpP y):vG A ((l.map nq).set p (nq y)):=by
 refine⟨l.set p y,by rw[List.map_set],by rw[g6];exact h,λx m=>?_⟩;rcases List.mem_or_eq_of_mem_set m with z|z
 ·exact hx x z
 ·subst z;exact hy
theorem VG{rows:List (List D)}(hl:rows.length=N)(h:∀r∈rows,vG A r):∃T,Shape N A T/\kA rows=tabD T:=by
 induction rows generalizing N with
 |nil=>exact⟨[],⟨by simpa using hl,λr hr=>absurd hr (by simp),λr hr=>absurd hr (by simp)⟩,rfl⟩
 |cons r rows ih =>
  obtain⟨T,g,e⟩:=ih (N:=rows.length) rfl λx hx=>h x (bo _ hx)
  obtain⟨l,rfl,ll,hx⟩:=h r (bB ..);refine⟨l::T,⟨by rw[gf,g.len];simpa using hl,λx hx=>?_,λx hx' y hy=>?_⟩,?_⟩
  ·rcases bD.mp hx with rfl|z
   ·exact ll
   ·exact g.row x z
  ·rcases bD.mp hx' with rfl|z
   ·exact hx y hy
   ·exact g.num x z y hy
  ·unfold kA tabD at *;injection e with e;rw[bz,bz,e]
def c_case(M:Int):Ctr where
 pre ds:=∃(ns:List Int) (n:Nat),ds=[.lst (ns.map .int),.int n,.int M]/\ns.length<=63/\8<=n/\n<=64
 res _ d:=∃T ps t,FitOk T ps t/\d=.tup [tabD T,plD ps,.int (t:Nat)]
theorem wp_case(hl:ns.length<=63)(n1:8<=n)(n2:n<=64):(c_case M).wp [.lst (ns.map .int),.int n,.int M] Q E ↔ ∀T ps t,FitOk T ps t->Q (.tup [tabD T,plD ps,.int (t:Nat)]):=by
 constructor
 ·intro w T ps t g;exact w.2.1 _ ⟨T,ps,t,g,rfl⟩
 ·intro q;refine⟨⟨ns,n,rfl,hl,n1,n2⟩,λd h=>?_,λ_ z=>z.elim⟩;obtain⟨T,ps,t,g,rfl⟩:=h;exact q T ps t g
theorem Jn{C:Cfg}{σ:Sto}{c e v:Ex}{r:List D}{Q:List D->Prop}(g:vG A r)(hc:wpE C c (setS σ j none) λd=>∃b,d=.bl b)
 (hv:∀l:List (Int×Int),l.length=A->(∀x∈l,SharpP x)->wpE C v (setS σ j (some (.sh (.lst (l.map nq))))) λd=>∃y,d=nq y/\SharpP y) (he:wpE C e (setS σ j none) λk=>∃p:Nat,k=.int p/\p<A) (q:∀r',vG A r'->Q r'):U0 C j σ (.sto (some c) e v) r Q:=by
 obtain⟨l,rfl,ll,hx⟩:=g;unfold U0;refine ja c (λd hb=>?_) hc;obtain⟨b,rfl⟩:=hb
 cases b with
 |false=>exact q _ ⟨l,rfl,ll,hx⟩
 |true =>
  refine ja v (λd hy=>?_) (hv l ll hx);obtain⟨y,rfl,sy⟩:=hy;refine⟨rfl,ja e (λk hk=>?_) he⟩;obtain⟨p,rfl,hp⟩:=hk;exact⟨⟨by lia,by rw[bj];lia⟩,q _ (vG.set ll hx sy)⟩
theorem K4(w p:Int):SharpP (dq ((w%4001-2000:Int)*tw (p%9-4))):=by
 have h:(w%4001-2000).natAbs<2^12:=by lia
 rw[<- KI];have b:=xt (w%4001-2000) (p%9-4);have s:=(b.num h).sz;have q:=b.pow h;have b9:=jk.mpr s
 refine⟨⟨by lia,?_,?_⟩,?_⟩<;>lia
def caseP(a:Int)(i_law_drawn i_law_cell i_law_table i_law_bare:Nat):Sm :=
 (.seq (.set 3 (.bin .add (.cst (.int 1)) (.bin .mod (.call i_law_drawn [(.call i_law_cell [(.var 0),(.cst (.int 0))]),(.cst (.int 120))]) (.cst (.int a)))))
 (.seq (.set 4 (.bi .max [(.cst (.int 1)),(.bi .min [(.bin .fdiv (.var 2) (.var 3)),(.bin .fdiv (.bin .sub (.bi .len [(.var 0)]) (.cst (.int 1))) (.var 3))])]))
 (.seq (.setG 5 i_law_table [(.var 0),(.cst (.int 1)),(.var 4),(.var 3),(.var 1)])
 (.seq (.set 6 (.call i_law_drawn [(.call i_law_cell [(.var 0),(.cst (.int 0))]),(.cst (.int 121))]))
 (.seq (.set 7 (.cmp .gt (.bin .mod (.bin .fdiv (.var 6) (.cst (.int 18000))) (.cst (.int 4))) (.cst (.int 0))))
 (.seq (.ite (.var 7) (.seq (.shrT 5)
  (.seq (.ownG 5 (.compE (.var 5) (.compE (.var 14) (.call i_law_bare [(.bin .sub (.bin .mod (.ix (.var 15) (.cst (.int 0))) (.cst (.int 4001))) (.cst (.int 2000))),(.bin .sub (.bin .mod (.ix (.var 15) (.cst (.int 1))) (.cst (.int 9))) (.cst (.int 4)))]))))
  .nop)) .nop)
 (.seq (.new 8)
 (.seq (.forR 9 [(.bi .min [(.var 3),(.bin .add (.cst (.int 1)) (.bin .mod (.var 6) (.bin .add (.cst (.int 2)) (.bi .int [(.var 7)]))))])] (.seq (.cpO 8 10 [(.var 3)] (.cmp .nin (.var 14) (.var 8)) (.var 14))
  (.seq (.shr 10)
  (.seq (.app 8 (.ix (.var 10) (.bin .mod (.bin .fdiv (.bin .fdiv (.var 6) (.cst (.int 3))) (.bin .add (.bin .mul (.var 9) (.cst (.int 7))) (.cst (.int 1)))) (.bi .len [(.var 10)]))))
  .nop))))
 (.seq (.set 11 (.bin .mod (.bin .fdiv (.var 6) (.cst (.int 500))) (.var 3)))
 (.seq (.set 12 (.bin .mod (.bin .fdiv (.var 6) (.cst (.int 3000))) (.cst (.int 6))))
 (.seq (.forT 13 5 [(.sto (some (.cmp .eq (.var 12) (.cst (.int 0)))) (.oix 8 (.cst (.int 0))) (.tup [(.cst (.int 1)),(.cst (.int 3))])),(.sto (some (.cmp .eq (.var 12) (.cst (.int 1)))) (.oix 8 (.neg (.cst (.int 1)))) (.tup [(.bin .sub (.cst (.int 0)) (.ix (.ix (.var 13) (.oix 8 (.cst (.int 0)))) (.cst (.int 0)))),(.ix (.ix (.var 13) (.oix 8 (.cst (.int 0)))) (.cst (.int 1)))])),(.sto (some (.cmp .eq (.var 12) (.cst (.int 2)))) (.oix 8 (.cst (.int 0))) (.tup [(.cst (.int 0)),(.cst (.int 0))]))])
 (.seq (.shr 8)
 (.seq (.shrT 5)
 (.seq (.ret (.tup [(.var 5),(.var 8),(.var 11)]))
 .nop))))))))))))))
theorem k_case{C:Cfg}{i3 i4:Nat}(h1:C.ct i1=kL)(h2:C.ct i2=yu)(h3:C.ct i3=c_tab)(h4:C.ct i4=xC)(g3:C.fr i3=false/\C.f2 i3=true){a:Int}(ha:1<=a)(ha6:a<=6)(hM:M<=60)(hM1:1<=M):jQ C 14 (caseP a i1 i2 i3 i4) (c_case M):=by
 rintro ds ⟨ns,n,rfl,hl,n1,n2⟩
 have z0:(0:Int)<=0:=by decide
 have z1:(0:Int)<=1:=by decide
 have an:¬ a=0:=by lia
 rw[caseP];simp_all! only[h1,h2,Zl hl z0,vS,an];intro _ m m0 m1
 obtain⟨A,eA,A1,A2⟩:∃A:Nat,1+m.fmod a=(A:Int)/\1<=A/\A<=6:=by
  rw[jD (by lia)];have:=g7 m (b:=a) (by lia);have:=gV m (b:=a) (by lia);exact⟨(1+m%a).toNat,by lia,by lia,by lia⟩
 rw[eA];have bA:bits (A:Int)<=4:=jk.mpr (by lia)
 have fA:¬ (A:Int)=0/\bits (A:Int)<=9000:=⟨by lia,by lia⟩
 simp_all! only[fA,bj]
 obtain⟨N,eN,N1,N2⟩:∃N:Nat,(if (if (ns.length-1:Int).fdiv A<jdM M A then (ns.length-1:Int).fdiv A else jdM M A) > 1 then (if (ns.length-1:Int).fdiv A<jdM M A then (ns.length-1:Int).fdiv A else jdM M A) else 1)=(N:Int)/\1<=N/\(N=1\/(N:Int)<=jdM M A):=by
  generalize jdM M A=y at *;generalize (ns.length-1:Int).fdiv A=x
  refine⟨(if (if x<y then x else y) > 1 then (if x<y then x else y) else 1).toNat,?_,?_,?_⟩<;>split<;>(try split)<;>lia
 rw[eN]
 have NA:N*A<=60:=by
  rcases N2 with z|z
  ·rw[z];lia
  ·rw[ky (by lia)]at z;have h1:=gS z (show (0:Int)<=A by lia);have h2:=jdq M (b:=A) (by lia)
   have h3:((N*A:Nat):Int)=N*A:=by push_cast;rfl
   lia
 have N6:N<=60:=by have:=sJ N A1;lia
 refine⟨⟨g3,rfl⟩,?_⟩;rw[h3,wp_tab hl z1 ⟨A1,N1,by lia⟩ n1 n2];intro T g;refine⟨T.map λr=>r.map nq,Jz T,?_⟩;intro _ m' m0' m1';refine⟨by decide,?_⟩;generalize decide (0<(m'.fdiv 18000).fmod 4)=li
 let S (rows:List (List D)) (x8 x9 x10:Option Sl):Sto:=[some (.sh (.lst (ns.map .int))),some (.sh (.int n)),some (.sh (.int M)),some (.sh (.int A)),some (.sh (.int N)),some (.ot rows),some (.sh (.int m')),some (.sh (.bl li)),x8,x9,x10,none,none,none]
 have tl:T.length<=lim:=by rw[g.len];unfold lim;lia
 refine jV (λσ=>∃T',Shape N A T'/\σ=S (T'.map λr=>r.map nq) none none none) ?_ ?_
 ·rw[kC];dsimp! only[]
  cases li with
  |false =>
   rw[if_neg (by decide),xN]
   exact⟨T,g,rfl⟩
  |true =>
   rw[if_pos rfl]
   let lf:Int×Int->Int×Int:=λx=>dq ((x.1%4001-2000:Int)*tw (x.2%9-4))
   simp_all! only[wpG];rw[<- Jz,tabD];refine⟨rfl,rfl,_,rfl,by rw[bj];exact tl,?_⟩
   rw[zG (g:=λr:List (Int×Int)=>D.lst (r.map nq)) (h:=λr=>(r.map lf).map nq) (λr hr Q=>by
    have rl:=g.row r hr
    have l2:r.length<=lim:=by rw[rl];unfold lim;lia
    dsimp! only[bj,l2]
    rw[jq (g:=nq) (h:=λx=>nq (lf x)) (λx hx Q=>by
     have f1:x.1.fmod 4001=x.1%4001:=jD (by decide);have f2:x.2.fmod 9=x.2%9:=jD (by decide);have b:=jk (i:=x.1%4001-2000) (n:=12)
     have w:=λQ E=>Qz (w:=x.1%4001-2000) (p:=x.2%9-4) (Q:=Q) (E:=E) (dg (b.mpr (by lia)) (by decide))
     dsimp! only[yF,yo,f1,f2,h4,w]
     rfl),bL]
    rfl)]
   rw[show (T.map λr=>(r.map lf).map nq)=(T.map λr=>r.map lf).map λr=>r.map nq by rw[bL];rfl];refine⟨T.map λr=>r.map lf,⟨by rw[bj];exact g.len,λr hr=>?_,λr hr x hx=>?_⟩,?_⟩
   ·obtain⟨q,hq,rfl⟩:=bI.mp hr;rw[bj];exact g.row q hq
   ·obtain⟨q,hq,rfl⟩:=bI.mp hr;obtain⟨y,hy,rfl⟩:=bI.mp hx;exact K4 _ _
   ·rfl
 rintro σ ⟨T',g',rfl⟩;simp only[S];simp_all! only[]
 obtain⟨ct,ec,c1,c2⟩:∃ct:Nat,(if 1+m'.fmod (2+if li=true then 1 else 0)<(A:Int) then 1+m'.fmod (2+if li=true then 1 else 0) else (A:Int))=(ct:Int)/\1<=ct/\(ct<=A/\ct<=3):=by
  cases li with
  |true =>
   rw[if_pos rfl,jD (by decide)]
   refine⟨(if 1+m'%(2+1)<(A:Int) then 1+m'%(2+1) else (A:Int)).toNat,?_,?_,?_⟩<;>split<;>lia
  |false =>
   simp only[dF,if_false];rw[jD (by decide)]
   refine⟨(if 1+m'%(2+0)<(A:Int) then 1+m'%(2+0) else (A:Int)).toNat,?_,?_,?_⟩<;>split<;>lia
 have li0:¬ (2+if li=true then (1:Int) else 0)=0:=by cases li<;>decide
 refine jV (λσ=>∃(ps:List Nat) (x9 x10:Option Sl),(ps.length=ct/\∀p∈ps,p<A)/\σ=S (T'.map λr=>r.map nq) (some (.ow (ps.map λp:Nat=>.int p))) x9 x10) ?_ ?_
 ·rw[vq];dsimp! only[li0];rw[ec];refine⟨by unfold qO;lia,?_⟩;rw[bZ];refine kS (λds σ=>∃(ps:List Nat) (x9 x10:Option Sl),(ps.length<=ct/\ds=j3 ps.length 1 (ct-ps.length)/\∀p∈ps,p<A)/\σ=S (T'.map λr=>r.map nq) (some (.ow (ps.map λp:Nat=>.int p))) x9 x10) ⟨[],none,none,⟨by simp,by simp,λp hp=>absurd hp (by simp)⟩,rfl⟩ ?_ ?_
  ·rintro d ds σ ⟨ps,x9,x10,⟨pl,hd,hp⟩,rfl⟩
   have hlt:ps.length<ct:=by
    rcases bU ps.length ct with z|z
    ·exact z
    ·rw[show ct-ps.length=0 by lia]at hd;cases hd
   rw[show ct-ps.length=(ct-(ps.length+1))+1 by lia,j3]at hd;simp only[bO]at hd;obtain⟨rfl,rfl⟩:=hd;simp only[S];rw[jI,ws_cpO];dsimp! only[];refine⟨by unfold qO;lia,by rw[kZ];simp;unfold lim;lia,?_⟩
   rw[bZ,kZ,compLF_map (b:=λi:Nat=>decide (i ∉ ps)) (h:=λi:Nat=>D.int i) (λi hi Q=>by
    rw[jcu];show (∃ms:List Int,(ps.map λp:Nat=>D.int p)=ms.map .int/\_/\isB Q (.bl (ms.contains (i:Int) == false))) ↔ _
    have e1:(ps.map λp:Nat=>D.int p)=(ps.map λp:Nat=>(p:Int)).map .int:=by rw[bL];rfl
    have e2:((ps.map λp:Nat=>(p:Int)).contains (i:Int) == false)=decide (i ∉ ps):=by
     rw[wU,nJ];simp only[beq_iff_eq,decide_eq_false_iff_not,decide_eq_true_eq,bI];constructor
     ·intro z h;exact z ⟨i,h,rfl⟩
     ·rintro z ⟨a,ha,e⟩
      have:a=i:=by lia
      subst this;exact z ha
    constructor
    ·rintro⟨ms,e,_,q⟩;rw[e1]at e;have e:=kx (λa b z=>by injection z) e;subst e;rw[e2]at q;exact q
    ·intro q
     exact⟨_,e1,by rw[bj];unfold lim;lia,by rw[e2];exact q⟩) (λi hi Q=>by rw[jcu])]
   have lf0:(bw A).filter (λi:Nat=>decide (i ∉ ps)) ≠ []:=by
    intro z
    have:=hole A ps λi hi=>Classical.byContradiction λhn=>by
     have:i∈(bw A).filter (λi:Nat=>decide (i ∉ ps)):=tf.mpr ⟨dw.mpr hi,by simpa using hn⟩;rw[z]at this;cases this
    lia
   have lfm:∀i∈(bw A).filter (λi:Nat=>decide (i ∉ ps)),i<A:=λi hi=>dw.mp (tf.mp hi).1
   generalize (bw A).filter (λi:Nat=>decide (i ∉ ps))=lf at *;refine⟨?_,?_⟩
   ·clear lf0 lfm
    induction lf with
    |nil=>rfl
    |cons x xs ih=>rw[bz,Jl,ih];rfl
   have l0:0<lf.length:=sH.mpr lf0;have k7:qh (ps.length:Int) 7:=.inr (.inl (by decide));have b7:bits ((ps.length:Int)*7+1)<=9000:=dg (jk (n:=10).mpr (by lia)) (by decide)
   have f7:¬ (ps.length:Int)*7+1=0:=by lia
   have f3:bits (3:Int)<=9000:=by decide
   have lL:¬ (lf.length:Int)=0:=by lia
   have pl2:ps.length<lim:=by unfold lim;lia
   simp_all! only[bj,f3,k7,f7,b7,lL,pl2];generalize ((m'.fdiv 3).fdiv ((ps.length:Int)*7+1))=z;rw[jD (by lia)]
   obtain⟨j,ej,jl⟩:∃j:Nat,z%(lf.length:Int)=j/\j<lf.length:=⟨(z%(lf.length:Int)).toNat,by have:=g7 z (b:=lf.length) (by lia);lia,by have:=g7 z (b:=lf.length) (by lia);have:=gV z (b:=lf.length) (by lia);lia⟩
   rw[ej]
   have aj:atD (lf.map λi:Nat=>D.int i) (j:Int)=some (.int (lf[j]:Nat)):=by
    unfold atD;rw[if_pos (by lia),bZ,bW,bE jl];rfl
   refine⟨_,aj,?_⟩;rw[show (ps.map λp:Nat=>D.int p) ++ [D.int (lf[j]:Nat)]=(ps ++ [lf[j]]).map λp:Nat=>D.int p by rw[b6];rfl];refine⟨ps ++ [lf[j]],_,_,⟨by simp;lia,by simp,λp hp'=>?_⟩,rfl⟩;rcases dP.mp hp' with y|y
   ·exact hp p y
   ·simp only[bD,bM,or_false]at y;subst y;exact lfm _ (dH jl)
  ·rintro σ ⟨ps,x9,x10,⟨pl,hd,hp⟩,rfl⟩
   have:ps.length=ct:=by
    rcases bU ps.length ct with z|z
    ·rw[show ct-ps.length=(ct-(ps.length+1))+1 by lia,j3]at hd;cases hd
    ·lia
   exact⟨ps,x9,x10,⟨this,hp⟩,rfl⟩
 rintro σ ⟨ps,x9,x10,⟨pl,hp⟩,rfl⟩;simp only[S];have A0:¬ (A:Int)=0:=fA.1
 have f5:bits (500:Int)<=9000:=by decide
 have f30:bits (3000:Int)<=9000:=by decide
 simp_all! only[A0,f5,f30]
 obtain⟨t,et,tA⟩:∃t:Nat,(m'.fdiv 500).fmod A=(t:Int)/\t<A:=by
  rw[jD (by lia)];generalize m'.fdiv 500=z;have:=g7 z (b:=A) (by lia);have:=gV z (b:=A) (by lia);exact⟨(z%(A:Int)).toNat,by lia,by lia⟩
 rw[et];generalize (m'.fdiv 3000).fmod 6=way;rw[jI,ws_forT];simp_all! only[]
 obtain⟨p0,a0,pA0⟩:∃p0:Nat,atD (ps.map λp:Nat=>D.int p) 0=some (.int p0)/\p0<A:=by
  cases ps with
  |nil=>simp at pl;lia
  |cons p ps=>exact⟨p,by rw[bz,XN],hp p (bB ..)⟩
 obtain⟨p9,a9,pA9⟩:∃p9:Nat,atD (ps.map λp:Nat=>D.int p) (-1)=some (.int p9)/\p9<A:=by
  have l0:0<ps.length:=by lia
  refine⟨ps[ps.length-1],?_,hp _ (dH _)⟩;unfold atD;rw[if_neg (by decide),bj,if_pos (by lia),bW,show (-1+(ps.length:Int)).toNat=ps.length-1 by lia,bE (by lia)];rfl
 refine Ki (P:=vG A) (λr gr Q q=>?_) (λr hr=>?_) λrows hl' hg=>?_
 ·refine Jn gr (by dsimp! only[];exact⟨_,rfl⟩) (λl ll hx=>by dsimp! only[];exact⟨(1,3),rfl,⟨⟨by decide,by decide,by decide⟩,by decide⟩⟩) (by dsimp! only[a0];exact⟨p0,rfl,pA0⟩) λr1 g1=>?_
  refine Jn g1 (by dsimp! only[];exact⟨_,rfl⟩) (λl ll hx=>by
   have al:=XF (r:=l) (p:=p0) (by lia);have sl:=hx (l.getD p0 (0,0)) (by rw[K40.getD_at (by lia)];exact dH _);dsimp! only[a0,al,yF,yo]
   exact⟨(0-(l.getD p0 (0,0)).1,(l.getD p0 (0,0)).2),rfl,⟨⟨by have:=xm (l.getD p0 (0,0)).1;have:=sl.sm.b;simp only[jeJ];lia,sl.sm.lo,sl.sm.hi⟩,by have:=xm (l.getD p0 (0,0)).1;have:=sl.up;simp only[jeJ];lia⟩⟩) (by dsimp! only[a9];exact⟨p9,rfl,pA9⟩) λr2 g2=>?_
  refine Jn g2 (by dsimp! only[];exact⟨_,rfl⟩) (λl ll hx=>by dsimp! only[];exact⟨(0,0),rfl,⟨⟨by decide,by decide,by decide⟩,by decide⟩⟩) (by dsimp! only[a0];exact⟨p0,rfl,pA0⟩) λr3 g3=>?_
  exact q r3 g3
 ·obtain⟨l,hl',rfl⟩:=bI.mp hr;exact⟨l,rfl,g'.row l hl',g'.num l hl'⟩
 ·rw[bj,g'.len]at hl';obtain⟨U,gU,eU⟩:=VG hl' hg;simp_all! only[eU];refine⟨U,ps,t,⟨?_,?_,?_,?_,?_,?_,λr hr=>?_⟩,rfl⟩
  ·intro z;have:=gU.len;rw[z]at this;simp at this;lia
  ·rw[gU.len];lia
  ·rw[gU.len];have:N*(ps.length+2)<=N*(A+2):=sJ N (by lia);rw[Nat.mul_add]at this;lia
  ·exact λr hr x hx=>(gU.num r hr x hx).up
  ·lia
  ·lia
  ·have rl:=gU.row r hr;exact⟨⟨by lia,λx hx=>(gU.num r hr x hx).sm⟩,by lia,λp hp'=>by have:=hp p hp';lia⟩
theorem zQ{α:Type}{f:α->D}{k:Nat}(h:∀a,qv (f a)<=k):∀l:List α,xT (l.map f)<=k
 |[]=>by rw[dR,uR];lia
 |a::l=>by rw[bz,uG];have:=h a;have:=zQ h l;lia
end Z.K51
set_option exponentiation.threshold 3000
namespace Z.J45
open PySem Z Z.K42 Z.K40 Z.J51
def b_without:Sm :=
 (.seq (.ret (.compE (.var 0) (.bin .add (.slc (.var 2) (.cst .non) (.var 1)) (.slc (.var 2) (.bin .add (.var 1) (.cst (.int 1))) (.cst .non)))))
 .nop)
def b_whole_determinant1:Sm :=
 (.seq (.ite (.cmp .eq (.bi .len [(.var 0)]) (.cst (.int 1))) (.seq (.ret (.ix (.ix (.var 0) (.cst (.int 0))) (.cst (.int 0))))
  .nop) .nop)
 (.seq (.set 1 (.cst (.int 0)))
 (.seq (.set 2 (.cst (.int 1)))
 (.seq .never
 (.seq (.ret (.var 1))
 .nop)))))
def b_whole_determinant2(i_whole_determinant1 i_without:Nat):Sm :=
 (.seq (.ite (.cmp .eq (.bi .len [(.var 0)]) (.cst (.int 1))) (.seq (.ret (.ix (.ix (.var 0) (.cst (.int 0))) (.cst (.int 0))))
  .nop) .nop)
 (.seq (.set 1 (.cst (.int 0)))
 (.seq (.set 2 (.cst (.int 1)))
 (.seq (.forN 3 (.ix (.var 0) (.cst (.int 0))) (.seq (.set 1 (.bin .add (.var 1) (.bin .mul (.bin .mul (.var 2) (.ix (.var 3) (.cst (.int 1)))) (.call i_whole_determinant1 [(.call i_without [(.slc (.var 0) (.cst (.int 1)) (.cst .non)),(.ix (.var 3) (.cst (.int 0)))])]))))
  (.seq (.set 2 (.neg (.var 2)))
  .nop)))
 (.seq (.ret (.var 1))
 .nop)))))
def b_whole_determinant3(i_whole_determinant2 i_without:Nat):Sm :=
 (.seq (.ite (.cmp .eq (.bi .len [(.var 0)]) (.cst (.int 1))) (.seq (.ret (.ix (.ix (.var 0) (.cst (.int 0))) (.cst (.int 0))))
  .nop) .nop)
 (.seq (.set 1 (.cst (.int 0)))
 (.seq (.set 2 (.cst (.int 1)))
 (.seq (.forN 3 (.ix (.var 0) (.cst (.int 0))) (.seq (.set 1 (.bin .add (.var 1) (.bin .mul (.bin .mul (.var 2) (.ix (.var 3) (.cst (.int 1)))) (.call i_whole_determinant2 [(.call i_without [(.slc (.var 0) (.cst (.int 1)) (.cst .non)),(.ix (.var 3) (.cst (.int 0)))])]))))
  (.seq (.set 2 (.neg (.var 2)))
  .nop)))
 (.seq (.ret (.var 1))
 .nop)))))
def b_whole_determinant4(i_whole_determinant3 i_without:Nat):Sm :=
 (.seq (.ite (.cmp .eq (.bi .len [(.var 0)]) (.cst (.int 1))) (.seq (.ret (.ix (.ix (.var 0) (.cst (.int 0))) (.cst (.int 0))))
  .nop) .nop)
 (.seq (.set 1 (.cst (.int 0)))
 (.seq (.set 2 (.cst (.int 1)))
 (.seq (.forN 3 (.ix (.var 0) (.cst (.int 0))) (.seq (.set 1 (.bin .add (.var 1) (.bin .mul (.bin .mul (.var 2) (.ix (.var 3) (.cst (.int 1)))) (.call i_whole_determinant3 [(.call i_without [(.slc (.var 0) (.cst (.int 1)) (.cst .non)),(.ix (.var 3) (.cst (.int 0)))])]))))
  (.seq (.set 2 (.neg (.var 2)))
  .nop)))
 (.seq (.ret (.var 1))
 .nop)))))
def wo(M:List (List Int))(j:Nat):List (List Int):=M.map λr=>r.take j++r.drop (j+1)
def sgn(j:Nat):Int:=1-2*((j%2:Nat):Int)
theorem jbr(j:Nat):sgn (j+1)=-sgn j:=by unfold sgn;lia
theorem Q6(j:Nat):bits (sgn j)<=1:=by
 have:sgn j=1\/sgn j=-1:=by unfold sgn;lia
 rcases this with e|e<;>rw[e]<;>decide
def jF:Nat->List (List Int)->Int
 |0,M=>(M.getD 0 []).getD 0 0
 |n+1,M=>((bw (n+2)).map λj=>sgn j*(M.getD 0 []).getD j 0*jF n (wo (M.drop 1) j)).sum
structure Rect (m n B:Nat) (M:List (List Int)):Prop where
 len:M.length=m
 row:∀r∈M,r.length=n
 b:∀r∈M,∀x∈r,bits x<=B
variable{m n B j:Nat}{M:List (List Int)}
theorem Rect.wo(h:Rect m (n+1) B M)(hj:j<n+1):Rect m n B (wo M j):=by
 refine⟨by unfold J45.wo;rw[bj];exact h.len,λr hr=>?_,λr hr x hx=>?_⟩
 ·obtain⟨q,hq,rfl⟩:=bI.mp hr;have:=h.row q hq;rw[df,gK,mz];lia
 ·obtain⟨q,hq,rfl⟩:=bI.mp hr;rcases dP.mp hx with z|z
  ·exact h.b q hq x (nR z)
  ·exact h.b q hq x (gO z)
theorem Rect.tail(h:Rect (m+1) n B M):Rect m n B (M.drop 1) :=
 ⟨by rw[mz,h.len];lia,λr hr=>h.row r (gO hr),λr hr=>h.b r (gO hr)⟩
variable{α:Type}
theorem xX{M:List α}{d:α}(h:0<M.length):M.getD 0 d∈M:=by rw[K40.getD_at h];exact dH h
variable{r:List Int}
theorem K3(h:∀x∈r,bits x<=B)(j:Nat):bits (r.getD j 0)<=B:=by
 rcases bU j r.length with z|z
 ·rw[K40.getD_at z];exact h _ (dH z)
 ·rw[jcv,bG z];exact mI _
def dB(B:Nat):Nat->Nat
 |0=>B
 |n+1=>B+dB B n+1+(n+2)
theorem v9{B:Nat}:∀(n:Nat) {M:List (List Int)},Rect (n+1) (n+1) B M->bits (jF n M)<=dB B n
 |0,M,h=>by
  have h0:0<M.length:=by rw[h.len];decide
  exact K3 (h.b _ (xX h0)) 0
 |n+1,M,h=>by
  have h0:0<M.length:=by rw[h.len];lia
  unfold jF
  have:=ud (B:=B+dB B n+1) (l:=(bw (n+2)).map λj=>sgn j*(M.getD 0 []).getD j 0*jF n (wo (M.drop 1) j)) λx hx=>by
   obtain⟨j,hj,rfl⟩:=bI.mp hx;have hj:=dw.mp hj;have a:=v9 n (h.tail.wo hj);have b:=K3 (h.b _ (xX (d:=[]) h0)) j;have c:=Q6 j;have d:=kc (sgn j) ((M.getD 0 []).getD j 0);have e:=kc (sgn j*(M.getD 0 []).getD j 0) (jF n (wo (M.drop 1) j));lia
  rw[bj,nS]at this;unfold dB;lia
def qL(k:Nat):Ctr where
 pre ds:=∃n M,ds=[wD M]/\Rect (n+1) (n+1) 400 M/\n+1<=k/\k<=4
 res ds d:=∀n M,ds=[wD M]->M.length=n+1->d=.int (jF n M)
theorem w1{N:List (List Int)}(h:[wD M]=[wD N]):M=N:=yy (sZ h).1
variable{k:Nat}{Q:D->Prop}{E:XD->Prop}
theorem jaR(h:Rect (n+1) (n+1) 400 M)(hk:n+1<=k)(k4:k<=4):(qL k).wp [wD M] Q E ↔ Q (.int (jF n M)) :=
 ⟨λw=>w.2.1 _ λn' M' e l=>by
  have e:=w1 e;subst e
  have:n=n':=by have:=h.len;lia
  subst this
  rfl,λq=>⟨⟨n,M,rfl,h,hk,k4⟩,λd hd=>by rw[hd n M rfl h.len];exact q,λ_ z=>z.elim⟩⟩
variable{i:Nat}
theorem at_w(h:i<M.length):atD (M.map λr=>D.lst (r.map .int)) (i:Int)=some (.lst ((M.getD i []).map .int)):=by
 unfold atD;rw[if_pos (by lia),bZ,bW,bE h,K40.getD_at h];rfl
theorem vV(h:i<r.length):atD (r.map .int) (i:Int)=some (.int (r.getD i 0)):=by
 unfold atD;rw[if_pos (by lia),bZ,bW,bE h,K40.getD_at h];rfl
theorem VW{f:α->D}{r:List α}(h:j<=r.length):yH (r.map f) none (some (j:Int))=(r.take j).map f:=by
 unfold yH;have e1:sIx (r.map f).length 0 none=0:=rfl;rw[e1,bj,vC,jci h,gC,Nat.sub_zero,jd7]
theorem ua{f:α->D}{r:List α}(h:j<=r.length):yH (r.map f) (some (j:Int)) none=(r.drop j).map f:=by
 unfold yH;have e1:sIx (r.map f).length (r.map f).length none=(r.map f).length:=rfl;rw[e1,bj,vC,jci h,jdm (by rw[mz,bj];exact bV _),List.map_drop]
def c_without:Ctr where
 pre ds:=∃(M:List (List Int)) (j:Nat),ds=[wD M,.int j]/\M.length<=200/\∀r∈M,j<r.length/\r.length<=200
 res ds d:=∀(M:List (List Int)) (j:Nat),ds=[wD M,.int j]->d=wD (wo M j)
theorem wo_row(hj:j<r.length)(hl:r.length<=200):yB .add (.lst (yH (r.map .int) none (some (j:Int)))) (.lst (yH (r.map .int) (some ((j:Int)+1)) none)) Q ↔ Q (.lst ((r.take j++r.drop (j+1)).map .int)):=by
 rw[VW (by lia),show ((j:Int)+1)=((j+1:Nat):Int) by push_cast;rfl,ua (by lia),QL,b6];refine and_iff_right ?_;rw[bj,bj,gK,mz];unfold lim;lia
theorem k_without{C:Cfg}:jQ C 2 b_without c_without:=by
 rintro ds ⟨M,j,rfl,hl,g⟩;rw[b_without,wD];simp_all! only[bj];refine⟨by unfold lim;lia,?_⟩
 rw[jq (g:=λr:List Int=>D.lst (r.map .int)) (h:=λr=>D.lst ((r.take j++r.drop (j+1)).map .int)) (λr hr Q=>by
  obtain⟨a,b⟩:=g r hr
  have w:=λQ=>wo_row (Q:=Q) a b
  simp only[wE_bin,wE_slc,wE_var,wE_cst,getS,prt,kO,Je,slD,vF,Option.bind]
  dsimp! only[prt,kO,Je,slD,yN,w])]
 intro M' j' e;simp only[bO,D.int.injEq,and_true]at e;have e1:=yy e.1
 have e2:j=j':=by lia
 subst e1 e2;unfold wD wo;rw[bL];rfl
theorem Yk(hl:M.length<=200)(g:∀r∈M,j<r.length/\r.length<=200):c_without.wp [wD M,.int j] Q E ↔ Q (wD (wo M j)) :=
 ⟨λw=>w.2.1 _ λM' j' e=>by
  simp only[bO,D.int.injEq,and_true]at e;have e1:=yy e.1
  have e2:j=j':=by lia
  subst e1 e2
  rfl,λq=>⟨⟨M,j,rfl,hl,g⟩,λd h=>by rw[h M j rfl];exact q,λ_ z=>z.elim⟩⟩
def trm(n:Nat)(M:List (List Int))(j:Nat):Int:=sgn j*(M.getD 0 []).getD j 0*jF n (wo (M.drop 1) j)
theorem QU(n:Nat)(M:List (List Int)):jF (n+1) M=((bw (n+2)).map (trm n M)).sum:=rfl
theorem xu(f:Nat->Int)(j:Nat):((bw (j+1)).map f).sum=((bw j).map f).sum+f j:=by
 rw[mK,b6,my];simp
theorem jbY(l:List Int):XR (l.map .int)=(jdN 0 l.length).map λj=>.tup [.int (j:Nat),.int (l.getD j 0)]:=by
 unfold XR
 refine wA (by simp) λi h1 h2=>?_
 simp only[bj,List.length_zipIdx]at h1;rw[dC,dC,List.getElem_zipIdx,List.getElem_range',dC,K40.getD_at (by lia)];simp
structure Step (k n:Nat) (M:List (List Int)):Prop where
 r:Rect (n+2) (n+2) 400 M
 k1:n+1<=k
 k4:k<=3
theorem Step.h0(g:Step k n M):0<M.length:=by rw[g.r.len];lia
theorem dB_le(h:n<=3):dB 400 n<=1700:=by
 have:n=0\/n=1\/n=2\/n=3:=by lia
 rcases this with rfl|rfl|rfl|rfl<;>decide
theorem Step.bx(g:Step k n M)(j:Nat):bits ((M.getD 0 []).getD j 0)<=400:=K3 (g.r.b _ (xX (d:=[]) g.h0)) j
theorem Step.bd(g:Step k n M)(hj:j<n+2):bits (jF n (wo (M.drop 1) j))<=1700:=by
 have:=v9 n (g.r.tail.wo hj);have:=dB_le (n:=n) (by have:=g.k1;have:=g.k4;lia);lia
theorem Step.len0(g:Step k n M):(M.getD 0 []).length=n+2:=g.r.row _ (xX (d:=[]) g.h0)
theorem Step.at0(g:Step k n M):atD (M.map λr=>D.lst (r.map .int)) 0=some (.lst ((M.getD 0 []).map .int)):=at_w (i:=0) g.h0
theorem Step.cut(g:Step k n M):D.lst (yH (M.map λr=>D.lst (r.map .int)) (some 1) none)=wD (M.drop 1):=by
 have:=ua (f:=λr:List Int=>D.lst (r.map .int)) (r:=M) (j:=1) (by have:=g.h0;lia);rw[show (some (1:Int))=some ((1:Nat):Int) from rfl,this];rfl
theorem Step.wo(g:Step k n M)(hj:j<n+2):(M.drop 1).length<=200/\∀r∈M.drop 1,j<r.length/\r.length<=200:=by
 have:=g.k1;have:=g.k4;refine⟨by rw[g.r.tail.len];lia,λr hr=>?_⟩;rw[g.r.tail.row r hr];lia
variable{K:DE}{l:Sto}
theorem Z7{C:Cfg}{b:Sm}(h:Rect 1 1 400 M)(q:K.rt (.int (jF 0 M))) :
 wpS C (.seq (.ite (.cmp .eq (.bi .len [(.var 0)]) (.cst (.int 1))) (.seq (.ret (.ix (.ix (.var 0) (.cst (.int 0))) (.cst (.int 0)))) .nop) .nop) b) K (some (.sh (wD M))::l):=by
 have h0:0<M.length:=by rw[h.len];decide
 have a0:atD (M.map λr=>D.lst (r.map .int)) 0=some (.lst ((M.getD 0 []).map .int)):=at_w (i:=0) h0;have a1:atD ((M.getD 0 []).map .int) 0=some (.int ((M.getD 0 []).getD 0 0)):=vV (i:=0) (by rw[h.row _ (xX (d:=[]) h0)];decide);have l1:=h.len;rw[jI,kC,wD];dsimp! only[bj,l1];simp_all! only[a0,a1];exact q
theorem jbS{C:Cfg}{b:Sm}(h:Rect (n+2) (n+2) 400 M)(q:wpS C b K (some (.sh (wD M))::l)) :
 wpS C (.seq (.ite (.cmp .eq (.bi .len [(.var 0)]) (.cst (.int 1))) (.seq (.ret (.ix (.ix (.var 0) (.cst (.int 0))) (.cst (.int 0)))) .nop) .nop) b) K (some (.sh (wD M))::l):=by
 refine Zz ?_ q;have l1:=h.len
 have l2:¬ ((n+2:Nat):Int)=1:=by lia
 rw[wD];dsimp! only[bj,l1,l2];simp;lia
theorem k_det1{C:Cfg}:jQ C 4 b_whole_determinant1 (qL 1):=by
 rintro ds ⟨n,M,rfl,h,k1,_⟩
 have:n=0:=by lia
 subst this;rw[b_whole_determinant1]
 refine Z7 h λn' M' e l=>?_
 have e:=w1 e;subst e
 have:n'=0:=by have:=h.len;lia
 subst this;rfl
variable{i1 i2:Nat}
theorem jbB{C:Cfg}(h1:C.ct i1=qL k)(h2:C.ct i2=c_without)(k3:k<=3):jQ C 4 (b_whole_determinant2 i1 i2) (qL (k+1)):=by
 rintro ds ⟨n,M,rfl,h,k1,_⟩
 have fin:∀d,d=.int (jF n M)->(qL (k+1)).res [wD M] d:=λd hd n' M' e l=>by
  have e:=w1 e;subst e
  have:n'=n:=by have:=h.len;lia
  subst this;exact hd
 rw[b_whole_determinant2]
 cases n with
 |zero=>exact Z7 h (fin _ rfl)
 |succ n =>
  have g:Step k n M:=⟨h,by lia,k3⟩
  refine jbS h ?_;simp_all! only[]
  let S (j:Nat) (a:Option Sl):Sto:=[some (.sh (wD M)),some (.sh (.int ((bw j).map (trm n M)).sum)),some (.sh (.int (sgn j))),a]
  refine jV (λσ=>∃a,σ=S (n+2) a) ?_ ?_
  ·rw[ws_forN];have a0:=g.at0;dsimp! only[wD,a0];rw[jbY,g.len0];refine kS (λds σ=>∃(j:Nat) (a:Option Sl),(j<=n+2/\ds=(jdN j (n+2-j)).map λj=>.tup [.int (j:Nat),.int ((M.getD 0 []).getD j 0)])/\σ=S j a) ⟨0,none,⟨by lia,rfl⟩,rfl⟩ ?_ ?_
   ·rintro d ds σ ⟨j,a,⟨hj,hd⟩,rfl⟩
    have hlt:j<n+2:=by
     rcases bU j (n+2) with z|z
     ·exact z
     ·rw[show n+2-j=0 by lia]at hd;cases hd
    rw[show n+2-j=(n+2-(j+1))+1 by lia,wB,bz,bO]at hd;obtain⟨rfl,rfl⟩:=hd;have bx:=g.bx j;have bd:=g.bd hlt;have bs:=Q6 j;have bm:=kc (sgn j) ((M.getD 0 []).getD j 0);have m1:qh (sgn j) ((M.getD 0 []).getD j 0):=jH (by lia);have m2:qh (sgn j*(M.getD 0 []).getD j 0) (jF n (wo (M.drop 1) j)):=jH (by lia)
    have w1:=λQ E=>Yk (M:=M.drop 1) (j:=j) (Q:=Q) (E:=E) (g.wo hlt).1 (g.wo hlt).2
    have w2:=λQ E=>jaR (k:=k) (n:=n) (M:=wo (M.drop 1) j) (Q:=Q) (E:=E) (g.r.tail.wo hlt) g.k1 (by lia)
    have cu:=g.cut;simp only[S,wD];simp_all! only[prt,kO,Je,slD,cu,h2,w1,h1,w2,m1,m2];rw[show ((bw j).map (trm n M)).sum+sgn j*(M.getD 0 []).getD j 0*jF n (wo (M.drop 1) j)=((bw (j+1)).map (trm n M)).sum from (xu (trm n M) j).symm,<- jbr];exact⟨j+1,_,⟨by lia,rfl⟩,rfl⟩
   ·rintro σ ⟨j,a,⟨hj,hd⟩,rfl⟩
    have:j=n+2:=by
     rcases bU j (n+2) with z|z
     ·rw[show n+2-j=(n+2-(j+1))+1 by lia,wB]at hd;cases hd
     ·lia
    subst this;exact⟨a,rfl⟩
  rintro σ ⟨a,rfl⟩;simp only[S];simp_all! only[];exact fin _ rfl
theorem k_det2{C:Cfg}(h1:C.ct i1=qL 1)(h2:C.ct i2=c_without):jQ C 4 (b_whole_determinant2 i1 i2) (qL 2):=jbB h1 h2 (by decide)
theorem k_det3{C:Cfg}(h1:C.ct i1=qL 2)(h2:C.ct i2=c_without):jQ C 4 (b_whole_determinant3 i1 i2) (qL 3):=jbB h1 h2 (by decide)
theorem k_det4{C:Cfg}(h1:C.ct i1=qL 3)(h2:C.ct i2=c_without):jQ C 4 (b_whole_determinant4 i1 i2) (qL 4):=jbB h1 h2 (by decide)
structure SqT (n:Nat) (T:List (List (Int×Int))):Prop where
 n1:1<=n
 n4:n<=4
 len:T.length=n
 row:∀r∈T,r.length=n
 sm:∀r∈T,∀x∈r,SmallP x
structure IsMin (T:List (List (Int×Int))) (low:Int):Prop where
 le:∀r∈T,∀x∈r,low<=x.2
 at_:∃r∈T,∃x∈r,x.2=low
variable{T:List (List (Int×Int))}
theorem IsMin.uni{a b:Int}(h:IsMin T a)(g:IsMin T b):a=b:=by
 obtain⟨r,hr,x,hx,e⟩:=h.at_;obtain⟨q,hq,y,hy,f⟩:=g.at_;have:=h.le q hq y hy;have:=g.le r hr x hx;lia
def wh(low:Int)(T:List (List (Int×Int))):List (List Int):=T.map λr=>r.map (atW low)
theorem SqT.ne(g:SqT n T):T ≠ []:=by intro z;have:=g.len;rw[z]at this;have:=g.n1;simp at *;lia
theorem IsMin.b{low:Int}(h:IsMin T low)(g:SqT n T):-130<=low/\low<=130:=by
 obtain⟨r,hr,x,hx,e⟩:=h.at_;have s:=g.sm r hr x hx;have:=s.lo;have:=s.hi;lia
def c_det1:Ctr:=qL 1
def c_det2:Ctr:=qL 2
def c_det3:Ctr:=qL 3
def c_det4:Ctr:=qL 4
end Z.J45
set_option exponentiation.threshold 3000
namespace Z.L45
open PySem Z Z.K42 Z.K40 Z.J51 Z.J45
variable{α:Type}
theorem l1{l:List α}(h:l.length=1):∃a,l=[a]:=by
 match l,h with
 |[a],_=>exact⟨a,rfl⟩
theorem l2{l:List α}(h:l.length=2):∃a b,l=[a,b]:=by
 match l,h with
 |[a,b],_=>exact⟨a,b,rfl⟩
theorem l3{l:List α}(h:l.length=3):∃a b c,l=[a,b,c]:=by
 match l,h with
 |[a,b,c],_=>exact⟨a,b,c,rfl⟩
theorem l4{l:List α}(h:l.length=4):∃a b c d,l=[a,b,c,d]:=by
 match l,h with
 |[a,b,c,d],_=>exact⟨a,b,c,d,rfl⟩
theorem sg0:sgn 0=1:=by decide
theorem sg1:sgn 1=-1:=by decide
theorem sg2:sgn 2=1:=by decide
theorem sg3:sgn 3=-1:=by decide
theorem rg2:bw 2=[0,1]:=rfl
theorem rg3:bw 3=[0,1,2]:=rfl
theorem rg4:bw 4=[0,1,2,3]:=rfl
theorem d1(a:Int):jF 0 [[a]]=a:=rfl
theorem d2(a b c d:Int):jF 1 [[a,b],[c,d]]=a*d-b*c:=by
 show ((bw 2).map _).sum=_;rw[rg2];simp only[bz,dR,dN,mH,sg0,sg1,wo,dZ,gC,mf,nk,dG,bS,jd8,d1,d7,d8]
 grind
theorem d3(a b c d e f g h i:Int):jF 2 [[a,b,c],[d,e,f],[g,h,i]]=a*(e*i-f*h)-b*(d*i-f*g)+c*(d*h-e*g):=by
 show ((bw 3).map _).sum=_;rw[rg3];simp only[bz,dR,dN,mH,sg0,sg1,sg2,wo,dZ,gC,mf,nk,dG,bS,jd8,d2,d7,d8]
 grind
def D3(a b c d e f g h i:Int):Int:=a*(e*i-f*h)-b*(d*i-f*g)+c*(d*h-e*g)
theorem d4(a b c d e f g h i j k l m n o p:Int):jF 3 [[a,b,c,d],[e,f,g,h],[i,j,k,l],[m,n,o,p]]=a*D3 f g h j k l n o p-b*D3 e g h i k l m o p+c*D3 e f h i j l m n p-d*D3 e f g i j k m n o:=by
 show ((bw 4).map _).sum=_;rw[rg4];simp only[bz,dR,dN,mH,sg0,sg1,sg2,sg3,wo,dZ,gC,mf,nk,dG,bS,jd8,d3,d7,d8];unfold D3
 grind
end Z.L45
set_option exponentiation.threshold 3000
namespace Z.L46
open PySem Z Z.K42 Z.K40 Z.J51 Z.J45 Z.L45
variable{r:List Int}{c k:Nat}
theorem Z4(hc:c<r.length):(r.take c++r.drop (c+1)).getD k 0=if k<c then r.getD k 0 else r.getD (k+1) 0:=by
 simp only[bH];rcases bU k c with h|h
 ·rw[if_pos h,dz (by rw[gK];lia),nV h]
 ·rw[if_neg (by lia),dO (by rw[gK];lia),gK,jcE];congr 2;lia
variable{l:List Int}
theorem Xi(h:∀x∈l,x=0):l.sum=0:=by
 induction l with
 |nil=>rfl
 |cons a l ih=>rw[dN,h a (bB ..),ih λx hx=>h x (bo _ hx)];rfl
theorem ZX{M:List (List Int)}(h:0<M.length):M.getD 0 []∈M:=xX h
theorem Ul:∀(n:Nat) {M:List (List Int)} {c:Nat},M.length=n+1->(∀r∈M,r.length=n+1)->c<n+1->(∀r∈M,r.getD c 0=0)->jF n M=0
 |0,M,c,hl,hr,hc,hz=>by
  have:c=0:=by lia
  subst this
  exact hz _ (ZX (by lia))
 |n+1,M,c,hl,hr,hc,hz=>by
  rw[QU]
  refine Xi λx hx=>?_
  obtain⟨j,hj,rfl⟩:=bI.mp hx;have hj:=dw.mp hj;unfold trm;by_cases e:j=c
  ·subst e;rw[hz _ (ZX (by lia)),t6,jeI]
  ·have:jF n (wo (M.drop 1) j)=0:=by
    refine Ul n (c:=if c<j then c else c-1) (by unfold wo;simp;lia) (λr h=>?_) (by split<;>lia) λr h=>?_
    ·obtain⟨q,hq,rfl⟩:=bI.mp h;have:=hr q (gO hq);simp;lia
    ·obtain⟨q,hq,rfl⟩:=bI.mp h;have hq:=gO hq;rw[Z4 (by rw[hr q hq];lia)];by_cases h1:c<j
     ·rw[if_pos h1,if_pos h1];exact hz q hq
     ·rw[if_neg h1,if_neg (by lia),show c-1+1=c by lia];exact hz q hq
   rw[this,t6]
theorem Z3{f:Nat->Int}{m:Nat}(hc:c<m)(h:∀j,j<m->j≠c->f j=0):((bw m).map f).sum=f c:=by
 induction m with
 |zero=>lia
 |succ m ih =>
  rw[xu];by_cases e:c=m
  ·subst e
   rw[Xi (l:=(bw c).map f) λx hx=>by
    obtain⟨j,hj,rfl⟩:=bI.mp hx;have:=dw.mp hj
    exact h j (by lia) (by lia)]
   lia
  ·rw[ih (by lia) λj hj=>h j (by lia),h m (by lia) (gX e)];lia
variable{n:Nat}{R:List (List Int)}
theorem det_col(hl:R.length=n+1)(h0:r.length=n+2)(hr:∀s∈R,s.length=n+2)(hc:c<n+2)(hz:∀s∈R,s.getD c 0=0):jF (n+1) (r::R)=sgn c*r.getD c 0*jF n (wo R c):=by
 rw[QU,Z3 hc λj hj hne=>?_]
 ·rfl
 ·unfold trm
  have:jF n (wo R j)=0:=by
   refine Ul n (c:=if c<j then c else c-1) (by unfold wo;simp;lia) (λr h=>?_) (by split<;>lia) λr h=>?_
   ·obtain⟨q,hq,rfl⟩:=bI.mp h;have:=hr q hq;simp;lia
   ·obtain⟨q,hq,rfl⟩:=bI.mp h;rw[Z4 (by rw[hr q hq];lia)];by_cases h1:c<j
    ·rw[if_pos h1,if_pos h1];exact hz q hq
    ·rw[if_neg h1,if_neg (by lia),show c-1+1=c by lia];exact hz q hq
  rw[show (r::R).drop 1=R from rfl,this,t6]
theorem sgn_ne(j:Nat):sgn j≠0:=by unfold sgn;lia
def Piv(n:Nat):List (List Int)->Prop
 |[]=>True
 |r::R=>(∃c,c<n/\r.getD c 0≠0/\∀s∈R,s.getD c 0=0)/\Piv n R
theorem jat{n c:Nat}(hc:c<n+1):∀ {R:List (List Int)},(∀s∈R,s.length=n+1)->(∀s∈R,s.getD c 0=0)->Piv (n+1) R->Piv n (wo R c)
 |[],_,_,_=>trivial
 |r::R,hr,hz,⟨⟨k,k1,k2,k3⟩,h⟩=>by
  refine⟨⟨if k<c then k else k-1,?_,?_,λs hs=>?_⟩,jat hc (λs hs=>hr s (bo _ hs)) (λs hs=>hz s (bo _ hs)) h⟩
  all_goals have ne:k≠c:=λe=>k2 (e ▸ hz r (bB ..))
  ·split<;>lia
  ·rw[Z4 (by rw[hr r (bB ..)];exact hc)];by_cases h1:k<c
   ·rw[if_pos h1,if_pos h1];exact k2
   ·rw[if_neg h1,if_neg (by lia),show k-1+1=k by lia];exact k2
  ·obtain⟨q,hq,rfl⟩:=bI.mp hs;rw[Z4 (by rw[hr q (bo _ hq)];exact hc)];by_cases h1:k<c
   ·rw[if_pos h1,if_pos h1];exact k3 q hq
   ·rw[if_neg h1,if_neg (by lia),show k-1+1=k by lia];exact k3 q hq
theorem Zh:∀(n:Nat) {M:List (List Int)},M.length=n+1->(∀r∈M,r.length=n+1)->Piv (n+1) M->jF n M≠0
 |0,[r],hl,hr,⟨⟨c,c1,c2,_⟩,_⟩=>by
  have:c=0:=by lia
  subst this
  exact c2
 |n+1,r::R,hl,hr,⟨⟨c,c1,c2,c3⟩,h⟩=>by
  have hl:R.length=n+1:=by simpa using hl
  have hR:∀s∈R,s.length=n+2:=λs hs=>hr s (bo _ hs)
  rw[det_col hl (hr r (bB ..)) hR c1 c3];refine tH (tH (sgn_ne c) c2) (Zh n (by unfold wo;simp;lia) (λs hs=>?_) (jat c1 hR c3 h));obtain⟨q,hq,rfl⟩:=bI.mp hs;have:=hR q hq;simp;lia
def zi(β:Int)(x:List Int)(t:Int)(u:List Int):List Int:=jeL (λa b=>β*a-t*b) x u
variable{x:List Int}
theorem jcf{j:Nat}{U S:List (List Int)}(hn:n=U.length+1+S.length)(n4:n<=4)(hU:∀r∈U,r.length=n)(hS:∀r∈S,r.length=n)(hx:x.length=n)(hj:j<U.length)(β t:Int) :
 jF (n-1) (U++zi β x t (U.getD j [])::S)=β*jF (n-1) (U++x::S):=by
 have:(U.length=1/\S.length=0)\/(U.length=1/\S.length=1)\/(U.length=2/\S.length=0)\/(U.length=1/\S.length=2)\/(U.length=2/\S.length=1)\/(U.length=3/\S.length=0):=by lia
 rcases this with⟨u,v⟩|⟨u,v⟩|⟨u,v⟩|⟨u,v⟩|⟨u,v⟩|⟨u,v⟩
 ·have e:n=2:=by lia
  subst e;obtain⟨u0,rfl⟩:=l1 u;obtain rfl:=n8 v;obtain⟨u0a,u0b,rfl⟩:=l2 (hU u0 (by simp));obtain⟨xa,xb,rfl⟩:=l2 hx
  have:j=0:=by have:=hj;simp at this;lia
  rcases this with rfl <;>
  ·simp only[zi,d9,gE,gm,d7,d8,bS,dG,Nat.reduceSub,d2]
   grind
 ·have e:n=3:=by lia
  subst e;obtain⟨u0,rfl⟩:=l1 u;obtain⟨s0,rfl⟩:=l1 v;obtain⟨u0a,u0b,u0c,rfl⟩:=l3 (hU u0 (by simp));obtain⟨s0a,s0b,s0c,rfl⟩:=l3 (hS s0 (by simp));obtain⟨xa,xb,xc,rfl⟩:=l3 hx
  have:j=0:=by have:=hj;simp at this;lia
  rcases this with rfl <;>
  ·simp only[zi,d9,gE,gm,d7,d8,bS,dG,Nat.reduceSub,d3]
   grind
 ·have e:n=3:=by lia
  subst e;obtain⟨u0,u1,rfl⟩:=l2 u;obtain rfl:=n8 v;obtain⟨u0a,u0b,u0c,rfl⟩:=l3 (hU u0 (by simp));obtain⟨u1a,u1b,u1c,rfl⟩:=l3 (hU u1 (by simp));obtain⟨xa,xb,xc,rfl⟩:=l3 hx
  have:j=0\/j=1:=by have:=hj;simp at this;lia
  rcases this with rfl|rfl <;>
  ·simp only[zi,d9,gE,gm,d7,d8,bS,dG,Nat.reduceSub,d3]
   grind
 ·have e:n=4:=by lia
  subst e;obtain⟨u0,rfl⟩:=l1 u;obtain⟨s0,s1,rfl⟩:=l2 v;obtain⟨u0a,u0b,u0c,u0d,rfl⟩:=l4 (hU u0 (by simp));obtain⟨s0a,s0b,s0c,s0d,rfl⟩:=l4 (hS s0 (by simp));obtain⟨s1a,s1b,s1c,s1d,rfl⟩:=l4 (hS s1 (by simp));obtain⟨xa,xb,xc,xd,rfl⟩:=l4 hx
  have:j=0:=by have:=hj;simp at this;lia
  rcases this with rfl <;>
  ·simp only[zi,d9,gE,gm,d7,d8,bS,dG,Nat.reduceSub,d4,D3]
   grind
 ·have e:n=4:=by lia
  subst e;obtain⟨u0,u1,rfl⟩:=l2 u;obtain⟨s0,rfl⟩:=l1 v;obtain⟨u0a,u0b,u0c,u0d,rfl⟩:=l4 (hU u0 (by simp));obtain⟨u1a,u1b,u1c,u1d,rfl⟩:=l4 (hU u1 (by simp));obtain⟨s0a,s0b,s0c,s0d,rfl⟩:=l4 (hS s0 (by simp));obtain⟨xa,xb,xc,xd,rfl⟩:=l4 hx
  have:j=0\/j=1:=by have:=hj;simp at this;lia
  rcases this with rfl|rfl <;>
  ·simp only[zi,d9,gE,gm,d7,d8,bS,dG,Nat.reduceSub,d4,D3]
   grind
 ·have e:n=4:=by lia
  subst e;obtain⟨u0,u1,u2,rfl⟩:=l3 u;obtain rfl:=n8 v;obtain⟨u0a,u0b,u0c,u0d,rfl⟩:=l4 (hU u0 (by simp));obtain⟨u1a,u1b,u1c,u1d,rfl⟩:=l4 (hU u1 (by simp));obtain⟨u2a,u2b,u2c,u2d,rfl⟩:=l4 (hU u2 (by simp));obtain⟨xa,xb,xc,xd,rfl⟩:=l4 hx
  have:j=0\/j=1\/j=2:=by have:=hj;simp at this;lia
  rcases this with rfl|rfl|rfl <;>
  ·simp only[zi,d9,gE,gm,d7,d8,bS,dG,Nat.reduceSub,d4,D3]
   grind
def q5(A:List (List Int))(j:Nat)(b:List Int):List (List Int):=jeL (λr x=>r.take j++x::r.drop (j+1)) A b
variable{i:Nat}{A:List (List Int)}
theorem V8{b:List Int}(n1:1<=n)(n4:n<=4)(hl:A.length=n)(hA:∀r∈A,r.length=n)(hb:b.length=n)(hi:i<n) :
 ((bw n).map λj=>(A.getD i []).getD j 0*jF (n-1) (q5 A j b)).sum=b.getD i 0*jF (n-1) A:=by
 have:n=1\/n=2\/n=3\/n=4:=by lia
 rcases this with rfl|rfl|rfl|rfl
 ·obtain⟨r0,rfl⟩:=l1 hl;obtain⟨r0a,rfl⟩:=l1 (hA r0 (by simp));obtain⟨ba,rfl⟩:=l1 hb
  have:i=0:=by lia
  rcases this with rfl <;>
  ·simp only[q5,mK,jcj,dG,b6,bz,dR,my,dN,mH,d9,gE,gm,mf,nk,dZ,gC,bS,d7,d8,Nat.reduceSub,d1]
   grind
 ·obtain⟨r0,r1,rfl⟩:=l2 hl;obtain⟨r0a,r0b,rfl⟩:=l2 (hA r0 (by simp));obtain⟨r1a,r1b,rfl⟩:=l2 (hA r1 (by simp));obtain⟨ba,bb,rfl⟩:=l2 hb
  have:i=0\/i=1:=by lia
  rcases this with rfl|rfl <;>
  ·simp only[q5,rg2,mK,jcj,dG,b6,bz,dR,my,dN,mH,d9,gE,gm,mf,nk,dZ,gC,bS,d7,d8,Nat.reduceSub,d2]
   grind
 ·obtain⟨r0,r1,r2,rfl⟩:=l3 hl;obtain⟨r0a,r0b,r0c,rfl⟩:=l3 (hA r0 (by simp));obtain⟨r1a,r1b,r1c,rfl⟩:=l3 (hA r1 (by simp));obtain⟨r2a,r2b,r2c,rfl⟩:=l3 (hA r2 (by simp));obtain⟨ba,bb,bc,rfl⟩:=l3 hb
  have:i=0\/i=1\/i=2:=by lia
  rcases this with rfl|rfl|rfl <;>
  ·simp only[q5,rg3,mK,jcj,dG,b6,bz,dR,my,dN,mH,d9,gE,gm,mf,nk,dZ,gC,bS,d7,d8,Nat.reduceSub,d3]
   grind
 ·obtain⟨r0,r1,r2,r3,rfl⟩:=l4 hl;obtain⟨r0a,r0b,r0c,r0d,rfl⟩:=l4 (hA r0 (by simp));obtain⟨r1a,r1b,r1c,r1d,rfl⟩:=l4 (hA r1 (by simp));obtain⟨r2a,r2b,r2c,r2d,rfl⟩:=l4 (hA r2 (by simp));obtain⟨r3a,r3b,r3c,r3d,rfl⟩:=l4 (hA r3 (by simp));obtain⟨ba,bb,bc,bd,rfl⟩:=l4 hb
  have:i=0\/i=1\/i=2\/i=3:=by lia
  rcases this with rfl|rfl|rfl|rfl <;>
  ·simp only[q5,rg4,mK,jcj,dG,b6,bz,dR,my,dN,mH,d9,gE,gm,mf,nk,dZ,gC,bS,d7,d8,Nat.reduceSub,d4,D3]
   grind
def fnn(l:List Int):Nat:=l.findIdx λx=>x != 0
theorem vR(h:fnn l<l.length):l.getD (fnn l) 0≠0:=by
 have:=jdO (p:=λx:Int=>x != 0) (xs:=l) (w:=h);rw[K40.getD_at h];intro z;have t:(l[fnn l] != 0)=true:=this;rw[z]at t;cases t
theorem jb0(h:i<fnn l):l.getD i 0=0:=by
 have hl:fnn l<=l.length:=List.findIdx_le_length;rw[K40.getD_at (by lia)];have:=jdn (p:=λx:Int=>x != 0) (xs:=l) h;simpa using this
theorem jbm(h:l.getD i 0≠0):fnn l<=i:=by
 rcases bU i (fnn l) with z|z
 ·exact absurd (jb0 z) h
 ·exact z
theorem Zc(h:l.getD i 0≠0):fnn l<l.length:=by
 have:=jbm h
 have:i<l.length:=by
  rcases bU i l.length with z|z
  ·exact z
  ·rw[jcv,bG z]at h;exact absurd rfl h
 lia
def clr(x b:List Int):List Int:=zi (b.getD (fnn b) 0) x (x.getD (fnn b) 0) b
variable{β t:Int}{u:List Int}
theorem yZ(h:x.length=u.length)(k:Nat):(zi β x t u).getD k 0=β*x.getD k 0-t*u.getD k 0:=by
 unfold zi;simp only[bH,List.getElem?_zipWith];rcases bU k x.length with z|z
 ·rw[bE z,bE (by lia)];rfl
 ·rw[bG z,bG (by lia)];simp
theorem VB(h:x.length=u.length):(zi β x t u).length=x.length:=by unfold zi;rw[jd1];lia
def Cmb(n:Nat)(A:List (List Int))(x:List Int):Prop:=∀c,c<n->x.getD c 0=((bw n).map λi=>x.getD (n+i) 0*(A.getD i []).getD c 0).sum
theorem sum_lin(f g:Nat->Int)(a b:Int)(n:Nat):((bw n).map λi=>a*f i-b*g i).sum=a*((bw n).map f).sum-b*((bw n).map g).sum:=by
 induction n with
 |zero=>simp
 |succ n ih=>rw[xu,xu,xu,ih];grind
theorem Cmb.lin(hx:Cmb n A x)(hu:Cmb n A u)(h:x.length=u.length):Cmb n A (zi β x t u):=by
 intro c hc;rw[yZ h,hx c hc,hu c hc,<- sum_lin];congr 1
 refine bP λi _=>?_
 rw[yZ h]
 grind
def wgt(A:List (List Int))(k:Nat):List Int:=A.getD k []++(bw A.length).map λj=>if j=k then 1 else 0
theorem Q1(hl:A.length=n)(hr:(A.getD k []).length=n)(hi:i<n):(wgt A k).getD (n+i) 0=if i=k then 1 else 0:=by
 unfold wgt;simp only[bH];rw[dO (by simp[bH]at hr;lia)];simp only[bH]at hr;rw[hr,hl,Nat.add_sub_cancel_left,bW,jd2 hi];rfl
theorem wgt_l(hr:(A.getD k []).length=n)(hi:i<n):(wgt A k).getD i 0=(A.getD k []).getD i 0:=by
 unfold wgt;rw[bH,dz (by lia),<- bH]
theorem wgt_cmb(hl:A.length=n)(hr:(A.getD k []).length=n)(hk:k<n):Cmb n A (wgt A k):=by
 intro c hc;rw[wgt_l hr hc,Z3 hk λj hj hne=>by rw[Q1 hl hr hj,if_neg hne,jeI]];rw[Q1 hl hr hk,if_pos rfl,jcK]
structure Bas (n:Nat) (A:List (List Int)) (B:List (List Int)):Prop where
 len:∀b∈B,b.length=2*n
 cmb:∀b∈B,Cmb n A b
 piv:∀b∈B,fnn b<n
 zer:B.Pairwise λa b=>b.getD (fnn a) 0=0
 sup:∀b∈B,∀i,B.length<=i->i<n->b.getD (n+i) 0=0
 det:jF (n-1) (B.map (·.take n)++A.drop B.length)=0
 bit:∀i,i<B.length->∀j,bits ((B.getD i []).getD j 0)<=401*2^i-1
structure Row (n:Nat) (A B P:List (List Int)) (x:List Int):Prop where
 len:x.length=2*n
 cmb:Cmb n A x
 zer:∀a∈P,x.getD (fnn a) 0=0
 own:x.getD (n+B.length) 0≠0
 sup:∀i,B.length<i->i<n->x.getD (n+i) 0=0
 det:jF (n-1) (B.map (·.take n)++x.take n::A.drop (B.length+1))=0
 bit:∀j,bits (x.getD j 0)<=401*2^P.length-1
structure SqA (n:Nat) (A:List (List Int)):Prop where
 n1:1<=n
 n4:n<=4
 len:A.length=n
 row:∀r∈A,r.length=n
 bit:∀r∈A,∀x∈r,bits x<=400
theorem SqA.at_(g:SqA n A)(hk:k<n):A.getD k []∈A:=by
 have:=g.len;rw[K40.getD_at (by lia)];exact dH _
variable{B:List (List Int)}
theorem Row.start(g:SqA n A)(b:Bas n A B)(hk:B.length<n):Row n A B [] (wgt A B.length):=by
 have hl:=g.len;have hr:=g.row _ (g.at_ hk);refine⟨by unfold wgt;rw[df,bj,nS,hr,hl];lia,wgt_cmb hl hr hk,λ_ z=>by simp at z,by rw[Q1 hl hr hk,if_pos rfl];decide,λi h1 h2=>by rw[Q1 hl hr h2,if_neg (by lia)],?_,λj=>?_⟩
 ·have e:(wgt A B.length).take n=A.getD B.length []:=by unfold wgt;rw[List.take_append_of_le_length (by lia),jdm (by lia)]
  have d:=b.det;rw[gI (by lia)]at d;rw[e,K40.getD_at (by lia)];exact d
 ·show _<=400;rcases bU j n with z|z
  ·rw[wgt_l hr z];exact K3 (g.bit _ (g.at_ hk)) j
  ·obtain⟨i,rfl⟩:∃i,j=n+i:=⟨j-n,by lia⟩
   rcases bU i n with y|y
   ·rw[Q1 hl hr y]
    split<;>decide
   ·rw[jcv,bG (by unfold wgt;rw[df,bj,nS,hr,hl];lia)];decide
variable{P:List (List Int)}
theorem Row.step{b:List Int}(g:SqA n A)(bs:Bas n A B)(hB:B=P++b::R)(r:Row n A B P x)(hk:B.length<n):Row n A B (P ++ [b]) (clr x b):=by
 have hb:b∈B:=by rw[hB];simp
 have hl:x.length=b.length:=by rw[r.len,bs.len b hb]
 have hp:=bs.piv b hb;have ne:b.getD (fnn b) 0≠0:=vR (by rw[bs.len b hb];lia)
 have zz:∀a∈P,b.getD (fnn a) 0=0:=λa ha=>by
  have:=bs.zer;rw[hB,jdP]at this;exact this.2.2 a ha b (by simp)
 refine⟨by unfold clr;rw[VB hl];exact r.len,r.cmb.lin (bs.cmb b hb) hl,λa ha=>?_,?_,λi h1 h2=>?_,?_,λj=>?_⟩
 ·unfold clr;rw[yZ hl];rcases dP.mp ha with z|z
  ·rw[r.zer a z,zz a z];lia
  ·rw[gD.mp z];grind
 ·unfold clr;rw[yZ hl,bs.sup b hb _ (bV _) hk];have:=tH ne r.own;lia
 ·unfold clr;rw[yZ hl,bs.sup b hb _ (by lia) h2,r.sup i h1 h2];lia
 ·have e:(clr x b).take n=zi (b.getD (fnn b) 0) (x.take n) (x.getD (fnn b) 0) ((B.map (·.take n)).getD P.length []):=by
   have:(B.map (·.take n)).getD P.length []=b.take n:=by
    rw[hB,b6,bz,bH,dO (by rw[bj];lia),bj,tX];rfl
   rw[this];unfold clr zi;rw[List.take_zipWith]
  have hl2:=g.len
  have h1:∀q∈B.map (·.take n),q.length=n:=λq hq=>by
   obtain⟨y,hy,rfl⟩:=bI.mp hq;rw[gK,bs.len y hy];lia
  have h2:(x.take n).length=n:=by rw[gK,r.len];lia
  rw[e,jcf (by rw[bj,mz];lia) g.n4 h1 (λq hq=>g.row q (gO hq)) h2 (by rw[bj,hB];simp),r.det,t6]
 ·unfold clr;rw[yZ hl,df,nz]
  have eb:b=B.getD P.length []:=by rw[hB,bH,dO (bV _),tX];rfl
  have b1:=bs.bit P.length (by rw[hB];simp) (fnn b);have b2:=bs.bit P.length (by rw[hB];simp) j;rw[<- eb]at b1 b2;have c1:=r.bit j;have c2:=r.bit (fnn b);have m1:=kc (b.getD (fnn b) 0) (x.getD j 0);have m2:=kc (x.getD (fnn b) 0) (b.getD j 0)
  have pw:401*2^(P.length+1)=2*(401*2^P.length):=by rw[mM];lia
  have p0:0<401*2^P.length:=jeZ (by decide) (Nat.pow_pos (by decide));have sb:=uf (b.getD (fnn b) 0*x.getD j 0) (x.getD (fnn b) 0*b.getD j 0);lia
theorem Bas.nil(g:SqA n A)(h:jF (n-1) A=0):Bas n A []:=⟨λ_ z=>by simp at z,λ_ z=>by simp at z,λ_ z=>by simp at z,.nil,λ_ z=>by simp at z,h,λi h=>by simp at h⟩
theorem Bas.grow(g:SqA n A)(bs:Bas n A B)(r:Row n A B B x)(hk:B.length<n)(hp:fnn x<n):Bas n A (B ++ [x]):=by
 refine⟨λb hb=>?_,λb hb=>?_,λb hb=>?_,?_,λb hb i h1 h2=>?_,?_,λi hi j=>?_⟩
 ·rcases dP.mp hb with z|z
  ·exact bs.len b z
  ·rw[gD.mp z];exact r.len
 ·rcases dP.mp hb with z|z
  ·exact bs.cmb b z
  ·rw[gD.mp z];exact r.cmb
 ·rcases dP.mp hb with z|z
  ·exact bs.piv b z
  ·rw[gD.mp z];exact hp
 ·rw[jdP];exact⟨bs.zer,List.pairwise_singleton ..,λa ha b hb=>by rw[gD.mp hb];exact r.zer a ha⟩
 ·rw[df,nz]at h1;rcases dP.mp hb with z|z
  ·exact bs.sup b z i (by lia) h2
  ·rw[gD.mp z];exact r.sup i (by lia) h2
 ·rw[b6,df,t7];exact r.det
 ·rw[df,nz]at hi;rcases bU i B.length with z|z
  ·have e:(B ++ [x]).getD i []=B.getD i []:=by rw[bH,dz z,<- bH]
   rw[e];exact bs.bit i z j
  ·have:i=B.length:=by lia
   subst this
   have e:(B ++ [x]).getD B.length []=x:=by rw[bH,dO (bV _),tX];rfl
   rw[e];exact r.bit j
theorem jaY{n:Nat}:∀ {B:List (List Int)},(∀b∈B,b.length=2*n)->(∀b∈B,fnn b<n)->B.Pairwise (λa b=>b.getD (fnn a) 0=0)->Piv n (B.map (·.take n))
 |[],_,_,_=>trivial
 |b::B,hl,hp,hz=>by
  have tk:∀ {y:List Int} {c:Nat},c<n->(y.take n).getD c 0=y.getD c 0:=λ{y c} hc=>by rw[bH,nV hc,<- bH]
  have hb:=hp b (bB ..);rw[List.pairwise_cons]at hz;refine⟨⟨fnn b,hb,?_,λs hs=>?_⟩,jaY (λy hy=>hl y (bo _ hy)) (λy hy=>hp y (bo _ hy)) hz.2⟩
  ·show (b.take n).getD (fnn b) 0≠0;rw[tk hb];exact vR (by rw[hl b (bB ..)];lia)
  ·obtain⟨y,hy,rfl⟩:=bI.mp hs;rw[tk hb];exact hz.1 y hy
theorem Bas.lt(g:SqA n A)(bs:Bas n A B):B.length≠n:=λe=>by
 have d:=bs.det;have n1:=g.n1;have hl:=g.len;rw[e,tT (by lia),dM]at d
 obtain⟨m,rfl⟩:∃m,n=m+1:=⟨n-1,by lia⟩
 refine Zh m (by rw[bj];exact e) (λr hr=>?_) (jaY bs.len bs.piv bs.zer) d;obtain⟨y,hy,rfl⟩:=bI.mp hr;rw[gK,bs.len y hy];lia
theorem Row.found(g:SqA n A)(r:Row n A B P x)(hk:B.length<n)(hp:n<=fnn x) :
 (x.drop n).length=n/\(∃i,i<n/\(x.drop n).getD i 0≠0)/\∀c,c<n->((bw n).map λi=>(x.drop n).getD i 0*(A.getD i []).getD c 0).sum=0:=by
 have dr:∀i,(x.drop n).getD i 0=x.getD (n+i) 0:=λi=>by rw[bH,jcE,<- bH]
 refine⟨by rw[mz,r.len];lia,⟨B.length,hk,by rw[dr];exact r.own⟩,λc hc=>?_⟩;have:=r.cmb c hc;rw[jb0 (by lia)]at this;simp only[dr];exact this.symm
end Z.L46
set_option exponentiation.threshold 3000
namespace Z.K45
open PySem Z Z.K42 Z.K40 Z.J51 Z.J45 Z.L45
def b_column:Sm :=
 (.seq (.ret (.compE (.var 0) (.ix (.var 2) (.var 1))))
 .nop)
def b_turned(i_column:Nat):Sm :=
 (.seq (.ret (.compR [(.bi .len [(.ix (.var 0) (.cst (.int 0)))])] (.call i_column [(.var 0),(.var 1)])))
 .nop)
def b_law_wholes:Sm :=
 (.seq (.set 1 (.bi .min [(.compE (.var 0) (.bi .min [(.compE (.var 2) (.ix (.var 3) (.cst (.int 1))))]))]))
 (.seq (.ret (.tup [(.compE (.var 0) (.compE (.var 2) (.bin .shl (.ix (.var 3) (.cst (.int 0))) (.bin .sub (.ix (.var 3) (.cst (.int 1))) (.var 1))))),(.var 1)]))
 .nop))
def c_wholes:Ctr where
 pre ds:=∃n M,ds=[tabD M]/\SqT n M
 res ds d:=∀n M,ds=[tabD M]->SqT n M->∃low,IsMin M low/\d=.tup [wD (wh low M),.int low]
theorem zd{n:Nat}{M:List (List (Int×Int))}{Q:D->Prop}{E:XD->Prop}(g:SqT n M):c_wholes.wp [tabD M] Q E ↔ ∀low,IsMin M low->Q (.tup [wD (wh low M),.int low]):=by
 constructor
 ·intro w low h
  refine w.2.1 _ λn' M' e g'=>?_
  rw[<- qu e];exact⟨low,h,rfl⟩
 ·intro q;refine⟨⟨n,M,rfl,g⟩,λd h=>?_,λ_ z=>z.elim⟩;obtain⟨low,hw,rfl⟩:=h n M rfl g;exact q low hw
end Z.K45
set_option exponentiation.threshold 3000
namespace Z.J46
open PySem Z Z.K42 Z.K40 Z.J51 Z.J45 Z.L45 Z.L46
def b_first_not_nought:Sm :=
 (.seq (.set 1 (.cst (.int 0)))
 (.seq (.whl (.cmp .eq (.ix (.var 0) (.var 1)) (.cst (.int 0))) (.seq (.set 1 (.bin .add (.var 1) (.cst (.int 1))))
  .nop))
 (.seq (.ret (.var 1))
 .nop)))
def b_cleared(i_first_not_nought:Nat):Sm :=
 (.seq (.set 2 (.call i_first_not_nought [(.var 1)]))
 (.seq (.ret (.compZ (.var 0) (.var 1) (.bin .sub (.bin .mul (.ix (.var 1) (.var 2)) (.ix (.var 3) (.cst (.int 0)))) (.bin .mul (.ix (.var 0) (.var 2)) (.ix (.var 3) (.cst (.int 1)))))))
 .nop))
def b_in_lowest_terms(i_common_divisor i_first_not_nought:Nat):Sm :=
 (.seq (.set 1 (.cst (.int 0)))
 (.seq (.forE 2 (.var 0) (.seq (.set 1 (.call i_common_divisor [(.var 1),(.var 2)]))
  .nop))
 (.seq (.ite (.cmp .lt (.ix (.var 0) (.call i_first_not_nought [(.var 0)])) (.cst (.int 0))) (.seq (.set 1 (.neg (.var 1)))
  .nop) .nop)
 (.seq (.ret (.compE (.var 0) (.bin .fdiv (.var 3) (.var 1))))
 .nop))))
def b_weighted:Sm :=
 (.seq (.ret (.bin .add (.ix (.var 0) (.var 1)) (.compR [(.bi .len [(.var 0)])] (.ife (.cmp .eq (.var 2) (.var 1)) (.cst (.int 1)) (.cst (.int 0))))))
 .nop)
def b_put_in:Sm :=
 (.seq (.ret (.compZ (.var 0) (.var 2) (.bin .add (.bin .add (.slc (.ix (.var 3) (.cst (.int 0))) (.cst .non) (.var 1)) (.lst [(.ix (.var 3) (.cst (.int 1)))])) (.slc (.ix (.var 3) (.cst (.int 0))) (.bin .add (.var 1) (.cst (.int 1))) (.cst .non)))))
 .nop)
theorem YF(lo st:Int):∀n:Nat,(j3 lo st n).length=n
 |0=>rfl
 |n+1=>by
  show (j3 (lo+st) st n).length+1=n+1;rw[YF]
abbrev iD(l:List Int):D:=.lst (l.map .int)
theorem z8{a b:List Int}(h:iD a=iD b):a=b:=by
 injection h with h;exact kx (λx y e=>by injection e) h
def c_fnn:Ctr where
 pre ds:=∃l:List Int,ds=[iD l]/\fnn l<l.length/\l.length<=200
 res ds d:=∀l:List Int,ds=[iD l]->d=.int (fnn l:Nat)
theorem k_fnn{C:Cfg}:jQ C 2 b_first_not_nought c_fnn:=by
 rintro ds ⟨l,rfl,hf,hl⟩;rw[b_first_not_nought];simp_all! only[];refine jV (λσ=>σ=[some (.sh (iD l)),some (.sh (.int (fnn l:Nat)))]) ?_ ?_
 ·refine Qx (λσ=>∃p:Nat,p<=fnn l/\σ=[some (.sh (iD l)),some (.sh (.int p))]) (λσ=>300-(Q5 σ 1).toNat) ⟨0,mI _,rfl⟩ ?_;rintro σ ⟨p,hp,rfl⟩;have a:=vV (r:=l) (i:=p) (by lia);dsimp! only[a];by_cases hz:l.getD p 0=0
  ·rw[if_pos hz]
   have ne:p≠fnn l:=λe=>vR hf (by rw[<- e];exact hz)
   simp_all! only[];refine⟨?_,p+1,by lia,by simp⟩;simp only[Q5,getS];lia
  ·rw[if_neg hz];have:=jbm hz
   have:p=fnn l:=by lia
   subst this;rfl
 rintro σ rfl;simp_all! only[];intro l' e;rw[z8 (sZ e).1]
variable{l:List Int}{Q:D->Prop}{E:XD->Prop}
theorem XY(h:fnn l<l.length)(hl:l.length<=200):c_fnn.wp [iD l] Q E ↔ Q (.int (fnn l:Nat)) :=
 ⟨λw=>w.2.1 _ λl' e=>by rw[z8 (sZ e).1],λq=>⟨⟨l,rfl,h,hl⟩,λd r=>by rw[r l rfl];exact q,λ_ z=>z.elim⟩⟩
theorem KS{α β γ:Type}(f:α->β->γ):∀(a:List α) (b:List β),jeL f a b=(a.zip b).map λp=>f p.1 p.2
 |[],_=>rfl
 |_::_,[]=>rfl
 |x::a,y::b=>by rw[d9,KS f a b];rfl
def c_cleared:Ctr where
 pre ds:=∃x b:List Int,ds=[iD x,iD b]/\x.length=b.length/\fnn b<b.length/\b.length<=200/\(∀j,bits (x.getD j 0)<=4000)/\∀j,bits (b.getD j 0)<=4000
 res ds d:=∀x b:List Int,ds=[iD x,iD b]->d=iD (clr x b)
variable{x b':List Int}
theorem injxb{b x':List Int}(e:[iD x,iD b]=[iD x',iD b']):x=x'/\b=b':=by
 injection e with e1 e2;injection e2 with e2;exact⟨z8 e1,z8 e2⟩
theorem Jp{B:Nat}(h:∀j,bits (l.getD j 0)<=B):∀x∈l,bits x<=B:=λx hx=>by
 obtain⟨i,hi,rfl⟩:=List.getElem_of_mem hx;rw[<- K40.getD_at (z:=0) hi];exact h i
variable{i:Nat}
theorem k_cleared{C:Cfg}(h1:C.ct i=c_fnn):jQ C 3 (b_cleared i) c_cleared:=by
 rintro ds ⟨x,b,rfl,hl,hf,h2,bx,bb⟩;rw[b_cleared]
 have w:=λQ E=>XY (l:=b) (Q:=Q) (E:=E) hf h2
 simp_all! only[h1,w]
 have hz:(zk (x.map .int) (b.map .int)).length<=lim:=by
  rw[zL,bj,pJ];unfold lim;lia
 refine⟨_,_,⟨rfl,rfl⟩,hz,?_⟩;have a1:=vV (r:=b) (i:=fnn b) hf;have a2:=vV (r:=x) (i:=fnn b) (by lia)
 rw[zL,jq (h:=λp:Int×Int=>D.int (b.getD (fnn b) 0*p.1-x.getD (fnn b) 0*p.2)) (λp hp Q=>by
  have:=mw hp;have m1:qh (b.getD (fnn b) 0) p.1:=jH (by have y:=Jp bx _ this.1;have z:=bb (fnn b);lia);have m2:qh (x.getD (fnn b) 0) p.2:=jH (by have y:=Jp bb _ this.2;have z:=bx (fnn b);lia)
  dsimp! only[a1,a2,m1,m2])]
 intro x' b' e;obtain⟨rfl,rfl⟩:=injxb e;unfold iD clr zi;rw[KS,bL];rfl
theorem Zg{b:List Int}(hl:x.length=b.length)(hf:fnn b<b.length)(h2:b.length<=200)(bx:∀j,bits (x.getD j 0)<=4000)(bb:∀j,bits (b.getD j 0)<=4000):c_cleared.wp [iD x,iD b] Q E ↔ Q (iD (clr x b)) :=
 ⟨λw=>w.2.1 _ λx' b' e=>by obtain⟨rfl,rfl⟩:=injxb e;rfl,λq=>⟨⟨x,b,rfl,hl,hf,h2,bx,bb⟩,λd r=>by rw[r x b rfl];exact q,λ_ z=>z.elim⟩⟩
def c_weighted:Ctr where
 pre ds:=∃(n k:Nat) (A:List (List Int)),ds=[wD A,.int (k:Nat)]/\SqA n A/\k<n
 res ds d:=∀(k:Nat) (A:List (List Int)),ds=[wD A,.int (k:Nat)]->d=iD (wgt A k)
variable{A A':List (List Int)}{k k':Nat}
theorem injwk(e:[wD A,D.int (k:Nat)]=[wD A',D.int (k':Nat)]):A=A'/\k=k':=by
 injection e with e1 e2;injection e2 with e2;injection e2 with e2;exact⟨yy e1,by lia⟩
theorem k_weighted{C:Cfg}:jQ C 2 b_weighted c_weighted:=by
 rintro ds ⟨n,k,A,rfl,g,hk⟩;rw[b_weighted];have hl:=g.len;have n4:=g.n4;have hr:=g.row _ (g.at_ hk);have a:=at_w (M:=A) (i:=k) (by lia);simp_all! only[wD,a,bj];refine⟨by unfold qO;lia,by rw[YF];unfold lim;lia,?_⟩
 rw[bZ,kG (h:=λj=>D.int (if j=k then 1 else 0)) (λj hj Q=>by
  dsimp! only[];by_cases e:j=k
  ·subst e;simp
  ·have:¬ (j:Int)=k:=by lia
   simp[e,this])]
 dsimp! only[bj,nS];refine⟨by unfold lim;lia,?_⟩;intro k' A' e;obtain⟨rfl,rfl⟩:=injwk (A:=A) (k:=k) e;unfold iD wgt;rw[b6,bL];rfl
variable{n:Nat}
theorem XG(g:SqA n A)(hk:k<n):c_weighted.wp [wD A,.int (k:Nat)] Q E ↔ Q (iD (wgt A k)) :=
 ⟨λw=>w.2.1 _ λk' A' e=>by obtain⟨rfl,rfl⟩:=injwk e;rfl,λq=>⟨⟨n,k,A,rfl,g,hk⟩,λd r=>by rw[r k A rfl];exact q,λ_ z=>z.elim⟩⟩
def c_put_in:Ctr where
 pre ds:=∃(n j:Nat) (A:List (List Int)) (b:List Int),ds=[wD A,.int (j:Nat),iD b]/\SqA n A/\b.length=n/\j<n
 res ds d:=∀(j:Nat) (A:List (List Int)) (b:List Int),ds=[wD A,.int (j:Nat),iD b]->d=wD (q5 A j b)
theorem jbf{b:List Int}(e:[wD A,D.int (k:Nat),iD b]=[wD A',D.int (k':Nat),iD b']):A=A'/\k=k'/\b=b':=by
 injection e with e1 e2;injection e2 with e2 e3;injection e2 with e2;injection e3 with e3;exact⟨yy e1,by lia,z8 e3⟩
theorem k_put_in{C:Cfg}:jQ C 3 b_put_in c_put_in:=by
 rintro ds ⟨n,j,A,b,rfl,g,hb,hj⟩;rw[b_put_in];have hl:=g.len;have n4:=g.n4;simp_all! only[wD]
 have ez:zk (A.map λr=>D.lst (r.map .int)) (b.map .int)=(A.zip b).map λp=>.tup [iD p.1,.int p.2]:=by
  unfold zk;rw[List.zip_map,bL];rfl
 refine⟨_,_,⟨rfl,rfl⟩,by rw[ez,bj,pJ];unfold lim;lia,?_⟩
 rw[ez,jq (h:=λp:List Int×Int=>iD (p.1.take j++p.2::p.1.drop (j+1))) (λp hp Q=>by
  have hm:=mw hp;have hr:=g.row _ hm.1;have c1:=VW (f:=D.int) (r:=p.1) (j:=j) (by lia);have c2:=ua (f:=D.int) (r:=p.1) (j:=j+1) (by lia);rw[show ((j+1:Nat):Int)=(j:Int)+1 by lia]at c2;dsimp! only[kO,prt,Je,slD,c1,c2,bj,df,gK,mz]
  have l1:min j p.1.length+1<=lim:=by unfold lim;lia
  have l2:min j p.1.length+1+(p.1.length-(j+1))<=lim:=by unfold lim;lia
  rw[and_iff_right l1,and_iff_right l2,iD,b6,bz,t7,bS,dG])]
 intro j' A' b' e;obtain⟨rfl,rfl,rfl⟩:=jbf (A:=A) (k:=j) (b:=b) e;unfold wD q5;rw[KS,bL];rfl
variable{j:Nat}
theorem Vd{b:List Int}(g:SqA n A)(hb:b.length=n)(hj:j<n):c_put_in.wp [wD A,.int (j:Nat),iD b] Q E ↔ Q (wD (q5 A j b)) :=
 ⟨λw=>w.2.1 _ λj' A' b' e=>by obtain⟨rfl,rfl,rfl⟩:=jbf e;rfl,λq=>⟨⟨n,j,A,b,rfl,g,hb,hj⟩,λd r=>by rw[r j A b rfl];exact q,λ_ z=>z.elim⟩⟩
def gL(l:List Int):Nat:=l.foldl (λa x=>gY a x) 0
theorem gL_fold(l:List Int)(g:Nat):l.foldl (λa x=>gY a x) g=jeA g (gL l):=by
 unfold gL
 induction l generalizing g with
 |nil=>simp
 |cons a l ih =>
  rw[w5,w5,ih,ih (gY (0:Nat) a)]
  have e1:gY (g:Nat) a=jeA g a.natAbs:=by unfold gY;rw[pf]
  have e2:gY ((0:Nat):Int) a=a.natAbs:=by unfold gY;simp
  rw[e1,e2,Nat.gcd_assoc]
theorem Qi(a:Int)(l:List Int):gL (a::l)=jeA a.natAbs (gL l):=by
 show l.foldl _ (gY (0:Nat) a)=_;rw[gL_fold];congr 1;unfold gY;simp
theorem K5:∀ {l:List Int} {x:Int},x∈l->(gL l:Int) ∣ x
 |a::l,x,h=>by
  rw[Qi];rcases bD.mp h with rfl|h
  ·exact Int.ofNat_dvd_left.mpr (Nat.gcd_dvd_left ..)
  ·exact Int.dvd_trans (jc6.mpr (Nat.gcd_dvd_right ..)) (K5 h)
theorem jb5(k:Int):∀l:List Int,gL (l.map (k * ·))=k.natAbs*gL l
 |[]=>by simp[gL]
 |a::l=>by rw[bz,Qi,Qi,jb5 k l,mr,Nat.gcd_mul_left]
theorem gL_pos{x:Int}(h:x∈l)(hx:x≠0):0<gL l:=by
 rcases jcF (gL l) with z|z
 ·have:=K5 h;rw[z]at this;exact absurd (Int.zero_dvd.mp this) hx
 ·exact z
structure Low (w u:List Int):Prop where
 len:u.length=w.length
 ex:∃s:Int,s≠0/\w=u.map (s * ·)
 one:gL u=1
 pos:0<u.getD (fnn u) 0
 bit:∀j,bits (u.getD j 0)<=4000
theorem fnn_mul{s:Int}(hs:s≠0)(u:List Int):fnn (u.map (s * ·))=fnn u:=by
 unfold fnn;rw[List.findIdx_map];congr 1;funext x;by_cases hx:x=0
 ·subst hx;simp
 ·have:=tH hs hx;show (s*x != 0)=(x != 0);rw[bne_iff_ne.mpr this,bne_iff_ne.mpr hx]
variable{w:List Int}
theorem Qm(hf:fnn w<w.length)(hb:∀j,bits (w.getD j 0)<=4000){s:Int}(hs:s=if w.getD (fnn w) 0<0 then -(gL w:Int) else gL w):(s≠0/\∀x∈w,s ∣ x)/\Low w (w.map (· / s)):=by
 have ne:=vR hf
 have mem:w.getD (fnn w) 0∈w:=by rw[K40.getD_at hf];exact dH _
 have gp:=gL_pos mem ne
 have s0:s≠0:=by rw[hs];split<;>lia
 have sn:s.natAbs=gL w:=by rw[hs];split<;>simp
 have dv:∀x∈w,s ∣ x:=λx hx=>Int.natAbs_dvd.mp (by rw[sn];exact K5 hx)
 have e:w=(w.map (· / s)).map (s * ·):=by
  rw[bL];refine(List.map_id' w).symm.trans (bP λx hx=>?_);exact(Int.mul_ediv_cancel' (dv x hx)).symm
 refine⟨⟨s0,dv⟩,⟨by simp,⟨s,s0,e⟩,?_,?_,λj=>?_⟩⟩
 ·have:=jb5 s (w.map (· / s));rw[<- e,sn]at this
  have:gL w*1=gL w*gL (w.map (· / s)):=by lia
  exact(Nat.eq_of_mul_eq_mul_left gp this).symm
 ·have ef:=fnn_mul s0 (w.map (· / s));rw[<- e]at ef;rw[<- ef]
  have ga:(w.map (· / s)).getD (fnn w) 0=w.getD (fnn w) 0 / s:=by
   simp only[bH,bW,bE hf];rfl
  rw[ga];obtain⟨k,hk⟩:=dv _ mem;rw[hk,sW _ s0];rw[hk]at hs ne
  have k0:k≠0:=λz=>ne (by rw[z,t6])
  by_cases hn:s*k<0
  ·rw[if_pos hn]at hs
   have s1:s<0:=by lia
   rcases jet k0 with z|z
   ·exact absurd (Int.mul_pos_of_neg_of_neg s1 z) (by lia)
   ·exact z
  ·rw[if_neg hn]at hs
   have s1:0<s:=by lia
   rcases jet k0 with z|z
   ·exact absurd (jcH s1 z) hn
   ·exact z
 ·rcases bU j w.length with z|z
  ·have ga:(w.map (· / s)).getD j 0=w.getD j 0 / s:=by
    simp only[bH,bW,bE z];rfl
   rw[ga];refine dg (ku ?_) (hb j);exact Int.natAbs_ediv_le_natAbs ..
  ·rw[jcv,bG (by simpa using z)];exact mI _
def c_lowest:Ctr where
 pre ds:=∃w:List Int,ds=[iD w]/\fnn w<w.length/\w.length<=200/\∀j,bits (w.getD j 0)<=4000
 res ds d:=∀w:List Int,ds=[iD w]->∃u,d=iD u/\Low w u
theorem Qc(l:List Int)(x:Int):gL (l ++ [x])=gY (gL l) x:=by unfold gL;rw[List.foldl_append];rfl
theorem gL_bits(hf:fnn w<w.length)(hb:∀j,bits (w.getD j 0)<=4000):bits (gL w:Int)<=4000:=by
 refine dg (ku ?_) (hb (fnn w))
 have mem:w.getD (fnn w) 0∈w:=by rw[K40.getD_at hf];exact dH _
 have:=Int.natAbs_dvd_natAbs.mpr (K5 mem);exact jd5 (by have:=vR hf;lia) this
theorem k_lowest{C:Cfg}(h1:C.ct i=jN)(h2:C.ct j=c_fnn):jQ C 3 (b_in_lowest_terms i j) c_lowest:=by
 rintro ds ⟨w,rfl,hf,hl,hb⟩;rw[b_in_lowest_terms];simp_all! only[]
 let P:List D->Sto->Prop:=λds σ=>∃(zs ys:List Int) (a:Option Sl),(zs++ys=w/\ds=ys.map .int)/\σ=[some (.sh (iD w)),some (.sh (.int (gL zs:Nat))),a]
 refine jV (P []) ?_ ?_
 ·rw[yh]
  simp_arith only[]
  refine kS P ⟨[],w,_,⟨rfl,rfl⟩,rfl⟩ ?_ λσ h=>h
  rintro _ ds σ ⟨zs,ys,a,⟨ha,hd⟩,rfl⟩
  cases ys with
  |nil=>simp at hd
  |cons y ys =>
   simp only[bz,bO]at hd;obtain⟨rfl,rfl⟩:=hd
   simp_arith! only[h1,jN]
   exact⟨zs ++ [y],ys,_,⟨by rw[t7];exact ha,rfl⟩,by rw[Qc]⟩
 rintro σ ⟨zs,ys,a,⟨ha,hd⟩,rfl⟩
 have:ys=[]:=by simpa using hd.symm
 subst this;rw[dM]at ha;subst ha
 have wf:=λQ E=>XY (l:=zs) (Q:=Q) (E:=E) hf hl
 have a1:=vV (r:=zs) (i:=fnn zs) hf
 have fin:∀s:Int,(s=if zs.getD (fnn zs) 0<0 then -(gL zs:Int) else gL zs)->(zs.map D.int).length<=lim/\kN (λd Q=>yB .fdiv d (.int s) Q) (zs.map .int) λys=>c_lowest.res [iD zs] (.lst ys):=λs hs=>by
  obtain⟨⟨s0,dv⟩,lw⟩:=Qm hf hb hs;have gb:=gL_bits hf hb
  have sb:bits s<=9000:=by
   have:bits s=bits (gL zs:Int):=by rw[hs];split;exact xm _;rfl
   lia
  refine⟨by rw[bj];unfold lim;lia,?_⟩;rw[jq (h:=λx:Int=>D.int (x.fdiv s)) (λx hx Q=>by dsimp! only[s0,sb])];intro w' e;rw[<- z8 (sZ e).1];refine⟨zs.map (· / s),?_,lw⟩;unfold iD;rw[bL];congr 1
  exact bP λx hx=>congrArg D.int (Int.fdiv_eq_ediv_of_dvd (dv x hx))
 rw[jI,kC];dsimp! only[h2,wf,a1];by_cases hn:zs.getD (fnn zs) 0<0
 ·rw[if_pos hn];simp_all! only[];exact fin _ (by rw[if_pos hn])
 ·rw[if_neg hn];simp_all! only[];exact fin _ (by rw[if_neg hn])
end Z.J46
set_option exponentiation.threshold 3000
namespace Z.J46
open PySem Z Z.K42 Z.K40 Z.J51 Z.J45 Z.L45 Z.L46
structure Wts (n:Nat) (A:List (List Int)) (u:List Int):Prop where
 len:u.length=n
 one:gL u=1
 pos:0<u.getD (fnn u) 0
 nil:∀c,c<n->((bw n).map λi=>u.getD i 0*(A.getD i []).getD c 0).sum=0
 bit:∀j,bits (u.getD j 0)<=4000
theorem ja2(s:Int)(f:Nat->Int)(n:Nat):((bw n).map λi=>s*f i).sum=s*((bw n).map f).sum:=by
 induction n with
 |zero=>simp
 |succ n ih=>rw[xu,xu,ih,Int.mul_add]
variable{n:Nat}{A:List (List Int)}
theorem wts_of{w u:List Int}(hl:w.length=n)(hz:∀c,c<n->((bw n).map λi=>w.getD i 0*(A.getD i []).getD c 0).sum=0)(h:Low w u):Wts n A u:=by
 obtain⟨s,s0,e⟩:=h.ex;refine⟨by rw[h.len,hl],h.one,h.pos,λc hc=>?_,h.bit⟩;have:=hz c hc
 have e2:((bw n).map λi=>w.getD i 0*(A.getD i []).getD c 0)=(bw n).map λi=>s*(u.getD i 0*(A.getD i []).getD c 0):=bP λi hi=>by
  have:w.getD i 0=s*u.getD i 0:=by
   rw[e];simp only[bH,bW]
   cases u[i]? <;> simp
  rw[this,Int.mul_assoc]
 rw[e2,ja2]at this;rcases Int.mul_eq_zero.mp this with z|z
 ·exact absurd z s0
 ·exact z
def c_weights:Ctr where
 pre ds:=∃n A,ds=[wD A]/\SqA n A/\jF (n-1) A=0
 res ds d:=∀n A,ds=[wD A]->SqA n A->∃u,d=iD u/\Wts n A u
def b_weights_to_nought(i_weighted i_cleared i_first_not_nought i_in_lowest_terms:Nat):Sm :=
 (.seq (.new 1)
 (.seq (.forR 2 [(.bi .len [(.var 0)])] (.seq (.set 3 (.call i_weighted [(.var 0),(.var 2)]))
  (.seq (.forU 4 1 3 (.call i_cleared [(.var 3),(.var 4)]))
  (.seq (.ite (.cmp .ge (.call i_first_not_nought [(.var 3)]) (.bi .len [(.var 0)])) (.seq (.ret (.call i_in_lowest_terms [(.slc (.var 3) (.bi .len [(.var 0)]) (.cst .non))]))
   .nop) .nop)
  (.seq (.app 1 (.var 3))
  .nop)))))
 .nop))
theorem ZT(g:SqA n A):Rect n n 400 A:=⟨g.len,g.row,g.bit⟩
variable{m:Nat}
theorem YB(g:SqA n A)(h:SqA m A):n=m:=g.len.symm.trans h.len
theorem jap{j:Nat}{b:List Int}(g:SqA n A)(hb:b.length=n)(hx:∀x∈b,bits x<=400)(hj:j<n):SqA n (q5 A j b):=by
 have hl:=g.len;refine⟨g.n1,g.n4,by unfold q5;rw[jd1];lia,λr hr=>?_,λr hr x hm=>?_⟩
 all_goals
  unfold q5 at hr;rw[KS]at hr;obtain⟨p,hp,rfl⟩:=bI.mp hr;have hm':=mw hp;have hr':=g.row _ hm'.1
 ·simp;lia
 ·rcases dP.mp hm with z|z
  ·exact g.bit _ hm'.1 x (nR z)
  ·rcases bD.mp z with z|z
   ·rw[z];exact hx _ hm'.2
   ·exact g.bit _ hm'.1 x (gO z)
theorem jby(g:SqA n A):bits (jF (n-1) A)<=1700:=by
 have n1:=g.n1;have n4:=g.n4
 obtain⟨m,rfl⟩:∃m,n=m+1:=⟨n-1,by lia⟩
 exact dg (v9 m (ZT g)) (dB_le (by lia))
theorem Uh{Q:D->Prop}{E:XD->Prop}(g:SqA n A):(qL 4).wp [wD A] Q E ↔ Q (.int (jF (n-1) A)):=by
 have n1:=g.n1;have n4:=g.n4
 obtain⟨m,rfl⟩:∃m,n=m+1:=⟨n-1,by lia⟩
 exact jaR (ZT g) n4 (by decide)
def uh(n:Nat)(A:List (List Int))(b:List Int):List Rat:=(bw n).map λj=>gW (jF (n-1) (q5 A j b)) (jF (n-1) A)
def c_siw:Ctr where
 pre ds:=∃n A b,ds=[wD A,iD b]/\SqA n A/\b.length=n/\∀x∈b,bits x<=400
 res ds d:=∀n A b,ds=[wD A,iD b]->SqA n A->jF (n-1) A≠0/\d=.lst ((uh n A b).map rq)
 exn ds y:=∃n A b u,ds=[wD A,iD b]/\SqA n A/\jF (n-1) A=0/\y.t="Dependent" /\ y.f=[iD u]/\Wts n A u
theorem injAb{A':List (List Int)}{b b':List Int}(e:[wD A,iD b]=[wD A',iD b']):A=A'/\b=b':=by
 injection e with e1 e2;injection e2 with e2;exact⟨yy e1,z8 e2⟩
def b_siwY(i1 i2 i3 i4:Nat):Sm :=
 (.seq (.set 2 (.call i1 [(.var 0)]))
 (.seq (.ite (.cmp .eq (.var 2) (.cst (.int 0))) (.seq (.raiseA "Dependent" (.call i2 [(.var 0)]))
  .nop) .nop)
 (.seq (.retF (.compR [(.bi .len [(.var 0)])] (.call i3 [(.call i1 [(.call i4 [(.var 0),(.var 3),(.var 1)])]),(.var 2)])))
 .nop)))
variable{i1 i2 i3 i4:Nat}
theorem k_siw{C:Cfg}(h1:C.ct i1=qL 4)(h2:C.ct i2=c_weights)(h3:C.ct i3=xG)(h4:C.ct i4=c_put_in)(hE:∀x,¬ C.E x):Yh C 3 (b_siwY i1 i2 i3 i4) c_siw:=by
 rintro ds ⟨n,A,b,rfl,g,hb,hx⟩;have n4:=g.n4;have hl:=g.len
 have wd:=λQ E=>Uh (Q:=Q) (E:=E) g
 rw[b_siwY];simp_all! only[h1,wd];rw[jI,kC];dsimp! only[];by_cases hz:jF (n-1) A=0
 ·rw[if_pos hz,jI,Uo];dsimp! only[h2];refine⟨⟨n,A,rfl,g,hz⟩,λd r=>?_,λ_ z=>z.elim⟩;obtain⟨u,rfl,hu⟩:=r n A rfl g;exact⟨λ_=>⟨_,rfl⟩,n,A,b,u,rfl,g,hz,rfl,rfl,hu⟩
 ·rw[if_neg hz];simp_all! only[wD,bj];refine⟨by unfold qO;lia,by rw[YF];unfold lim;lia,?_⟩
  rw[bZ,kG (h:=λj=>rq (gW (jF (n-1) (q5 A j b)) (jF (n-1) A))) (λj hj Q=>by
   have gp:=jap g hb hx (show j<n by lia)
   have w1:=λQ E=>Vd (Q:=Q) (E:=E) g hb (show j<n by lia)
   rw[wD,iD]at w1
   have w2:=λQ E=>Uh (Q:=Q) (E:=E) gp
   have w3:=λQ E=>VR (t:=jF (n-1) (q5 A j b)) (u:=jF (n-1) A) (Q:=Q) (E:=E) hz (by have:=jby g;lia)
   dsimp! only[h1,h3,h4,w1,w2,w3])]
  dsimp! only[];intro m A' b' e g';obtain⟨rfl,rfl⟩:=injAb (A:=A) (b:=b) e;obtain rfl:=YB g g';refine⟨hz,?_⟩;unfold uh;rw[bL,hl];rfl
theorem uZ{l:List Int}(hm:m<=3)(h:∀j,bits (l.getD j 0)<=401*2^m-1):∀j,bits (l.getD j 0)<=4000:=λj=>by
 have:2^m<=2^3:=mB (by decide) hm;have:=h j;lia
theorem ZY:∀(m:Nat) (s:Nat),j3 (s:Int) 1 m=(jdN s m).map λk:Nat=>D.int k
 |0,s=>rfl
 |m+1,s=>by
  rw[wB,bz,<- ZY m (s+1)];rfl
theorem k_weights{C:Cfg}(h1:C.ct i1=c_weighted)(h2:C.ct i2=c_cleared)(h3:C.ct i3=c_fnn)(h4:C.ct i4=c_lowest):jQ C 5 (b_weights_to_nought i1 i2 i3 i4) c_weights:=by
 rintro ds ⟨n,A,rfl,g,hz⟩;have n4:=g.n4;have hl:=g.len;rw[b_weights_to_nought];simp_all! only[]
 let P:List D->Sto->Prop:=λds σ=>∃(B:List (List Int)) (a b c:Option Sl),(Bas n A B/\B.length<=n/\ds=(jdN B.length (n-B.length)).map λk:Nat=>D.int k)/\σ=[some (.sh (wD A)),some (.ow (B.map iD)),a,b,c]
 rw[jI,vq];dsimp! only[wD,bj];refine⟨by unfold qO;lia,?_⟩;refine kS P ⟨[],_,_,_,⟨Bas.nil g hz,mI _,?_⟩,rfl⟩ ?_ ?_
 ·rw[bZ,hl];exact ZY n 0
 ·rintro _ ds σ ⟨B,a,b,c,⟨bs,hB,hd⟩,rfl⟩
  obtain⟨m,hm⟩:∃m,n-B.length=m+1:=⟨n-B.length-1,by
   rcases jcF (n-B.length) with z|z
   ·rw[z]at hd;simp at hd
   ·lia⟩
  have hk:B.length<n:=by lia
  rw[hm,wB,bz]at hd;simp only[bO]at hd;obtain⟨rfl,rfl⟩:=hd
  have ww:=λQ E=>XG (Q:=Q) (E:=E) g hk
  simp_all! only[h1,ww]
  let P2:List D->Sto->Prop:=λxs σ=>∃(Pf R:List (List Int)) (x:List Int) (c:Option Sl),(B=Pf++R/\xs=R.map iD/\Row n A B Pf x)/\σ=[some (.sh (wD A)),some (.ow (B.map iD)),some (.sh (.int B.length)),some (.sh (iD x)),c]
  refine jV (P2 []) ?_ ?_
  ·rw[ws_forU];simp only[getS,Z6];refine Xn P2 _ _ ⟨[],B,_,_,⟨rfl,rfl,Row.start g bs hk⟩,rfl⟩ ?_ ?_
   rotate_left
   ·exact λσ h=>h
   rintro _ xs σ ⟨Pf,R,x,c,⟨eB,hd,r⟩,rfl⟩
   cases R with
   |nil=>simp at hd
   |cons b R =>
    simp only[bz,bO]at hd;obtain⟨rfl,rfl⟩:=hd
    have hb:b∈B:=by rw[eB];simp
    have hp:=bs.piv b hb;have lb:=bs.len b hb
    have lp:Pf.length<B.length:=by rw[eB];simp
    have eb:B.getD Pf.length []=b:=by rw[eB,bH,dO (bV _),tX];rfl
    have wc:=λQ E=>Zg (x:=x) (b:=b) (Q:=Q) (E:=E) (by rw[r.len,lb]) (by lia) (by lia) (uZ (m:=Pf.length) (by lia) r.bit) (uZ (m:=Pf.length) (by lia) (by have:=bs.bit Pf.length lp;rw[eb]at this;exact this))
    dsimp! only[h2,wc];exact⟨Pf ++ [b],R,_,_,⟨by rw[eB];simp,rfl,r.step g bs eB hk⟩,rfl⟩
  rintro σ ⟨Pf,R,x,c,⟨eB,hd,r⟩,rfl⟩
  have:R=[]:=by simpa using hd.symm
  subst this;rw[dM]at eB;subst eB;have fx:fnn x<x.length:=Zc r.own;have lx:=r.len
  have wf:=λQ E=>XY (l:=x) (Q:=Q) (E:=E) fx (by lia)
  rw[jI,kC];dsimp! only[h3,wf,wD,bj];by_cases hf:n<=fnn x
  ·rw[if_pos (by lia)];obtain⟨f1,⟨i,f2,f3⟩,f4⟩:=r.found g hk hf;have cf:=ua (f:=D.int) (r:=x) (j:=A.length) (by lia);simp_all! only[kO,prt,Je,slD,bj,cf,h4];rw[hl];refine⟨⟨x.drop n,rfl,Zc f3,by lia,λj=>?_⟩,λd q=>?_,λ_ z=>z.elim⟩
   ·rw[bH,jcE,<- bH];exact uZ (m:=B.length) (by lia) r.bit _
   ·obtain⟨u,rfl,lw⟩:=q _ rfl;intro n' A' e g';have eA:=w1 (M:=A) e;subst eA;obtain rfl:=YB g g';exact⟨u,rfl,wts_of f1 f4 lw⟩
  ·rw[if_neg (by lia)];simp_all! only[bj];refine⟨by unfold lim;lia,B ++ [x],_,_,_,⟨bs.grow g r hk (by lia),by simp;lia,?_⟩,by rw[b6];rfl⟩;rw[df,nz,show n-(B.length+1)=m by lia]
 ·rintro σ ⟨B,a,b,c,⟨bs,hB,hd⟩,rfl⟩;have:B.length≠n:=bs.lt g
  have:n-B.length=0:=by
   rcases jcF (n-B.length) with z|z
   ·exact z
   ·have:=congrArg jeY hd;simp at this;lia
  lia
structure SqR (n:Nat) (T:List (List (Int×Int))) (q:List (Int×Int)):Prop where
 sq:SqT n T
 len:q.length=n
 sm:∀x∈q,SmallP x
theorem SqR.lo{T:List (List (Int×Int))}{q:List (Int×Int)}{low:Int}(g:SqR n T q)(m:IsMin (T ++ [q]) low):-130<=low:=by
 obtain⟨r,hr,x,hx,e⟩:=m.at_
 have sx:SmallP x:=by
  rcases dP.mp hr with z|z
  ·exact g.sq.sm r z x hx
  ·rw[gD.mp z]at hx;exact g.sm x hx
 have:=sx.lo;lia
end Z.J46
set_option exponentiation.threshold 3000
namespace Z.K46
open PySem Z Z.K42 Z.K40 Z.J51 Z.J45 Z.L45 Z.L46 Z.J46
def b_law_wholes:Sm :=
 (.seq (.set 1 (.bi .min [(.compE (.var 0) (.bi .min [(.compE (.var 2) (.ix (.var 3) (.cst (.int 1))))]))]))
 (.seq (.ret (.tup [(.compE (.var 0) (.compE (.var 2) (.bin .shl (.ix (.var 3) (.cst (.int 0))) (.bin .sub (.ix (.var 3) (.cst (.int 1))) (.var 1))))),(.var 1)]))
 .nop))
def b_law_weighed(i_law_whole i_law_common i_law_wholes:Nat):Sm :=
 (.seq (.ite (.or (.not (.isi (.var 1) .list)) (.or (.cmp .ne (.bi .len [(.var 1)]) (.bi .len [(.var 0)])) (.not (.bi .all [(.compE (.var 1) (.call i_law_whole [(.var 7)]))])))) (.seq (.ret (.cst (.bl false)))
  .nop) .nop)
 (.seq (.set 2 (.cst (.int 0)))
 (.seq (.forE 3 (.var 1) (.seq (.set 2 (.call i_law_common [(.var 2),(.var 3)]))
  .nop))
 (.seq (.ite (.or (.cmp .ne (.var 2) (.cst (.int 1))) (.cmp .lt (.ix (.compF (.var 1) (.cmp .ne (.var 7) (.cst (.int 0))) (.var 7)) (.cst (.int 0))) (.cst (.int 0)))) (.seq (.ret (.cst (.bl false)))
  .nop) .nop)
 (.seq (.unp [4,5] (.call i_law_wholes [(.var 0)]))
 (.seq (.forR 6 [(.bi .len [(.var 0)])] (.seq (.ite (.cmp .ne (.bi .sum [(.compR [(.bi .len [(.var 0)])] (.bin .mul (.ix (.var 1) (.var 7)) (.ix (.ix (.var 4) (.var 7)) (.var 6))))]) (.cst (.int 0))) (.seq (.ret (.cst (.bl false)))
  .nop) .nop)
  .nop))
 (.seq (.ret (.cst (.bl true)))
 .nop)))))))
structure RectM (M:List (List (Int×Int))):Prop where
 ne:M ≠ []
 few:M.length<=5
 row:∀r∈M,r ≠ []/\r.length<=4
 sm:∀r∈M,∀x∈r,SmallP x
def c_wholes:Ctr where
 pre ds:=∃M,ds=[tabD M]/\RectM M
 res ds d:=∀M,ds=[tabD M]->RectM M->∃low,IsMin M low/\d=.tup [wD (wh low M),.int low]
theorem zd{M:List (List (Int×Int))}{Q:D->Prop}{E:XD->Prop}(g:RectM M):c_wholes.wp [tabD M] Q E ↔ ∀low,IsMin M low->Q (.tup [wD (wh low M),.int low]):=by
 constructor
 ·intro w low h
  refine w.2.1 _ λM' e g'=>?_
  rw[<- qu e];exact⟨low,h,rfl⟩
 ·intro q;refine⟨⟨M,rfl,g⟩,λd h=>?_,λ_ z=>z.elim⟩;obtain⟨low,hw,rfl⟩:=h M rfl g;exact q low hw
def Meets(n:Nat)(A:List (List Int))(b:List Int)(xs:List Rat):Prop:=∀i,i<n->((bw n).map λj=>(((A.getD i []).getD j 0:Int):Rat)*xs.getD j 0).sum=((b.getD i 0:Int):Rat)
theorem Yr(k:Rat)(f:Nat->Rat)(n:Nat):((bw n).map λj=>k*f j).sum=k*((bw n).map f).sum:=by
 induction n with
 |zero=>simp
 |succ n ih=>rw[mK,b6,b6,my,my,ih];simp;grind
theorem XW(f:Nat->Int)(n:Nat):((bw n).map λj=>((f j:Int):Rat)).sum=(((bw n).map f).sum:Int):=by
 induction n with
 |zero=>simp
 |succ n ih=>rw[mK,b6,b6,my,my,ih];simp;grind
theorem sol_meets{n:Nat}{A:List (List Int)}{b:List Int}(g:SqA n A)(hb:b.length=n)(hz:jF (n-1) A≠0):Meets n A b (uh n A b):=by
 intro i hi;have c:=V8 g.n1 g.n4 g.len g.row hb hi
 have e:((bw n).map λj=>(((A.getD i []).getD j 0:Int):Rat)*(uh n A b).getD j 0)=(bw n).map λj=>(1 / (jF (n-1) A:Rat))*((((A.getD i []).getD j 0*jF (n-1) (q5 A j b):Int)):Rat):=bP λj hj=>by
  have hj:=dw.mp hj
  have:(uh n A b).getD j 0=gW (jF (n-1) (q5 A j b)) (jF (n-1) A):=by
   unfold uh;rw[bH,bW,jd2 hj];rfl
  rw[this,jcO,bY]
  grind
 rw[e,Yr,XW,c,bY]
 have:(jF (n-1) A:Rat)≠0:=by simpa using hz
 grind
theorem compLF_map{α:Type}{p:D->(Bool->Prop)->Prop}{f:D->(D->Prop)->Prop}{g h:α->D}{t:α->Bool}:∀ {l:List α} {Q:List D->Prop},(∀a∈l,∀Q,p (g a) Q ↔ Q (t a))->(∀a∈l,∀Q,f (g a) Q ↔ Q (h a))->(kz p f (l.map g) Q ↔ Q ((l.filter t).map h))
 |[],Q,_,_=>by simp[kz]
 |a::l,Q,k1,k2=>by
  rw[bz,kz,k1 a (bB ..)]
  cases ht:t a with
  |true =>
   rw[if_pos rfl,k2 a (bB ..),compLF_map (λb hb=>k1 b (bo _ hb)) (λb hb=>k2 b (bo _ hb)),jc7 (by rw[ht])]
   rfl
  |false =>
   rw[if_neg (by decide),compLF_map (λb hb=>k1 b (bo _ hb)) (λb hb=>k2 b (bo _ hb)),jc8 (by rw[ht];decide)]
theorem fil_head:∀ {u:List Int},fnn u<u.length->∃r,u.filter (λx=>x != 0)=u.getD (fnn u) 0::r
 |[],h=>by simp at h
 |x::u,h=>by
  by_cases hx:x=0
  ·subst hx
   have e:fnn (0::u)=fnn u+1:=by unfold fnn;rw[jeM];rfl
   rw[e]at h ⊢;obtain⟨r,hr⟩:=fil_head (u:=u) (by simpa using h);exact⟨r,by rw[jc8 (by simp),hr];rfl⟩
  ·have e:fnn (x::u)=0:=by
    unfold fnn;rw[jeM]
    have:(x != 0)=true:=by simpa using hx
    rw[this];rfl
   rw[e];exact⟨_,by rw[jc7 (by simpa using hx)];rfl⟩
end Z.K46
set_option exponentiation.threshold 3000
namespace Z.J49
open PySem Z Z.K42 Z.K40 Z.J51 Z.J45 Z.L45 Z.L46 Z.J46 Z.K51
def b_column:Sm :=
 (.seq (.ret (.compE (.var 0) (.ix (.var 2) (.var 1))))
 .nop)
def b_turned(i_column:Nat):Sm :=
 (.seq (.ret (.compR [(.bi .len [(.ix (.var 0) (.cst (.int 0)))])] (.call i_column [(.var 0),(.var 1)])))
 .nop)
def b_whole_dots(i_whole_dot:Nat):Sm :=
 (.seq (.ret (.compE (.var 1) (.call i_whole_dot [(.var 0),(.var 2)])))
 .nop)
structure RecW (M:List (List Int)) (A:Nat):Prop where
 ne:M ≠ []
 few:M.length<=200
 row:∀r∈M,r.length=A
 a:A<=200
def YM(M:List (List Int))(j:Nat):List Int:=M.map λr=>r.getD j 0
def trn(A:Nat)(M:List (List Int)):List (List Int):=(bw A).map (YM M)
def c_column:Ctr where
 pre ds:=∃M A,∃j:Nat,ds=[wD M,.int j]/\RecW M A/\j<A
 res ds d:=∀M,∀j:Nat,ds=[wD M,.int j]->d=iD (YM M j)
theorem k_column{C:Cfg}:jQ C 2 b_column c_column:=by
 rintro ds ⟨M,A,j,rfl,g,hj⟩
 have l1:M.length<=lim:=by have:=g.few;unfold lim;lia
 rw[b_column];simp_all! only[wD,bj,l1]
 rw[jq (g:=λr:List Int=>D.lst (r.map .int)) (h:=λr=>D.int (r.getD j 0)) (λr hr Q=>by
  have a:=vV (r:=r) (i:=j) (by rw[g.row r hr];exact hj)
  dsimp! only[a])]
 intro M' j' e;simp only[bO,D.int.injEq,and_true]at e;obtain⟨e1,e2⟩:=e
 have e2:j=j':=by lia
 subst e2;have e1:M=M':=yy (by unfold wD at *;exact e1);subst e1;unfold iD YM;rw[bL];rfl
variable{M:List (List Int)}{A j:Nat}{Q:D->Prop}{E:XD->Prop}
theorem JR(g:RecW M A)(hj:j<A):c_column.wp [wD M,.int j] Q E ↔ Q (iD (YM M j)) :=
 ⟨λw=>w.2.1 _ λM' j' e=>by
  simp only[bO,D.int.injEq,and_true]at e;obtain⟨e1,e2⟩:=e
  have e2:j=j':=by lia
  subst e2
  rw[<- yy e1],λq=>⟨⟨M,A,j,rfl,g,hj⟩,λd h=>by rw[h M j rfl];exact q,λ_ z=>z.elim⟩⟩
def c_turned:Ctr where
 pre ds:=∃M A,ds=[wD M]/\RecW M A
 res ds d:=∀M A,ds=[wD M]->RecW M A->d=wD (trn A M)
variable{B:Nat}
theorem RecW.uni(g:RecW M A)(h:RecW M B):A=B:=by
 obtain⟨r,R,e⟩:=nr g.ne;have:=g.row r (by rw[e];exact bB ..);have:=h.row r (by rw[e];exact bB ..);lia
variable{i:Nat}
theorem k_turned{C:Cfg}(h1:C.ct i=c_column):jQ C 1 (b_turned i) c_turned:=by
 rintro ds ⟨M,A,rfl,g⟩;have ga:=g.a;obtain⟨r,R,e⟩:=nr g.ne;have rl:r.length=A:=g.row r (by rw[e];exact bB ..)
 have a0:∀(Q:D->Prop),ixD (wD M) (.int 0) Q ↔ Q (.lst (r.map .int)):=by
  intro Q;rw[e];simp only[wD,bz,jbH,XN,gy,exists_eq_left']
 rw[b_turned];simp_all! only[a0,bj,rl];refine⟨by unfold qO;lia,by rw[YF];unfold lim;lia,?_⟩
 rw[bZ,kG (h:=λj=>iD (YM M j)) (λj hj Q=>by
  have w:=λQ E=>JR (Q:=Q) (E:=E) g hj
  dsimp! only[h1,w])]
 intro M' A' e' g';have e':=yy (sZ e').1;subst e';obtain rfl:=g.uni g';unfold wD trn iD;rw[bL];rfl
theorem JT(g:RecW M A):c_turned.wp [wD M] Q E ↔ Q (wD (trn A M)) :=
 ⟨λw=>w.2.1 _ λM' A' e g'=>by
  have e:=yy (sZ e).1;subst e
  rw[g.uni g'],λq=>⟨⟨M,A,rfl,g⟩,λd h=>by rw[h M A rfl g];exact q,λ_ z=>z.elim⟩⟩
structure DotsOk (r:List Int) (M:List (List Int)):Prop where
 few:M.length<=200
 len:r.length<=200
 br:∀a∈r,bits a<=20000
 bm:∀o∈M,∀a∈o,bits a<=20000
def c_whole_dots:Ctr where
 pre ds:=∃r M,ds=[iD r,wD M]/\DotsOk r M
 res ds d:=∀r M,ds=[iD r,wD M]->d=iD (M.map (kv r))
theorem k_whole_dots{C:Cfg}(h1:C.ct i=c_whole_dot):jQ C 2 (b_whole_dots i) c_whole_dots:=by
 rintro ds ⟨r,M,rfl,g⟩
 have l1:M.length<=lim:=by have:=g.few;unfold lim;lia
 rw[b_whole_dots];simp_all! only[wD,bj,l1]
 rw[jq (g:=λo:List Int=>D.lst (o.map .int)) (h:=λo=>D.int (kv r o)) (λo ho Q=>by
  have w:=λQ E=>wp_wd (as:=r) (bs:=o) (Q:=Q) (E:=E) g.len g.br (g.bm o ho)
  dsimp! only[h1,iD,w])]
 intro r' M' e;simp only[bO,and_true]at e;have e1:r=r':=z8 e.1;have e2:M=M':=yy (by unfold wD at *;exact e.2);subst e1 e2;unfold iD;rw[bL];rfl
variable{r:List (Int×Int)}
theorem JO{r:List Int}(g:DotsOk r M):c_whole_dots.wp [iD r,wD M] Q E ↔ Q (iD (M.map (kv r))) :=
 ⟨λw=>w.2.1 _ λr' M' e=>by
  simp only[bO,and_true]at e
  rw[<- z8 e.1,<- yy e.2],λq=>⟨⟨r,M,rfl,g⟩,λd h=>by rw[h r M rfl];exact q,λ_ z=>z.elim⟩⟩
theorem Ks{as bs:List Int}(hl:as.length<=63)(ha:∀a∈as,bits a<=A)(hb:∀b∈bs,bits b<=B):bits (kv as bs)<=A+B+6:=by
 have key:∀(l:List Int),(∀x∈l,x.natAbs<2^(A+B))->l.sum.natAbs<=l.length*2^(A+B):=by
  intro l
  induction l with
  |nil=>intro _;simp
  |cons x l ih =>
   intro h;have h1:=h x (bB ..)
   have h2:=ih λy hy=>h y (bo _ hy)
   rw[dN,gf,jdl];have:=Int.natAbs_add_le x l.sum;lia
 have h:=key ((as.zip bs).map λp=>p.1*p.2) λx hx=>by
  obtain⟨p,hp,rfl⟩:=bI.mp hx;have z:=mw hp;have:=kc p.1 p.2;have:=ha _ z.1;have:=hb _ z.2;exact jk.mp (by lia)
 rw[bj,pJ]at h;refine jk.mpr ?_;unfold kv
 have:min as.length bs.length<=63:=by lia
 have e:2^(A+B+6)=64*2^(A+B):=by rw[jdy];grind
 rw[e];have p:=gR (A+B);have:=mQ (2^(A+B)) this;lia
variable{low:Int}{x:Int×Int}
theorem Ky(h:x.2+bits x.1<=64)(l:-130<=low)(hx:low<=x.2):bits (atW low x)<=194:=by
 have:=yV (w:=x.1) (k:=(x.2-low).toNat);unfold atW;lia
def xc(low:Int)(T:List (List (Int×Int)))(ps:List Nat)(j:Nat):List Int:=T.map λr=>atW low ((kM ps r).getD j (0,0))
def yc(low:Int)(T:List (List (Int×Int)))(t:Nat):List Int:=T.map λr=>atW low (r.getD t (0,0))
def nA(low:Int)(T:List (List (Int×Int)))(ps:List Nat):List (List Int):=(bw (ps.length+1)).map λi=>(bw (ps.length+1)).map λj=>kv (xc low T ps i) (xc low T ps j)
def nB(low:Int)(T:List (List (Int×Int)))(ps:List Nat)(t:Nat):List Int:=(bw (ps.length+1)).map λi=>kv (xc low T ps i) (yc low T t)
section
variable {T:List (List (Int×Int))} {ps:List Nat} {t:Nat} {low:Int}
theorem ZL(g:FitOk T ps t)(hr:r∈T)(hx:x∈kq ps t r):x.2+bits x.1<=64:=by
 obtain⟨s,ht,hp⟩:=g.row r hr
 have at_:∀p,p<r.length->(r.getD p (0,0)).2+bits (r.getD p (0,0)).1<=64:=λp h=>g.up r hr _ (by rw[K40.getD_at h];exact dH h)
 unfold kq at hx;rcases dP.mp hx with z|z
 ·rcases bD.mp z with rfl|z
  ·decide
  ·obtain⟨p,hp',rfl⟩:=bI.mp z;exact at_ p (hp p hp')
 ·simp only[bD,bM,or_false]at z;subst z;exact at_ t ht
theorem zW(r:List (Int×Int)):(kM ps r).length=ps.length+1:=by unfold kM;simp
theorem Zt(hj:j<ps.length+1):(kM ps r).getD j (0,0)∈kM ps r:=by
 rw[K40.getD_at (by rw[zW];exact hj)];exact dH _
theorem xc_b(g:FitOk T ps t)(L:LowOk T ps t low)(hj:j<ps.length+1):∀a∈xc low T ps j,bits a<=194:=by
 intro a ha;obtain⟨r,hr,rfl⟩:=bI.mp ha
 have hm:(kM ps r).getD j (0,0)∈kq ps t r:=by unfold kq;exact dI _ (Zt hj)
 exact Ky (ZL g hr hm) L.lo (L.le r hr _ hm)
theorem yc_b(g:FitOk T ps t)(L:LowOk T ps t low):∀a∈yc low T t,bits a<=194:=by
 intro a ha;obtain⟨r,hr,rfl⟩:=bI.mp ha
 have hm:r.getD t (0,0)∈kq ps t r:=by unfold kq;simp
 exact Ky (ZL g hr hm) L.lo (L.le r hr _ hm)
theorem XI(g:FitOk T ps t)(L:LowOk T ps t low)(h3:ps.length<=3):SqA (ps.length+1) (nA low T ps):=by
 have few:=g.few;refine⟨by lia,by lia,by unfold nA;simp,λr hr=>?_,λr hr x hx=>?_⟩
 ·obtain⟨i,hi,rfl⟩:=bI.mp hr;simp
 ·obtain⟨i,hi,rfl⟩:=bI.mp hr;obtain⟨j,hj,rfl⟩:=bI.mp hx;have:=Ks (as:=xc low T ps i) (bs:=xc low T ps j) (by unfold xc;rw[bj];lia) (xc_b g L (dw.mp hi)) (xc_b g L (dw.mp hj));lia
theorem nB_b(g:FitOk T ps t)(L:LowOk T ps t low):∀x∈nB low T ps t,bits x<=400:=by
 have few:=g.few;intro x hx;obtain⟨i,hi,rfl⟩:=bI.mp hx;have:=Ks (as:=xc low T ps i) (bs:=yc low T t) (by unfold xc;rw[bj];lia) (xc_b g L (dw.mp hi)) (yc_b g L);lia
theorem JM:(nB low T ps t).length=ps.length+1:=by unfold nB;simp
end
def c_fitted:Ctr where
 pre ds:=∃T ps t,ds=[tabD T,plD ps,.int (t:Nat)]/\FitOk T ps t
 res ds d:=∀T ps t,ds=[tabD T,plD ps,.int (t:Nat)]->∃low,LowOk T ps t low/\jF ps.length (nA low T ps)≠0/\d=.lst ((uh (ps.length+1) (nA low T ps) (nB low T ps t)).map rq)
 exn ds y:=∃T ps t low u,ds=[tabD T,plD ps,.int (t:Nat)]/\LowOk T ps t low/\jF ps.length (nA low T ps)=0/\y.t="Dependent" /\ y.f=[iD u]/\Wts (ps.length+1) (nA low T ps) u
def b_fittedY(i1 i2 i3 i4:Nat):Sm :=
 (.seq (.set 3 (.call i1 [(.call i2 [(.var 0),(.var 1),(.var 2)])]))
 (.seq (.set 4 (.compE (.slc (.var 3) (.cst .non) (.neg (.cst (.int 1)))) (.call i3 [(.var 5),(.var 3)])))
 (.seq (.retY i4 [(.compE (.var 4) (.slc (.var 5) (.cst .non) (.neg (.cst (.int 1))))),(.compE (.var 4) (.ix (.var 5) (.neg (.cst (.int 1)))))])
 .nop)))
theorem JX{α:Type}(f:α->D)(r:List α):yH (r.map f) none (some (-1))=r.dropLast.map f:=by
 unfold yH;have e1:sIx (r.map f).length 0 none=0:=rfl
 have e2:sIx (r.map f).length (r.map f).length (some (-1))=r.length-1:=by
  rw[bj];show (if (-1:Int)<0 then ((-1:Int)+(r.length:Int)).toNat else min (-1:Int).toNat r.length)=_;rw[if_pos (by decide)];lia
 rw[e1,e2,gC,Nat.sub_zero,List.dropLast_eq_take,jd7]
theorem jaU{l:List Int}{z:Int}:atD ((l ++ [z]).map .int) (-1)=some (.int z):=by
 rw[Uk (by simp)];unfold ZC;simp
theorem cols_eq{T:List (List (Int×Int))}{ps:List Nat}{t:Nat}:trn (ps.length+2) (T.map λr=>(kq ps t r).map (atW low))=((bw (ps.length+1)).map λj=>xc low T ps j) ++ [yc low T t]:=by
 unfold trn;rw[mK,b6];congr 1
 ·refine bP λj hj=>?_
  have hj:=dw.mp hj;unfold YM xc;rw[bL]
  refine bP λr _=>?_
  simp only[sQ];rw[K40.getD_at (by rw[bj,vp];lia),dC,K40.getD_at (by rw[zW];exact hj)];congr 1;unfold kq kM;rw[List.getElem_append_left (by simp;exact hj)]
 ·rw[jcG];congr 1;unfold YM yc;rw[bL]
  refine bP λr _=>?_
  simp only[sQ];rw[K40.getD_at (by rw[bj,vp];lia),dC];congr 1;unfold kq;rw[List.getElem_append_right (by simp)];simp
theorem k_fitted{C:Cfg}{i1 i2 i3 i4:Nat}(h1:C.ct i1=c_turned)(h2:C.ct i2=c_rows_of_fit)(h3:C.ct i3=c_whole_dots)(h4:C.ct i4=c_siw)(hf:C.fr i4=true):Yh C 5 (b_fittedY i1 i2 i3 i4) c_fitted:=by
 rintro ds ⟨T,ps,t,rfl,g⟩;have p3:=g.pl;have few:=g.few
 have w2:=λQ E=>wp_rof (Q:=Q) (E:=E) g
 rw[b_fittedY];simp_all! only[h2,w2];intro low L
 have gM:RecW (T.map λr=>(kq ps t r).map (atW low)) (ps.length+2):=⟨by simpa using g.n0,by rw[bj];lia,λr hr=>by obtain⟨q,_,rfl⟩:=bI.mp hr;rw[bj,vp],by lia⟩
 rw[h1,JT gM,cols_eq]
 have bx:=λj (hj:j<ps.length+1)=>xc_b g L hj
 have by':=yc_b g L
 have sq:=XI g L p3;have nb:=nB_b g L;generalize hcs:((bw (ps.length+1)).map λj=>xc low T ps j)=cs
 have lc:cs.length=ps.length+1:=by rw[<- hcs];simp
 have ll:cs.length<=lim:=by unfold lim;lia
 have bc:∀c∈cs,c.length<=200/\∀a∈c,bits a<=20000:=λc hc=>by
  rw[<- hcs]at hc;obtain⟨j,hj,rfl⟩:=bI.mp hc;exact⟨by unfold xc;rw[bj];lia,λa ha=>dg (bx j (dw.mp hj) a ha) (by decide)⟩
 have dk:∀c∈cs,DotsOk c (cs ++ [yc low T t]):=λc hc=>⟨by rw[df,lc];simp;lia,(bc c hc).1,(bc c hc).2,λo ho a ha=>by
  rcases dP.mp ho with z|z
  ·exact(bc o z).2 a ha
  ·rw[gD.mp z]at ha
   exact dg (by' a ha) (by decide)⟩
 have eA:(cs.map λc=>cs.map (kv c))=nA low T ps:=by
  rw[<- hcs,bL];unfold nA
  refine bP λi _=>?_
  simp only[sQ];rw[bL];rfl
 have eB:(cs.map λc=>kv c (yc low T t))=nB low T ps t:=by
  rw[<- hcs,bL];rfl
 have cw:yH ((cs ++ [yc low T t]).map λr=>D.lst (r.map .int)) none (some (-1))=cs.map λr=>D.lst (r.map .int):=by rw[JX,jdQ]
 simp_all! only[wD,prt,kO,Je,slD,yN,cw,bj,ll]
 rw[jq (g:=λr:List Int=>D.lst (r.map .int)) (h:=λc=>iD ((cs ++ [yc low T t]).map (kv c))) (λc hc Q=>by
  have w:=λQ E=>JO (Q:=Q) (E:=E) (dk c hc)
  rw[wD,iD]at w
  dsimp! only[h3,w])]
 simp_all! only[iD];rw[jI,jcd];dsimp! only[bj,ll]
 rw[jq (g:=λc:List Int=>D.lst (((cs ++ [yc low T t]).map (kv c)).map .int)) (h:=λc=>D.lst ((cs.map (kv c)).map .int)) (λc hc Q=>by
  have b:yH (((cs ++ [yc low T t]).map (kv c)).map .int) none (some (-1))=(cs.map (kv c)).map .int:=by rw[JX,b6,jcG,jdQ]
  dsimp! only[prt,kO,Je,slD,yN,b])]
 rw[jq (g:=λc:List Int=>D.lst (((cs ++ [yc low T t]).map (kv c)).map .int)) (h:=λc=>D.int (kv c (yc low T t))) (λc hc Q=>by
  have b:atD (((cs ++ [yc low T t]).map (kv c)).map .int) (-1)=some (.int (kv c (yc low T t))):=by rw[b6,jcG,jaU]
  dsimp! only[b])]
 have d1:D.lst (cs.map λc=>D.lst ((cs.map (kv c)).map .int))=wD (nA low T ps):=by rw[<- eA];unfold wD;rw[bL];rfl
 have d2:D.lst (cs.map λc=>D.int (kv c (yc low T t)))=iD (nB low T ps t):=by rw[<- eB];unfold iD;rw[bL];rfl
 rw[d1,d2,h4];refine⟨hf,⟨_,_,_,rfl,sq,JM,nb⟩,λd r=>?_,λy hy=>?_⟩
 ·obtain⟨hz,rfl⟩:=r _ _ _ rfl sq;intro T' ps' t' e;obtain⟨rfl,rfl,rfl⟩:=VD (T:=T) (ps:=ps) (t:=t) e;exact⟨low,L,hz,rfl⟩
 ·obtain⟨n,A,b,u,e,g',hz,yt,yf,hw⟩:=hy;obtain⟨rfl,rfl⟩:=injAb e;obtain rfl:=YB sq g';exact⟨T,ps,t,low,u,rfl,L,hz,yt,yf,hw⟩
end Z.J49
set_option exponentiation.threshold 3000
namespace Z.J49
open PySem Z Z.K42 Z.K40 Z.J51 Z.J45 Z.L45 Z.L46 Z.J46 Z.K46 Z.K51
theorem sq_nn(a:Int):0<=a*a:=by
 rcases jct 0 a with z|z
 ·exact Int.mul_nonneg z z
 ·exact Int.mul_nonneg_of_nonpos_of_nonpos z z
section
variable {α β:Type}
theorem jbA(l:List α)(f g:α->Int):(l.map λa=>f a+g a).sum=(l.map f).sum+(l.map g).sum:=by
 induction l with
 |nil=>rfl
 |cons a l ih=>simp only[bz,dN,ih];lia
theorem zR(l:List α)(k:Int)(f:α->Int):(l.map λa=>k*f a).sum=k*(l.map f).sum:=by
 induction l with
 |nil=>simp
 |cons a l ih=>simp only[bz,dN,ih,Int.mul_add]
theorem Kf(l:List α):(l.map λ_=>(0:Int)).sum=0:=by
 induction l with
 |nil=>rfl
 |cons a l ih=>simp only[bz,dN,ih];rfl
theorem JV(l:List α)(m:List β)(f:α->β->Int):(l.map λa=>(m.map λb=>f a b).sum).sum=(m.map λb=>(l.map λa=>f a b).sum).sum:=by
 induction l with
 |nil=>simp only[dR,mH,Kf]
 |cons a l ih=>simp only[bz,dN,ih,jbA]
theorem jce(l:List α)(f:α->Int)(h:(l.map λa=>f a*f a).sum=0):∀a∈l,f a=0:=by
 have nn:∀l:List α,0<=(l.map λa=>f a*f a).sum:=λl=>by
  induction l with
  |nil=>exact Int.le_refl _
  |cons a l ih=>simp only[bz,dN];have:=sq_nn (f a);lia
 induction l with
 |nil=>intro a ha;simp at ha
 |cons a l ih =>
  simp only[bz,dN]at h;have h1:=sq_nn (f a);have h2:=nn l;intro b hb;rcases bD.mp hb with rfl|z
  ·rcases Int.mul_eq_zero.mp (show f b*f b=0 by generalize f b*f b=z at *;lia) with y|y<;>exact y
  ·exact ih (by lia) b z
theorem Zx(T:List α)(f g:α->Int):kv (T.map f) (T.map g)=(T.map λr=>f r*g r).sum:=by
 unfold kv
 induction T with
 |nil=>rfl
 |cons a T ih=>simp only[bz,jcD,dN,ih]
theorem qC(l:List α)(f:α->Int):(((l.map f).sum:Int):Rat)=(l.map λa=>(f a:Rat)).sum:=by
 induction l with
 |nil=>rfl
 |cons a l ih=>simp only[bz,dN,w9,ih]
theorem Jb(l:List α)(f g:α->Rat):(l.map λa=>f a+g a).sum=(l.map f).sum+(l.map g).sum:=by
 induction l with
 |nil=>simp only[dR,mH];grind
 |cons a l ih=>simp only[bz,dN,ih];grind
theorem kD(l:List α)(k:Rat)(f:α->Rat):(l.map λa=>k*f a).sum=k*(l.map f).sum:=by
 induction l with
 |nil=>simp
 |cons a l ih=>simp only[bz,dN,ih];grind
theorem KB(l:List α):(l.map λ_=>(0:Rat)).sum=0:=by
 induction l with
 |nil=>rfl
 |cons a l ih=>simp only[bz,dN,ih];grind
theorem Kq(l:List α)(m:List β)(f:α->β->Rat):(l.map λa=>(m.map λb=>f a b).sum).sum=(m.map λb=>(l.map λa=>f a b).sum).sum:=by
 induction l with
 |nil=>simp only[dR,mH,KB]
 |cons a l ih=>simp only[bz,dN,ih,Jb]
end
variable{i j:Nat}{u:List Int}{r:List (Int×Int)}
section
variable {T:List (List (Int×Int))} {ps:List Nat} {t:Nat} {low:Int}
def xr(low:Int)(ps:List Nat)(j:Nat)(r:List (Int×Int)):Int:=atW low ((kM ps r).getD j (0,0))
theorem Xf(hi:i<ps.length+1)(hj:j<ps.length+1):((nA low T ps).getD i []).getD j 0=(T.map λr=>xr low ps i r*xr low ps j r).sum:=by
 unfold nA;rw[K40.getD_at (p:=i) (z:=[]) (by simpa using hi),dC,K40.getD_at (by simpa using hj),dC];simp only[nu];exact Zx ..
theorem nB_at(hi:i<ps.length+1):(nB low T ps t).getD i 0=(T.map λr=>xr low ps i r*atW low (r.getD t (0,0))).sum:=by
 unfold nB;rw[K40.getD_at (by simpa using hi),dC];simp only[nu];exact Zx ..
theorem nA_sym(hi:i<ps.length+1)(hj:j<ps.length+1):((nA low T ps).getD i []).getD j 0=((nA low T ps).getD j []).getD i 0:=by
 rw[Xf hi hj,Xf hj hi];exact congrArg jc9 (bP λr _=>mO ..)
theorem hang(w:Wts (ps.length+1) (nA low T ps) u):∀r∈T,((bw (ps.length+1)).map λi=>u.getD i 0*xr low ps i r).sum=0:=by
 refine jce T _ ?_
 have e:∀r,((bw (ps.length+1)).map λi=>u.getD i 0*xr low ps i r).sum*((bw (ps.length+1)).map λi=>u.getD i 0*xr low ps i r).sum=((bw (ps.length+1)).map λc=>u.getD c 0*((bw (ps.length+1)).map λi=>u.getD i 0*(xr low ps i r*xr low ps c r)).sum).sum:=λr=>by
  rw[<- zR];refine congrArg jc9 (bP λc _=>?_)
  have:((bw (ps.length+1)).map λi=>u.getD i 0*(xr low ps i r*xr low ps c r)).sum=xr low ps c r*((bw (ps.length+1)).map λi=>u.getD i 0*xr low ps i r).sum:=by
   rw[<- zR];exact congrArg jc9 (bP λi _=>by grind)
  rw[this]
  grind
 simp only[e];rw[JV]
 have z:∀c∈bw (ps.length+1),(T.map λr=>u.getD c 0*((bw (ps.length+1)).map λi=>u.getD i 0*(xr low ps i r*xr low ps c r)).sum).sum=0:=λc hc=>by
  have hc:=dw.mp hc;rw[zR,JV]
  have:((bw (ps.length+1)).map λi=>(T.map λr=>u.getD i 0*(xr low ps i r*xr low ps c r)).sum)=(bw (ps.length+1)).map λi=>u.getD i 0*((nA low T ps).getD i []).getD c 0:=bP λi hi=>by
   rw[zR,Xf (dw.mp hi) hc]
  rw[this,w.nil c hc,t6]
 rw[show ((bw (ps.length+1)).map λb=>(T.map λa=>u.getD b 0*((bw (ps.length+1)).map λi=>u.getD i 0*(xr low ps i a*xr low ps b a)).sum).sum)=(bw (ps.length+1)).map λ_=>(0:Int) from bP z,Kf]
theorem ZI(L:LowOk T ps t low)(hr:r∈T)(hj:j<ps.length+1):((xr low ps j r:Int):Rat)=vr ((kM ps r).getD j (0,0))*tw (-low) :=
 J51.atW_vr (L.le r hr _ (by unfold kq;exact dI _ (Zt hj)))
theorem Jf:∀(xs:List (Int×Int)) (qs:List Rat),qs.length=xs.length->KR xs qs=((bw xs.length).map λj=>vr (xs.getD j (0,0))*qs.getD j 0).sum
 |[],[],_=>rfl
 |[],_::_,h=>by simp at h
 |_::_,[],h=>by simp at h
 |x::xs,q::qs,h=>by
  rw[uQ,Jf xs qs (by simpa using h),gf,t5,bz,dN,bL];rfl
theorem jca{qs:List Rat}(L:LowOk T ps t low)(hl:qs.length=ps.length+1)(m:Meets (ps.length+1) (nA low T ps) (nB low T ps t) qs)(hi:i<ps.length+1):(T.map λr=>vr ((kM ps r).getD i (0,0))*Jj ps t qs r).sum=0:=by
 have h:=m i hi
 have t0:tw (-low)≠0:=by have:=ka (-low);grind
 have e1:((bw (ps.length+1)).map λj=>((((nA low T ps).getD i []).getD j 0:Int):Rat)*qs.getD j 0)=(bw (ps.length+1)).map λj=>(T.map λr=>(xr low ps i r:Rat)*(xr low ps j r:Rat)*qs.getD j 0).sum:=bP λj hj=>by
  have hj:=dw.mp hj;rw[Xf hi hj,qC];rw[sk,<- kD];exact congrArg jc9 (bP λr _=>by rw[bY];grind)
 rw[e1,<- Kq,nB_at hi,qC]at h
 have e2:(T.map λr=>vr ((kM ps r).getD i (0,0))*Jj ps t qs r).sum=(1 / (tw (-low)*tw (-low)))*((T.map λr=>(((xr low ps i r*atW low (r.getD t (0,0)):Int)):Rat)).sum+(-1)*(T.map λr=>((bw (ps.length+1)).map λj=>(xr low ps i r:Rat)*(xr low ps j r:Rat)*qs.getD j 0).sum).sum):=by
  rw[<- kD,<- Jb,<- kD];refine congrArg jc9 (bP λr hr=>?_);have y1:=J51.atW_vr (L.le r hr (r.getD t (0,0)) (by unfold kq;simp))
  have e3:((bw (ps.length+1)).map λj=>(xr low ps i r:Rat)*(xr low ps j r:Rat)*qs.getD j 0)=(bw (ps.length+1)).map λj=>(xr low ps i r:Rat)*tw (-low)*(vr ((kM ps r).getD j (0,0))*qs.getD j 0):=bP λj hj=>by
   rw[ZI L hr (dw.mp hj)]
   grind
  rw[e3,kD,bY,y1,ZI L hr hi];unfold Jj;rw[Jf (kM ps r) qs (by rw[zW];exact hl),zW];generalize ((bw (ps.length+1)).map λj=>vr ((kM ps r).getD j (0,0))*qs.getD j 0).sum=S
  grind
 rw[e2,h]
 grind
end
def plR(ps:List Nat)(r:List (Int×Int)):List (Int×Int):=ps.map λp=>r.getD p (0,0)
theorem jbL{T:List (List (Int×Int))}{ps:List Nat}{t:Nat}{low l2:Int}(L:LowOk T ps t low)(w:Wts (ps.length+1) (nA low T ps) u)(hr:r∈T)(hl:∀x∈plR ps r,l2<=x.2) :
 ((bw ps.length).map λk=>u.getD (k+1) 0*((plR ps r).map (atW l2)).getD k 0).sum*2^l2.toNat+u.getD 0 0*2^(-l2).toNat=0:=by
 have h:=congrArg (λz:Int=>(z:Rat)) (hang w r hr);simp only[qC]at h;rw[t5,bz,dN,bL]at h
 have t0:tw (-low)≠0:=by have:=ka (-low);grind
 have x0:((xr low ps 0 r:Int):Rat)=tw (-low):=by
  rw[ZI L hr (Nat.succ_pos _)];show vr ((1,0):Int×Int)*tw (-low)=_;rw[J51.vr_one];grind
 have e1:((bw ps.length).map ((λi=>((u.getD i 0*xr low ps i r:Int):Rat)) ∘ Nat.succ))=(bw ps.length).map λk=>tw (-low)*(((u.getD (k+1) 0:Int):Rat)*vr ((plR ps r).getD k (0,0))):=bP λk hk=>by
  have hk:=dw.mp hk;simp only[sQ];rw[bY,ZI L hr (show k.succ<ps.length+1 by lia)];have:(kM ps r).getD k.succ (0,0)=(plR ps r).getD k (0,0):=rfl;rw[this]
  grind
 rw[e1,kD,bY,x0]at h
 have h0:((u.getD 0 0:Int):Rat)+((bw ps.length).map λk=>(((u.getD (k+1) 0:Int):Rat)*vr ((plR ps r).getD k (0,0)))).sum=0:=by
  generalize ((bw ps.length).map λk=>(((u.getD (k+1) 0:Int):Rat)*vr ((plR ps r).getD k (0,0)))).sum=S at *
  have:(((u.getD 0 0:Int):Rat)+S)*tw (-low)=0:=by
   have h':((u.getD 0 0:Int):Rat)*tw (-low)+tw (-low)*S=0:=h
   grind
  exact(Rat.mul_eq_zero.mp this).resolve_right t0
 refine tI.mp ?_
 have e2:((bw ps.length).map λk=>((u.getD (k+1) 0*((plR ps r).map (atW l2)).getD k 0:Int):Rat))=(bw ps.length).map λk=>tw (-l2)*(((u.getD (k+1) 0:Int):Rat)*vr ((plR ps r).getD k (0,0))):=bP λk hk=>by
  have hk:k<(plR ps r).length:=by unfold plR;rw[bj];exact dw.mp hk
  rw[K40.getD_at (r:=(plR ps r).map (atW l2)) (by rw[bj];exact hk),dC,K40.getD_at (r:=plR ps r) hk,bY,J51.atW_vr (hl _ (dH hk))]
  grind
 rw[w9,bY,bY,qC,e2,kD,KZ,KZ];generalize ((bw ps.length).map λk=>(((u.getD (k+1) 0:Int):Rat)*vr ((plR ps r).getD k (0,0)))).sum=S at *;have e4:=zA l2;rcases tY l2 0 with z|z
 ·rw[show ((l2.toNat:Nat):Int)=0 by lia,show (((-l2).toNat:Nat):Int)=-l2 by lia,qX];show _=((0:Int):Rat);simp only[Rat.intCast_zero]
  grind
 ·rw[show ((l2.toNat:Nat):Int)=l2 by lia,show (((-l2).toNat:Nat):Int)=0 by lia,qX];simp only[Rat.intCast_zero]
  grind
theorem Jc{k:Nat}(f:Nat->Rat):∀n,((bw n).map λj=>if j=k then f j else 0).sum=if k<n then f k else 0
 |0=>rfl
 |n+1=>by
  rw[mK,b6,my,Jc f n];simp only[bz,dR,dN,mH];by_cases h:n=k
  ·subst h;rw[if_neg (gG _),if_pos rfl,if_pos (wm _)];grind
  ·rw[if_neg h];by_cases h2:k<n
   ·rw[if_pos h2,if_pos (by lia)];grind
   ·rw[if_neg h2,if_neg (by lia)];grind
variable{n:Nat}{A:List (List Int)}
theorem ker0(g:SqA n A)(sym:∀i j,i<n->j<n->(A.getD i []).getD j 0=(A.getD j []).getD i 0)(hz:jF (n-1) A≠0){v:Nat->Rat}
 (hv:∀i,i<n->((bw n).map λj=>(((A.getD i []).getD j 0:Int):Rat)*v j).sum=0) {j0:Nat} (hj0:j0<n):v j0=0:=by
 let e:List Int:=(bw n).map λi=>if i=j0 then 1 else 0
 have le:e.length=n:=by simp[e]
 have ee:∀i,i<n->e.getD i 0=if i=j0 then 1 else 0:=λi hi=>by
  simp only[e];rw[K40.getD_at (by simpa using hi),dC];simp only[nu]
 have cr:=λi (hi:i<n)=>V8 g.n1 g.n4 g.len g.row le hi
 have h1:((bw n).map λi=>v i*((bw n).map λc=>(((A.getD i []).getD c 0:Int):Rat)*((jF (n-1) (q5 A c e):Int):Rat)).sum).sum=v j0*(jF (n-1) A:Rat):=by
  have:((bw n).map λi=>v i*((bw n).map λc=>(((A.getD i []).getD c 0:Int):Rat)*((jF (n-1) (q5 A c e):Int):Rat)).sum)=(bw n).map λi=>if i=j0 then v i*(jF (n-1) A:Rat) else 0:=bP λi hi=>by
   have hi:=dw.mp hi;have c:=congrArg (λz:Int=>(z:Rat)) (cr i hi);simp only[qC,bY]at c;rw[c,ee i hi]
   split<;>simp<;>grind
  rw[this,Jc,if_pos hj0]
 have h2:((bw n).map λi=>v i*((bw n).map λc=>(((A.getD i []).getD c 0:Int):Rat)*((jF (n-1) (q5 A c e):Int):Rat)).sum).sum=0:=by
  have:((bw n).map λi=>v i*((bw n).map λc=>(((A.getD i []).getD c 0:Int):Rat)*((jF (n-1) (q5 A c e):Int):Rat)).sum)=(bw n).map λi=>((bw n).map λc=>((jF (n-1) (q5 A c e):Int):Rat)*((((A.getD c []).getD i 0:Int):Rat)*v i)).sum:=bP λi hi=>by
   rw[<- kD];refine congrArg jc9 (bP λc hc=>?_);rw[sym i c (dw.mp hi) (dw.mp hc)]
   grind
  rw[this,Kq]
  have z:((bw n).map λc=>((bw n).map λi=>((jF (n-1) (q5 A c e):Int):Rat)*((((A.getD c []).getD i 0:Int):Rat)*v i)).sum)=(bw n).map λ_=>(0:Rat):=bP λc hc=>by
   rw[kD,hv c (dw.mp hc)];grind
  rw[z,KB]
 rw[h1]at h2
 have d0:(jF (n-1) A:Rat)≠0:=by simpa using hz
 exact(Rat.mul_eq_zero.mp h2).resolve_right d0
theorem jbb{k:Nat}{b:List Int}(g:SqA n A)(sym:∀i j,i<n->j<n->(A.getD i []).getD j 0=(A.getD j []).getD i 0)(hz:jF (n-1) A≠0)(hk:k<n)(hb:b.length=n)(eb:∀i,i<n->b.getD i 0=(A.getD i []).getD k 0) :
 ∀j,j<n->(uh n A b).getD j 0=if j=k then 1 else 0:=by
 intro j0 hj0;have m:=sol_meets g hb hz;generalize uh n A b=xs at m ⊢
 let v:Nat->Rat:=λj=>xs.getD j 0-if j=k then 1 else 0
 have hv:∀i,i<n->((bw n).map λj=>(((A.getD i []).getD j 0:Int):Rat)*v j).sum=0:=λi hi=>by
  have e:((bw n).map λj=>(((A.getD i []).getD j 0:Int):Rat)*v j)=(bw n).map λj=>(((A.getD i []).getD j 0:Int):Rat)*xs.getD j 0+(-1)*(if j=k then (((A.getD i []).getD j 0:Int):Rat) else 0):=bP λj _=>by
   simp only[v]
   split<;>grind
  rw[e,Jb,kD,Jc,if_pos hk,m i hi,eb i hi]
  grind
 have:=ker0 g sym hz hv hj0;simp only[v]at this
 grind
end Z.J49
set_option exponentiation.threshold 3000
namespace Z.K49
open PySem Z Z.K42 Z.K40 Z.J51 Z.J45 Z.L45 Z.L46 Z.J46 Z.K51 Z.J49
def b_law_weighed(i_law_whole i_law_common i_law_wholes:Nat):Sm :=
 (.seq (.ite (.or (.not (.isi (.var 2) .list)) (.cmp .ne (.bi .len [(.var 2)]) (.bin .add (.bi .len [(.var 1)]) (.cst (.int 1))))) (.seq (.ret (.cst (.bl false)))
  .nop) .nop)
 (.seq (.ite (.not (.bi .all [(.compE (.var 2) (.call i_law_whole [(.var 9)]))])) (.seq (.ret (.cst (.bl false)))
  .nop) .nop)
 (.seq (.set 3 (.cst (.int 0)))
 (.seq (.forE 4 (.var 2) (.seq (.set 3 (.call i_law_common [(.var 3),(.var 4)]))
  .nop))
 (.seq (.ite (.or (.cmp .ne (.var 3) (.cst (.int 1))) (.cmp .lt (.ix (.compF (.var 2) (.cmp .ne (.var 9) (.cst (.int 0))) (.var 9)) (.cst (.int 0))) (.cst (.int 0)))) (.seq (.ret (.cst (.bl false)))
  .nop) .nop)
 (.seq (.unp [5,6] (.call i_law_wholes [(.compE (.var 0) (.compE (.var 1) (.ix (.var 9) (.var 10))))]))
 (.seq (.forE 7 (.var 5) (.seq (.set 8 (.bin .shl (.bi .sum [(.compR [(.bi .len [(.var 1)])] (.bin .mul (.ix (.var 2) (.bin .add (.var 9) (.cst (.int 1)))) (.ix (.var 7) (.var 9))))]) (.bi .max [(.cst (.int 0)),(.var 6)])))
  (.seq (.ite (.cmp .ne (.bin .add (.var 8) (.bin .shl (.ix (.var 2) (.cst (.int 0))) (.bi .max [(.cst (.int 0)),(.bin .sub (.cst (.int 0)) (.var 6))]))) (.cst (.int 0))) (.seq (.ret (.cst (.bl false)))
   .nop) .nop)
  .nop)))
 (.seq (.ret (.cst (.bl true)))
 .nop))))))))
theorem pl_ok{T:List (List (Int×Int))}{ps:List Nat}{t:Nat}(g:FitOk T ps t):RowsOk (T.map (plR ps)):=by
 have p1:=g.p1;have pl:=g.pl;refine⟨by simpa using g.n0,by have:=g.few;rw[bj];lia,λl hl=>?_⟩;obtain⟨r,hr,rfl⟩:=bI.mp hl
 have ln:(plR ps r).length=ps.length:=by unfold plR;simp
 refine⟨λz=>by rw[z]at ln;simp at ln;lia,by lia,λx hx=>?_⟩;exact(g.sm r hr).all x (by unfold kq;exact dI _ (bo _ hx))
def c_weighed:Ctr where
 pre ds:=∃T ps t u low,ds=[tabD T,plD ps,iD u]/\FitOk T ps t/\LowOk T ps t low/\Wts (ps.length+1) (nA low T ps) u
 res ds d:=d=.bl true
theorem k_weighed{C:Cfg}{i1 i2 i3:Nat}(h1:C.ct i1=qW)(h2:C.ct i2=kH)(h3:C.ct i3=c_wholes):jQ C 9 (b_law_weighed i1 i2 i3) c_weighed:=by
 rintro ds ⟨T,ps,t,u,low,rfl,g,L,w⟩;have few:=g.few;have pl:=g.pl;have p1:=g.p1;have lu:=w.len
 have l1:T.length<=lim:=by unfold lim;lia
 have l2:ps.length<=lim:=by unfold lim;lia
 rw[b_law_weighed];rw[jI,kC];dsimp! only[tabD,iD,plD,bj,lu];rw[show ((ps.length+1:Nat):Int)=(ps.length:Int)+1 by push_cast;rfl];simp_all! only[];rw[jI,kC];dsimp! only[bj,lu];refine⟨by unfold lim;lia,?_⟩;rw[jq (g:=D.int) (h:=λ_:Int=>D.bl true) (λx hx Q=>by simp_arith only[h1,qW,isInt])];rw[show (u.map λ_=>D.bl true)=(u.map λ_=>true).map .bl by rw[bL];rfl,VN,show (u.map λ_=>true).all id=true by simp];simp_all! only[]
 let tD':D:=.lst (T.map λr=>.lst (r.map nq))
 let pD':D:=.lst (ps.map λp:Nat=>.int p)
 let P:List D->Sto->Prop:=λds σ=>∃(zs ys:List Int) (a:Option Sl),(zs++ys=u/\ds=ys.map .int/\bits (gL zs:Int)<=4000)/\σ=[some (.sh tD'),some (.sh pD'),some (.sh (.lst (u.map .int))),some (.sh (.int (gL zs:Nat))),a,none,none,none,none]
 refine jV (P []) ?_ ?_
 ·rw[yh]
  simp_arith only[]
  refine kS P ⟨[],u,_,⟨rfl,rfl,by decide⟩,rfl⟩ ?_ λσ h=>h
  rintro _ ds σ ⟨zs,ys,a,⟨ha,hd,gb⟩,rfl⟩
  cases ys with
  |nil=>simp at hd
  |cons y ys =>
   simp only[bz,bO]at hd;obtain⟨rfl,rfl⟩:=hd
   have by':bits y<=4000:=Jp w.bit y (by rw[<- ha];simp)
   simp_arith! only[h2,kH]
   refine⟨⟨by lia,by lia⟩,zs ++ [y],ys,_,⟨by rw[t7];exact ha,rfl,?_⟩,by rw[Qc]⟩;rw[Qc];by_cases hy:y=0
   ·subst hy
    have:gY (gL zs:Nat) 0=gL zs:=by unfold gY;simp
    rw[this];exact gb
   ·refine dg (ku ?_) by'
    have:=Int.gcd_le_natAbs_right (a:=(gL zs:Int)) hy;simpa using this
 rintro σ ⟨zs,ys,a,⟨ha,hd,gb⟩,rfl⟩
 have:ys=[]:=by simpa using hd.symm
 subst this;rw[dM]at ha;subst ha;have fu:fnn zs<zs.length:=Zc (i:=fnn zs) (by have:=w.pos;lia);obtain⟨r,hr⟩:=K46.fil_head fu;rw[jI,kC];dsimp! only[w.one,bj,lu];refine⟨by unfold lim;lia,?_⟩;rw[K46.compLF_map (g:=D.int) (t:=λx:Int=>x != 0) (h:=D.int) (λx hx Q=>by dsimp! only[];rfl) (λx hx Q=>by dsimp! only[]),hr];have pz:=w.pos
 have np:¬ zs.getD (fnn zs) 0<0:=by lia
 simp only[tD',pD'];simp_all! only[np,bj,l1]
 rw[jq (g:=λr:List (Int×Int)=>D.lst (r.map nq)) (h:=λr=>D.lst ((plR ps r).map nq)) (λr hr Q=>by
  obtain⟨s,ht,hp⟩:=g.row r hr;dsimp! only[bj,l2]
  rw[jq (g:=λp:Nat=>D.int p) (h:=λp=>nq (r.getD p (0,0))) (λp hp' Q=>by
   have a:=XF (r:=r) (p:=p) (hp p hp')
   dsimp! only[a])]
  unfold plR;rw[bL]
  rfl)]
 rw[show D.lst (T.map λr=>D.lst ((plR ps r).map nq))=tabD (T.map (plR ps)) by unfold tabD;rw[bL];rfl,h3,zd (pl_ok g)];intro l2' L2
 have em:(if (l2':Int) > 0 then l2' else 0).toNat=l2'.toNat:=by split<;>lia
 have em2:(if (0:Int)-l2' > 0 then 0-l2' else 0).toNat=(-l2').toNat:=by split<;>lia
 have lo:=L2.lo;have hi:=L2.hi
 have e0:0<=(if (l2':Int) > 0 then l2' else 0)/\(if (l2':Int) > 0 then l2' else 0)<=130:=by split<;>lia
 have e1:0<=(if (0:Int)-l2' > 0 then 0-l2' else 0)/\(if (0:Int)-l2' > 0 then 0-l2' else 0)<=130:=by split<;>lia
 generalize hdn:(if (l2':Int) > 0 then l2' else 0)=dn at *;generalize hup:(if (0:Int)-l2' > 0 then 0-l2' else 0)=up at *;simp_all! only[]
 have eW:wD ((T.map (plR ps)).map λr=>r.map (atW l2'))=D.lst (T.map λr=>D.lst (((plR ps r).map (atW l2')).map .int)):=by unfold wD;rw[bL,bL];rfl
 rw[eW]
 let P3:List D->Sto->Prop:=λds σ=>(∃post:List (List (Int×Int)),(∀r∈post,r∈T)/\ds=post.map λr=>D.lst (((plR ps r).map (atW l2')).map .int))/\∃x y:Option Sl,σ=[some (.sh tD'),some (.sh pD'),some (.sh (.lst (zs.map .int))),some (.sh (.int (1:Nat))),a,some (.sh (.lst (T.map λr=>D.lst (((plR ps r).map (atW l2')).map .int)))),some (.sh (.int l2')),x,y]
 refine jV (P3 []) ?_ ?_
 ·rw[yh]
  simp_arith only[]
  refine kS P3 ⟨⟨T,λ_ h=>h,rfl⟩,none,none,rfl⟩ ?_ λσ h=>h
  rintro d ds σ ⟨⟨post,hp,hd⟩,x,y,rfl⟩
  cases post with
  |nil=>cases hd
  |cons r post =>
   simp only[bz,bO]at hd;obtain⟨rfl,rfl⟩:=hd;have hr:=hp r (bB ..);have hl:∀x∈plR ps r,l2'<=x.2:=L2.le _ (bI.mpr ⟨r,hr,rfl⟩);have key:=jbL L w hr hl
   have lp:((plR ps r).map (atW l2')).length=ps.length:=by unfold plR;simp
   have bA:∀j,bits (((plR ps r).map (atW l2')).getD j 0)<=330:=λj=>by
    rcases bU j ((plR ps r).map (atW l2')).length with z|z
    ·rw[K40.getD_at z,dC];exact x6 ((g.sm r hr).all _ (by unfold kq;exact dI _ (bo _ (dH (l:=plR ps r) (by simpa using z))))) lo
    ·rw[jcv,bG z];exact mI _
   generalize (plR ps r).map (atW l2')=as at *;simp only[tD',pD'];simp_all! only[bj];refine⟨by unfold qO;lia,by rw[YF];unfold lim;lia,?_⟩
   rw[bZ,kG (h:=λk=>D.int (zs.getD (k+1) 0*as.getD k 0)) (λk hk Q=>by
    have a1:=vV (r:=zs) (i:=k+1) (by lia);rw[show (((k+1:Nat)):Int)=(k:Int)+1 by push_cast;rfl]at a1;have a2:=vV (r:=as) (i:=k) (by lia);have mj:qh (zs.getD (k+1) 0) (as.getD k 0):=jH (by have:=w.bit (k+1);have:=bA k;lia)
    dsimp! only[a1,a2,mj])]
   rw[show ((bw ps.length).map λk=>D.int (zs.getD (k+1) 0*as.getD k 0))=((bw ps.length).map λk=>zs.getD (k+1) 0*as.getD k 0).map .int by rw[bL];rfl]
   have bs:=ud (B:=4330) (l:=(bw ps.length).map λk=>zs.getD (k+1) 0*as.getD k 0) λy hy=>by
    obtain⟨k,_,rfl⟩:=bI.mp hy;have:=kc (zs.getD (k+1) 0) (as.getD k 0);have:=w.bit (k+1);have:=bA k;lia
   rw[bj,nS]at bs;rw[KU,hdn,KN];generalize ((bw ps.length).map λk=>zs.getD (k+1) 0*as.getD k 0).sum=S at *
   have so:ShlOk S dn:=⟨e0.1,by lia⟩
   have so0:ShlOk (zs.getD 0 0) up:=⟨e1.1,by have:=w.bit 0;lia⟩
   have a0:atD (zs.map .int) 0=some (.int (zs.getD 0 0)):=vV (i:=0) (by lia);refine⟨so,?_⟩;rw[jI,kC];rw[<- em,<- em2]at key;dsimp! only[a0,so0,hup,key];exact⟨⟨post,λx hx=>hp x (bo _ hx),rfl⟩,_,_,rfl⟩
 rintro σ ⟨_,x,y,rfl⟩;simp_all! only[];rfl
end Z.K49
namespace Z
open PySem PySem.Spec PySem.Calls PyProof.Rows PySem.W L2
open PySem.Builtin PySem.Builtin.Str PySem.Builtin.BaseException PySem.Builtin.Exceptions
abbrev fx(C t:Addr)(dct:Option Addr):HO:=.frz (excO C t dct) (.ext λ_=>True)
def Ex1(H:Hp)(C:Addr)(tx:V)(f:List (Str×V))(e:Addr):Prop:=∃t dct,H e=some (fx C t dct)/\H t=some (.tup [tx])/\∀p∈f,∃dA,dct=some dA/\H dA=some (.xd [p])
variable{H H':Hp}{tx:V}
theorem Ex1.mono{C e:Addr}{f:List (Str×V)}(h:Ex1 H C tx f e)(s:jf H H'):Ex1 H' C tx f e:=by
 obtain⟨t,dct,h1,h2,h3⟩:=h;exact⟨t,dct,s _ _ h1,s _ _ h2,λp hp=>by obtain⟨dA,q1,q2⟩:=h3 p hp;exact⟨dA,q1,s _ _ q2⟩⟩
def Exs(mg:Str->Option bq)(H0 H:Hp)(tx:V):List Str->List Addr->Prop
 |[],es=>es=[]
 |c::cs,es=>∃e r D y,es=e::r/\mg c=some (.ref D)/\Ex1 H D tx (if VV c=true then [(yC c,y)] else []) e/\(c="Dependent"->∃q,y=.ref q/\H0 q=none/\H q=some (.lst []))/\(c="BadText"->y=.int 0)/\Exs mg H0 H tx cs r
variable{mg:Str->Option bq}
theorem Exs.mono{H0 H1:Hp}(s:jf H H')(s0:jf H1 H0):∀ {cs:List Str} {es:List Addr},Exs mg H0 H tx cs es->Exs mg H1 H' tx cs es
 |[],es,h=>h
 |c::cs,es,h=>by
  obtain⟨e,r,D,y,h1,h2,h3,h4,h5,h6⟩:=h;exact⟨e,r,D,y,h1,h2,h3.mono s,λz=>by obtain⟨q,q1,q2,q3⟩:=h4 z;exact⟨q,q1,s0.free q2,s _ _ q3⟩,h5,h6.mono s s0⟩
theorem Exs.len{mg:Str->Option bq}{H0 H:Hp}{tx:V}:∀ {cs:List Str} {as:List Addr},Exs mg H0 H tx cs as->as.length=cs.length
 |[],as,h=>by cases h;rfl
 |c::cs,as,h=>by
  obtain⟨e,r,D,y,rfl,h2,h3,h4,h5,h6⟩:=h;simp[Exs.len h6]
structure Hand (X:Cx) (i:FnI) (L:List FnI) (cns:List Str) (C:Cfg) (lv:Nat):Prop where
 ok:OkS X.nox (i.ck L cns) C
 own:Own X
 rm:Room lv X.A
 sc:X.env.scope=ji i.st
theorem Zv{P:dW}{w:World}{K:bp}{base:gQ}{C:Cfg}{cns:List Str}{i:FnI}{L:List FnI}{lv:Nat}{f:Addr}{fd:pF}{sp:Sp}(h2:2<=lv)(F:FnAt K mg i f fd)(hsc:xI i=true)
 (fns:∀n j,L[n]?=some j->∃f fd,FnOk P w K mg base (CXz P w mg) lv f fd j.ps (spD K j.ps.length (C.fr n) (C.f2 n) (C.ct n))/\FnAt K mg j f fd)
 (hcn:∀n x,cns[n]?=some x->∃u v,mg x=some u/\jS v u/\∀S,Is K S (C.cn n) v) (hb:∀x∈blts,mg x=none) (hE:∀x,¬ C.E x) (len:∀vs H Q E,sp vs H Q E->vs.length=i.ps.length)
 (body:∀(X:Cx) (H:Hp) (vs:List V) (Q:VK) (E:XK),Hand X i L cns C lv->(X.prog=P/\X.w=w/\X.K=K/\X.mg=mg/\X.base=base/\X.H₀=H)->sp vs H Q E ->
  ∃t,PSs X (jU i.st) t/\t { nx:=λ_ H'=>Q .non H',rt:=Q } (L2.start i.N vs) H) :
 FnOk P w K mg base (CXz P w mg) (lv+1) f fd i.ps sp:=by
 have S:=zY hsc;refine Z5 F.fn S len (λcdv A outer s H vs Q E hr h=>?_)
 have hun:(A.deeper (envOfC i.x (ji i.st) s.heap.objs.size f cdv)).units+100<cLine:=by have:=hr.un;lia
 have hcalm:A.handled.isNone=true:=by
  have e:A.handled=none:=hr.hd h2;rw[e];rfl
 have ok:OkS (uV (CXz P w mg) P w K mg base i.N i.x (ji i.st) f cdv A outer s H E).nox (i.ck L cns) C:=by
  refine⟨⟨rfl,S.nd,rfl,S.kind,hcalm,rfl,hun,?_,hcn,hb,hE⟩,λ_=>rfl⟩;intro n x m e;have e':(L.map λj=>(j.x,j.ps.length))[n]?=some (x,m):=e;rw[bW]at e'
  cases q:L[n]? with
  |none=>rw[q]at e';cases e'
  |some j =>
   rw[q]at e';cases e';obtain⟨f',fd',F',A'⟩:=fns n j q;exact⟨f',fd',j.ps,lv,F',hr,A'.mg,A'.fn.kp,.all A'.bd⟩
 exact body (uV (CXz P w mg) P w K mg base i.N i.x (ji i.st) f cdv A outer s H E) H vs Q E ⟨ok,⟨rfl,rfl,rfl⟩,hr,rfl⟩ ⟨rfl,rfl,rfl,rfl,rfl,rfl⟩ h
theorem law_walkH{l:je5}{q:dW}{loose:List Str}{XP:(Str->Option bq)->gQ->Prop}{YP:World->gQ->Prop}{d:DefRec}{K:Params->bp}(lv:Nat)(i:FnI){x:Str}
 (hn:l.most=some 63) (hdf:d.params.defaults=[]) (hY:∀(w:World) (h:gQ),YP w h->(K w.params).In h) (hr:Room lv jdf) (hx:i.ps=[x]) (hdn:d.name=i.x)
 (key:∀(w:World) (mg:Str->Option bq) (h:gQ),(K w.params).In h->h.Ns gn mg->∃f fd,FnAt (K w.params) mg i f fd/\∀base:gQ,FnOk l.prog w (K w.params) mg base (CXz l.prog w mg) lv f fd [x] (spD (K w.params) 1 false false ux)) :
 jfo q loose XP YP l.row.toRowW d [] (λf vs=>jfe f vs):=by
 refine L2.walk_of (n:=63) (k:=lv) (x:=x) (CX:=λ_=>λ_ _ _ E _ _=>∃v da H,E v da H) (sp:=λw=>spD (K w.params) 1 false false ux) hn (by decide) hdf hr hY ?_ (λw H a ns hl _ hS=>law_sp hl hS) λ_ _ _ _ _ ⟨_,_,_,z⟩=>z
 intro w mg fa h KX G hmg;obtain⟨f,fd,A,ok⟩:=key w mg h KX G
 have e:fa=f:=by
  have:=A.mg;rw[<- hdn,hmg]at this;cases this;rfl
 subst e;refine⟨fd,λs u=>.of_eq ?_,λbase _ _=>?_⟩
 ·have:=A.bd [u] (by rw[hx];rfl);rw[hx]at this;exact this
 ·exact⟨(ok base).len,λA outer s H args us vs Q E r e0 b rv hsp=>jcm ((ok base).run A outer s H args us vs Q E r e0 b rv hsp) λr s' z=>by
   cases r with
   |ok fl=>cases fl<;>exact z
   |error e=>obtain⟨x,C,H1,da,z,_⟩:=z;exact⟨_,_,_,z⟩⟩
end Z
namespace Z.J11
open PySem PySem.Spec PySem.Calls PyProof.Rows PySem.W L2 Z
def exT(K:bp)(O₀:List Addr)(H₀:Hp)(w0:Str)(D:Ends):XD->Prop:=λy=>y.t="Dependent" /\ ∃d,y.f=[d]/\∀v t H',jf H₀ H'->H₀ t=none->Is K (je H' O₀) d v->H' t=some (.tup [.str w0,v])->D.rt (.ref t) H'
theorem ps_told{X:Cx}{k:Ck}{C:Cfg}{O₀:List Addr}{H₀:Hp}{i f jc jt:Nat}{es:List Ex}{v:Expr}{w1 w0:Str}{Ca:Addr}{b0:Stmt}{suite:List Stmt}{c1 tp np rp p pos:Pos}(ok:OkS X.nox k C)(own:Own X)(o0:∀a∈O₀,H₀ a≠none)(al:Alone X)(hm:X.mg "Dependent"=some (.ref Ca))(co:ClsOk X.K X.mg "Dependent" Ca true)
 (g1:Gl X "Dependent") (gi:Gl X "int") (ga:Gl X "_law_alone") (hle:X.env.scope.names.lookup ("_law_e":Str)=some .local) (hi:X.N[i]?=some ("_law_e":Str)) (hk:k.cls=[]) (hka:k.al=false) (hrs:k.rs=false) (hv:jbJ k f es [] v=true) (hst:bQ [v] X.env=(false,eval v X.env)::bQ [] X.env) (hsu:KO w0 (some "weights") (b0::suite)=true) :
 PS X (.Try [.Return (some (.Tuple [.Constant (.str w1) jc c1,v] jt tp)) rp] [.ExceptHandler (some (.Name "Dependent" np)) (some "_law_e") (b0::suite) p] [] [] pos)
  (λD τ H=>∃σ O,jf H₀ H/\(∀a∈O₀,a∈O)/\Reps X.K O H σ τ/\wpEs C es σ λds=>C.fr f=true/\(C.ct f).wp ds (λd=>WdF X.K O H (λu H1=>∀t,H1 t=none->D.rt (.ref t) (upd H1 t (.tup [.str w1,u]))) d) (exT X.K O₀ H₀ w0 D)):=by
 intro pins s τ H D I w;refine wpAny_Try_except ?_;obtain⟨σ,O,g,gs,R,w⟩:=w
 let hes:List sP:=[.ExceptHandler (some (.Name "Dependent" np)) (some "_law_e") (b0::suite) p]
 let xe':bq->Shared->Prop:=λe s₁=>wpAny (model X.prog X.w) X.A (jc0 e X.env) (λ_ s₂=>wpAny (model X.prog X.w) X.A (jeT e none) (λ_ s₃=>wpAny (model X.prog X.w) X.A (handleBy e X.env hes) (SP X pins D) X.xe s₃) X.xe s₂) X.xe s₁
 let X':Cx:={ X with xe:=xe',pn:=X.pn++pins }
 have toX:∀ {ps:List (Addr×nv)} {σ':L2.St} {H':Hp} {s':Shared},Inv X' ps σ' H' s'->Inv X pins σ' H' s':=λ{ps σ' H' s'} J=>⟨I.ok,J.os,J.bare,J.base,J.loc,J.cell,J.free,J.freeC,λq hq=>J.pin q (dI _ hq),J.hok,J.len⟩
 have I':Inv X' [] τ H s:=⟨⟨I.ok.mod,I.ok.kind,I.ok.glob,I.ok.blt,I.ok.above,I.ok.inj,I.ok.has,I.ok.cab,I.ok.hd,I.ok.frames,I.ok.stk,I.ok.exf,I.ok.bs,I.ok.bsz,I.ok.noex,I.ok.exfs,I.ok.funs,I.ok.frf⟩,I.os,I.bare,I.base,I.loc,I.cell,I.free,I.freeC,λq hq=>I.pin q (by simpa[X']using hq),I.hok,I.len⟩
 have ok':OkX X' k C O₀ H₀ (exT X.K O₀ H₀ w0 D):=by
  refine⟨⟨⟨ok.N,ok.nd,ok.names,ok.kd,ok.calm,rfl,ok.units,ok.fns,ok.cns,ok.blt,ok.E⟩,ok.fn⟩,⟨own.stk,own.frm,own.ex⟩,o0,?_,(λz=>by rw[hrs]at z;cases z),(λz=>by rw[hrs]at z;cases z),(λz hz=>by rw[hk]at hz;cases hz),λz=>?_⟩
  ·intro z Cz hz hmz pins' σ' H' s' H1 da e s2 J sm fd T;obtain⟨zt,d,zf,rt⟩:=hz
   have ec:Cz=Ca:=by rw[zt,show X'.mg "Dependent"=some (.ref Ca) from hm]at hmz;cases hmz;rfl
   subst ec;have af:=co.al rfl;refine caught (X:=X') (Q:=SP X pins D) (E:=X.xe) (pre:=[]) (λ_ z=>nomatch z) J ⟨own.stk,own.frm,own.ex⟩ ok.nd hm co.cl g1 (by decide) hi hle T ?_;rintro ea oe vs s7 s1 cl dt dc rfl J7 hn;have s2':jf H1 (upd H1 ea (.frz oe (.ext λ_=>True))):=jE hn _
   have hlen:i<σ'.length:=by
    rw[J.len];exact(gH.mp hi).1
   have hF:∀n,some ("weights":Str)=some n->∃T f,InitF X'.K X'.mg Cz T f n:=λn hn=>by
    cases hn;obtain⟨T,f,F,_⟩:=co.ow rfl;exact⟨T,f,F⟩
   obtain⟨psu,hwo⟩:=U2 (X:=X') (ea:=ea) (i:=i) (y:="Dependent") (D:=Cz) ⟨al.fn,al.rm,al.int⟩ hi hle gi ga af hF hsu
   have st0:K2 i Cz (σ'.set i (some (.ref ea))) (upd H1 ea (.frz oe (.ext λ_=>True))):=⟨ea,oe,_,dE hlen,jm ..,cl⟩
   have fin:∀(f:Flow) (s8:Shared),SP (mkX X' ea) pins' { nx:=λ_ _=>False,rt:=λv H'=>jf (upd H1 ea (.frz oe (.ext λ_=>True))) H'/\D.rt v H' } f s8 ->
    wpAny (model X'.prog X'.w) X'.A (do bindName X'.env "_law_e" .none;wR X'.env "_law_e" p) (λ_ s₅=>SP X pins D f s₅) X.xe s8:=λf s8 z=>by
    cases f with
    |ret u =>
     obtain⟨v,σ8,H8,J8,r8,s8',q8⟩:=z
     refine US (X:=X') (inv_unX J J8) ⟨own.stk,own.frm,own.ex⟩ hle λs9 J9=>?_
     exact⟨v,_,H8,toX J9,r8,q8⟩
    |next=>obtain⟨_,_,_,z⟩:=z;exact z.elim
    |brk=>obtain⟨_,_,_,z⟩:=z;exact z.elim
    |cont=>obtain⟨_,_,_,z⟩:=z;exact z.elim
   obtain⟨dA,v,rfl,hdA,iv⟩:=fd d (by rw[zf];simp);rw[zt]at hdA
   refine gA (psu pins' s7 _ _ { nx:=λ_ _=>False,rt:=λv H'=>jf (upd H1 ea (.frz oe (.ext λ_=>True))) H'/\D.rt v H' } J7 ⟨st0,ea,oe,_,vs,dA,v,dE hlen,jm ..,cl,dt,dc.resolve_left (λz=>nomatch z),s2' _ _ hdA,λt H8 s8 ht0 ht8=>⟨s8,rt v t H8 ((sm.trans s2').trans s8) ((sm.trans s2').free ht0) (Is.mono (jd (s2'.trans s8)) d iv) ht8⟩⟩) fin λ_ _ z=>z
  ·rw[hka]at z;cases z
 have pb:PSs X' [.Return (some (.Tuple [.Constant (.str w1) jc c1,v] jt tp)) rp] _:=jB (xM (K7 (jw Jr (jw (sY ok' f es v hv) jX hst) rfl))) kl
 refine gA (pb [] s τ H D I' ⟨σ,O,g,gs,R,jr es (λds wd=>⟨wd.1,wd.2.1,λd r xs a H1 us e s1 h0 h1 i1=>⟨by show 2<=sizeLine;decide,λt ht=>?_⟩,wd.2.2.2⟩) w⟩) (λf s1 z=>?_) λe s1 z=>z
 ·exact wd.2.2.1 d r xs a H1 us e s1 h0 h1 i1 t ht
 cases f with
 |ret u=>obtain⟨v,σ8,H8,J8,r8,q8⟩:=z;exact⟨v,σ8,H8,toX J8,r8,q8⟩
 |next =>
  obtain⟨σ8,H8,J8,q8⟩:=z
  exact kl (X:=X) pins s1 σ8 H8 D (toX J8) q8
 |brk=>obtain⟨σ8,H8,J8,q8⟩:=z;exact⟨σ8,H8,toX J8,q8⟩
 |cont=>obtain⟨σ8,H8,J8,q8⟩:=z;exact⟨σ8,H8,toX J8,q8⟩
theorem za(H:Hp):je H []=H:=by
 funext b;exact j8 (by simp)
def Sh(K:bp)(S:Hp):Sto->L2.St->Prop
 |[],[]=>True
 |none::σ,_::τ=>Sh K S σ τ
 |some (.sh d)::σ,some v::τ=>Is K S d v/\Sh K S σ τ
 |_,_=>False
variable{K:bp}{H:Hp}{σ:Sto}{τ:L2.St}
theorem QC(h:Sh K H σ τ):Reps K [] H σ τ:=by
 have key:∀ {σ:Sto} {τ:L2.St},Sh K H σ τ->σ.length=τ.length/\∀i z,getS σ i=some z->∃d v,z=.sh d/\τ[i]?=some (some v)/\Is K H d v:=by
  intro σ
  induction σ with
  |nil =>
   intro τ h
   cases τ with
   |nil=>exact⟨rfl,λi z g=>by simp[getS]at g⟩
   |cons _ _=>exact h.elim
  |cons x σ ih =>
   intro τ h
   cases τ with
   |nil=>rcases x with _|(_|_|_)<;>exact h.elim
   |cons y τ =>
    rcases x with _|(d|_|_)
    ·obtain⟨l,q⟩:=ih (τ:=τ) (by cases y<;>exact h);refine⟨by simp[l],λi z g=>?_⟩
     cases i with
     |zero=>simp[getS]at g
     |succ i=>exact q i z (by simpa[getS]using g)
    ·cases y with
     |none=>exact h.elim
     |some v =>
      obtain⟨h1,h2⟩:=h;obtain⟨l,q⟩:=ih h2;refine⟨by simp[l],λi z g=>?_⟩
      cases i with
      |zero =>
       simp[getS]at g
       exact⟨d,v,g.symm,rfl,h1⟩
      |succ i=>exact q i z (by simpa[getS]using g)
    ·cases y<;>exact h.elim
    ·cases y<;>exact h.elim
 obtain⟨l,q⟩:=key h
 have no:∀i z,getS σ i=some z->∃d,z=.sh d:=λi z g=>by obtain⟨d,_,e,_⟩:=q i z g;exact⟨d,e⟩
 refine⟨l,(λ_ z=>nomatch z),λi d g=>?_,λi ds g=>?_,λi j ds es _ g=>?_,⟨λi rows g=>?_,λi j rs qs g=>?_⟩⟩
 ·obtain⟨d',v,e,hv,is⟩:=q i _ g;cases e;exact⟨v,hv,by rw[za];exact is⟩
 ·obtain⟨_,e⟩:=no _ _ g;cases e
 ·obtain⟨_,e⟩:=no _ _ g;cases e
 ·obtain⟨_,e⟩:=no _ _ g;cases e
 ·intro g2;obtain⟨_,e⟩:=no _ _ g2;cases e
variable{x:Ex}
theorem go{C:Cfg}{Q:VK}(w:wpE C x σ (Wd K [] H Q))(h:Sh K H σ τ):tD K C x τ H Q:=⟨σ,[],QC h,w⟩
theorem goT{C:Cfg}{Q:Bool->Hp->Prop}(w:wpE C x σ (isB λc=>∀H',jf H H'->Q c H'))(h:Sh K H σ τ):tDT K C x τ H Q:=⟨σ,[],QC h,w⟩
theorem vj{K:bp}{S:Hp}:∀ {σ:Sto} {τ:L2.St},Sh K S σ τ->∀i z,getS σ i=some z->∃d,z=.sh d
 |[],[],_,i,z,g=>by simp[getS]at g
 |[],_::_,h,_,_,_=>h.elim
 |none::σ,[],h,_,_,_=>h.elim
 |some (.sh _)::σ,[],h,_,_,_=>h.elim
 |some (.ow _)::σ,τ,h,_,_,_=>by cases τ with|nil=>exact h.elim|cons y τ=>cases y<;>exact h.elim
 |some (.ot _)::σ,τ,h,_,_,_=>by cases τ with|nil=>exact h.elim|cons y τ=>cases y<;>exact h.elim
 |none::σ,y::τ,h,i,z,g=>by
  cases i with
  |zero=>simp[getS]at g
  |succ i=>exact vj (τ:=τ) (by cases y<;>exact h) i z (by simpa[getS]using g)
 |some (.sh d)::σ,none::τ,h,_,_,_=>h.elim
 |some (.sh d)::σ,some v::τ,h,i,z,g=>by
  cases i with
  |zero=>simp[getS]at g;exact⟨d,g.symm⟩
  |succ i=>exact vj (τ:=τ) h.2 i z (by simpa[getS]using g)
theorem goS{C:Cfg}{s:Sm}{D:Ends}{ex:XD->Prop}(w:wpS C s (zj K [] H ex D [] H) σ)(h:Sh K H σ τ):tS K C [] H ex s D τ H:=by
 refine⟨σ,[],⟨λ_ _ z=>z,(λ_ z=>nomatch z),(λ_ z=>nomatch z)⟩,⟨QC h,λi ds a g=>?_,λi rows a as g=>?_⟩,w⟩
 ·obtain⟨_,e⟩:=vj h _ _ g;cases e
 ·obtain⟨_,e⟩:=vj h _ _ g;cases e
theorem VC{H':Hp}{a:Addr}(s:jf H H')(h:H a=none):jf H (je H' [a]):=λb o e=>by
 have ne:b≠a:=λz=>by rw[z,h]at e;cases e
 rw[j8 (by simpa using ne)];exact s b o e
theorem mn{d:D}{v:V}(i:Is K (je H []) d v):Is K H d v:=by rw[za]at i;exact i
end Z.J11
namespace Z.M49
open PySem PySem.Spec PySem.Calls PyProof.Rows PySem.W L2 Z Z.K42 Z.K40 Z.J51 Z.J45 Z.L45 Z.L46 Z.J46 Z.K51 Z.J49 Z.J11
def top(i:Nat):Stmt:=PySem.Challenge.pw_trueline_k49_whole_fits_leave_nothing_to.main.body.getD i (.Pass ⟨0,0,0,0⟩)
def fi_law_cell:FnI:=⟨"_law_cell",top 43,["_law_script","_law_k"],["_law_script","_law_k"],zI,yu,false,false,[],true,false⟩
def fi_law_drawn:FnI:=⟨"_law_drawn",top 44,["_law_cell_here","_law_k","_law_more"],["_law_cell_here","_law_k"],yQ,kL,false,false,[],true,false⟩
def fi_law_width:FnI:=⟨"_law_width",top 53,["_law_script","_law_k"],["_law_script","_law_k"],yE 1 0,zK,false,false,[],true,false⟩
def fi_law_bare:FnI:=⟨"_law_bare",top 45,["_law_whole_here","_law_power","_law_low"],["_law_whole_here","_law_power"],zr,xC,false,false,[],true,false⟩
def fi_law_number:FnI:=⟨"_law_number",top 46,["_law_cell_here","_law_k","_law_width_here","_law_far","_law_more","_law_kind","_law_power","_law_whole_here"],["_law_cell_here","_law_k","_law_width_here","_law_far"],yn 1 3,xB,false,false,[],true,false⟩
def fi_law_measure:FnI:=⟨"_law_measure",top 47,["_law_cell_here","_law_k","_law_width_here","_law_whole_here","_law_place"],["_law_cell_here","_law_k","_law_width_here"],xP 4 1 3,xg,false,false,[],true,false⟩
def fi_law_row:FnI:=⟨"_law_row",top 48,["_law_script","_law_start","_law_many","_law_width_here","_law_row_here","_law_k","_law_cell_here","_law_more","_law_number_here","_law_old","_law_place"],["_law_script","_law_start","_law_many","_law_width_here"],uO 0 1 5 3,QR,false,false,[],true,false⟩
def fi_law_table:FnI:=⟨"_law_table",top 49,["_law_script","_law_start","_law_down","_law_across","_law_width_here","_law_row_here"],["_law_script","_law_start","_law_down","_law_across","_law_width_here"],K51.b_law_table 6,K51.c_tab,false,false,[],true,true⟩
def fi_law_case:FnI:=⟨"_law_case",top 55,["_law_script","_law_width_here","_law_most","_law_across","_law_down","_law_table_here","_law_more","_law_little","_law_places","_law_k","_law_left","_law_target","_law_way","_law_row_here"],["_law_script","_law_width_here","_law_most"],K51.caseP 6 1 0 7 3,(K51.c_case 60),false,false,[],true,false⟩
def fi_column:FnI:=⟨"column",top 20,["table","place"],["table","place"],J49.b_column,J49.c_column,false,false,[],true,false⟩
def fi_turned:FnI:=⟨"turned",top 21,["table"],["table"],J49.b_turned 9,J49.c_turned,false,false,[],true,false⟩
def fi_one_by_one:FnI:=⟨"one_by_one",top 22,["rows","told","row"],["rows"],K42.b_one_by_one,K42.c_one_by_one,false,false,[],true,false⟩
def fi_two_to:FnI:=⟨"two_to",top 18,["count","told","factor","left"],["count"],vX,xR,false,false,[],true,false⟩
def fi_least_power:FnI:=⟨"least_power",top 23,["numbers"],["numbers"],K42.b_least_power,K42.c_least_power,false,false,[],true,false⟩
def fi_in_steps:FnI:=⟨"in_steps",top 24,["numbers","power"],["numbers","power"],K42.b_in_steps 12,K42.c_in_steps,false,false,[],true,false⟩
def fi_rows_in_steps:FnI:=⟨"rows_in_steps",top 25,["rows","power"],["rows","power"],J51.b_rows_in_steps 14,J51.c_rows_in_steps,false,false,[],true,false⟩
def fi_rows_of_fit:FnI:=⟨"rows_of_fit",top 38,["table","places","target","rows"],["table","places","target"],J51.b_rows_of_fit 15 13 11 0,J51.c_rows_of_fit,false,false,[],true,false⟩
def fi_whole_dot:FnI:=⟨"whole_dot",top 39,["row","other"],["row","other"],J51.b_whole_dot,J51.c_whole_dot,false,false,[],true,false⟩
def fi_whole_dots:FnI:=⟨"whole_dots",top 40,["row","others"],["row","others"],J49.b_whole_dots 17,J49.c_whole_dots,false,false,[],true,false⟩
def fi_without:FnI:=⟨"without",top 27,["rows","place"],["rows","place"],J45.b_without,J45.c_without,false,false,[],true,false⟩
def fi_whole_determinant1:FnI:=⟨"whole_determinant",top 28,["rows","total","sign","pair"],["rows"],J45.b_whole_determinant1,J45.c_det1,false,false,[],true,false⟩
def fi_whole_determinant2:FnI:=⟨"whole_determinant",top 28,["rows","total","sign","pair"],["rows"],J45.b_whole_determinant2 20 19,J45.c_det2,false,false,[],true,false⟩
def fi_whole_determinant3:FnI:=⟨"whole_determinant",top 28,["rows","total","sign","pair"],["rows"],J45.b_whole_determinant3 21 19,J45.c_det3,false,false,[],true,false⟩
def fi_whole_determinant4:FnI:=⟨"whole_determinant",top 28,["rows","total","sign","pair"],["rows"],J45.b_whole_determinant4 22 19,J45.c_det4,false,false,[],true,false⟩
def fi_common_divisor:FnI:=⟨"common_divisor",top 15,["one","other","greater","lesser","left"],["one","other"],qG,jN,false,false,[],true,false⟩
def fi_ratio:FnI:=⟨"ratio",top 16,["top","under","divisor"],["top","under"],Qu 24,xG,false,false,[],true,false⟩
def fi_first_not_nought:FnI:=⟨"first_not_nought",top 29,["row","place"],["row"],J46.b_first_not_nought,J46.c_fnn,false,false,[],true,false⟩
def fi_cleared:FnI:=⟨"cleared",top 30,["row","base","place"],["row","base"],J46.b_cleared 26,J46.c_cleared,false,false,[],true,false⟩
def fi_in_lowest_terms:FnI:=⟨"in_lowest_terms",top 31,["weights","divisor","weight"],["weights"],J46.b_in_lowest_terms 24 26,J46.c_lowest,false,false,[],true,false⟩
def fi_weighted:FnI:=⟨"weighted",top 32,["rows","place"],["rows","place"],J46.b_weighted,J46.c_weighted,false,false,[],true,false⟩
def fi_weights_to_nought:FnI:=⟨"weights_to_nought",top 33,["rows","bases","place","row","base"],["rows"],J46.b_weights_to_nought 29 27 26 28,J46.c_weights,false,false,[],true,false⟩
def fi_put_in:FnI:=⟨"put_in",top 34,["rows","place","right"],["rows","place","right"],J46.b_put_in,J46.c_put_in,false,false,[],true,false⟩
def fi_solved_in_wholesX:FnI:=⟨"solved_in_wholes",top 35,["rows","right","whole"],["rows","right"],J46.b_siwY 23 30 25 31,J46.c_siw,true,true,["Dependent"],true,false⟩
def fi_fittedX:FnI:=⟨"fitted",top 41,["table","places","target","columns","lists"],["table","places","target"],J49.b_fittedY 10 16 18 32,J49.c_fitted,true,true,["Dependent"],true,false⟩
def fi_law_whole:FnI:=⟨"_law_whole",top 50,["_law_thing"],["_law_thing"],yM,qW,false,false,[],true,false⟩
def fi_law_common:FnI:=⟨"_law_common",top 51,["_law_one","_law_other","_law_left"],["_law_one","_law_other"],yx,kH,false,false,[],true,false⟩
def fi_law_wholes:FnI:=⟨"_law_wholes",top 54,["_law_rows","_law_low"],["_law_rows"],K51.b_law_wholes,K51.c_wholes,false,false,[],true,false⟩
def fi_law_lefts:FnI:=⟨"_law_lefts",top 56,["_law_table_here","_law_places","_law_target","_law_answer","_law_wholes_here","_law_low","_law_under","_law_one","_law_tops","_law_down","_law_made","_law_row_here","_law_told_here"],["_law_table_here","_law_places","_law_target","_law_answer"],K51.b_law_lefts 36 35,K51.c_lefts,false,false,[],true,false⟩
def fi_law_are_ratios:FnI:=⟨"_law_are_ratios",top 57,["_law_thing","_law_many","_law_one"],["_law_thing","_law_many"],K51.b_law_are_ratios 34 35,K51.c_are_ratios,false,false,[],true,false⟩
def fi_law_weighed:FnI:=⟨"_law_weighed",top 59,["_law_table_here","_law_places","_law_weights","_law_divisor","_law_one","_law_wholes_here","_law_low","_law_row_here","_law_told_here"],["_law_table_here","_law_places","_law_weights"],K49.b_law_weighed 34 35 36,K49.c_weighed,false,false,[],true,false⟩
def fi_told:FnI:=⟨"_law_told",top 58,["_law_table_here","_law_places","_law_target","_law_e"],["_law_table_here","_law_places","_law_target"],.nop,ux,false,false,[],false,false⟩
def fi_law:FnI:=⟨"law",top 60,["_law_script","_law_width_here","_law_table_here","_law_places","_law_target","_law_kept","_law_word","_law_answer","_law_due","_law_left","_law_wholes_here","_law_under","_law_k"],["_law_script"],.nop,ux,false,false,[],false,false⟩
def fi_law_alone:FnI:=⟨"_law_alone",top 52,["_law_e","_law_flags"],["_law_e"],.nop,ux,false,false,[],true,false⟩
def fi_ini_Dependent:FnI:=⟨"__init__",clsDef (top 6),["self","text","weights"],["self","text","weights"],.nop,ux,false,false,[],true,false⟩
def fns:List FnI:=[fi_law_cell,fi_law_drawn,fi_law_width,fi_law_bare,fi_law_number,fi_law_measure,fi_law_row,fi_law_table,fi_law_case,fi_column,fi_turned,fi_one_by_one,fi_two_to,fi_least_power,fi_in_steps,fi_rows_in_steps,fi_rows_of_fit,fi_whole_dot,fi_whole_dots,fi_without,fi_whole_determinant1,fi_whole_determinant2,fi_whole_determinant3,fi_whole_determinant4,fi_common_divisor,fi_ratio,fi_first_not_nought,fi_cleared,fi_in_lowest_terms,fi_weighted,fi_weights_to_nought,fi_put_in,fi_solved_in_wholesX,fi_fittedX,fi_law_whole,fi_law_common,fi_law_wholes,fi_law_lefts,fi_law_are_ratios,fi_law_weighed]
def C:Cfg where
 ct n:=((fns.map (·.c))[n]?).getD ⟨λ_=>False,λ_ _=>False,λ_ _=>False⟩
 cn n:=match n with|0=>.tup [.int 1,.int 0]|_=>.non
 fr n:=((fns.map (·.fr))[n]?).getD false
 f2 n:=((fns.map (·.g))[n]?).getD false
theorem chk:QA fns ["ONE"]=true:=by decide +kernel
theorem sc_told:xI fi_told=true:=by decide +kernel
theorem sc_law:xI fi_law=true:=by decide +kernel
theorem ct:∀n i,fns[n]?=some i->C.ct n=i.c/\C.fr n=i.fr/\C.f2 n=i.g:=by
 intro n i e;refine⟨?_,?_,?_⟩
 ·show ((fns.map (·.c))[n]?).getD _=i.c;rw[bW,e];rfl
 ·show ((fns.map (·.fr))[n]?).getD _=i.fr;rw[bW,e];rfl
 ·show ((fns.map (·.g))[n]?).getD _=i.g;rw[bW,e];rfl
theorem keeps:∀i∈fns,i.Keep C:=by
 intro i hi;simp only[fns,bD,bM,or_false]at hi;rcases hi with rfl|rfl|rfl|rfl|rfl|rfl|rfl|rfl|rfl|rfl|rfl|rfl|rfl|rfl|rfl|rfl|rfl|rfl|rfl|rfl|rfl|rfl|rfl|rfl|rfl|rfl|rfl|rfl|rfl|rfl|rfl|rfl|rfl|rfl|rfl|rfl|rfl|rfl|rfl|rfl
 ·exact k_cell
 ·exact k_drawn
 ·exact k_width rfl rfl
 ·exact k_bare
 ·exact jbu rfl rfl
 ·exact U1 rfl rfl rfl
 ·exact k_row rfl rfl rfl rfl
 ·exact K51.k_tab rfl
 ·exact K51.k_case rfl rfl rfl rfl ⟨rfl,rfl⟩ (by decide) (by decide) (by decide) (by decide)
 ·exact J49.k_column
 ·exact J49.k_turned rfl
 ·exact K42.k_one_by_one
 ·exact jbT
 ·exact K42.k_least_power
 ·exact K42.k_in_steps rfl
 ·exact J51.k_rows_in_steps rfl
 ·exact J51.k_rows_of_fit rfl rfl rfl rfl
 ·exact J51.k_whole_dot
 ·exact J49.k_whole_dots rfl
 ·exact J45.k_without
 ·exact J45.k_det1
 ·exact J45.k_det2 rfl rfl
 ·exact J45.k_det3 rfl rfl
 ·exact J45.k_det4 rfl rfl
 ·exact uz
 ·exact k_ratio rfl
 ·exact J46.k_fnn
 ·exact J46.k_cleared rfl
 ·exact J46.k_lowest rfl rfl
 ·exact J46.k_weighted
 ·exact J46.k_weights rfl rfl rfl rfl
 ·exact J46.k_put_in
 ·exact J46.k_siw rfl rfl rfl rfl (λ_ z=>z)
 ·exact J49.k_fitted rfl rfl rfl rfl rfl
 ·exact k_whole
 ·exact jbG
 ·exact K51.k_wholes
 ·exact K51.k_lefts rfl rfl
 ·exact K51.k_are_ratios rfl rfl
 ·exact K49.k_weighed rfl rfl rfl
def y0:Ex:=(.call 2 [(.var 0),(.cst (.int 0))])
def y1:Ex:=(.call 8 [(.var 0),(.var 1),(.cst (.int 60))])
def y2:Ex:=(.lst [(.compE (.var 2) (.bi .list [(.var 13)])),(.bi .list [(.var 3)])])
def y4:Ex:=(.or (.cmp .ne (.lst [(.var 2),(.var 3)]) (.var 5)) (.cmp .eq (.var 6) (.cst (.str "other"))))
def y5c:Ex:=(.cmp .eq (.var 6) (.cst (.str "none")))
def y5:Ex:=(.call 39 [(.var 2),(.var 3),(.var 7)])
def y6:Ex:=(.not (.call 38 [(.var 7),(.bin .add (.bi .len [(.var 3)]) (.cst (.int 1)))]))
def y9:Ex:=(.cmp .ne (.call 33 [(.var 2),(.var 3),(.var 4)]) (.var 8))
def y10:Sm :=
 (.seq (.set 7 (.var 8))
 (.seq (.unp [9,10,11] (.call 37 [(.var 2),(.var 3),(.var 4),(.var 7)]))
 (.seq (.ite (.cmp .ne (.bi .sum [(.var 9)]) (.cst (.int 0))) (.seq (.ret (.cst (.bl false)))
  .nop) .nop)
 (.seq (.forR 12 [(.bi .len [(.var 3)])] (.seq (.ite (.cmp .ne (.bi .sum [(.compR [(.bi .len [(.var 9)])] (.bin .mul (.ix (.var 9) (.var 13)) (.ix (.ix (.var 10) (.var 13)) (.var 12))))]) (.cst (.int 0))) (.seq (.ret (.cst (.bl false)))
  .nop) .nop)
  .nop))
 (.seq (.ite (.cmp .inn (.var 4) (.var 3)) (.seq (.set 8 (.compR [(.bin .add (.bi .len [(.var 3)]) (.cst (.int 1)))] (.tup [(.bi .int [(.cmp .eq (.var 13) (.bin .add (.lix (.var 3) (.var 4)) (.cst (.int 1))))]),(.cst (.int 1))])))
  (.seq (.ret (.cmp .eq (.var 7) (.var 8)))
  .nop)) .nop)
 (.seq (.ret (.cst (.bl true)))
 .nop))))))
end Z.M49
set_option exponentiation.threshold 3000
namespace Z.M49
open PySem PySem.Spec PySem.Calls PyProof.Rows PySem.W L2 Z Z.K42 Z.K40 Z.J51 Z.J45 Z.L45 Z.L46 Z.J46 Z.K51 Z.J49 Z.J11
variable{lv:Nat}{H:Hp}{vs:List V}{Q:VK}{E:XK}
section
variable {T:List (List (Int×Int))} {ps:List Nat} {t:Nat}
abbrev xY(low:Int)(T:List (List (Int×Int)))(ps:List Nat)(t:Nat):List Rat:=uh (ps.length+1) (nA low T ps) (nB low T ps t)
def TelA(K:bp)(H:Hp)(Q:VK)(T:List (List (Int×Int)))(ps:List Nat)(t:Nat):Prop:=∀low a ws s H',LowOk T ps t low->jF ps.length (nA low T ps)≠0->jf H H'->H a=none->H' a=some (.lst ws)->Iss K (je H' [a]) ((xY low T ps t).map rq) ws->H s=none->s≠a->H' s=some (.tup [.str "told",.ref a])->Q (.ref s) H'
def TelW(K:bp)(H:Hp)(Q:VK)(T:List (List (Int×Int)))(ps:List Nat)(t:Nat):Prop:=∀low u v s H',LowOk T ps t low->Wts (ps.length+1) (nA low T ps) u->jf H H'->H s=none->Is K H' (iD u) v->H' s=some (.tup [.str "none",v])->Q (.ref s) H'
def spTd(K:bp):Sp:=λvs H Q _=>∃T ps,∃t:Nat,∃v1 v2,vs=[v1,v2,.int t]/\Is K H (tabD T) v1/\Is K H (plD ps) v2/\FitOk T ps t/\TelA K H Q T ps t/\TelW K H Q T ps t
theorem Vg{X:Cx}{Ca:Addr}(hh:Hand X fi_told fns ["ONE"] C lv)(al:Alone X)(hm:X.mg "Dependent"=some (.ref Ca))(co:ClsOk X.K X.mg "Dependent" Ca true)(sp:spTd X.K vs H Q E) :
 ∃t,PSs X (jU fi_told.st) t/\t { nx:=λ_ H'=>Q .non H',rt:=Q } (L2.start fi_told.N vs) H:=by
 obtain⟨b1,b2,b3,b4⟩:=hh.ok.toOk.vis (i:=3) (x:="_law_e") (by decide +kernel)
 have G:∀c,(fi_told.ck fns ["ONE"]).gl c=true->Gl X c:=λc h=>(hh.ok.toOk.gl h).1
 have le:X.env.scope.names.lookup ("_law_e":Str)=some .local:=by rw[hh.sc];decide +kernel
 refine⟨_,jB (ps_told (O₀:=[]) (H₀:=H) (w0:="none") (i:=3) (f:=33) (es:=[.var 0,.var 1,.var 2]) hh.ok hh.own (λ_ z=>nomatch z) al hm co (G _ (by decide +kernel)) (G _ (by decide +kernel)) (G _ (by decide +kernel)) le b1 rfl rfl rfl (by decide +kernel) rfl (by decide +kernel)) kl,?_⟩;obtain⟨T,ps,t,v1,v2,rfl,i1,i2,g,ta,tw⟩:=sp
 have is:Iss X.K (je H []) [tabD T,plD ps,.int t] [v1,v2,.int t]:=by
  rw[za];unfold Iss;exact⟨_,_,rfl,i1,by unfold Iss;exact⟨_,_,rfl,i2,by unfold Iss;exact⟨_,_,rfl,jG _,by unfold Iss;rfl⟩⟩⟩
 refine⟨startS 4 [tabD T,plD ps,.int t],[],λ_ _ z=>z,(λ_ z=>nomatch z),vW (N:=fi_told.N) rfl (λ_ z=>nomatch z) is,?_⟩;dsimp! only[];refine⟨rfl,⟨T,ps,t,rfl,g⟩,λd r xs a H1 us e s1 h0 h1 is1 s hs=>?_,λy hy=>?_⟩
 ·obtain⟨low,L,hz,rfl⟩:=r T ps t rfl;cases e
  have ne:s≠a:=λz=>by rw[z,h1]at hs;cases hs
  have st:=jE hs (.tup [.str "told",.ref a]);exact ta low a us s _ L hz (s1.trans st) h0 (st _ _ h1) (Iss.mono (jd st) _ is1) (s1.free hs) ne (jm ..)
 ·obtain⟨T',ps',t',low,u,e,L,hz,yt,yf,hw⟩:=hy;obtain⟨rfl,rfl,rfl⟩:=VD (T:=T) (ps:=ps) (t:=t) e;exact⟨yt,_,yf,λv s H' s1 h0 i1 hs=>tw low u v s H' L hw s1 h0 (by rw[za]at i1;exact i1) hs⟩
end
abbrev nsD(ns:List Int):D:=.lst (ns.map .int)
variable{u:Int}{F:List (Int×Int)->Int}{k:Nat}
section
variable {ns:List Int} {Q:D->Prop} {w:Nat} {T:List (List (Int×Int))} {ps:List Nat} {t:Nat} {low:Int}
theorem e0(hn:ns.length<=63)(h:∀w:Nat,8<=w->w<=64->Q (.int w)):wpE C y0 [some (.sh (nsD ns)),none,none,none,none,none,none,none,none,none,none,none,none] Q:=by
 unfold y0;dsimp! only[];exact(jah hn (by decide)).mpr h
theorem e1(hn:ns.length<=63)(w1:8<=w)(w2:w<=64)(h:∀T ps t,FitOk T ps t->Q (.tup [tabD T,plD ps,.int (t:Nat)])):wpE C y1 [some (.sh (nsD ns)),some (.sh (.int w)),none,none,none,none,none,none,none,none,none,none,none] Q:=by
 unfold y1;dsimp! only[];exact(wp_case hn w1 w2).mpr h
theorem e2(g:FitOk T ps t)(h:Q (.lst [tabD T,plD ps])):wpE C y2 [none,none,some (.sh (tabD T)),some (.sh (plD ps)),none,none,none,none,none,none,none,none,none] Q:=by
 have l1:T.length<=lim:=by have:=g.few;unfold lim;lia
 have l2:ps.length<=lim:=by have:=g.pl;unfold lim;lia
 unfold y2 tabD plD;dsimp! only[bj,l1,l2]
 rw[jq (g:=λr:List (Int×Int)=>D.lst (r.map nq)) (h:=λr=>D.lst (r.map nq)) (λr hr Q=>by
  have l3:r.length<=lim:=by have:=(g.row r hr).1.len;unfold lim;lia
  dsimp! only[bj,l3])]
 exact h
theorem e4{w:Str}(hw:(w == tV "other")=false)(h:Q (.bl false)):wpE C y4 [none,none,some (.sh (tabD T)),some (.sh (plD ps)),none,some (.sh (.lst [tabD T,plD ps])),some (.sh (.str w)),none,none,none,none,none,none] Q:=by
 have d1:=dep_tab T;have d2:=zQ (f:=λp:Nat=>D.int p) (k:=0) (λ_=>by rw[vk];exact bV _) ps;unfold y4 plD;dsimp! only[Ji,hw];exact⟨by lia,h⟩
theorem e5c{w:Str}{c:Bool}(hw:(w == tV "none")=c)(h:Q (.bl c)):wpE C y5c [none,none,none,none,none,none,some (.sh (.str w)),none,none,none,none,none,none] Q:=by
 unfold y5c;dsimp! only[hw];exact h
theorem e5{u:List Int}(g:FitOk T ps t)(L:LowOk T ps t low)(hu:Wts (ps.length+1) (nA low T ps) u)(h:Q (.bl true)):wpE C y5 [none,none,some (.sh (tabD T)),some (.sh (plD ps)),none,none,none,some (.sh (iD u)),none,none,none,none,none] Q:=by
 unfold y5;dsimp! only[];refine⟨⟨T,ps,t,u,low,rfl,g,L,hu⟩,λd e=>?_,λ_ z=>z.elim⟩;cases e;exact h
theorem zh{n:Nat}{A:List (List Int)}{b:List Int}:(uh n A b).length=n:=by unfold uh;simp
theorem e6{qs:List Rat}(hl:qs.length=ps.length+1)(hs:∀q∈qs,szr 1900 q)(h:Q (.bl false)):wpE C y6 [none,none,none,some (.sh (plD ps)),none,none,none,some (.sh (.lst (qs.map rq))),none,none,none,none,none] Q:=by
 unfold y6 plD;dsimp! only[bj];refine(wp_are (by rw[hl];push_cast;rfl) λq hq=>(hs q hq).mono (by decide)).mpr ?_;dsimp! only[];exact h
theorem e9(g:FitOk T ps t)(L:LowOk T ps t low)(hz:jF ps.length (nA low T ps)≠0)(h:Q (.bl false)):wpE C y9 [none,none,some (.sh (tabD T)),some (.sh (plD ps)),some (.sh (.int t)),none,none,none,some (.sh (.lst ((xY low T ps t).map rq))),none,none,none,none] Q:=by
 unfold y9;dsimp! only[];refine⟨⟨T,ps,t,rfl,g⟩,λd e=>?_,λy hy=>?_⟩
 ·obtain⟨low',L',_,rfl⟩:=e T ps t rfl;obtain rfl:=L'.uni L;have:=zQ (f:=rq) (k:=1) (λ_=>by rw[ja7];exact bV _) (xY low' T ps t);dsimp! only[Ji];exact⟨by lia,h⟩
 ·obtain⟨T',ps',t',low',u,e,L',z,_⟩:=hy;obtain⟨rfl,rfl,rfl⟩:=VD (T:=T) (ps:=ps) (t:=t) e;obtain rfl:=L'.uni L;exact absurd z hz
theorem Kx(g:FitOk T ps t)(L:LowOk T ps t low)(hz:jF ps.length (nA low T ps)≠0):PartsOk ps (xY low T ps t):=by
 have ga:=XI g L g.pl;have db:=jby ga;refine⟨zh,λx hx=>?_,((jF ps.length (nA low T ps)).natAbs:Int),by lia,?_,λx hx=>?_⟩
 ·unfold xY uh at hx;obtain⟨j,hj,rfl⟩:=bI.mp hx;have h1:=jby (jap ga JM (nB_b g L) (dw.mp hj));have sz:=U7 (jF (ps.length+1-1) (q5 (nA low T ps) j (nB low T ps t))) hz;exact⟨by lia,by lia⟩
 ·rw[vO];exact dg db (by decide)
 ·unfold xY uh at hx;obtain⟨j,hj,rfl⟩:=bI.mp hx;have hz':jF (ps.length+1-1) (nA low T ps)≠0:=hz;rw[jcC,if_neg hz'];have d:=Int.gcd_dvd_natAbs_left (jF (ps.length+1-1) (nA low T ps)) (jF (ps.length+1-1) (q5 (nA low T ps) j (nB low T ps t)));exact jc6.mpr (Nat.div_dvd_of_dvd d)
theorem sum_F(g:FitOk T ps t)(L:LowOk T ps t low)(hz:jF ps.length (nA low T ps)≠0)(m:MissOk T ps t (xY low T ps t) F u):(T.map F).sum=0:=by
 have ga:=XI g L g.pl;have me:=K46.sol_meets (b:=nB low T ps t) ga JM hz;have n0:=jca L zh me (Nat.succ_pos _);refine tI.mp ?_;rw[qC]
 have e:(T.map λr=>((F r:Int):Rat))=T.map λr=>(u:Rat)*(vr ((kM ps r).getD 0 (0,0))*Jj ps t (xY low T ps t) r):=bP λr hr=>by
  rw[m.eq r hr,show (kM ps r).getD 0 (0,0)=(1,0) from rfl,J51.vr_one];grind
 rw[e,kD,n0];simp
theorem sum_Fk{l2:Int}(g:FitOk T ps t)(L:LowOk T ps t low)(hz:jF ps.length (nA low T ps)≠0)(m:MissOk T ps t (xY low T ps t) F u)(L2:LowW (T.map (kf ps t)) l2)(hk:k<ps.length):(T.map λr=>F r*((kf ps t r).map (atW l2)).getD k 0).sum=0:=by
 have ga:=XI g L g.pl;have me:=K46.sol_meets (b:=nB low T ps t) ga JM hz;have n0:=jca L zh me (show k+1<ps.length+1 by lia);refine tI.mp ?_;rw[qC]
 have e:(T.map λr=>((F r*((kf ps t r).map (atW l2)).getD k 0:Int):Rat))=T.map λr=>(u*tw (-l2):Rat)*(vr ((kM ps r).getD (k+1) (0,0))*Jj ps t (xY low T ps t) r):=bP λr hr=>by
  have ll:k<(kf ps t r).length:=by unfold kf;simp;lia
  have eh:(kM ps r).getD (k+1) (0,0)=(kf ps t r)[k]:=by
   show (ps.map λp=>r.getD p (0,0)).getD k (0,0)=_;rw[<- K40.getD_at (z:=(0,0)) ll,yl,bH,bH,dz (by simpa using hk)]
  rw[bY,m.eq r hr,K40.getD_at (by rw[bj];exact ll),dC,J51.atW_vr (L2.le _ (bI.mpr ⟨r,hr,rfl⟩) _ (dH ll)),eh]
  grind
 rw[e,kD,n0];simp
theorem range_F{G:List (Int×Int)->List Int}:((bw T.length).map λi=>(T.map F).getD i 0*((T.map G).getD i []).getD k 0)=T.map λr=>F r*(G r).getD k 0:=by
 refine wA (by simp) λi h1 h2=>?_
 have hi:i<T.length:=by simpa using h2
 rw[dC,dC,nu,K40.getD_at (r:=T.map F) (by simpa using hi),K40.getD_at (r:=T.map G) (by simpa using hi),dC,dC]
theorem sol_in(g:FitOk T ps t)(L:LowOk T ps t low)(hz:jF ps.length (nA low T ps)≠0)(hk:k<ps.length)(e:ps.getD k 0=t):xY low T ps t=(bw (ps.length+1)).map λj=>if j=k+1 then (1:Rat) else 0:=by
 have ga:=XI g L g.pl
 have h:=jbb (b:=nB low T ps t) ga (λi j hi hj=>nA_sym hi hj) hz (show k+1<ps.length+1 by lia) JM (λi hi=>by
  rw[nB_at hi,Xf hi (by lia)];refine congrArg jc9 (bP λr _=>?_)
  have:(kM ps r).getD (k+1) (0,0)=r.getD t (0,0):=by
   show (ps.map λp=>r.getD p (0,0)).getD k (0,0)=_;rw[K40.getD_at (by simpa using hk),dC,<- e,K40.getD_at hk]
  unfold xr
  rw[this])
 refine wA (by rw[zh];simp) λj h1 h2=>?_
 have hj:j<ps.length+1:=by rw[zh]at h1;exact h1
 have:=h j hj;rw[K40.getD_at h1]at this;rw[this,dC,nu]
theorem tail{Kk:DE}(g:FitOk T ps t)(L:LowOk T ps t low)(hz:jF ps.length (nA low T ps)≠0)(h:Kk.rt (.bl true)):wpS C y10 Kk [none,none,some (.sh (tabD T)),some (.sh (plD ps)),some (.sh (.int t)),none,none,none,some (.sh (.lst ((xY low T ps t).map rq))),none,none,none,none]:=by
 have few:=g.few;have pl:=g.pl;have p:=Kx g L hz;have h37:C.ct 37=c_lefts:=rfl
 have wL:=λQ E=>jaj (Q:=Q) (E:=E) g p
 unfold y10;simp_all! only[h37,wL];intro F u l2 m L2;rw[show (T.map λr=>D.int (F r))=(T.map F).map .int by rw[bL];rfl];rw[jI,kC];dsimp! only[sum_F g L hz m];simp_all! only[];unfold plD wD
 let P:List D->Sto->Prop:=λds σ=>(∀d∈ds,∃i:Int,d=.int i/\0<=i/\i<ps.length)/\∃c:Option Sl,σ=[none,none,some (.sh (tabD T)),some (.sh (.lst (ps.map λp:Nat=>.int p))),some (.sh (.int t)),none,none,some (.sh (.lst ((xY low T ps t).map rq))),some (.sh (.lst ((xY low T ps t).map rq))),some (.sh (.lst ((T.map F).map .int))),some (.sh (.lst (((T.map (kf ps t)).map λr=>r.map (atW l2)).map λr=>D.lst (r.map .int)))),some (.sh (.int u)),c]
 refine jV (P []) ?_ ?_
 ·rw[vq];dsimp! only[bj];refine⟨by unfold qO;lia,?_⟩
  refine kS P ⟨v7 (P:=λi=>0<=i/\i<ps.length) _ _ _ (λi hi=>by lia),_,rfl⟩ ?_ λσ h=>h
  rintro d ds σ ⟨hd,c,rfl⟩;obtain⟨z,rfl,z0,z1⟩:=hd d (bB ..)
  obtain⟨k,rfl⟩:∃k:Nat,z=k:=⟨z.toNat,by lia⟩
  have hk:k<ps.length:=by lia
  have key:=sum_Fk g L hz m L2 hk;rw[jI,kC];dsimp! only[bj];refine⟨by unfold qO;lia,by rw[YF];unfold lim;lia,?_⟩
  have eM:((T.map (kf ps t)).map λr=>r.map (atW l2))=T.map λr=>(kf ps t r).map (atW l2):=by rw[bL];rfl
  rw[bZ,kG (h:=λi=>D.int ((T.map F).getD i 0*((T.map λr=>(kf ps t r).map (atW l2)).getD i []).getD k 0)) (λi hi Q=>by
   have a1:=vV (r:=T.map F) (i:=i) (by simpa using hi);have a2:=at_w (M:=T.map λr=>(kf ps t r).map (atW l2)) (i:=i) (by simpa using hi)
   have eG:(T.map λr=>(kf ps t r).map (atW l2)).getD i []=(kf ps t (T.getD i [])).map (atW l2):=by rw[K40.getD_at (by simpa using hi),dC,K40.getD_at hi]
   have mi:T.getD i []∈T:=by rw[K40.getD_at hi];exact dH _
   have a3:=vV (r:=(T.map λr=>(kf ps t r).map (atW l2)).getD i []) (i:=k) (by rw[eG];unfold kf;simp;lia)
   have mo:qh ((T.map F).getD i 0) (((T.map λr=>(kf ps t r).map (atW l2)).getD i []).getD k 0):=jH (by
    have b1:bits ((T.map F).getD i 0)<=4300:=by rw[K40.getD_at (by simpa using hi),dC];exact m.bF _ (dH _)
    have b2:bits (((T.map λr=>(kf ps t r).map (atW l2)).getD i []).getD k 0)<=330:=by
     have ll:k<(kf ps t (T.getD i [])).length:=by unfold kf;simp;lia
     rw[eG,K40.getD_at (by rw[bj];exact ll),dC];exact x6 ((g.sm _ mi).all _ (vD (dH ll))) L2.lo
    lia)
   rw[eM]
   dsimp! only[a1,a2,a3,mo])]
  rw[show ((bw T.length).map λi=>D.int ((T.map F).getD i 0*((T.map λr=>(kf ps t r).map (atW l2)).getD i []).getD k 0))=((bw T.length).map λi=>(T.map F).getD i 0*((T.map λr=>(kf ps t r).map (atW l2)).getD i []).getD k 0).map .int by rw[bL];rfl,range_F];dsimp! only[key];exact⟨λd h=>hd d (bo _ h),_,rfl⟩
 rintro σ ⟨_,c,rfl⟩
 have eP:(ps.map λp:Nat=>D.int p)=(ps.map λp:Nat=>(p:Int)).map .int:=by rw[bL];rfl
 have lP:(ps.map λp:Nat=>D.int p).length<=lim:=by rw[bj];unfold lim;lia
 have hc:(ps.map λp:Nat=>(p:Int)).contains (t:Int)=decide (t∈ps):=by
  rw[wU,nJ];simp only[decide_eq_true_eq,bI];constructor
  ·rintro⟨a,ha,e⟩
   have:a=t:=by lia
   subst this;exact ha
  ·intro z;exact⟨t,z,rfl⟩
 rw[jI,kC];dsimp! only[];refine⟨_,eP,lP,?_⟩;rw[hc];by_cases ht:t∈ps
 ·rw[decide_eq_true ht];show wpS C _ _ _
  have ex:∃x∈ps,(x == t)=true:=⟨t,ht,by simp⟩
  obtain⟨k,hk,ek,mk⟩:∃k,k<ps.length/\ps[k]?=some t/\∀i,i<k->ps[i]? ≠ some t:=by
   have hk:=List.findIdx_lt_length_of_exists ex;refine⟨_,hk,?_,λi hi=>?_⟩
   ·have:=jdO (p:=λx=>x == t) (w:=hk);rw[bE hk];simpa using this
   ·have:=jdn hi;rw[bE (by lia)];simpa using this
  have si:=sol_in g L hz hk (by rw[bH,ek];rfl);simp_all! only[bj];refine⟨by unfold qO;lia,by rw[show ((ps.length:Int)+1).toNat=ps.length+1 by lia,YF];unfold lim;lia,?_⟩
  rw[show ((ps.length:Int)+1).toNat=ps.length+1 by lia,kG (h:=λj=>rq (if j=k+1 then (1:Rat) else 0)) (λj hj Q=>by
   dsimp! only[]
   have ev:D.tup [.int (if eqD (.int (j:Int)) (.int ((k:Int)+1))=true then 1 else 0),.int 1]=rq (if j=k+1 then (1:Rat) else 0):=by
    rw[vL];by_cases hj':j=k+1
    ·rw[if_pos hj',if_pos (by simp;lia)];rfl
    ·rw[if_neg hj',if_neg (by simp;lia)];rfl
   have ei:∀i,(ps.map λp:Nat=>(p:Int))[i]?=some (t:Int) ↔ ps[i]?=some t:=λi=>by
    rw[bW]
    cases ps[i]? with
    |none=>simp
    |some x=>simp only[tu,gy];lia
   show (∃(ns:List Int) (i:Nat),(ps.map λp:Nat=>D.int p)=ns.map .int/\(ns.length<=lim/\ns[i]?=some (t:Int)/\∀m,m<i->ns[m]? ≠ some (t:Int))/\yB .add (.int i) (.int 1) λy=>Q (.tup [.int (if eqD (.int (j:Int)) y=true then 1 else 0),.int 1])) ↔ _;constructor
   ·rintro⟨ns,i,e,⟨_,e1,e2⟩,q⟩;rw[eP]at e;have e:=kx (λa b z=>by injection z) e;subst e;have e1:=(ei i).mp e1
    have:i=k:=by
     rcases Nat.lt_trichotomy i k with z|z|z
     ·exact absurd e1 (mk i z)
     ·exact z
     ·exact absurd ((ei k).mpr ek) (e2 k z)
    subst this;rw[vF,ev]at q;exact q
   ·intro q;refine⟨_,k,eP,⟨by rw[bj];unfold lim;lia,(ei k).mpr ek,λi hi z=>mk i hi ((ei i).mp z)⟩,?_⟩;rw[vF,ev]
    exact q)]
  have de:=zQ (f:=rq) (k:=1) (λ_=>by rw[ja7];exact bV _) (xY low T ps t);rw[show ((bw (ps.length+1)).map λj=>rq (if j=k+1 then (1:Rat) else 0))=(xY low T ps t).map rq by rw[si,bL];rfl]
  have er:xO ((xY low T ps t).map rq) ((xY low T ps t).map rq)=true:=by rw[<- Jq];exact Ji _
  simp_all! only[er];exact⟨by lia,h⟩
 ·rw[decide_eq_false ht];show wpS C _ _ _;simp_all! only[];exact h
end
def sL(n:Nat):Stmt:=(jU fi_law.st).getD n (.Pass ⟨0,0,0,0⟩)
abbrev tdP:List Str:=["_law_table_here","_law_places","_law_target"]
structure LF (Y:Cx) (lv:Nat):Prop where
 ok:OkS Y (fi_law.ck fns ["ONE"]) C
 rm:Room lv Y.A
 td:∃f fd,FnOk Y.prog Y.w Y.K Y.mg Y.base (CXz Y.prog Y.w Y.mg) lv f fd tdP (spTd Y.K)/\Y.mg "_law_told"=some (.ref f)/\mP Y.K (.ref f)=true/\zm Y.K fd tdP []
variable{i:Nat}{x:Str}{p pos:Pos}{e:Expr}
section
variable {Y:Cx} {lv:Nat}
theorem LF.gl(F:LF Y lv){c:Str}(h:(fi_law.ck fns ["ONE"]).gl c=true):Gl Y c:=(F.ok.toOk.gl h).1
theorem LF.v(F:LF Y lv)(h:(fi_law.ck fns ["ONE"]).loc i x=true):PE Y (.Name x p) (XM i):=by
 obtain⟨a1,a2,a3,a4⟩:=F.ok.toOk.vis h;exact kh a1 (qI a2) a3 a4
theorem LF.pg(F:LF Y lv)(h:(fi_law.ck fns ["ONE"]).loc i x=true):PG Y (.Name x p) (qA i):=by
 obtain⟨a1,a2,a3,a4⟩:=F.ok.toOk.vis h;exact yq F.ok.nd a1 a2 (.inl (F.ok.fn _))
theorem LF.set(F:LF Y lv){te:TE}(h:(fi_law.ck fns ["ONE"]).loc i x=true)(he:PE Y e te)(hs:pY e (some (.Name x p)) pos.line Y.env=pure false):PS Y (.Assign [.Name x p] e pos) (Qe te (qA i)):=by
 obtain⟨a1,a2,a3,a4⟩:=F.ok.toOk.vis h;exact xK F.ok.nd a1 a2 he hs (.inl (F.ok.fn _))
abbrev tRF:TS:=tSeq (tRet (tC (.bl false))) va
theorem LF.ifF(F:LF Y lv){y:Ex}{jp rp:Pos}(h:chkE (fi_law.ck fns ["ONE"]) y e=true):PS Y (.If e [.Return (some (.Constant (.bool false) k jp)) rp] [] pos) (Vq (tDT Y.K C y) tRF va):=Q4 (sB F.ok.toOk y _ h).2 (jB (xM jbi) kl) kl
theorem p0(F:LF Y lv):PS Y (sL 0) (Qe (tD Y.K C y0) (qA 1)):=F.set (by decide +kernel) (sB F.ok.toOk y0 _ (by decide +kernel)).1 rfl
theorem p1(F:LF Y lv):PS Y (sL 1) (Qe (tD Y.K C y1) (gTup Y.K 3 (JL (qA 2) (JL (qA 3) (JL (qA 4) gNil))))) :=
 vZ (sB F.ok.toOk y1 _ (by decide +kernel)).1 (Y9 F.ok.calm (xS (F.pg (by decide +kernel)) (xS (F.pg (by decide +kernel)) (xS (F.pg (by decide +kernel)) QI))))
theorem p2(F:LF Y lv):PS Y (sL 2) (Qe (tD Y.K C y2) (qA 5)):=F.set (by decide +kernel) (sB F.ok.toOk y2 _ (by decide +kernel)).1 rfl
theorem p3(F:LF Y lv):PS Y (sL 3) (Qe (tCall (spTd Y.K) [] E0 (vb (XM 2) (vb (XM 3) (vb (XM 4) jb1)))) (gTup Y.K 2 (JL (qA 6) (JL (qA 7) gNil)))):=by
 obtain⟨f,fd,FO,hm,hk,hb⟩:=F.td;exact vZ (y8 FO F.rm (F.gl (by decide +kernel)) hm hk hb .nil Kt (jw (F.v (by decide +kernel)) (jw (F.v (by decide +kernel)) (jw (F.v (by decide +kernel)) jX)))) (Y9 F.ok.calm (xS (F.pg (by decide +kernel)) (xS (F.pg (by decide +kernel)) QI)))
theorem p4(F:LF Y lv):PS Y (sL 4) (Vq (tDT Y.K C y4) tRF va):=F.ifF (by decide +kernel)
theorem p5(F:LF Y lv):PS Y (sL 5) (Vq (tDT Y.K C y5c) (tSeq (tRet (tD Y.K C y5)) va) va):=Q4 (sB F.ok.toOk y5c _ (by decide +kernel)).2 (jB (xM (sB F.ok.toOk y5 _ (by decide +kernel)).1) kl) kl
theorem p6(F:LF Y lv):PS Y (sL 6) (Vq (tDT Y.K C y6) tRF va):=F.ifF (by decide +kernel)
theorem p7(F:LF Y lv):PS Y (sL 7) (Qe (tCB (λxs H Q=>∃p ys,xs=[.ref p]/\(SqL Y.K H p ys\/SqT Y.K H p ys)/\∀l,H l=none->Q (.ref l) (upd H l (.lst ys))) (vb (XM 7) jb1)) (qA 8)) :=
 F.set (by decide +kernel) (xh (T:="list") qk (F.gl (by decide +kernel)) (F.ok.blt _ (by decide)) mZ (jw (F.v (by decide +kernel)) jX)) rfl
theorem p8(F:LF Y lv):PS Y (sL 8) (tDrop (tBM Y.K "list" Uc (XM 7) (vb (tTup (vb (tC (.int 1)) (vb (tC (.int 1)) jb1))) jb1))) :=
 zJ (Ka mE sT PySem.F.type_list_append uW (F.v (by decide +kernel)) (jw (K7 (jw KW (jw KW jX))) jX))
theorem p9(F:LF Y lv):PS Y (sL 9) (Vq (tDT Y.K C y9) tRF va):=F.ifF (by decide +kernel)
theorem p10(F:LF Y lv):PSs Y ((jU fi_law.st).drop 10) (λD τ H=>tS Y.K C [] H (λ_=>False) y10 D τ H):=λpins s τ H D I w=>sK (O₀:=[]) (H₀:=H) F.ok y10 _ (by decide +kernel) pins s τ H D I w
end
theorem jam{Y:Cx}(F:LF Y lv)(sp:spD Y.K 1 false false ux vs H Q E) :
 ∃t,PSs Y (jU fi_law.st) t/\t { nx:=λ_ H'=>Q .non H',rt:=Q } (L2.start fi_law.N vs) H:=by
 refine⟨_,(jB (p0 F) (jB (p1 F) (jB (p2 F) (jB (p3 F) (jB (p4 F) (jB (p5 F) (jB (p6 F) (jB (p7 F) (jB (p8 F) (jB (p9 F) (p10 F)))))))))))  ,?_⟩;obtain⟨O,ds,hl,ho,is,⟨ns,rfl,hn⟩,hq,_⟩:=sp
 have fin:∀H',jf H H'->Q (.bl true) H':=λH' s=>hq _ rfl _ _ s (qz _)
 unfold Iss at is;obtain⟨v,r,rfl,i1,i2⟩:=is;unfold Iss at i2;subst i2;have i0:Is Y.K H (nsD ns) v:=Is.mono (jg _ _) _ i1;clear hq ho i1;refine go (e0 hn λw w1 w2 v1 H1 s1 i1=>?_) (gk i0 trivial);replace i1:=mn i1;replace i0:=Is.mono s1 _ i0;refine go (e1 hn w1 w2 λT ps t g v2 H2 s2 i2=>?_) (gk i0 (gk i1 trivial));obtain⟨b,us,rfl,sq,iu⟩:=kY (mn i2);unfold Iss at iu;obtain⟨vT,r1,rfl,iT,iu⟩:=iu;unfold Iss at iu;obtain⟨vP,r2,rfl,iP,iu⟩:=iu;unfold Iss at iu;obtain⟨vt,r3,rfl,it,iu⟩:=iu;unfold Iss at iu;subst iu;obtain rfl:=jz it;refine⟨b,_,rfl,sq,rfl,_,_,rfl,_,_,rfl,_,_,rfl,rfl,?_⟩;refine go (e2 g λv5 H5 s5 i5=>?_) (gk iT (gk iP trivial));replace i5:=mn i5;replace iT:=Is.mono s5 _ iT;replace iP:=Is.mono s5 _ iP;have sA:jf H H5:=s1.trans (s2.trans s5);clear i0 i1 s1 s2 s5 i2 it sq;refine⟨vT,rfl,vP,rfl,.int t,rfl,T,ps,t,vT,vP,rfl,iT,iP,g,?_,?_⟩
 ·intro low a us s H6 L hz s6 ha ga ia hs sa gs;refine⟨s,_,rfl,SqT.of gs,rfl,_,_,rfl,_,_,rfl,rfl,?_⟩;have pp:=Kx g L hz;have jT:=Is.mono (VC s6 ha) _ iT;have jP:=Is.mono (VC s6 ha) _ iP
  have rd:∀ {H':Hp},jf H6 H'->Is Y.K H' (.lst ((xY low T ps t).map rq)) (.ref a):=λ{H'} s=>qE (SqL.of (s _ _ ga)) (Iss.mono (jg _ [a]) _ (Iss.mono (jd s) _ ia))
  refine goT (e4 (by decide +kernel) λH7 s7=>?_) (gk (Is.mono s6 _ iT) (gk (Is.mono s6 _ iP) (gk (Is.mono s6 _ i5) (gk (zB (by decide +kernel)) trivial))));refine goT (e5c (c:=false) (by decide +kernel) λH8 s8=>?_) (gk (zB (by decide +kernel)) trivial);have s68:=s7.trans s8;refine goT (e6 pp.len pp.pb.sz λH9 s9=>?_) (gk (Is.mono (s6.trans s68) _ iP) (gk (rd s68) trivial));have sB:=s68.trans s9;have gB:=sB _ _ ga;refine⟨_,rfl,a,_,rfl,.inl (SqL.of gB),λl hl=>?_⟩
  have la:l≠a:=λz=>by rw[z,gB]at hl;cases hl
  have sC:=sB.trans (jE hl (.lst us));have gl:upd H9 l (.lst us) l=some (.lst us):=jm ..;generalize upd H9 l (.lst us)=H11 at sC gl ⊢;refine⟨_,rfl,.inl ⟨rfl,_,SqL.of (sC _ _ ga)⟩,by decide,λt2 ht2=>?_⟩;have sD:=jE ht2 (.tup [.int 1,.int 1]);have sE:=sC.trans sD;replace gl:=sD _ _ gl;generalize upd H11 t2 (.tup [.int 1,.int 1])=H12 at sE gl ⊢
  have lu:us.length=ps.length+1:=by rw[ia.length,bj,zh]
  refine⟨a,_,_,rfl,rfl,sE _ _ ga,by rw[lu];exact Nat.lt_of_le_of_lt (Nat.succ_le_succ g.pl) (by decide),?_⟩
  have hw:∀o,je (upd H12 a o) [a]=je H12 [a]:=λo=>jO (by simp)
  have sF:∀o,jf H (upd H12 a o):=λo b u z=>by
   have:b≠a:=λe=>by rw[e,sA.free ha]at z;cases z
   rw[jh this];exact(sA.trans (s6.trans sE)) _ _ z
  have pr:∀o d v,Is Y.K (je H6 [a]) d v->Is Y.K (upd H12 a o) d v:=λo d v i=>Is.mono (jg _ [a]) _ (by rw[hw];exact Is.mono (jd sE) _ i)
  have kT:=λo=>pr o _ _ jT
  have kP:=λo=>pr o _ _ jP
  have kd:∀o,Is Y.K (upd H12 a o) (.lst ((xY low T ps t).map rq)) (.ref l):=λo=>qE (SqL.of (by rw[jh la];exact gl)) (Iss.mono (jg _ [a]) _ (by rw[hw];exact Iss.mono (jd sE) _ ia))
  refine goT (e9 g L hz λH13 s13=>?_) (gk (kT _) (gk (kP _) (gk (jG _) (gk (kd _) trivial))));refine goS (tail g L hz λv H14 s14 i14=>?_) (gk (Is.mono s13 _ (kT _)) (gk (Is.mono s13 _ (kP _)) (gk (jG _) (gk (Is.mono s13 _ (kd _)) trivial))));cases qM i14;exact fin _ (((sF _).trans s13).trans s14)
 ·intro low u v6 s H6 L hu s6 hs iv gs;refine⟨s,_,rfl,SqT.of gs,rfl,_,_,rfl,_,_,rfl,rfl,?_⟩;refine goT (e4 (by decide +kernel) λH7 s7=>?_) (gk (Is.mono s6 _ iT) (gk (Is.mono s6 _ iP) (gk (Is.mono s6 _ i5) (gk (zB (by decide +kernel)) trivial))));refine goT (e5c (c:=true) (by decide +kernel) λH8 s8=>?_) (gk (zB (by decide +kernel)) trivial);have s68:=s7.trans s8;refine go (e5 g L hu λv H9 s9 i9=>?_) (gk (Is.mono (s6.trans s68) _ iT) (gk (Is.mono (s6.trans s68) _ iP) (gk (Is.mono s68 _ iv) trivial)));cases qM i9;exact fin _ (sA.trans (s6.trans (s68.trans s9)))
theorem law_key{P:dW}{w:World}{K:bp}{mg:Str->Option bq}(F1:∀i∈fns,zu K mg i)(Ft:zu K mg fi_told)(Fl:zu K mg fi_law)(hcn:∀n x,(["ONE"]:List Str)[n]?=some x->∃u v,mg x=some u/\jS v u/\∀S,Is K S (C.cn n) v)(hb:∀x∈blts,mg x=none)(E:ExcOk K mg ["Dependent"] true) :
 ∃f fd,FnAt K mg fi_law f fd/\∀base:gQ,FnOk P w K mg base (CXz P w mg) 44 f fd ["_law_script"] (spD K 1 false false ux):=by
 obtain⟨ft,fdt,At⟩:=Ft;obtain⟨fl,fdl,Al⟩:=Fl;refine⟨fl,fdl,Al,λbase=>?_⟩
 have hE:∀x,¬ C.E x:=λ_ z=>z
 have all:=Uv (P:=P) (w:=w) (base:=base) F1 chk keeps ct hcn hb hE (λi hi hz=>?_)
 ·have fk:∀k,42<=k->∀n j,fns[n]?=some j->∃f fd,FnOk P w K mg base (CXz P w mg) k f fd j.ps (spD K j.ps.length (C.fr n) (C.f2 n) (C.ct n))/\FnAt K mg j f fd:=λk hk n j e=>by
   obtain⟨f,fd,A⟩:=F1 j (gq e);have hn:n<40:=(gH.mp e).1;rw[(ct n j e).1,(ct n j e).2.1,(ct n j e).2.2];exact⟨f,fd,(all n j f fd e A).mono (by lia),A⟩
  have ot:FnOk P w K mg base (CXz P w mg) 43 ft fdt tdP (spTd K):=by
   refine Zv (i:=fi_told) (L:=fns) (cns:=["ONE"]) (C:=C) (by decide) At sc_told (fk 42 (by decide)) hcn hb hE (λvs H Q E h=>by obtain⟨T,ps,t,v1,v2,rfl,_⟩:=h;rfl) λX H vs Q E' hh eqs sp=>?_
   obtain⟨rfl,rfl,rfl,rfl,rfl,_⟩:=eqs;obtain⟨Ca,hm,co⟩:=E.exc "Dependent" (by decide);exact Vg hh ⟨E.fn rfl,⟨(hh.rm.mono (show 1<=42 by decide)).dp,(hh.rm.mono (show 1<=42 by decide)).un⟩,hb _ (by decide)⟩ hm co sp
  refine Zv (i:=fi_law) (L:=fns) (cns:=["ONE"]) (C:=C) (lv:=43) (by decide) Al sc_law (fk 43 (by decide)) hcn hb hE (λvs H Q E h=>by obtain⟨O,ds,hl,_,is,_⟩:=h;rw[is.length,hl];rfl) λX H vs Q E' hh eqs sp=>?_
  obtain⟨rfl,rfl,rfl,rfl,rfl,_⟩:=eqs
  have lf:LF X.nox 43:=⟨hh.ok,hh.rm,⟨ft,fdt,ot,At.mg,At.fn.kp,.all At.bd⟩⟩
  obtain⟨t,pt,ht⟩:=jam lf sp;exact⟨t,PSs.nox pt,ht⟩
 ·simp only[fns,bD,bM,or_false]at hi
  rcases hi with rfl|rfl|rfl|rfl|rfl|rfl|rfl|rfl|rfl|rfl|rfl|rfl|rfl|rfl|rfl|rfl|rfl|rfl|rfl|rfl|rfl|rfl|rfl|rfl|rfl|rfl|rfl|rfl|rfl|rfl|rfl|rfl|rfl|rfl|rfl|rfl|rfl|rfl|rfl|rfl<;>first|exact bK hz|exact E
end Z.M49
local macro_rules | `(command|universe $x)=>`(command|theorem $x:ident:True:=⟨⟩)
local macro_rules | `(command|universe $x $y $z*)=>`(theorem $x:ident:True:=⟨⟩ universe $y $z*)
namespace PySem.W.Fast
universe tw459866550949871025 tw7639775942325834495 tw3754977237125045423 tw8821215856358807787 tw9082226452565100512 tw834712735917041373 tw2818708609672952430 tw15237483972834535171 tw11404909860805265788 tw14456507366014724317 tw5793542455433831064 tw15623047666570479116 tw12855438085927894018 tw11479512762033269937 tw2536812587603738063 tw13553388996594968002 tw7750313542825511322 tw3487275585430075040 tw97385436558505091 tw14010455309019521270 tw824475942940578858 tw295678942471987687 tw16065294034007054931 tw13049689760423595900 tw14374046047859767811 tw8677564808777493600 tw6333458998437540243 tw2328965209448720777 tw11417063465479683156 tw8470056100987570271 tw7534428344401592415 tw13643566196851255326 tw2032442906032440395 tw10808035121888387744 tw13043675891880707134 tw9784230153979146050 tw12593747522441694084 tw7800527863648689530 tw11295564489367834004 tw10752903308763323250 tw6703509571188663686 tw15421841375994880922 tw18128969092905819649 tw796637942675346785 tw5930062063891072100 tw10717172740644581185 tw9702180048596337520 tw9680204267180067349 tw11827508797745239143 tw3045168732727895750 tw4836693324574560135 tw11388543603703446562 tw14022068808209705321 tw12117928597477766063 tw5586565508239803445 tw1281217872989384376 tw7089251749740185552 tw13992862581291549795 tw7696584919473901957 tw5312264178271842522 tw15360287154368043569 tw11321648337550106453 tw17856671443594317260 tw10454647002390279056 tw7505773766093430036 tw10572609571993743137 tw13019149425828696358 tw4558392321447734717 tw6480706555103786066 tw16561094004679043626 tw7299087434775479556 tw18171867074972650030 tw14424944076024738364 tw755030659366621807 tw10794818132756415077 tw12515514256091640316 tw1710435599139595007 tw10590295676758630478 tw1520993497950242420 tw14273651025851527042 tw9764042228709874331 tw12756772107490019556 tw264499839300400919 tw11492461606492978911 tw4122462649410314201 tw782464190026012931 tw10952163223558026230 tw11656758713926573824 tw10529609353455275856 tw12204784191400442651 tw6434245096008997065 tw2549857466639782224 tw1679501553424125743 tw14953846106222477780 tw16867968470583822246 tw7054185409617084391 tw15705063934963595811 tw2276120931130452397 tw3959002307077438467 tw181556357109778848 tw11905256394615840840 tw13669126967183445519 tw15600277278041512575 tw5590600432363637041 tw15061540382477978535 tw1416791474646965157 tw3876561159067049455 tw3982742498814322617 tw4364728733479373103 tw7631141017276089760 tw5267565588582113234 tw5395797263908343654 tw7773123358686422842 tw2317470200284566500 tw321431204297771295 tw6908032647736808731 tw13096330498064079187 tw2544646368075928868 tw14159230931571979375 tw16159782780166125883 tw8668725767960464791 tw8933774695325837160 tw13055500181075413785 tw9684038182416328665 tw4149939824729237776 tw8562504589798745387 tw12455339417245952637 tw4396665462300489768 tw8248992396366013245 tw11614729237853793125 tw15312619827024070838 tw11762640262762215585 tw9372888846347941198 tw8467644701311243427 tw13860411500222690359 tw10342312882740291018 tw6822181317416717983 tw1177332074244384803 tw14626455936893032465 tw928369037269589995 tw10204716293679956874 tw899344926204242633 tw7823491263954645811 tw6388132369667546532 tw16170952756252017529 tw1987091580317390926 tw3990250352943373112 tw12210004430216022894 tw1198094365663454791 tw3318181226468750280 tw8864955157947615087 tw2328511029111407156 tw17643171516604943745 tw13583057022601654834 tw7980710959344122450 tw9553187204786826281 tw14896002851079823661 tw6032099697004107226 tw14754029904912462479 tw9165243060843936468 tw11774412802926622068 tw9381804421024697555 tw8902241121946546495 tw6112174920809391771 tw4385825739816207345 tw17255380996342566317 tw17207615228862092360 tw15888301872374067496 tw8718657301202516567 tw6161476939671388327 tw17076362582619056786 tw11270338200894742285 tw3008414447296369220 tw15732287261010849579 tw507552714236728989 tw14631313960395469242 tw18046482545401424767 tw11949933358906680556 tw9052370230914311951 tw18044508551522776987 tw8041328802013803708 tw16644736215501609422 tw10725688131118168760 tw8276336167976316470 tw6272272651177786555 tw6279221361751369655 tw18158553981315925661 tw14859020174546031257 tw12995762445015504059 tw7692663199070536025 tw380029145327739538 tw1177375761154507284 tw14338574934393184930 tw6706670224404489143 tw1688941617712816406 tw8443851233955134394 tw8752282644855485599 tw1271465532165569582 tw10237995787516681499 tw18434718029348216472 tw12130804262807927694 tw16131202286897288042 tw13269946782387847515 tw6115432688134056640 tw14257349643369062538 tw1266344855746488633 tw5513456056821132045 tw1946156454063288207 tw5278238721177791692 tw9517679336682556024 tw11162625445704988349 tw122065848491667257 tw4161285996729701191 tw6113980663447324808 tw6422491217500673683 tw12711909747532673931 tw792110655008970857 tw12033978883901930739 tw5331427474071933339 tw15909587914518296796 tw5556166288328386292 tw13663150305261979636 tw5954121456343090618 tw11528726428955372622 tw7792110413581556789 tw10419048626938741268 tw17650289030160322065 tw4062445157556428436 tw13533394300865837098 tw9397031237184069114 tw8832627222839614286 tw12940837253977373834 tw10350741012021528167 tw1904649409366295401 tw9612643448481055499 tw14484125775397952345 tw3783018811043961992 tw4168590558567806392 tw16702728357285850477 tw12948058526833524740 tw4708522010297285460 tw8810048943675208780 tw15879529751506419246 tw15740157124566152459 tw106257644030985457 tw9944252352849206896 tw12191848593332377442 tw4264053826634718221 tw4921777719968459476 tw14374091328172083575 tw6890645129467456234 tw12208989102469559247 tw123035986795438246 tw9919101373135016042 tw12260414841282589744 tw16316720787262973190 tw4243198100646973889 tw14001884989475321324 tw12082407718710549773 tw16412292160035665747 tw9364875825418823346 tw1225408975273519482 tw13232041127071695731 tw6466098255842176482 tw9737353922960753373 tw187906383543239206 tw13828920046844266542 tw4003901169957599563 tw12305506568476142811 tw13103871134691464107 tw3296880558953482702 tw18078209215895704356 tw18957379318985387 tw16700459449669477674 tw156969546234649096 tw8775887017893987501 tw16813462643573945779 tw16340762480442203253 tw5155357829420401876 tw12698577540431953814 tw4604670801042066899 tw12219035595739399889 tw10755409458335424298 tw9774675194897318936 tw12780464909522677276 tw4226505734929165001 tw4736406419453723226 tw4514775742796565878 tw14420458229064204879 tw1267956909989394326 tw14229251821556153751 tw15185560069877607451 tw16325336242742846288 tw7558086559858021719 tw10800188834524110591 tw8140946160147720594 tw5454182682598335841 tw15625311143330678952
end PySem.W.Fast
open PySem PySem.W PyProof.Rows
set_option maxRecDepth 100000 in
set_option maxHeartbeats 0 in
theorem PySem.Challenge.cw_trueline_k49_whole_fits_leave_nothing_to_holds : PySem.Challenge.rw_trueline_k49_whole_fits_leave_nothing_to.Holds := by
 w_on;o_law;k_head;(case hw=>w_witness2)
 k_fill
 refine Z.law_walkH (l:=PySem.Challenge.rw_trueline_k49_whole_fits_leave_nothing_to) 44 Z.M49.fi_law rfl rfl (λw h Y=>jff Y) ⟨λ_=>rfl,by decide,by decide⟩ rfl rfl ?F
 case F =>
  intro w mg h KX G;refine' Z.M49.law_key ?fns ?ft ?fl ?cns ?blt (Z.exc_ok KX (i:=Z.M49.fi_law_alone) ?al (by decide +kernel) ?ex)
  case ex =>
   intro x hx;simp only[bD,bM,or_false]at hx;subst hx;refine' Z.exc_mkO (i:=Z.M49.fi_ini_Dependent) KX G (by decide +kernel) (by decide +kernel) (λ_ _ _ _ _ _ _ _ _ _ _=>⟨_,rfl,rfl⟩) ?oa ?ote ?oml ?ol ?oln ?orN ?oT ?oM ?orM ?oi ?on1 ?on2 ?on3 ?on4 ?om1 ?om2 ?om3 ?om4 ?om5 ?om6 ?oop ?ofi ?ofn ?okp ?olf ?olD ?ocd (λ_=>Z.alone_mk KX G ?xe1 ?xe2 ?xe3 ?xe4 ?xe5 ?xe6 ?xe7 ?xt1 ?xt2 ?xt3 ?xt4 ?xv1 ?xv2 ?xv3 (by decide +kernel) ?xcl);(case oa=>k_is);(case ote=>k_is);(case oml=>k_is);(case ol=>k_is);(case oln=>k_is);(case orN=>rfl);(case oT=>k_is);(case oM=>k_is);(case orM=>rfl);(case oi=>k_is);(case on1=>k_is);(case on2=>k_is);(case on3=>k_is);(case on4=>k_is);(case om1=>k_is);(case om2=>k_is);(case om3=>k_is);(case om4=>k_is);(case om5=>k_is);(case om6=>k_is);(case oop=>k_is);(case ofi=>k_is);(case ofn=>k_is);(case okp=>k_is);(case olf=>k_is);(case olD=>k_is);(case ocd=>k_is);(case xe1=>k_is);(case xe2=>k_is);(case xe3=>k_is);(case xe4=>k_is);(case xe5=>k_is);(case xe6=>k_is);(case xe7=>k_is);(case xt1=>k_is);(case xt2=>k_is);(case xt3=>k_is);(case xt4=>k_is);(case xv1=>k_is);(case xv2=>k_is);(case xv3=>k_is);(case xcl=>exact(λc hc=>by simp only[Z.names12,bD,bM,or_false]at hc;rcases hc with rfl|rfl|rfl|rfl|rfl|rfl|rfl|rfl|rfl|rfl|rfl|rfl<;>(refine' Z.kit_cl KX G ?ya ?yt ?ym ?ys ?yb ?yd;(case ya=>k_is);(case yt=>k_is);(case ym=>k_is);(case ys=>k_is);(case yb=>decide +kernel);(case yd=>decide))))
  case fns =>
   intro i hi;simp only[Z.M49.fns,bD,bM,or_false]at hi
   rcases hi with rfl|rfl|rfl|rfl|rfl|rfl|rfl|rfl|rfl|rfl|rfl|rfl|rfl|rfl|rfl|rfl|rfl|rfl|rfl|rfl|rfl|rfl|rfl|rfl|rfl|rfl|rfl|rfl|rfl|rfl|rfl|rfl|rfl|rfl|rfl|rfl|rfl|rfl|rfl|rfl<;>((first|refine' Z.fact_mk KX G (λ_ _ _ _ _ _=>Z.len1 λ_=>rfl) ?a ?l ?c ?k|refine' Z.fact_mk KX G (λ_ _ _ _ _ _=>Z.len2 λ_ _=>rfl) ?a ?l ?c ?k|refine' Z.fact_mk KX G (λ_ _ _ _ _ _=>Z.len3 λ_ _ _=>rfl) ?a ?l ?c ?k|refine' Z.fact_mk KX G (λ_ _ _ _ _ _=>Z.len4 λ_ _ _ _=>rfl) ?a ?l ?c ?k|refine' Z.fact_mk KX G (λ_ _ _ _ _ _=>Z.len5 λ_ _ _ _ _=>rfl) ?a ?l ?c ?k);(all_goals try dsimp only[Z.M49.fi_law_cell,Z.M49.fi_law_drawn,Z.M49.fi_law_width,Z.M49.fi_law_bare,Z.M49.fi_law_number,Z.M49.fi_law_measure,Z.M49.fi_law_row,Z.M49.fi_law_table,Z.M49.fi_law_case,Z.M49.fi_column,Z.M49.fi_turned,Z.M49.fi_one_by_one,Z.M49.fi_two_to,Z.M49.fi_least_power,Z.M49.fi_in_steps,Z.M49.fi_rows_in_steps,Z.M49.fi_rows_of_fit,Z.M49.fi_whole_dot,Z.M49.fi_whole_dots,Z.M49.fi_without,Z.M49.fi_whole_determinant1,Z.M49.fi_whole_determinant2,Z.M49.fi_whole_determinant3,Z.M49.fi_whole_determinant4,Z.M49.fi_common_divisor,Z.M49.fi_ratio,Z.M49.fi_first_not_nought,Z.M49.fi_cleared,Z.M49.fi_in_lowest_terms,Z.M49.fi_weighted,Z.M49.fi_weights_to_nought,Z.M49.fi_put_in,Z.M49.fi_solved_in_wholesX,Z.M49.fi_fittedX,Z.M49.fi_law_whole,Z.M49.fi_law_common,Z.M49.fi_law_wholes,Z.M49.fi_law_lefts,Z.M49.fi_law_are_ratios,Z.M49.fi_law_weighed]);(case a=>k_is);(case l=>k_is);(case c=>k_is);(case k=>k_is))
  case ft=>refine' Z.fact_mk (i:=Z.M49.fi_told) KX G (λ_ _ _ _ _ _=>Z.len3 λ_ _ _=>rfl) ?a ?l ?c ?k;(all_goals try dsimp only[Z.M49.fi_told]);(case a=>k_is);(case l=>k_is);(case c=>k_is);(case k=>k_is)
  case fl=>refine' Z.fact_mk (i:=Z.M49.fi_law) KX G (λ_ _ _ _ _ _=>Z.len1 λ_=>rfl) ?a ?l ?c ?k;(all_goals try dsimp only[Z.M49.fi_law]);(case a=>k_is);(case l=>k_is);(case c=>k_is);(case k=>k_is)
  case al=>refine' Z.fact_mk (i:=Z.M49.fi_law_alone) KX G (λ_ _ _ _ _ _=>Z.len1 λ_=>rfl) ?a ?l ?c ?k;(all_goals try dsimp only[Z.M49.fi_law_alone]);(case a=>k_is);(case l=>k_is);(case c=>k_is);(case k=>k_is)
  case cns =>
   intro n x e
   match n,e with
   |0,e =>
    cases e;refine' Z.cn_mkT KX G ?z ?l ?c ?e
    case z=>k_is
    case l=>k_is
    case c=>rfl
    case e=>rfl
   |n+1,e=>simp at e
  case blt =>
   intro x hx;simp only[Z.blts,bD,bM,or_false]at hx
   rcases hx with rfl|rfl|rfl|rfl|rfl|rfl|rfl|rfl|rfl|rfl|rfl|rfl|rfl|rfl|rfl|rfl|rfl|rfl|rfl<;>(refine' tM KX G ?z;(case z=>k_is))