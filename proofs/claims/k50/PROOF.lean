import PyProof.Rows.All
import Wide.All
import OpenK.AllK
import Wide.FinOn
import PyProof.EqAt
import PyProof.EqKinds
import PyProof.TupleCall
import PySem.Challenge.RW_trueline_k50_whole_no_fit_misses_less
set_option Elab.async false
set_option linter.all false
set_option maxRecDepth 100000
set_option bootstrap.genMatcherCode false
set_option genSizeOfSpec false
set_option genInjectivity false
set_option compiler.extract_closed false
noncomputable section
open Array renaming getElem?_eq_some_iff->nz,length_toList->jes,forIn_toList->jeK
open Bool renaming and_eq_true->bh,noConfusion->bG,not_eq_true'->dE,false_eq_true->dG,false_ne_true->dS,eq_iff_iff->pN,or_eq_true->sW,or_true->jdI
open False renaming elim->mH
open ForInStep renaming yield->jfB
open Function renaming comp->n5
open Int renaming toNat_natCast->bV,gcd->gf,emod_lt_of_pos->gK,mul_le_mul_of_nonneg_right->gP,emod_nonneg->gR,natAbs_mul->mi,mul_ne_zero->mq,mul_comm->mK,gcd_pos_of_ne_zero_right->mY,mul_fdiv_cancel->m7,gcd_pos_of_ne_zero_left->m9,pow_add->nc,pow_succ->nR,mul_pos->nU,gcd_dvd_natAbs_right->n6,natAbs_pow->pj,natCast_dvd_natCast->pE,natAbs_natCast->pI,dvd_trans->pU,le_of_lt->sj,mul_ediv_cancel_left->sP,one_mul->tK,gcd_dvd_natAbs_left->tM,sign_eq_one_of_pos->tY,lt_trichotomy->tZ,zero_add->t4,le_ediv_of_mul_le->t5,mul_le_mul_of_nonneg_left->wK,lt_or_le->jcT,mul_lt_mul_of_pos_right->jcU,mul_zero->jcV,fdiv_eq_ediv_of_nonneg->jcX,mul_neg_of_pos_of_neg->jc9,le_of_dvd->jdr,le_total->jdP,ediv_nonneg->jdT,ediv_mul_le->jdV,ediv_lt_of_lt_mul->jd4,one_dvd->jej,fdiv->jel,mul_ediv_cancel->jet,lt_or_eq_of_le->jeW,lt_or_gt_of_ne->jeX,gcd_comm->jfd,zero_mul->jfe,zero_sub->jff
open List renaming length_map->bj,mem_cons_of_mem->bo,map_cons->bq,mem_cons->bz,mem_cons_self->bC,getElem?_eq_getElem->bD,range->bE,mem_map->bH,getElem?_eq_none->bI,not_mem_nil->bK,getD_eq_getElem?_getD->bL,map_map->bN,map_congr_left->bQ,replicate->bR,cons_append->bW,mem_append_right->bX,getElem?_map->bY,length_append->b6,map_append->de,getElem?_set_ne->dg,mem_append_left->dh,append_nil->di,size_toArray->dw,nil_append->dz,mem_range->dF,sum_cons->dH,mem_append->dI,getElem?_append_left->dM,getElem?_append_right->dN,getElem?_set_self->dO,getElem_mem->dP,map_nil->dR,length_cons->dU,replicate_succ->dX,drop_succ_cons->d6,getD_cons_zero->d7,getD_cons_succ->d8,zipWith_cons_cons->d9,drop_zero->gk,zipWith_nil_right->gm,mem_of_getElem?->gn,mem_singleton->gv,zipWith_nil_left->gw,drop_eq_getElem_cons->gC,length_take->gE,lookup_cons->gF,isEmpty_iff->gG,getElem_map->gH,mem_of_mem_drop->gJ,length_set->gX,sum_append->gY,getElem?_eq_some_iff->g6,take_succ_cons->g9,flatten_cons->ma,of_mem_zip->mn,length_drop->mw,sum_nil->mE,length_nil->mF,range_succ->mG,all_eq_true->ni,take_zero->nE,exists_cons_of_ne_nil->nF,length_singleton->nG,nodup_cons->nL,mem_of_mem_take->nS,getElem?_take_of_lt->nY,replicate_zero->pd,length_pos_iff->ph,eq_nil_of_length_eq_zero->pG,length_zip->pR,length_replicate->pV,length_range->pX,filter_cons->sk,filterMap_cons->sC,set_eq_of_length_le->sJ,mem_filter->sQ,foldl_cons->sT,forIn_cons->sV,mem_filterMap->tf,contains_cons->tE,zip_cons_cons->tG,getElem_range->tH,append_assoc->tO,forIn_nil->tQ,drop_of_length_le->tT,drop_eq_nil_of_le->tW,range'_succ->wa,getLast?_eq_some_getLast->wN,dropLast_concat->wO,range_zero->wZ,map_eq_nil_iff->w8,getElem?_range->w9,getElem?_drop->jc5,map_singleton->jc7,length->jdc,map_take->jdq,eq_of_mem_replicate->jds,map->jdt,getD->jdA,range_succ_eq_map->jdR,take_of_length_le->jdS,dropLast_eq_take->jd5,mem_iff_getElem->jeg,contains_eq_mem->jeh,getLast?_concat->jek,range'->jem,pairwise_append->jen,sum->jeo,length_zipWith->jey,all_cons->jez,any_cons->jeA,drop_nil->jeC,set_cons_zero->jeR,set_cons_succ->jeS,nodup_append->je5,ext_getElem?->jfb,getElem?_set->jfc,zipWith->jfh,zipIdx_cons->jfn,drop_length->jfr,mem_flatten->jfs,ext_getElem->jft,foldl->jfI
open List.cons renaming injEq->bO,inj->n9
open Nat renaming le_trans->bS,lt_or_ge->b8,le_refl->df,lt_of_lt_of_le->dC,lt_irrefl->gB,ne_of_lt->gI,two_pow_pos->gO,pow_le_pow_right->my,pow_succ->mJ,zero_le->mL,mul_le_mul_right->mM,ne_of_gt->pH,mul_le_mul_left->sD,sub_self->tX,lt_succ_self->t9,le_of_dvd->wA,min_eq_left->wY,succ_mul->jcO,gcd_comm->jcP,eq_zero_or_pos->jc6,div_dvd_of_dvd->jc8,pow_lt_pow_iff_right->jdk,mul_div_cancel_left->jdz,le_of_eq->jdH,div_div_eq_div_mul->jdJ,not_lt->jdK,testBit_and->jdU,pow_add->jd6,pow_lt_pow_right->jd7,eq_of_testBit_eq->jd8,gcd_zero_right->jeI,eq_or_lt_of_le->jeJ,le_of_lt->jeY,gcd->je4,lt_succ_of_lt->je7,sub_zero->jfg,mul_pos->jfu,gcd_rec->jfv,le_succ->jfw,Coprime->jfz,mod_lt->jfL
open Ne renaming symm->gV
open Option renaming isSome_some->nv,map_some->wU,isSome_iff_exists->jdi,some->jee,getD_none->jfk,bind_some->jfq
open Option.some renaming injEq->gc,inj->gD
open Prod.mk renaming injEq->wg
open PyProof.Rows renaming boot_isinstance->mX,callWith_type1->m8,boot_list->pJ,callWith_builtin1->t7,AllBare->jcL,subscriptTail_builtinR->jdE,boot_int->jd2,IntsAre->jfF
open PySem renaming wpAny_bind->bg,Value->bp,wpAny_pure->bJ,starEach->bU,wpAny_holding->dW,wpAny_setField_rec->gh,Program->gj,wpAny_mono->gq,wpAny_field->gA,Heap->gQ,mainGlobals->gS,Spec->gT,wpAny_nextOf_list_item->gZ,Around->mz,wpAny_truthy_bool->mB,wpAny_loadPart_at->mC,wpAny_seqItems->mO,codeAny_call_builtin->mP,wpAny_of_eq->mQ,excClassObj->mR,compareOp->mS,foldedSetIterable->mU,mem_of_lookup->mZ,assignEach->nk,NameKind->nu,wpAny_nextOf_list_end->nH,wpAny_passesOwn->nK,Obj->nW,behindInMarks->nX,typeLookup->nZ,wpAny_callSpecial?_slot->pq,wpAny_call_entry->pA,sizeLine_eq->pF,GenState->pL,letOwnedTupleGo->pM,wpAny_standAt->pS,wpAny_attempt->pT,wpAny_pyIter_list->pW,wpAny_letGo->p7,bootBuiltins->si,checkBuiltinCall->sr,FuncData->sE,holding->sR,wpAny_call->tj,wpAny_Call_Name_kw->tu,swapsWith->tI,sliceBounds->tJ,Builtin->tU,setField->tV,cellsFrom->t6,wpAny_onRaise->wq,binaryOp->wB,lookup_relabel_local->wF,wpAny_updateSeq_pair->wH,wpAny_execs_nil->wQ,codeAny_builtin->wV,wpAny_updateSeq->wW,getAttrByItsOwn->wX,wpAny_isSubtype_exc->w5,codeAny->jcM,codeAny_mono->jcN,relabel->jcQ,ExcBaseFacts->jcS,recursionLimit->jcY,wpAny_tryCatch->jcZ,isInstance->jc0,wpAny_assign_Name->jdb,wpAny_newObj_type->jdd,swapsWithSole->jdh,attributeBase->jdj,plainId_quiet->jdl,noteFrame->jdu,wpAny_pyNext_list_item->jdB,leaving->jdC,callerA->jdG,quietNames->jdO,wpAny_isTrue_Compare1->jdW,wpAny_pyNext_list_end->jdX,loadIfAlive->jea,wpAny_newTuple->jeb,wpAny_setField->jec,boundAndCalled->jef,pushCells->jer,Comprehension->jeB,Paired->jeF,call_meets->jeH,fastLookup->jeT,standAt->jeZ,Operator->je0,seqIndex_neg->je3,OsState->je8,DictEntry->jfl,seqItems?->jfm,setFlight->jfo,ClassData->jfp,Keyword->jfE,OwnTail->jfG,call->jfJ,Moved->jfN
open PySem.Around renaming under_plainId->wG,under->je1
open PySem.AutoSeq1 renaming wpAny_loadPart'->jdo
open PySem.Bind renaming checkArgs->jd9
open PySem.Builtin renaming bitAnd->p6,bitNot->jfM
open PySem.Builtin.Builtins renaming bindParams->jcR
open PySem.Builtin.Getset_descriptor renaming descrGet->jeN
open PySem.Builtin.Int renaming intBits->g7,intTooBig->jd0
open PySem.Builtin.List renaming listTooLong->mI
open PySem.Builtin.ObjectAttr renaming find->jdw,dataDescriptor?->jeM,attrName->jfH,getOf->jfT
open PySem.Builtin.Range renaming rangeSize->tL,small->jex
open PySem.Builtin.SmallTypes renaming ownedTupleIsFree->dZ,nextOf->d5,ownedTupleHandOut->g8
open PySem.Calls renaming Name_function_global->jcW,callWith_builtin->jdF
open PySem.Code renaming quiet_builtin->jc1,isFrame->je2
open PySem.EntryCells renaming newEntry->jev
open PySem.Env renaming kindOf->jfP
open PySem.Expr renaming casesOn->jeO
open PySem.F renaming plain_min_loop->nh,slot_enumerate_next->nJ,plainAttrs_list->pB,excBase_ValueError->se,slot_zip_next->sU,slot_list_append->jdm,type_list_append->jdn,slot_list_extend->jdp,entry_min_loop->jdv,attr_ValueError->jdx,args_enumerate_next_1->jdy,entry_enumerate_next->jdN,slot_enumerate_iter->jdZ,slot_int_rmul->jd1
open PySem.Heap renaming get?_push_of_some->bB,lt_size->bP,get?_push_size->dJ,get?_update_other->dQ,get?_update_self->mh,SameBut->nP,get?_none_of_le->pZ,MadeExcOf->p8,FlyingW->su,size_push->tP,get?_push_at->jde,get?_update_ne->jew
open PySem.Heap.Ns renaming of_isNs->jfD
open PySem.Heap.SameBut renaming refl->mV
open PySem.Manifest renaming signature?->jeu
open PySem.Moved renaming trans->jfx
open PySem.NameKind renaming cell->sH,free->wj
open PySem.Obj renaming mapSeq->t8,mapFields->wu,isFreed_of_fields->jdY,data_mapFields->jeL
open PySem.PassesOwn renaming never->pO
open PySem.PyData renaming eqvAll->wm,bool->wJ,strOk->jdL,canLayAll0->je6,depthAll->jfC
open PySem.SeqAt.EqAt renaming int_str->jeD,str_int->jeE
open PySem.Stmt renaming casesOn->jeP
open PySem.Str renaming ofString->jdM
open PySem.Value renaming ref->mf,none->pY,bool->td,int->jfi,str->jfj
open PySem.W renaming Frag->bw,nsIn->gN,keepIn->nr,kia_one->nM,fnOf->nQ,looks_findIn->sv,codeIn->tN,mg_of->we,methodObj->jda,cellsFrom_some->jdD,hideAll_get->jed,callWith_K->jeG,mg_none_of->jeU,hideAll->je9,Looks->jfa,OpenLaw->jfA,kIn_of->jfK,nsOkIn->jfQ,WalkO->jfS
open PySem.Walks renaming list->jfO
open Rat renaming intCast_mul->bZ,divInt->dY,intCast_inj->mr,divInt_eq_div->mW,mul_comm->nV,mul_assoc->n8,den_divInt->pC,intCast_lt_intCast->pK,intCast_neg->pP,intCast_add->pQ,intCast_sub->sZ,num_divInt_den->tF,num_divInt->jc2,mul_nonneg->jc3,mul_inv_cancel->jc4,div_def->jdf,mul_one->jdg,intCast_le_intCast->jdQ,divInt_add_divInt->jd3,mul_pos->jei,div_mul_cancel->jeV,le_refl->jfy,lt_iff->jfR
open Sum renaming inl->jep,inr->jeq
open True renaming intro->jeQ
local macro_rules | `(command|def $i:declId $s:optDeclSig $v:declVal)=>`(command|noncomputable def $i:declId $s:optDeclSig $v:declVal)
theorem zff{P:Prop}(h:false=true):P:=nomatch h
namespace L2
open PySem PySem.Spec PyProof.Rows
abbrev Key:=Sum Int Str
def keyIs:Key->bp->Bool
 |.inl k,v=>Value.isInt k v
 |.inr x,v=>Value.isStrOf x v
def keyH(w:World):Key->Int
 |.inl k=>hashInt k
 |.inr x=>hashStr w x
theorem ki:∀ {k:Key} {v:bp},keyIs k v=true->(∃i t,k=jep i/\v=jfi i t)\/(∃x t,k=jeq x/\v=jfj x t)
 |.inl i,v,h=>by
  obtain⟨t,e⟩:=Value.isInt_shape (k:=i) (v:=v) h
  exact .inl ⟨i,t,rfl,e⟩
 |.inr x,v,h=>by
  obtain⟨t,e⟩:=Value.isStrOf_shape (x:=x) (v:=v) h;exact .inr ⟨x,t,rfl,e⟩
theorem key_ll(a b:Int):decide ((jep a:Key)=jep b)=(a == b):=by
 by_cases e:a=b
 ·subst e;simp
 ·have h:¬ (jep a:Key)=jep b:=λq=>e (Sum.inl.inj q)
  rw[decide_eq_false h];exact(beq_eq_false_iff_ne.mpr e).symm
theorem key_rr(a b:Str):decide ((jeq a:Key)=jeq b)=decide (a=b):=by
 by_cases e:a=b
 ·subst e;simp
 ·have h:¬ (jeq a:Key)=jeq b:=λq=>e (Sum.inr.inj q)
  rw[decide_eq_false h,decide_eq_false e]
theorem key_lr(a:Int)(b:Str):decide ((jep a:Key)=jeq b)=false:=decide_eq_false (λq=>nomatch q)
theorem key_rl(a:Str)(b:Int):decide ((jeq a:Key)=jep b)=false:=decide_eq_false (λq=>nomatch q)
def Z7(prog:gj)(w:World):PySem.KeyKind prog w Key where
 is:=keyIs
 hash:=keyH w
 inj:=λv a b ha hb=>by
  rcases ki ha with⟨i,t,rfl,rfl⟩|⟨x,t,rfl,rfl⟩
  ·rcases ki hb with⟨j,u,rfl,e⟩|⟨y,u,rfl,e⟩
   ·injection e with e1 _;rw[e1]
   ·exact nomatch e
  ·rcases ki hb with⟨j,u,rfl,e⟩|⟨y,u,rfl,e⟩
   ·exact nomatch e
   ·injection e with e1 _;rw[e1]
 byValue:=λk v h=>by
  rcases ki h with⟨i,t,rfl,rfl⟩|⟨x,t,rfl,rfl⟩<;>rfl
 pyHash:=λhv h=>by
  rcases ki hv with⟨i,t,rfl,rfl⟩|⟨x,t,rfl,rfl⟩
  ·exact wpAny_pyHash_int h
  ·exact wpAny_pyHash_str h
 eqBool:=λhu hv h=>by
  rcases ki hu with⟨i,t,rfl,rfl⟩|⟨x,t,rfl,rfl⟩
  ·rcases ki hv with⟨j,u,rfl,rfl⟩|⟨y,u,rfl,rfl⟩
   ·rw[key_ll]at h;exact wpAny_eqBool_int h
   ·rw[key_lr]at h;exact jeD i t y u _ _ _ _ h
  ·rcases ki hv with⟨j,u,rfl,rfl⟩|⟨y,u,rfl,rfl⟩
   ·rw[key_rl]at h;exact jeE x t j u _ _ _ _ h
   ·rw[key_rr]at h;exact wpAny_eqBool_str h
 «strs»:=λk x t v h=>by
  rcases ki h with⟨i,u,rfl,e⟩|⟨y,u,rfl,e⟩
  ·exact nomatch e
  ·injection e with e1 _;subst e1
   cases v<;>rfl
set_option genInjectivity true in
inductive V where
 |non|bl (b:Bool)|int (i:Int)|str (x:Str)|byt (b:Array UInt8)|flt (b:UInt64)|ref (a:Addr)|ty (n:String)
 deriving DecidableEq
def jV:V->bp->Prop
 |.non,u=>u=pY
 |.bl b,u=>u=td b
 |.int i,u=>∃t,u=jfi i t
 |.str x,u=>∃t,u=jfj x t
 |.byt b,u=>∃t,u=Value.bytes b t
 |.flt b,u=>∃t,u=Value.float b t
 |.ref a,u=>u=mf a
 |.ty n,u=>u=Value.type n
abbrev jH:List V->List bp->Prop:=jeF jV
variable{us:List bp}
theorem jH.length{xs:List V}(r:jH xs us):xs.length=us.length:=Paired.length r
theorem jH.get:∀ {xs:List V} {us:List bp} {i:Nat} {x:V},jH xs us->xs[i]?=some x->∃u,us[i]?=some u/\jV x u
 |_,_,_,_,.nil,e=>by simp at e
 |_,_,0,_,.cons r _,e=>by simp at e;subst e;exact⟨_,rfl,r⟩
 |_,_,i+1,x,.cons _ t,e=>by
  obtain⟨u,h1,h2⟩:=jH.get (i:=i) (x:=x) t (by simpa using e);exact⟨u,by simpa using h1,h2⟩
theorem jH.set{x:V}{u:bp}(r:jV x u):∀ {xs:List V} {us:List bp} (i:Nat),jH xs us->jH (xs.set i x) (us.set i u)
 |_,_,_,.nil=>.nil
 |_,_,0,.cons _ t=>.cons r t
 |_,_,i+1,.cons q t=>.cons q (jH.set r i t)
theorem jH.append:∀ {xs ys:List V} {us ws:List bp},jH xs us->jH ys ws->jH (xs++ys) (us++ws)
 |_,_,_,_,.nil,s=>s
 |_,_,_,_,.cons r t,s=>.cons r (jH.append t s)
theorem jH.take:∀ {xs:List V} {us:List bp} (n:Nat),jH xs us->jH (xs.take n) (us.take n)
 |_,_,0,_=>.nil
 |_,_,_+1,.nil=>.nil
 |_,_,n+1,.cons r t=>.cons r (jH.take n t)
theorem jH.drop:∀ {xs:List V} {us:List bp} (n:Nat),jH xs us->jH (xs.drop n) (us.drop n)
 |_,_,0,r=>r
 |_,_,_+1,.nil=>.nil
 |_,_,n+1,.cons _ t=>jH.drop n t
def RelO:Option V->Option bp->Prop
 |some v,some u=>jV v u
 |none,none=>True
 |_,_=>False
def KV{κ:Type}:List (κ×V)->List (κ×bp)->Prop:=jeF λ(p:κ×V) (q:κ×bp)=>p.1=q.1/\jV p.2 q.2
def kV:Key->V
 |.inl i=>.int i
 |.inr x=>.str x
inductive HO where
 |lst (xs:List V)
 |tup (xs:List V)
 |dK (kvs:List (Key×V))|dT (kvs:List (List Key×V))
 |set (S:Int->Bool) (n:Nat)
 |ins (C dx:Addr) (fs:List (Str×V))
 |own (x:Addr)
 |xd (fs:List (Str×V))
 |met (f x:Addr)
 |rng (lo hi:Int)
 |frz (o:nW) (u:HO)
 |tbl (ps:Array bp)
 |ext (φ:gQ->Prop)
abbrev Hp:=Addr->Option HO
def upd(H:Hp)(a:Addr)(o:HO):Hp:=λb=>if b=a then some o else H b
variable{H:Hp}{a:Addr}{o:HO}
theorem ju:upd H a o a=some o:=by unfold upd;rw[if_pos rfl]
theorem jg{b:Addr}(h:b≠a):upd H a o b=H b:=by unfold upd;rw[if_neg h]
theorem kW{b:Addr}(h:H a=some o)(h':H b=none):a≠b:=by
 intro e;subst e;rw[h]at h';cases h'
section
variable (P:gj) (w:World)
def qP(H:Hp)(h:gQ)(a:Addr):HO->Prop
 |.lst xs=>xs.length<=sizeLine/\∃(its:List bp) (n:Nat),jH xs its/\h.get? a=some { cls:=.type "list",data:=.seq its.toArray n }
 |.tup xs=>xs.length<=sizeLine/\∃its:List bp,jH xs its/\IsTup h a its.toArray
 |.dK kvs=>kvs.length<=sizeLine/\(a == sysModules)=false/\∃vs,KV kvs vs/\h.DictOf (Z7 P w) a vs
 |.dT kvs=>kvs.length<=sizeLine/\(a == sysModules)=false/\∃xs:List (List Key×Addr×bp),
  jeF (λ(p:List Key×V) (q:List Key×Addr×bp)=>p.1=q.1/\H q.2.1=some (.tup (p.1.map kV))/\jV p.2 q.2.2) kvs xs /\
  ∃o es ep,h.get? a=some o/\o.ExactDict/\o.data=.dict es ep/\es.toList=xs.map (entryOfKey (tupleKind (Z7 P w)))/\(xs.map (·.1)).Nodup
 |.set S n=>h.SetOf (intKind P w) a S n
 |.ins C dx fs=>H dx=some (.own a)/\fs.length<=1000/\dx≠a/\h.get? a=some (PySem.W.instObj C dx) /\
  ∃mA,h.Ns1 dx mA/\(∀f,RelO (fs.lookup f) (mA f))/\PySem.Within mA (fs.map (·.1))
 |.own _=>∃o,h.get? a=some o
 |.xd fs=>∃mA,h.Ns1 a mA/\∀f,RelO (fs.lookup f) (mA f)
 |.rng lo hi=>∃t u v,h.get? a=some { cls:=.type "range",data:=.fields #[.int lo t,.int hi u,.int 1 v] }
 |.frz o u=>h.get? a=some o/\qP H h a u
 |.tbl ps=>h.get? a=some { cls:=.none,data:=.fields ps }
 |.met f x=>h.get? a=some (jda (.ref f) (.ref x))
 |.ext φ=>φ h/\(∃o,h.get? a=some o)/\∀h1 h2:gQ,φ h1->(∀o,h1.get? a=some o->h2.get? a=some o)->φ h2
def HOk(H:Hp)(h:gQ):Prop:=∀a o,H a=some o->qP P w H h a o
end
section
variable {P:gj} {w:World} {H H':Hp} {h h':gQ} {a:Addr} {o:HO}
theorem qP.lt(x:qP P w H h a o):a<h.objs.size:=by
 cases o with
 |lst xs=>obtain⟨_,_,_,_,e⟩:=x;exact bP e
 |tup xs=>obtain⟨_,_,_,p⟩:=x;exact p.lt
 |dK kvs=>obtain⟨_,_,_,_,o,_,_,e,_⟩:=x;exact bP e
 |dT kvs=>obtain⟨_,_,_,_,o,_,_,e,_⟩:=x;exact bP e
 |set S n=>obtain⟨o,_,_,_,e,_⟩:=x;exact bP e
 |ins C dx fs=>obtain⟨_,_,_,e,_⟩:=x;exact bP e
 |own y=>obtain⟨_,e⟩:=x;exact bP e
 |xd fs=>obtain⟨_,⟨_,_,_,e,_⟩,_⟩:=x;exact bP e
 |rng lo hi=>obtain⟨_,_,_,e⟩:=x;exact bP e
 |frz ob u=>obtain⟨e,_⟩:=x;exact bP e
 |tbl ps=>exact bP (show h.get? a=some _ from x)
 |met f y=>exact bP (show h.get? a=some _ from x)
 |ext φ=>obtain⟨_,⟨_,e⟩,_⟩:=x;exact bP e
theorem Paired.mapP{α β:Type}{F G:α->β->Prop}:∀ {l₁:List α} {l₂:List β},jeF F l₁ l₂->(∀a b,F a b->G a b)->jeF G l₁ l₂
 |_,_,.nil,_=>.nil
 |_,_,.cons r t,f=>.cons (f _ _ r) (Paired.mapP t f)
theorem qP.stay(x:qP P w H h a o)(k:∀b u,(b=a\/H b=some (.own a))->h.get? b=some u->h'.get? b=some u)
 (ho:∀b,H b=some (.own a)->H' b=some (.own a)) (ht:∀b xs,H b=some (.tup xs)->H' b=some (.tup xs)):qP P w H' h' a o:=by
 induction o with
 |lst xs=>obtain⟨z,its,n,r,e⟩:=x;exact⟨z,its,n,r,k _ _ (.inl rfl) e⟩
 |tup xs=>obtain⟨z,its,r,ob,e,c⟩:=x;exact⟨z,its,r,ob,k _ _ (.inl rfl) e,c⟩
 |dK kvs=>obtain⟨z,y,vs,r,ob,es,ep,e,c⟩:=x;exact⟨z,y,vs,r,ob,es,ep,k _ _ (.inl rfl) e,c⟩
 |dT kvs =>
  obtain⟨z,y,xs,r,ob,es,ep,e,c⟩:=x
  exact⟨z,y,xs,Paired.mapP r λp q z=>⟨z.1,ht _ _ z.2.1,z.2.2⟩,ob,es,ep,k _ _ (.inl rfl) e,c⟩
 |set S n=>obtain⟨ob,es,ep,t,e,c⟩:=x;exact⟨ob,es,ep,t,k _ _ (.inl rfl) e,c⟩
 |ins C dx fs =>
  obtain⟨d,z,ne,e,mA,⟨od,es,ep,e2,c⟩,r⟩:=x
  exact⟨ho _ d,z,ne,k _ _ (.inl rfl) e,mA,⟨od,es,ep,k _ _ (.inr d) e2,c⟩,r⟩
 |own y=>obtain⟨ob,e⟩:=x;exact⟨ob,k _ _ (.inl rfl) e⟩
 |xd fs=>obtain⟨mA,⟨od,es,ep,e,c⟩,r⟩:=x;exact⟨mA,⟨od,es,ep,k _ _ (.inl rfl) e,c⟩,r⟩
 |rng lo hi=>obtain⟨t,u,v,e⟩:=x;exact⟨t,u,v,k _ _ (.inl rfl) e⟩
 |frz ob u ih=>obtain⟨e,q⟩:=x;exact⟨k _ _ (.inl rfl) e,ih q⟩
 |tbl ps =>
  have e:h.get? a=some { cls:=.none,data:=.fields ps }:=x;show h'.get? a=some { cls:=.none,data:=.fields ps }
  exact k a _ (.inl rfl) e
 |met f y =>
  have e:h.get? a=some (jda (.ref f) (.ref y)):=x;show h'.get? a=some (jda (.ref f) (.ref y))
  exact k a _ (.inl rfl) e
 |ext φ=>obtain⟨p,⟨o,e⟩,st⟩:=x;exact⟨st _ _ p λo q=>k _ _ (.inl rfl) q,⟨o,k _ _ (.inl rfl) e⟩,st⟩
theorem HOk.lt(x:HOk P w H h)(e:H a=some o):a<h.objs.size:=(x a o e).lt
theorem HOk.fresh(x:HOk P w H h)(e:h.objs.size<=a):H a=none:=by
 cases q:H a with
 |none=>rfl
 |some u=>exact absurd (dC (x.lt q) e) (gB _)
theorem HOk.kept(x:HOk P w H h)(k:∀b u,h.get? b=some u->h'.get? b=some u):HOk P w H h':=λa o e =>
 (x a o e).stay (λb u _ q=>k b u q) (λ_ q=>q) λ_ _ q=>q
theorem HOk.laid(x:HOk P w H h)(k:∀b u,h.get? b=some u->h'.get? b=some u)(hp:h.objs.size<=a)(new:qP P w (upd H a o) h' a o):HOk P w (upd H a o) h':=λb u e=>by
 have hn:=x.fresh hp;by_cases hb:b=a
 ·subst hb;rw[ju]at e;cases e;exact new
 ·rw[jg hb]at e
  exact(x b u e).stay (λc v _ q=>k c v q) (λc q=>by rw[jg (kW q hn)];exact q) λc xs q=>by rw[jg (kW q hn)];exact q
end
def Rd(H:Hp)(a:Addr)(u:HO):Prop:=H a=some u\/∃o,H a=some (.frz o u)
variable{P:gj}{w:World}{h:gQ}{u:bp}
theorem Rd.ok{u:HO}(r:Rd H a u)(x:HOk P w H h):qP P w H h a u:=by
 rcases r with r|⟨o,r⟩
 ·exact x a u r
 ·obtain⟨_,q⟩:=x a _ r;exact q
def Mut:Option HO->Prop
 |some (.lst _)=>True
 |some (.dK _)=>True
 |some (.dT _)=>True
 |some (.set _ _)=>True
 |some (.ins _ _ _)=>True
 |some (.ext _)=>True
 |_=>False
section
variable {P:gj} {w:World} {H:Hp} {h h':gQ} {x e:Addr} {o':HO}
theorem HOk.write(ok:HOk P w H h)(mu:Mut (H x))(he:e=x\/H e=some (.own x))(k:∀b u,b≠e->h.get? b=some u->h'.get? b=some u)(heo:∃u,h'.get? e=some u)
 (new:qP P w (upd H x o') h' x o'):HOk P w (upd H x o') h':=λb u q=>by
 have nown:∀c y,H c=some (.own y)->c≠x:=λc y r z=>by subst z;rw[r]at mu;exact mu
 have ntup:∀c xs,H c=some (.tup xs)->c≠x:=λc xs r z=>by subst z;rw[r]at mu;exact mu
 by_cases hb:b=x
 ·subst hb;rw[ju]at q;cases q;exact new
 ·rw[jg hb]at q;by_cases hbe:b=e
  ·have q':H b=some (.own x):=by
    rcases he with z|z
    ·exact absurd (hbe.trans z) hb
    ·rw[hbe];exact z
   rw[q]at q';cases q';obtain⟨v,hv⟩:=heo;exact⟨v,by rw[hbe];exact hv⟩
  ·refine(ok b u q).stay (λc v hc r=>k c v ?_ r) (λc r=>by rw[jg (nown c b r)];exact r) λc xs r=>by rw[jg (ntup c xs r)];exact r
   rcases hc with rfl|hc
   ·exact hbe
   ·rintro rfl;rcases he with z|z
    ·exact nown c b hc z
    ·rw[hc]at z;cases z;exact hb rfl
end
structure Un (fs ex:List Addr) (H H':Hp) (h h':gQ):Prop where
 keep:∀b o,h.get? b=some o->H b=none->b ∉ fs->b ∉ ex->h'.get? b=some o
 slot:∀b o,h.get? b=some o->H b=none->b∈fs->b ∉ ex->∃sl,h'.get? b=some { o with slots:=sl }
 free:∀b o,h.get? b=some o->H b=none->b ∉ ex->H' b=none
 there:∀b o,h.get? b=some o->b ∉ ex->∃o',h'.get? b=some o'
 tups:∀b xs,H b=some (.tup xs)->H' b=some (.tup xs)
 frzs:∀b o u,H b=some (.frz o u)->H' b=some (.frz o u)
 tbls:∀b ps,H b=some (.tbl ps)->∃more,H' b=some (.tbl (ps++more))
section
variable {fs fs' ex ex':List Addr} {H H1 H2:Hp} {h h1 h2 h':gQ} {a x e:Addr} {o:HO}
theorem Un.any(u:Un fs ex H H1 h h1){b:Addr}{ob:nW}(q:h.get? b=some ob)(n:H b=none)(hx:b ∉ ex):∃sl,h1.get? b=some { ob with slots:=sl }:=by
 by_cases hb:b∈fs
 ·exact u.slot b ob q n hb hx
 ·exact⟨ob.slots,u.keep b ob q n hb hx⟩
theorem Un.kept(k:∀b u,h.get? b=some u->h'.get? b=some u):Un fs ex H H h h' :=
 ⟨λb ob q _ _ _=>k b ob q,λb ob q _ _ _=>⟨ob.slots,k b ob q⟩,λ_ _ _ n _=>n,λb ob q _=>⟨ob,k b ob q⟩,λ_ _ q=>q,λ_ _ _ q=>q,λ_ ps q=>⟨#[],by rw[q];simp⟩⟩
theorem Un.refl:Un fs ex H H h h:=Un.kept λ_ _ q=>q
theorem Un.laid(k:∀b u,h.get? b=some u->h'.get? b=some u)(hp:h.objs.size<=a)(hn:H a=none):Un fs ex H (upd H a o) h h' where
 keep:=λb u q _ _ _=>k b u q
 slot:=λb u q _ _ _=>⟨u.slots,k b u q⟩
 free:=λb u q n _=>by rw[jg (gI (dC (bP q) hp))];exact n
 there:=λb u q _=>⟨u,k b u q⟩
 tups:=λb xs q=>by rw[jg (kW q hn)];exact q
 frzs:=λb u xs q=>by rw[jg (kW q hn)];exact q
 tbls:=λb ps q=>⟨#[],by rw[jg (kW q hn),q];simp⟩
theorem Un.write(mu:Mut (H x))(he:e=x\/H e=some (.own x))(k:∀b u,b≠e->h.get? b=some u->h'.get? b=some u)(heo:∃u,h'.get? e=some u):Un fs ex H (upd H x o) h h':=by
 have hx:∀b,H b=none->b≠x:=λb n z=>by subst z;rw[n]at mu;exact mu
 have hb:∀b,H b=none->b≠e:=λb n z=>by
  subst z;rcases he with r|r
  ·exact hx b n r
  ·rw[n]at r;cases r
 have hm:∀b u,H b=some u->¬ Mut (some u)->b≠x:=λb u q nm z=>by subst z;rw[q]at mu;exact nm mu
 refine⟨λb u q n _ _=>k b u (hb b n) q,λb u q n _ _=>⟨u.slots,k b u (hb b n) q⟩,λb u q n _=>by rw[jg (hx b n)];exact n,λb u q _=>?_,
  λb xs q=>by rw[jg (hm b _ q λz=>z)];exact q,λb u xs q=>by rw[jg (hm b _ q λz=>z)];exact q,λb ps q=>⟨#[],by rw[jg (hm b _ q λz=>z),q];simp⟩⟩
 by_cases hbe:b=e
 ·subst hbe;exact heo
 ·exact⟨u,k b u hbe q⟩
end
def trk(h:gQ)(H:Hp):List Addr:=(bE h.objs.size).filter λa=>(H a).isSome
def KR(h:gQ)(H:Hp):gQ:=PySem.W.hideAll h (trk h H)
theorem U3(h:gQ)(H:Hp):(KR h H).objs.size=h.objs.size:=PySem.W.hideAll_size _ _
variable{o:nW}
theorem jb4{b:Addr}(e:h.get? b=some o)(n:H b=none):(KR h H).get? b=some o :=
 PySem.W.hideAll_get _ e λhm=>by
  have q:(H b).isSome=true:=(sQ.mp hm).2;rw[n]at q;simp at q
theorem of_hidT{b:Addr}(e:(KR h H).get? b=some o):h.get? b=some o/\H b=none:=by
 have e':h.get? b=some o:=PySem.W.of_hideAll (trk h H) e;refine⟨e',?_⟩
 cases q:H b with
 |none=>rfl
 |some x =>
  have hm:b∈trk h H:=sQ.mpr ⟨dF.mpr (bP e'),by simp[q]⟩;have z:(KR h H).get? b=none:=PySem.W.hideAll_none (trk h H) hm;rw[z]at e;cases e
structure Mod (K:bw) (mg:Str->Option bp) (base:gQ):Prop where
 kin:K.In base
 glob:base.Ns gS mg
 blt:∃mb,base.Ns builtinsNs mb/\∀x:Str,x ≠ "__name__"->mb x=si x
 nolimit:base.NoLimit/\base.NoDigits
structure Cx where
 prog:gj
 w:World
 K:bw
 mg:Str->Option bp
 base:gQ
 A:mz
 N:List Str
 s₀:Shared
 H₀:Hp
 env:Env
 outer:List Env
 stack:List Env
 ex:List Addr
 fn:Str->Bool
 calm:Bool
 pn:List (Addr×nW)
 xe:bp->Shared->Prop
def frs(l:List Env):List Addr:=l.filterMap (·.frame)
abbrev Cx.fs(X:Cx):List Addr:=frs X.outer
def Vis(sc:Scope)(x:Str):Prop:=sc.names.lookup x=some .local\/sc.names.lookup x=some .cell\/sc.names.lookup x=some .free
def Loc(sc:Scope)(x:Str):Prop:=sc.names.lookup x=some .local\/sc.names.lookup x=some .cell
def Look(env:Env)(h:gQ)(m:Str->Option bp)(x:Str)(u:bp):Prop :=
 (env.kindOf x=some .local/\m x=some u)\/((env.kindOf x=some .cell\/env.kindOf x=some .free)/\∃c,env.cells.lookup x=some c/\h.IsCell c (some u))
structure Cx.Ok (X:Cx):Prop where
 mod:Mod X.K X.mg X.base
 kind:X.env.scope.kind=.function
 glob:X.env.globals=gS
 blt:X.env.builtins=builtinsNs
 above:X.s₀.heap.objs.size<=X.env.locals
 inj:∀x y c,X.env.cells.lookup x=some c->X.env.cells.lookup y=some c->x=y
 has:∀x,(X.env.kindOf x=some .cell\/X.env.kindOf x=some .free)->∃c,X.env.cells.lookup x=some c
 cab:∀x c,X.fn x=true->X.env.cells.lookup x=some c->X.s₀.heap.objs.size<=c
 hd:X.calm=true->X.A.handled=none
 frames:X.A.frames=some X.stack
 stk:X.stack=X.outer\/(X.stack=X.env::X.outer/\X.env.frame=some X.env.locals)
 exf:∀b∈X.ex,b≠X.env.locals/\∀x c,X.env.cells.lookup x=some c->c≠b
 bs:∀b o,X.base.get? b=some o->X.s₀.heap.get? b=some o/\X.H₀ b=none
 bsz:X.base.objs.size<=X.s₀.heap.objs.size
 noex:∀b o,X.base.get? b=some o->b ∉ X.ex
 exfs:∀b∈X.ex,b ∉ X.fs
 funs:X.s₀.heap.FunFrames X.base X.outer
 frf:∀b∈X.fs,X.H₀ b=none
structure Inv (X:Cx) (pins:List (Addr×nW)) (σ:List (Option V)) (H:Hp) (s:Shared):Prop where
 ok:X.Ok
 os:s.os=X.s₀.os
 bare:jcL s.gens
 base:Un X.fs X.ex X.H₀ H X.s₀.heap s.heap
 loc:∃m,s.heap.Ns X.env.locals m/\∀(i:Nat) (x:Str) (v:V),X.N[i]?=some x->σ[i]?=some (some v)->Vis X.env.scope x->∃u,jV v u/\Look X.env s.heap m x u
 cell:∀x c,X.env.cells.lookup x=some c->∃v,s.heap.IsCell c v
 free:H X.env.locals=none
 freeC:∀x c,X.env.cells.lookup x=some c->H c=none
 pin:∀p∈X.pn++pins,s.heap.get? p.1=some p.2/\H p.1=none/\p.1≠X.env.locals/\p.1 ∉ X.fs/\∀v,p.2.data ≠ .cell v
 hok:HOk X.prog X.w H s.heap
 len:σ.length=X.N.length
variable{g':Array pL}{t' i j:Nat}{d':Drawn}{ch:List Addr}{it:Addr}{x:Str}{e:Expr}{N:List Str}{M:Model}{A:mz}{E:bp->Shared->Prop}{v:V}{Q:Unit->Shared->Prop}{s':Shared}
section
variable {X:Cx} {pins:List (Addr×nW)} {σ:List (Option V)} {H H':Hp} {s:Shared} {h':gQ}
theorem Cx.Ok.nofr(ok:X.Ok){b:Addr}(e:X.base.get? b=some o):b ∉ X.fs:=λhb=>by
 have:=(ok.funs.mem hb).1;rw[e]at this;cases this
theorem Inv.bs(I:Inv X pins σ H s):∀b o,X.base.get? b=some o->s.heap.get? b=some o/\H b=none:=λb o e =>
 ⟨I.base.keep b o (I.ok.bs b o e).1 (I.ok.bs b o e).2 (I.ok.nofr e) (I.ok.noex b o e),I.base.free b o (I.ok.bs b o e).1 (I.ok.bs b o e).2 (I.ok.noex b o e)⟩
theorem Inv.bk(I:Inv X pins σ H s):∀b o,X.base.get? b=some o->s.heap.get? b=some o:=λb o e=>(I.bs b o e).1
theorem Inv.mod(I:Inv X pins σ H s):Mod X.K X.mg X.base:=I.ok.mod
theorem Inv.kIn(I:Inv X pins σ H s):X.K.In s.heap:=I.ok.mod.kin.keeps I.bk
theorem Inv.lt(I:Inv X pins σ H s):X.env.locals<s.heap.objs.size:=let ⟨_,hn,_⟩:=I.loc;hn.lt
theorem Inv.sz(I:Inv X pins σ H s):X.s₀.heap.objs.size<=s.heap.objs.size:=bS I.ok.above (jeY I.lt)
theorem Inv.nofs(I:Inv X pins σ H s)(h:s.heap.objs.size<=a):a ∉ X.fs:=λhb=>by
 obtain⟨_,o,ho,_⟩:=I.ok.funs.mem hb;exact absurd (dC (bP ho) (bS I.sz h)) (gB _)
theorem Inv.cne(I:Inv X pins σ H s):∀x c,X.env.cells.lookup x=some c->c≠X.env.locals:=λx c e z=>by
 obtain⟨v,o,ho,hd⟩:=I.cell x c e;obtain⟨m,⟨o',es,ep,ho',hd',_⟩,_⟩:=I.loc;rw[z,ho']at ho;cases ho;rw[hd']at hd;cases hd
theorem Inv.funs(I:Inv X pins σ H s):s.heap.FunFrames X.base X.outer:=by
 have all:∀(l:List Env),(∀b∈frs l,b∈X.fs)->X.s₀.heap.FunFrames X.base l->s.heap.FunFrames X.base l:=by
  intro l
  induction l with
  |nil=>intro _ _;trivial
  |cons env r ih =>
   intro hs hl;obtain⟨hk,⟨L,o,hf,hn,ho,hd⟩,hr⟩:=hl;have hL:L∈X.fs:=hs L (by unfold frs;rw[sC,hf];exact bC)
   obtain⟨sl,e⟩:=I.base.slot L o ho (I.ok.frf L hL) hL λz=>I.ok.exfs L z hL
   exact⟨hk,⟨L,_,hf,hn,e,hd⟩,ih (λb hb=>hs b (by unfold frs;rw[sC,hf];exact bo _ hb)) hr⟩
 exact all X.outer (λ_ hb=>hb) I.ok.funs
theorem Inv.stack(I:Inv X pins σ H s):s.heap.FunFrames X.base X.stack:=by
 rcases I.ok.stk with e|⟨e,hf⟩
 ·rw[e];exact I.funs
 ·rw[e];obtain⟨m,hn,_⟩:=I.loc;refine .cons (by rw[I.ok.kind];decide) hf hn ?_ I.funs;exact pZ (bS I.ok.bsz I.ok.above)
theorem Inv.stkSub(I:Inv X pins σ H s):∀b∈frs X.stack,b∈X.env.locals::X.fs:=λb hb=>by
 rcases I.ok.stk with e|⟨e,hf⟩
 ·rw[e]at hb;exact bo _ hb
 ·rw[e]at hb;unfold frs at hb;rw[sC,hf]at hb;exact hb
theorem Inv.stkFree(I:Inv X pins σ H s):∀b∈frs X.stack,H b=none:=λb hb=>by
 rcases bz.mp (I.stkSub b hb) with e|hb
 ·rw[e];exact I.free
 ·obtain⟨_,o,ho,_⟩:=I.ok.funs.mem hb
  exact I.base.free b o ho (I.ok.frf b hb) λz=>I.ok.exfs b z hb
theorem Inv.step(I:Inv X pins σ H s)
 (hch:∀b∈ch,(b∈X.ex\/X.s₀.heap.objs.size<=b)/\b≠X.env.locals/\(∀x c,X.env.cells.lookup x=some c->c≠b)/\∀p∈X.pn++pins,p.1≠b)
 (keep:∀b o,b≠X.env.locals->b ∉ X.fs->b ∉ ch->s.heap.get? b=some o->H b=none->h'.get? b=some o)
 (slot:∀b o,b≠X.env.locals->b∈X.fs->b ∉ ch->s.heap.get? b=some o->H b=none->∃sl,h'.get? b=some { o with slots:=sl }) (free:∀b o,b ∉ ch->s.heap.get? b=some o->H b=none->H' b=none)
 (there:∀b o,b ∉ ch->s.heap.get? b=some o->∃o',h'.get? b=some o')
 (tups:∀b xs,H b=some (.tup xs)->H' b=some (.tup xs)) (frzs:∀b o u,H b=some (.frz o u)->H' b=some (.frz o u)) (tbls:∀b ps,H b=some (.tbl ps)->∃more,H' b=some (.tbl (ps++more)))
 (ns:∀m,s.heap.Ns X.env.locals m->h'.Ns X.env.locals m) (hok:HOk X.prog X.w H' h') (hg:jcL g') :
 Inv X pins σ H' { s with heap:=h',gens:=g',drawn:=d',toks:=t' }:=by
 have neL:∀b o,X.s₀.heap.get? b=some o->b≠X.env.locals:=λb o e=>gI (dC (bP e) I.ok.above)
 have neC:∀b o,X.s₀.heap.get? b=some o->b ∉ X.ex->b ∉ ch:=λb o e hx hb=>by
  rcases(hch b hb).1 with z|z
  ·exact hx z
  ·exact absurd (dC (bP e) z) (gB _)
 have cellK:∀x c,X.env.cells.lookup x=some c->∀v,s.heap.IsCell c v->h'.IsCell c v:=λx c e v ⟨o,ho,hd⟩=>by
  have nch:c ∉ ch:=λz=>(hch c z).2.2.1 x c e rfl
  by_cases hc:c∈X.fs
  ·obtain⟨sl,q⟩:=slot c o (I.cne x c e) hc nch ho (I.freeC x c e);exact⟨_,q,hd⟩
  ·exact⟨o,keep c o (I.cne x c e) hc nch ho (I.freeC x c e),hd⟩
 refine⟨I.ok,I.os,hg,⟨λb o e n hb hx=>?_,λb o e n hb hx=>?_,λb o e n hx=>?_,λb o e hx=>?_,λb xs e=>tups b xs (I.base.tups b xs e),λb o xs e=>frzs b o xs (I.base.frzs b o xs e),λb ps e=>?_⟩,?_,λx c e=>?_,?_,λx c e=>?_,λp hp=>?_,hok,I.len⟩
 ·exact keep b o (neL b o e) hb (neC b o e hx) (I.base.keep b o e n hb hx) (I.base.free b o e n hx)
 ·obtain⟨sl,e1⟩:=I.base.slot b o e n hb hx;obtain⟨sl',e2⟩:=slot b _ (neL b o e) hb (neC b o e hx) e1 (I.base.free b o e n hx);exact⟨sl',e2⟩
 ·obtain⟨o',e1⟩:=I.base.there b o e hx;exact free b o' (neC b o e hx) e1 (I.base.free b o e n hx)
 ·obtain⟨o',e1⟩:=I.base.there b o e hx;exact there b o' (neC b o e hx) e1
 ·obtain⟨m1,e1⟩:=I.base.tbls b ps e;obtain⟨m2,e2⟩:=tbls b _ e1;exact⟨m1++m2,by rw[e2,Array.append_assoc]⟩
 ·obtain⟨m,hn,hl⟩:=I.loc;refine⟨m,ns m hn,λi x v e1 e2 e3=>?_⟩;obtain⟨u,r,l⟩:=hl i x v e1 e2 e3;refine⟨u,r,?_⟩;rcases l with l|⟨k,c,e,z⟩
  ·exact .inl l
  ·exact .inr ⟨k,c,e,cellK x c e _ z⟩
 ·obtain⟨v,z⟩:=I.cell x c e;exact⟨v,cellK x c e v z⟩
 ·obtain⟨m,⟨o,_,_,ho,_⟩,_⟩:=I.loc;exact free _ o (λz=>(hch _ z).2.1 rfl) ho I.free
 ·obtain⟨v,o,ho,hd⟩:=I.cell x c e;exact free c o (λz=>(hch c z).2.2.1 x c e rfl) ho (I.freeC x c e)
 ·obtain⟨e,n,ne,nf,d⟩:=I.pin p hp
  have nch:p.1 ∉ ch:=λz=>(hch p.1 z).2.2.2 p hp rfl
  exact⟨keep p.1 p.2 ne nf nch e n,free p.1 p.2 nch e n,ne,nf,d⟩
theorem Inv.un(I:Inv X pins σ H s)(u:Un X.fs [] H H' s.heap h')(hok:HOk X.prog X.w H' h'):Inv X pins σ H' { s with heap:=h',toks:=t' }:=by
 obtain⟨m,⟨o,es,ep,ho,r⟩,_⟩:=id I.loc;obtain⟨sl,hL⟩:=u.any ho I.free (by simp)
 exact I.step (g':=s.gens) (d':=s.drawn) (ch:=[]) (λ_ z=>nomatch z) (λb o _ hb _ e n=>u.keep b o e n hb (by simp)) (λb o _ hb _ e n=>u.slot b o e n hb (by simp)) (λb o _ e n=>u.free b o e n (by simp)) (λb o _ e=>u.there b o e (by simp)) u.tups u.frzs u.tbls (λm' hm=>by
  obtain⟨o',es',ep',ho',r'⟩:=hm;rw[ho]at ho';cases ho'
  exact⟨_,es',ep',hL,r'⟩) hok I.bare
theorem Inv.call(I:Inv X pins σ H s)(u:Un (frs X.stack) ch H H' s.heap h')(hok:HOk X.prog X.w H' h')(hg:jcL g')
 (hch:∀b∈ch,(b∈X.ex\/X.s₀.heap.objs.size<=b)/\b≠X.env.locals/\(∀x c,X.env.cells.lookup x=some c->c≠b)/\∀p∈X.pn++pins,p.1≠b) :
 Inv X pins σ H' { s with heap:=h',gens:=g',drawn:=d',toks:=t' }:=by
 obtain⟨m,⟨o,es,ep,ho,r⟩,_⟩:=id I.loc
 obtain⟨sl,hL⟩:=u.any ho I.free λz=>(hch _ z).2.1 rfl
 exact I.step (ch:=ch) hch (λb o hL hb hc e n=>u.keep b o e n (λz=>(bz.mp (I.stkSub b z)).elim hL hb) hc) (λb o _ _ hc e n=>u.any e n hc) (λb o hc e n=>u.free b o e n hc) (λb o hc e=>u.there b o e hc) u.tups u.frzs u.tbls (λm' hm=>by
  obtain⟨o',es',ep',ho',r'⟩:=hm;rw[ho]at ho';cases ho'
  exact⟨_,es',ep',hL,r'⟩) hok hg
theorem Inv.turned(I:Inv X pins σ H s)(k:∀b o,b≠it->s.heap.get? b=some o->h'.get? b=some o)(hn:H it=none)(hL:it≠X.env.locals)
 (h1:it∈X.ex\/X.s₀.heap.objs.size<=it) (h2:∀x c,X.env.cells.lookup x=some c->c≠it) (h3:∀p∈X.pn++pins,p.1≠it):Inv X pins σ H { s with heap:=h',toks:=t' }:=by
 have nit:∀b u,H b=some u->b≠it:=λb u e z=>by rw[z,hn]at e;cases e
 refine I.step (g':=s.gens) (d':=s.drawn) (ch:=[it]) (λb hb=>?_) (λb o _ _ hc e _=>k b o (λz=>hc (by simp[z])) e) (λb o _ _ hc e _=>⟨o.slots,k b o (λz=>hc (by simp[z])) e⟩) (λ_ _ _ _ n=>n)
  (λb o hc e=>⟨o,k b o (λz=>hc (by simp[z])) e⟩) (λ_ _ e=>e) (λ_ _ _ e=>e) (λb ps e=>⟨#[],by rw[e];simp⟩) (λm hm=>?_) (λb u e=>?_) I.bare
 ·have e:b=it:=by simpa using hb
  subst e;exact⟨h1,hL,h2,h3⟩
 ·obtain⟨o,es,ep,ho,r⟩:=hm;exact⟨o,es,ep,k _ o (gV hL) ho,r⟩
 ·refine(I.hok b u e).stay (λc v hc q=>k c v ?_ q) (λ_ q=>q) λ_ _ q=>q
  rcases hc with z|z
  ·rw[z];exact nit b u e
  ·exact nit c _ z
theorem Inv.tok(I:Inv X pins σ H s)(t:Nat):Inv X pins σ H { s with toks:=t }:=I.un (h':=s.heap) (t':=t) Un.refl I.hok
theorem Inv.kept(I:Inv X pins σ H s)(k:∀b u,s.heap.get? b=some u->h'.get? b=some u):Inv X pins σ H { s with heap:=h',toks:=t' }:=I.un (Un.kept k) (I.hok.kept k)
theorem Inv.laid{o:HO}(I:Inv X pins σ H s)(k:∀b u,s.heap.get? b=some u->h'.get? b=some u)(hp:s.heap.objs.size<=a)(new:qP X.prog X.w (upd H a o) h' a o) :
 Inv X pins σ (upd H a o) { s with heap:=h',toks:=t' }:=I.un (Un.laid k hp (I.hok.fresh hp)) (I.hok.laid k hp new)
theorem Inv.write{x e:Addr}{o:HO}(I:Inv X pins σ H s)(mu:Mut (H x))(he:e=x\/H e=some (.own x))(k:∀b u,b≠e->s.heap.get? b=some u->h'.get? b=some u)(heo:∃u,h'.get? e=some u)
 (new:qP X.prog X.w (upd H x o) h' x o):Inv X pins σ (upd H x o) { s with heap:=h',toks:=t' }:=I.un (Un.write mu he k heo) (I.hok.write mu he k heo new)
theorem Inv.pins_of{pins':List (Addr×nW)}(I:Inv X pins σ H s)(h:∀p∈pins',s.heap.get? p.1=some p.2/\H p.1=none/\p.1≠X.env.locals/\p.1 ∉ X.fs/\∀v,p.2.data ≠ .cell v):Inv X pins' σ H s :=
 ⟨I.ok,I.os,I.bare,I.base,I.loc,I.cell,I.free,I.freeC,λp hp=>(dI.mp hp).elim (λz=>I.pin p (dh _ z)) (h p),I.hok,I.len⟩
theorem QY(hN:N.Nodup)(a:N[i]?=some x)(b:N[j]?=some x):i=j:=by
 obtain⟨h1,e1⟩:=g6.mp a;obtain⟨h2,e2⟩:=g6.mp b;exact(List.getElem_inj hN).mp (e1.trans e2.symm)
theorem KA(I:Inv X pins σ H s)(hN:X.N.Nodup)(hi:X.N[i]?=some x)(hx:Loc X.env.scope x)(r:jV v u)
 (h:∀s',Inv X pins (σ.set i (some v)) H s'->(∃a,nP a s.heap s'.heap/\(a=X.env.locals\/X.env.cells.lookup x=some a))->Q () s') (hf:X.fn x=true\/X.env.scope.names.lookup x=some .local:=by first|exact .inl rfl|exact .inr rfl|assumption):wpAny M A (storeName X.env x u) Q E s:=by
 obtain⟨m,hn,hl⟩:=id I.loc
 have hcls:(X.env.scope.kind == .class ||(X.env.scope.kind == .module&&X.env.locals != X.env.globals))=false:=by rw[I.ok.kind];rfl
 have hiσ:i<σ.length:=by rw[I.len];exact(g6.mp hi).1
 have cne:=I.cne
 have tracked:∀ {a:Addr} {h':gQ},(∃o,s.heap.get? a=some o/\H a=none)->nP a s.heap h'->HOk X.prog X.w H h':=λ{a h'} ha hs b ob e=>by
  obtain⟨_,_,hfree⟩:=ha
  refine(I.hok b ob e).stay (λc w' hc q=>(hs.2 c ?_).trans q) (λ_ q=>q) λ_ _ q=>q
  rintro rfl;rcases hc with rfl|hc
  ·rw[hfree]at e;cases e
  ·rw[hfree]at hc;cases hc
 rcases hx with hk|hk
 ·refine wpAny_storeName_local hk hn (λh' hn' hs=>?_) hcls;obtain⟨oL,_,_,hoL,_⟩:=id hn;refine h _ ⟨I.ok,I.os,I.bare,⟨λb o e n hb hx=>?_,λb o e n hb hx=>?_,I.base.free,λb o e hx=>?_,I.base.tups,I.base.frzs,I.base.tbls⟩,⟨_,hn',λj y v' e1 e2 e3=>?_⟩,λy c e=>?_,I.free,I.freeC,λp hp=>?_,tracked ⟨oL,hoL,I.free⟩ hs,by simpa using I.len⟩ ⟨_,hs,.inl rfl⟩
  ·exact(hs.2 b (gI (dC (bP e) I.ok.above))).trans (I.base.keep b o e n hb hx)
  ·obtain⟨sl,e1⟩:=I.base.slot b o e n hb hx;exact⟨sl,(hs.2 b (gI (dC (bP e) I.ok.above))).trans e1⟩
  ·obtain⟨o',e1⟩:=I.base.there b o e hx;exact⟨o',(hs.2 b (gI (dC (bP e) I.ok.above))).trans e1⟩
  ·by_cases hj:j=i
   ·subst hj;rw[hi]at e1;cases e1;rw[dO hiσ]at e2;cases e2;exact⟨u,r,.inl ⟨hk,by simp⟩⟩
   ·rw[dg (gV hj)]at e2;obtain⟨u',r',q⟩:=hl j y v' e1 e2 e3;refine⟨u',r',?_⟩;rcases q with⟨k,e⟩|⟨k,c,e,z⟩
    ·refine .inl ⟨k,?_⟩
     have:y≠x:=λe=>hj (QY hN e1 (e ▸ hi))
     simp[this,e]
    ·exact .inr ⟨k,c,e,z.sameBut hs (cne y c e)⟩
  ·obtain⟨w',z⟩:=I.cell y c e;exact⟨w',z.sameBut hs (cne y c e)⟩
  ·obtain⟨e,n,ne,nf,d⟩:=I.pin p hp;exact⟨(hs.2 p.1 ne).trans e,n,ne,nf,d⟩
 ·have hfn:X.fn x=true:=by
   rcases hf with z|z
   ·exact z
   ·rw[z]at hk;cases hk
  obtain⟨c,hc⟩:=I.ok.has x (.inl hk);obtain⟨w',z⟩:=I.cell x c hc;refine wpAny_storeName_cell I.ok.kind hk hc z (λh' hc' hs=>?_);obtain⟨oc,hoc,hocd⟩:=id z;refine h { s with heap:=h' } ⟨I.ok,I.os,I.bare,⟨λb o e n hb hx=>?_,λb o e n hb hx=>?_,I.base.free,λb o e hx=>?_,I.base.tups,I.base.frzs,I.base.tbls⟩,⟨m,hn.sameBut hs (gV (cne x c hc)),λj y v' e1 e2 e3=>?_⟩,λy c' e=>?_,I.free,I.freeC,λp hp=>?_,tracked ⟨oc,hoc,I.freeC x c hc⟩ hs,by simpa using I.len⟩ ⟨c,hs,.inr hc⟩
  ·exact(hs.2 b (gI (dC (bP e) (I.ok.cab x c hfn hc)))).trans (I.base.keep b o e n hb hx)
  ·obtain⟨sl,e1⟩:=I.base.slot b o e n hb hx;exact⟨sl,(hs.2 b (gI (dC (bP e) (I.ok.cab x c hfn hc)))).trans e1⟩
  ·obtain⟨o',e1⟩:=I.base.there b o e hx;exact⟨o',(hs.2 b (gI (dC (bP e) (I.ok.cab x c hfn hc)))).trans e1⟩
  ·by_cases hj:j=i
   ·subst hj;rw[hi]at e1;cases e1;rw[dO hiσ]at e2;cases e2;exact⟨u,r,.inr ⟨.inl hk,c,hc,hc'⟩⟩
   ·rw[dg (gV hj)]at e2;obtain⟨u',r',q⟩:=hl j y v' e1 e2 e3;refine⟨u',r',?_⟩;rcases q with q|⟨k,c',e,z'⟩
    ·exact .inl q
    ·refine .inr ⟨k,c',e,z'.sameBut hs ?_⟩;rintro rfl;exact hj (QY hN e1 (I.ok.inj _ _ _ e hc ▸ hi))
  ·by_cases hcc:c'=c
   ·subst hcc;exact⟨_,hc'⟩
   ·obtain⟨w2,z2⟩:=I.cell y c' e;exact⟨w2,z2.sameBut hs hcc⟩
  ·obtain⟨e,n,ne,nf,d⟩:=I.pin p hp;refine⟨(hs.2 p.1 ?_).trans e,n,ne,nf,d⟩;intro q;rw[q,hoc]at e;have q':oc=p.2:=gD e;exact d w' (by rw[<- q'];exact hocd)
theorem vP(I:Inv X pins σ H s)(hN:X.N.Nodup)(hi:X.N[i]?=some x)(hx:Loc X.env.scope x)(r:jV v u)
 (h:∀s',Inv X pins (σ.set i (some v)) H s'->Q () s') (hf:X.fn x=true\/X.env.scope.names.lookup x=some .local:=by first|exact .inl rfl|exact .inr rfl|assumption):wpAny M A (storeName X.env x u) Q E s :=
 KA I hN hi hx r (λs' I' _=>h s' I') hf
theorem Inv.call'(I:Inv X pins σ H s)(ho:s'.os=s.os)(u:Un (frs X.stack) ch H H' s.heap s'.heap)(hok:HOk X.prog X.w H' s'.heap)(hg:jcL s'.gens)
 (hch:∀b∈ch,(b∈X.ex\/X.s₀.heap.objs.size<=b)/\b≠X.env.locals/\(∀x c,X.env.cells.lookup x=some c->c≠b)/\∀p∈X.pn++pins,p.1≠b):Inv X pins σ H' s':=by
 obtain⟨h',g',d',t',o'⟩:=s';have e:o'=s.os:=ho;subst e;exact I.call (g':=g') (t':=t') (d':=d') u hok hg hch
end
abbrev XK:=bp->Option Addr->Hp->Prop
abbrev St:=List (Option V)
abbrev VK:=V->Hp->Prop
abbrev TE:=St->Hp->VK->Prop
abbrev TT:=St->Hp->(Bool->Hp->Prop)->Prop
abbrev TA:=St->Hp->(List V->Hp->Prop)->Prop
structure Ends where
 nx:St->Hp->Prop
 rt:VK
 bk:St->Hp->Prop:=λ_ _=>False
 ct:St->Hp->Prop:=λ_ _=>False
abbrev TS:=Ends->St->Hp->Prop
def EP(X:Cx)(pins:List (Addr×nW))(σ:St)(Q:VK)(u:bp)(s':Shared):Prop:=∃v H',Inv X pins σ H' s'/\jV v u/\Q v H'
def TP(X:Cx)(pins:List (Addr×nW))(σ:St)(Q:Bool->Hp->Prop)(b:Bool)(s':Shared):Prop:=∃H',Inv X pins σ H' s'/\Q b H'
def AP(X:Cx)(pins:List (Addr×nW))(σ:St)(Q:List V->Hp->Prop)(us:List bp)(s':Shared):Prop:=∃vs H',Inv X pins σ H' s'/\jH vs us/\Q vs H'
def SP(X:Cx)(pins:List (Addr×nW))(D:Ends)(f:Flow)(s':Shared):Prop :=
 match f with
 |.next=>∃σ' H',Inv X pins σ' H' s'/\D.nx σ' H'
 |.brk=>∃σ' H',Inv X pins σ' H' s'/\D.bk σ' H'
 |.cont=>∃σ' H',Inv X pins σ' H' s'/\D.ct σ' H'
 |.ret u=>∃v σ' H',Inv X pins σ' H' s'/\jV v u/\D.rt v H'
def PE(X:Cx)(e:Expr)(t:TE):Prop :=
 ∀(pins:List (Addr×nW)) (s:Shared) (σ:St) (H:Hp) (Q:VK),Inv X pins σ H s->t σ H Q->wpAny (model X.prog X.w) X.A (eval e X.env) (EP X pins σ Q) X.xe s
def PT(X:Cx)(e:Expr)(t:TT):Prop :=
 ∀(pins:List (Addr×nW)) (s:Shared) (σ:St) (H:Hp) (Q:Bool->Hp->Prop),Inv X pins σ H s->t σ H Q->wpAny (model X.prog X.w) X.A (isTrue e X.env (eval e X.env)) (TP X pins σ Q) X.xe s
def PW(X:Cx)(e:Expr)(t:TT):Prop :=
 ∀(whole:Sem bp) (pins:List (Addr×nW)) (s:Shared) (σ:St) (H:Hp) (Q:Bool->Hp->Prop),Inv X pins σ H s->t σ H Q->wpAny (model X.prog X.w) X.A (isTrue e X.env whole) (TP X pins σ Q) X.xe s
variable{X:Cx}{t:TE}
theorem PW.pt{t:TT}(h:PW X e t):PT X e t:=h _
def PA(X:Cx)(es:List Expr)(t:TA):Prop :=
 ∀(pos:Pos) (pins:List (Addr×nW)) (s:Shared) (σ:St) (H:Hp) (Q:List V->Hp->Prop),Inv X pins σ H s->t σ H Q->wpAny (model X.prog X.w) X.A (spliced (backTo pos (bU es X.env))) (AP X pins σ Q) X.xe s
def PS(X:Cx)(st:Stmt)(t:TS):Prop :=
 ∀(pins:List (Addr×nW)) (s:Shared) (σ:St) (H:Hp) (D:Ends),Inv X pins σ H s->t D σ H->wpAny (model X.prog X.w) X.A (exec st X.env) (SP X pins D) X.xe s
def PSs(X:Cx)(st:List Stmt)(t:TS):Prop :=
 ∀(pins:List (Addr×nW)) (s:Shared) (σ:St) (H:Hp) (D:Ends),Inv X pins σ H s->t D σ H->wpAny (model X.prog X.w) X.A (execs st X.env) (SP X pins D) X.xe s
theorem thn{α:Type}{t:Sem α}{Q Q':α->Shared->Prop}{s:Shared}(h:wpAny M A t Q E s)(hQ:∀a s,Q a s->Q' a s):wpAny M A t Q' E s:=gq h hQ λ_ _ x=>x
variable{Q:bp->Shared->Prop}{pos:Pos}{pins:List (Addr×nW)}{σ:St}{op:CmpOp}{c:Expr}
section
variable {X:Cx}
def tVar(i:Nat):TE:=λσ H Q=>∃v,σ[i]?=some (some v)/\Q v H
def tC(v:V):TE:=λ_ H Q=>Q v H
theorem kB(hN:X.N[i]?=some x)(hv:Vis X.env.scope x)(hd:(x == ("__debug__":Str))=false:=by decide)(hcd:(x == ("__classdict__":Str))=false:=by decide):PE X (.Name x pos) (tVar i):=by
 intro pins s σ H Q I h;obtain⟨v,e,h⟩:=h;obtain⟨m,hn,hl⟩:=I.loc;obtain⟨u,r,l⟩:=hl i x v hN e hv
 have fin:EP X pins σ Q u s:=⟨v,H,I,r,h⟩
 rcases l with⟨hk,hm⟩|⟨hk,c,hc,hcell⟩
 ·exact wpAny_Name (wpAny_loadName_local I.ok.kind hk hn hm fin) hd
 ·rcases hk with hk|hk
  ·exact wpAny_Name (wpAny_loadName_cell I.ok.kind hk hc hcell fin) hd
  ·exact wpAny_Name (wpAny_loadName_free I.ok.kind hk hc hcell fin hcd) hd
theorem Y9{i j pos}:PE X (.Constant (.int i) j pos) (tC (.int i)):=λ_ _ _ H _ I h=>wpAny_Constant_int ⟨.int i,H,I.tok _,⟨_,rfl⟩,h⟩
theorem V6{b j pos}:PE X (.Constant (.bool b) j pos) (tC (.bl b)):=λ_ _ _ H _ I h=>Constant_bool ⟨.bl b,H,I,rfl,h⟩
theorem jaP{j pos}:PE X (.Constant .none j pos) (tC .non):=λ_ _ _ H _ I h=>Constant_none ⟨.non,H,I,rfl,h⟩
theorem Ym{x j pos}:PE X (.Constant (.str x) j pos) (tC (.str x)):=λ_ _ _ H _ I h=>Calls.Constant_str ⟨.str x,H,I.tok _,⟨_,rfl⟩,h⟩
def Gl(X:Cx)(x:Str):Prop:=X.env.kindOf x=some .globalImplicit
theorem uF{s:Shared}(I:Inv X pins σ H s)(hg:Gl X x)(hm:X.mg x=some u)(h:Q u s)
 (hd:(x == ("__debug__":Str))=false:=by decide):wpAny (model X.prog X.w) X.A (eval (.Name x pos) X.env) Q E s :=
 jcW I.ok.kind hg (Calls.loadGlobal_global (by rw[I.ok.glob];exact I.mod.glob.keeps I.bk) hm h) hd
theorem uV{s:Shared}(I:Inv X pins σ H s)(hg:Gl X x)(hm:X.mg x=none)(hv:si x=some u)(h:Q u s)
 (hn:x ≠ "__name__":=by decide) (hd:(x == ("__debug__":Str))=false:=by decide):wpAny (model X.prog X.w) X.A (eval (.Name x pos) X.env) Q E s:=by
 obtain⟨mb,h1,h2⟩:=I.mod.blt;exact jcW I.ok.kind hg (Calls.loadGlobal_builtin (by rw[I.ok.glob];exact I.mod.glob.keeps I.bk) hm (by rw[I.ok.blt];exact h1.keeps I.bk) ((h2 x hn).trans hv) h) hd
theorem K7(hg:Gl X x)(hm:X.mg x=some u)(r:jV v u)(hd:(x == ("__debug__":Str))=false:=by decide):PE X (.Name x pos) (tC v) :=
 λ_ _ _ H _ I h=>uF I hg hm ⟨v,H,I,r,h⟩ hd
theorem ZI(hg:Gl X x)(hm:X.mg x=none)(hv:si x=some u)(r:jV v u)(hn:x ≠ "__name__":=by decide)(hd:(x == ("__debug__":Str))=false:=by decide):PE X (.Name x pos) (tC v) :=
 λ_ _ _ H _ I h=>uV I hg hm hv ⟨v,H,I,r,h⟩ hn hd
variable {a b:Expr} {ta tb:TE} {pos:Pos}
def PC(X:Cx)(op:CmpOp)(a b:Expr)(t:TE):Prop :=
 ∀(pins:List (Addr×nW)) (s:Shared) (σ:St) (H:Hp) (Q:VK),Inv X pins σ H s->t σ H Q ->
  wpAny (model X.prog X.w) X.A (eval a X.env) (λv s₁=>wpAny (model X.prog X.w) X.A (eval b X.env) (λu s₂=>wpAny (model X.prog X.w) X.A (mS op v u) (EP X pins σ Q) X.xe s₂) X.xe s₁) X.xe s
theorem ja2(b:Expr)(h:op ≠ .In)(h2:op ≠ .NotIn):nX op b=false:=by
 have e1:(op == CmpOp.In)=false:=by cases op<;>first|rfl|exact absurd rfl h
 have e2:(op == CmpOp.NotIn)=false:=by cases op<;>first|rfl|exact absurd rfl h2
 cases b<;>simp[nX,e1,e2]
def tIsN(ta:TE):TE:=λσ H Q=>ta σ H λx H1=>Q (.bl (decide (x=.non))) H1
theorem jV.none_iff{x:V}{v:bp}(r:jV x v):(v == pY)=decide (x=.non):=by
 cases x with
 |non=>cases r;rfl
 |bl _=>cases r;rfl
 |int _=>obtain⟨t,rfl⟩:=r;rfl
 |str _=>obtain⟨t,rfl⟩:=r;rfl
 |byt _=>obtain⟨t,rfl⟩:=r;rfl
 |flt _=>obtain⟨t,rfl⟩:=r;rfl
 |ref _=>cases r;rfl
 |ty _=>cases r;rfl
theorem pc_isN{j pos'}(ha:PE X a ta):PC X .Is a (.Constant .none j pos') (tIsN ta):=by
 intro pins s σ H Q I h
 refine thn (ha pins s σ H _ I h) λv s1 ⟨x,H1,I1,r1,q1⟩=>?_
 exact Constant_none (is_none_gen ⟨.bl _,H1,I1,by rw[r1.none_iff];rfl,q1⟩)
def tB(t:TE):TT:=λσ H Q=>t σ H λx H1=>∃c,x=.bl c/\Q c H1
theorem pt_cmp(h:PC X op a b t)(h1:nX op b=false:=by first|exact ja2 _ (by decide) (by decide)|rfl):PT X (.Compare a [op] [b] pos) (tB t):=by
 intro pins s σ H Q I hw;refine jdW (thn (h pins s σ H _ I hw) λv s1 h1=>thn h1 λu s2 h2=>thn h2 λc s3 ⟨x,H1,I1,r1,q1⟩=>?_) h1;obtain⟨d,rfl,q⟩:=q1;cases r1;exact mB ⟨H1,I1,q⟩
theorem pt_val(h:PE X e t)(he:∀whole,isTrue e X.env whole=(do let v <- whole;jeZ e.pos;sR [v] (truthy v)):=by intro _;rfl):PT X e (tB t):=by
 intro pins s σ H Q I hw;refine isTrue_plain (thn (h pins s σ H _ I hw) λv s1 ⟨x,H1,I1,r1,q1⟩=>?_) (he _);obtain⟨d,rfl,q⟩:=q1;cases r1;exact mB ⟨H1,I1,q⟩
variable {tA tB':TT} {rest:List Expr}
def tAnd(t u:TT):TT:=λσ H Q=>t σ H λc H1=>if c=true then u σ H1 Q else Q false H1
def tOr(t u:TT):TT:=λσ H Q=>t σ H λc H1=>if c=true then Q true H1 else u σ H1 Q
def tNot(t:TT):TT:=λσ H Q=>t σ H λc H1=>Q (!c) H1
theorem pw_and1(ha:PT X a tA):PW X (.BoolOp .And [a] pos) tA:=by
 intro wh pins s σ H Q I h;refine isTrue_and (thn (ha pins s σ H Q I h) λc s1 e=>?_)
 cases c with
 |true=>exact isTrue_and_nil e
 |false=>exact e
theorem pw_or1(ha:PT X a tA):PW X (.BoolOp .Or [a] pos) tA:=by
 intro wh pins s σ H Q I h;refine isTrue_or (thn (ha pins s σ H Q I h) λc s1 e=>?_)
 cases c with
 |false=>exact isTrue_or_nil e
 |true=>exact e
theorem pw_and(ha:PT X a tA)(hb:PW X (.BoolOp .And (b::rest) pos) tB'):PW X (.BoolOp .And (a::b::rest) pos) (tAnd tA tB'):=by
 intro wh pins s σ H Q I h;refine isTrue_and (thn (ha pins s σ H _ I h) λc s1 ⟨H1,I1,q1⟩=>?_)
 cases c with
 |true=>exact hb wh pins s1 σ H1 Q I1 q1
 |false=>exact⟨H1,I1,q1⟩
theorem pw_or(ha:PT X a tA)(hb:PW X (.BoolOp .Or (b::rest) pos) tB'):PW X (.BoolOp .Or (a::b::rest) pos) (tOr tA tB'):=by
 intro wh pins s σ H Q I h;refine isTrue_or (thn (ha pins s σ H _ I h) λc s1 ⟨H1,I1,q1⟩=>?_)
 cases c with
 |true=>exact⟨H1,I1,q1⟩
 |false=>exact hb wh pins s1 σ H1 Q I1 q1
theorem pt_not(ha:PT X a tA):PT X (.UnaryOp .Not a pos) (tNot tA):=by
 intro pins s σ H Q I h;exact isTrue_not (ha pins s σ H (λc H1=>Q (!c) H1) I h)
def tAndV(ta tb:TE):TE:=λσ H Q=>ta σ H λx H1=>∃c,x=.bl c/\if c=true then tb σ H1 Q else Q (.bl false) H1
def tOrV(ta tb:TE):TE:=λσ H Q=>ta σ H λx H1=>∃c,x=.bl c/\if c=true then Q (.bl true) H1 else tb σ H1 Q
def tNotV(ta:TE):TE:=λσ H Q=>ta σ H λx H1=>∃c,x=.bl c/\Q (.bl (!c)) H1
theorem Zi{op}(h:PE X a t):PE X (.BoolOp op [a] pos) t:=λpins s σ H Q I hw=>BoolOp_one (h pins s σ H Q I hw)
theorem X8(ha:PE X a ta)(hb:PE X (.BoolOp .And (b::rest) pos) tb):PE X (.BoolOp .And (a::b::rest) pos) (tAndV ta tb):=by
 intro pins s σ H Q I h;refine BoolOp_and (thn (ha pins s σ H _ I h) λv s1 ⟨x,H1,I1,r1,q1⟩=>?_);obtain⟨c,rfl,q1⟩:=q1;cases r1;refine mB ?_
 cases c with
 |true=>exact hb pins s1 σ H1 Q I1 q1
 |false=>exact⟨.bl false,H1,I1,rfl,q1⟩
theorem pe_or(ha:PE X a ta)(hb:PE X (.BoolOp .Or (b::rest) pos) tb):PE X (.BoolOp .Or (a::b::rest) pos) (tOrV ta tb):=by
 intro pins s σ H Q I h;refine BoolOp_or (thn (ha pins s σ H _ I h) λv s1 ⟨x,H1,I1,r1,q1⟩=>?_);obtain⟨c,rfl,q1⟩:=q1;cases r1;refine mB ?_
 cases c with
 |false=>exact hb pins s1 σ H1 Q I1 q1
 |true=>exact⟨.bl true,H1,I1,rfl,q1⟩
theorem pe_not(ha:PE X a ta):PE X (.UnaryOp .Not a pos) (tNotV ta):=by
 intro pins s σ H Q I h;refine UnaryOp_ (thn (ha pins s σ H _ I h) λv s1 ⟨x,H1,I1,r1,q1⟩=>?_);obtain⟨c,rfl,q1⟩:=q1;cases r1;exact not_of (mB ⟨.bl (!c),H1,I1,rfl,q1⟩)
def tIf(t:TT)(ta tb:TE):TE:=λσ H Q=>t σ H λc H1=>if c=true then ta σ H1 Q else tb σ H1 Q
theorem XW(hc:PT X c tA)(ha:PE X a ta)(hb:PE X b tb):PE X (.IfExp c a b pos) (tIf tA ta tb):=by
 intro pins s σ H Q I h;refine wpAny_IfExp (thn (hc pins s σ H _ I h) λd s1 ⟨H1,I1,q1⟩=>?_)
 cases d with
 |true=>exact ha pins s1 σ H1 Q I1 q1
 |false=>exact hb pins s1 σ H1 Q I1 q1
end
def SqL(K:bw)(H:Hp)(a:Addr)(xs:List V):Prop :=
 Rd H a (.lst xs) \/
  ∃(o:nW) (its:Array bp) (n:Nat),K.lookup a=some o/\o.cls=.type "list" /\ o.dict=none/\o.data=.seq its n/\its.size<=sizeLine/\jH xs its.toList
def SqT(K:bw)(H:Hp)(a:Addr)(xs:List V):Prop :=
 Rd H a (.tup xs) \/
  ∃(o:nW) (its:Array bp) (n:Nat),K.lookup a=some o/\o.cls=.type "tuple" /\ o.data=.seq its n/\its.size<=sizeLine/\jH xs its.toList
def absV:bp->Option V
 |.none=>some .non
 |.bool b=>some (.bl b)
 |.int i _=>some (.int i)
 |.str x _=>some (.str x)
 |.bytes b _=>some (.byt b)
 |.float b _=>some (.flt b)
 |.ref a=>some (.ref a)
 |.type n=>some (.ty n)
 |_=>none
theorem jV.abs{x:V}(r:jV x u):absV u=some x:=by
 cases x with
 |non=>cases r;rfl
 |bl _=>cases r;rfl
 |int _=>obtain⟨t,rfl⟩:=r;rfl
 |str _=>obtain⟨t,rfl⟩:=r;rfl
 |byt _=>obtain⟨t,rfl⟩:=r;rfl
 |flt _=>obtain⟨t,rfl⟩:=r;rfl
 |ref _=>cases r;rfl
 |ty _=>cases r;rfl
variable{y:V}
theorem jV.inj{x:V}(r:jV x u)(q:jV y u):x=y:=gD (r.abs.symm.trans q.abs)
theorem jH.inj:∀ {xs ys:List V} {us:List bp},jH xs us->jH ys us->xs=ys
 |_,_,_,.nil,.nil=>rfl
 |_,_,_,.cons r t,.cons r' t'=>by rw[r.inj r',jH.inj t t']
variable{K:bw}
section
variable {X:Cx} {pins:List (Addr×nW)} {σ:St} {H:Hp} {s:Shared} {a:Addr} {xs ys:List V}
theorem SqL.of(h:H a=some (.lst xs)):SqL K H a xs:=.inl (.inl h)
theorem SqT.of(h:H a=some (.tup xs)):SqT K H a xs:=.inl (.inl h)
theorem Inv.list(I:Inv X pins σ H s)(h:SqL X.K H a xs):∃its:List bp,jH xs its/\PlainL s.heap a its.toArray/\xs.length<=sizeLine:=by
 rcases h with h|⟨o,its,n,hk,hc,hd,hs,hz,r⟩
 ·obtain⟨z,its,n,r,e⟩:=h.ok I.hok;exact⟨its,r,⟨_,n,e,rfl,rfl,rfl⟩,z⟩
 ·refine⟨its.toList,r,⟨o,n,I.kIn a o hk,hc,hd,by simpa using hs⟩,?_⟩;have e:=r.length;simp only[jes]at e;omega
theorem Inv.tuple(I:Inv X pins σ H s)(h:SqT X.K H a xs):∃its:List bp,jH xs its/\IsTup s.heap a its.toArray/\xs.length<=sizeLine:=by
 rcases h with h|⟨o,its,n,hk,hc,hs,hz,r⟩
 ·obtain⟨z,its,r,p⟩:=h.ok I.hok;exact⟨its,r,p,z⟩
 ·refine⟨its.toList,r,⟨o,I.kIn a o hk,hc,n,by simpa using hs⟩,?_⟩;have e:=r.length;simp only[jes]at e;omega
theorem Inv.list_inj(I:Inv X pins σ H s)(h:SqL X.K H a xs)(h':SqL X.K H a ys):xs=ys:=by
 obtain⟨its,r,⟨o,n,e,_,_,d⟩,_⟩:=I.list h;obtain⟨its',r',⟨o',n',e',_,_,d'⟩,_⟩:=I.list h';rw[e]at e';cases e';rw[d]at d';injection d' with d1 _
 have:its=its':=by simpa using congrArg Array.toList d1
 subst this;exact r.inj r'
theorem Inv.tuple_inj(I:Inv X pins σ H s)(h:SqT X.K H a xs)(h':SqT X.K H a ys):xs=ys:=by
 obtain⟨its,r,⟨o,e,_,n,d⟩,_⟩:=I.tuple h;obtain⟨its',r',⟨o',e',_,n',d'⟩,_⟩:=I.tuple h';rw[e]at e';cases e';rw[d]at d';injection d' with d1 _
 have:its=its':=by simpa using congrArg Array.toList d1
 subst this;exact r.inj r'
end
abbrev Cx.wish(X:Cx)(E:bp->Shared->Prop):Cx:={ X with xe:=E }
abbrev Cx.nox(X:Cx):Cx:=X.wish λ_ _=>False
theorem Cx.Ok.wish(ok:X.Ok)(E:bp->Shared->Prop):(X.wish E).Ok :=
 ⟨ok.mod,ok.kind,ok.glob,ok.blt,ok.above,ok.inj,ok.has,ok.cab,ok.hd,ok.frames,ok.stk,ok.exf,ok.bs,ok.bsz,ok.noex,ok.exfs,ok.funs,ok.frf⟩
theorem Cx.Ok.unwish(ok:(X.wish E).Ok):X.Ok :=
 ⟨ok.mod,ok.kind,ok.glob,ok.blt,ok.above,ok.inj,ok.has,ok.cab,ok.hd,ok.frames,ok.stk,ok.exf,ok.bs,ok.bsz,ok.noex,ok.exfs,ok.funs,ok.frf⟩
variable{f:bp->bp->Sem bp}
section
variable {X:Cx} {pins:List (Addr×nW)} {σ:St} {H:Hp} {s:Shared} {E:bp->Shared->Prop}
theorem Inv.wish(I:Inv X pins σ H s)(E:bp->Shared->Prop):Inv (X.wish E) pins σ H s:=⟨I.ok.wish E,I.os,I.bare,I.base,I.loc,I.cell,I.free,I.freeC,I.pin,I.hok,I.len⟩
theorem Inv.unwish(I:Inv (X.wish E) pins σ H s):Inv X pins σ H s:=⟨I.ok.unwish,I.os,I.bare,I.base,I.loc,I.cell,I.free,I.freeC,I.pin,I.hok,I.len⟩
theorem SP.unwish{D:Ends}{f:Flow}(h:SP (X.wish E) pins D f s'):SP X pins D f s':=by
 cases f with
 |next=>obtain⟨σ',H',I,q⟩:=h;exact⟨σ',H',I.unwish,q⟩
 |brk=>obtain⟨σ',H',I,q⟩:=h;exact⟨σ',H',I.unwish,q⟩
 |cont=>obtain⟨σ',H',I,q⟩:=h;exact⟨σ',H',I.unwish,q⟩
 |ret u=>obtain⟨v,σ',H',I,r,q⟩:=h;exact⟨v,σ',H',I.unwish,r,q⟩
theorem PT.nox{t:TT}(h:PT X.nox e t):PT X e t:=λpins s σ H Q I hw =>
 gq (h pins s σ H Q (I.wish _) hw) (λ_ _ ⟨H',I',q⟩=>⟨H',I'.unwish,q⟩) λ_ _ z=>mH z
theorem PSs.nox{st:List Stmt}{t:TS}(h:PSs X.nox st t):PSs X st t:=λpins s σ H D I hw =>
 gq (h pins s σ H D (I.wish _) hw) (λ_ _ q=>q.unwish) λ_ _ z=>mH z
end
variable{tc:TT}
section
variable {X:Cx} {st:Stmt} {rest:List Stmt} {t u:TS} {e:Expr} {te:TE} {pos:Pos}
def tNext:TS:=λD σ H=>D.nx σ H
def tSeq(t u:TS):TS:=λD σ H=>t { D with nx:=u D } σ H
theorem qU:PSs X [] tNext:=λ_ _ σ H _ I h=>wQ ⟨σ,H,I,h⟩
theorem kA(h1:PS X st t)(h2:PSs X rest u):PSs X (st::rest) (tSeq t u):=by
 intro pins s σ H D I h;refine wpAny_execs_cons (thn (h1 pins s σ H { D with nx:=u D } I h) λf s1 q=>?_)
 cases f with
 |next =>
  obtain⟨σ',H',I',q⟩:=q
  exact h2 pins s1 σ' H' D I' q
 |ret v=>exact q
 |brk=>exact q
 |cont=>exact q
theorem Ui(h1:PS X st t):PSs X [st] t:=by
 intro pins s σ H D I h;refine wpAny_execs_cons (thn (h1 pins s σ H D I h) λf s1 q=>?_)
 cases f with
 |next=>exact wQ q
 |ret v=>exact q
 |brk=>exact q
 |cont=>exact q
def tBreak:TS:=λD σ H=>D.bk σ H
def tCont:TS:=λD σ H=>D.ct σ H
theorem jbP:PS X (.Break pos) tBreak:=λ_ _ σ H _ I h=>wpAny_Break ⟨σ,H,I,h⟩
theorem XN:PS X (.Continue pos) tCont:=λ_ _ σ H _ I h=>wpAny_Continue ⟨σ,H,I,h⟩
theorem Inv.quiet{s:Shared}(I:Inv X pins σ H s):interactive X.env=false:=by simp[interactive,I.ok.kind]
def tDrop(te:TE):TS:=λD σ H=>te σ H λ_ H1=>D.nx σ H1
theorem vA(he:PE X e te)(hs:tI e none pos.line X.env=pure false:=by rfl):PS X (.Expr e pos) (tDrop te):=by
 intro pins s σ H D I h;exact wpAny_Expr_any (thn (he pins s σ H _ I h) λv s1 ⟨x,H1,I1,r1,q1⟩=>⟨σ,H1,I1,q1⟩) I.quiet hs
def tRet(te:TE):TS:=λD σ H=>te σ H D.rt
theorem Jq(he:PE X e te):PS X (.Return (some e) pos) (tRet te):=by
 intro pins s σ H D I h;exact wpAny_Return_some (thn (he pins s σ H _ I h) λv s1 ⟨x,H1,I1,r1,q1⟩=>⟨x,σ,H1,I1,r1,q1⟩)
def tIfS(c:TT)(t u:TS):TS:=λD σ H=>c σ H λb H1=>if b=true then t D σ H1 else u D σ H1
theorem jbH{a b:List Stmt}(hc:PT X c tc)(ha:PSs X a t)(hb:PSs X b u):PS X (.If c a b pos) (tIfS tc t u):=by
 intro pins s σ H D I h;refine wpAny_If (thn (hc pins s σ H _ I h) λd s1 ⟨H1,I1,q1⟩=>?_)
 cases d with
 |true=>exact ha pins s1 σ H1 D I1 q1
 |false=>exact hb pins s1 σ H1 D I1 q1
def tNever:TS:=λ_ _ _=>False
theorem jbf:PS X st tNever:=λ_ _ _ _ _ _ h=>h.elim
end
abbrev TG:=V->St->Hp->(St->Hp->Prop)->Prop
abbrev TGs:=List V->St->Hp->(St->Hp->Prop)->Prop
def PG(X:Cx)(target:Expr)(t:TG):Prop :=
 ∀(pins:List (Addr×nW)) (s:Shared) (σ:St) (H:Hp) (v:V) (u:bp) (Q:St->Hp->Prop),Inv X pins σ H s->jV v u->t v σ H Q ->
  wpAny (model X.prog X.w) X.A (assign target X.env u) (λ_ s'=>∃σ' H',Inv X pins σ' H' s'/\Q σ' H') X.xe s
def PGs(X:Cx)(ts:List Expr)(t:TGs):Prop :=
 ∀(pins:List (Addr×nW)) (s:Shared) (σ:St) (H:Hp) (vs:List V) (us:List bp) (Q:St->Hp->Prop),Inv X pins σ H s->jH vs us->t vs σ H Q ->
  wpAny (model X.prog X.w) X.A (assignInOrder ((nk ts X.env).map (·.2)) us) (λ_ s'=>∃σ' H',Inv X pins σ' H' s'/\Q σ' H') X.xe s
abbrev TSet:=V->V->V->Hp->(Hp->Prop)->Prop
def PSet(X:Cx)(t:TSet):Prop :=
 ∀(pins:List (Addr×nW)) (s:Shared) (σ:St) (H:Hp) (o i v:V) (ov iv u:bp) (Q:Hp->Prop),Inv X pins σ H s->jV o ov->jV i iv->jV v u->t o i v H Q ->
  wpAny (model X.prog X.w) X.A (setItem ov iv u) (λ_ s'=>∃H',Inv X pins σ H' s'/\Q H') X.xe s
variable{es:List Expr}{k n:Nat}{tg:Expr}{te:TE}{g:TG}
section
variable {X:Cx} {pos:Pos}
def vj(i:Nat):TG:=λv σ H Q=>Q (σ.set i (some v)) H
theorem zt(hN:X.N.Nodup)(hi:X.N[i]?=some x)(hx:Loc X.env.scope x)(hf:X.fn x=true\/X.env.scope.names.lookup x=some .local:=by first|exact .inl rfl|exact .inr rfl|assumption):PG X (.Name x pos) (vj i):=by
 intro pins s σ H v u Q I r h;exact jdb (vP I hN hi hx r (λs' I'=>⟨_,H,I',h⟩) hf)
def gNil:TGs:=λvs σ H Q=>vs=[]/\Q σ H
def gCons(t:TG)(u:TGs):TGs:=λvs σ H Q=>∃v r,vs=v::r/\t v σ H λσ' H'=>u r σ' H' Q
theorem pgs_nil:PGs X [] gNil:=by
 intro pins s σ H vs us Q I r h;obtain⟨e,h⟩:=h;subst e;cases r;exact assignInOrder_nil ⟨σ,H,I,h⟩
theorem jbp{t:TG}{u:TGs}(h1:PG X e t)(h2:PGs X es u)
 (hs:(nk (e::es) X.env).map (·.2)=assign e X.env::(nk es X.env).map (·.2):=by rfl):PGs X (e::es) (gCons t u):=by
 intro pins s σ H vs us Q I r h;obtain⟨v,vr,e1,h⟩:=h;subst e1
 cases r with
 |cons r rr =>
  rw[hs];refine assignInOrder_cons (thn (h1 pins s σ H _ _ _ I r h) λ_ s1 ⟨σ1,H1,I1,q1⟩=>?_);exact h2 pins s1 σ1 H1 _ _ Q I1 rr q1
def gTup(K:bw)(n:Nat)(t:TGs):TG:=λv σ H Q=>∃a xs,v=.ref a/\SqT K H a xs/\xs.length=n/\t xs σ H Q
theorem pg_tup{t:TGs}(hc:X.calm=true)(h:PGs X es t)
 (hn:(nk es X.env).length=n:=by rfl) (hst:(nk es X.env).findIdx? (·.1)=none:=by rfl):PG X (.Tuple es k pos) (gTup X.K n t):=by
 intro pins s σ H v u Q I r hw;obtain⟨a,xs,e1,hq,hl,hw⟩:=hw;subst e1;cases r;obtain⟨its,rv,ht,hz⟩:=I.tuple hq
 refine assign_Tuple_tuple (I.ok.hd hc) ht (by simp[hn,<- hl,rv.length]) hst λh' hx=>?_
 have I1:Inv X pins σ H { s with heap:=h' }:=I.kept (t':=s.toks) λb o e=>hx b o (gI (bP e)) e
 exact h pins _ σ H xs _ Q I1 (by simpa using rv) hw
def gSub(to ti:TE)(t:TSet):TG:=λv σ H Q=>to σ H λo H1=>ti σ H1 λi H2=>t o i v H2 λH3=>Q σ H3
theorem jbN{o i:Expr}{to ti:TE}{t:TSet}(ho:PE X o to)(hi:PE X i ti)(hs:PSet X t)
 (ha:∀v,assign (.Subscript o i pos) X.env v=(do
  let ov <- sR [v] (eval o X.env)
  let iv <- sR [v,ov] (eval i X.env)
  jeZ pos
  sR [v,ov,iv] (setItem ov iv v)
  release [v,ov,iv] []):=by intro _;rfl):PG X (.Subscript o i pos) (gSub to ti t):=by
 intro pins s σ H v u Q I r h;rw[ha];refine bg (dW (thn (ho pins s σ H _ I h) λov s1 ⟨x,H1,I1,r1,q1⟩=>?_));refine bg (dW (thn (hi pins s1 σ H1 _ I1 q1) λiv s2 ⟨y,H2,I2,r2,q2⟩=>?_));refine bg (pS (bg (dW (thn (hs pins s2 σ H2 x y v ov iv u _ I2 r1 r2 r q2) λ_ s3 ⟨H3,I3,q3⟩=>?_))));exact wpAny_release ⟨σ,H3,I3,q3⟩
def tAsg(te:TE)(g:TG):TS:=λD σ H=>te σ H λx H1=>g x σ H1 D.nx
theorem Yi(he:PE X e te)(hg:PG X tg g)(hs:jdh [tg] e pos.line X.env=pure false:=by rfl)(hw:swappedStores [tg] e X.env=pure none:=by rfl)
 (h1:(nk [tg] X.env).map (·.2)=[assign tg X.env]:=by rfl):PS X (.Assign [tg] e pos) (tAsg te g):=by
 intro pins s σ H D I h;refine wpAny_Assign_stores (thn (he pins s σ H _ I h) λv s1 ⟨x,H1,I1,r1,q1⟩=>?_) hs hw;rw[h1]
 exact thn (hg pins s1 σ H1 x v _ I1 r1 q1) λ_ s2 q=>q
theorem ye{pos':Pos}(hN:X.N.Nodup)(hi:X.N[i]?=some x)(hx:Loc X.env.scope x)(he:PE X e te)(hs:tI e (some (.Name x pos')) pos.line X.env=pure false:=by rfl)(hf:X.fn x=true\/X.env.scope.names.lookup x=some .local:=by first|exact .inl rfl|exact .inr rfl|assumption) :
 PS X (.Assign [.Name x pos'] e pos) (tAsg te (vj i)):=by
 intro pins s σ H D I h;refine wpAny_Assign_Name (thn (he pins s σ H _ I h) λv s1 ⟨y,H1,I1,r1,q1⟩=>?_) hs;exact vP I1 hN hi hx r1 (λs2 I2=>⟨_,H1,I2,q1⟩) hf
end
variable{body:List Stmt}{tb:TS}
section
variable {X:Cx} {pos:Pos}
def tWhile(c:TT)(tb:TS):TS:=λD σ H=>∃W:Nat->St->Hp->Prop,(∃m,W m σ H)/\∀m σ H,W m σ H ->
 c σ H λb H1=>if b=true then ∃N:St->Hp->Prop,(∀σ' H',N σ' H'->∃m',m'<m/\W m' σ' H')/\tb { D with nx:=N,ct:=N,bk:=D.nx } σ H1 else D.nx σ H1
theorem jbi(hp:PassesOwn (model X.prog X.w) X.A X.env X.xe)(hc:PT X c tc)(hb:PSs X body tb):PS X (.While c body [] pos) (tWhile tc tb):=by
 intro pins s σ H D I h;obtain⟨W,⟨m0,w0⟩,turn⟩:=h;refine wpAny_While (codeAny_whileLoop (λn s'=>∃σ' H',Inv X pins σ' H' s'/\W n σ' H') ?_ m0 ⟨σ,H,I,w0⟩);rintro n s1 ⟨σ1,H1,I1,w1⟩;refine nK hp (thn (hc pins s1 σ1 H1 _ I1 (turn n σ1 H1 w1)) λb s2 ⟨H2,I2,q2⟩=>?_)
 cases b with
 |true =>
  obtain⟨N,hN,q2⟩:=q2;rw[if_pos rfl];refine nK hp (thn (hb pins s2 σ1 H2 _ I2 q2) λf s3 q3=>?_)
  cases f with
  |next =>
   obtain⟨σ3,H3,I3,n3⟩:=q3;obtain⟨m',hm,w3⟩:=hN σ3 H3 n3
   exact⟨m',hm,σ3,H3,I3,w3⟩
  |cont =>
   obtain⟨σ3,H3,I3,n3⟩:=q3;obtain⟨m',hm,w3⟩:=hN σ3 H3 n3
   exact⟨m',hm,σ3,H3,I3,w3⟩
  |brk=>exact q3
  |ret v=>exact q3
 |false =>
  rw[if_neg dS];exact wQ ⟨σ1,H2,I2,q2⟩
end
structure It where
 go:Nat->Hp->Prop
 yld:Nat->Hp->V->Hp->Prop
 stop:Nat->Hp->Prop
def vh(X:Cx)(pins:List (Addr×nW))(H:Hp)(b:Addr):Prop :=
 H b=none/\b≠X.env.locals/\b ∉ X.fs/\(b∈X.ex\/X.s₀.heap.objs.size<=b)/\(∀x c,X.env.cells.lookup x=some c->c≠b)/\∀p∈X.pn++pins,p.1≠b
theorem Inv.fpOk{H':Hp}{s:Shared}{b:Addr}(I:Inv X pins σ H s)(hb:s.heap.objs.size<=b)(hn:H' b=none):vh X pins H' b:=by
 refine⟨hn,pH (dC I.lt hb),I.nofs hb,.inr (bS I.sz hb),λx c e z=>?_,λp hp z=>?_⟩
 ·obtain⟨v,q⟩:=I.cell x c e;exact absurd (dC q.lt (by rw[z];exact hb)) (gB _)
 ·exact absurd (dC (bP (I.pin p hp).1) (by rw[z];exact hb)) (gB _)
structure Turn (P:gj) (w:World) (K:bw) (tg:Expr) (J:It) (fp:List Addr) (it:Addr) (tn:Nat->gQ->Prop):Prop where
 mem:it∈fp
 obj:∀i h,tn i h->∀b∈fp,∃o,h.get? b=some o/\∀v,o.data ≠ .cell v
 keep:∀i h h',tn i h->(∀b∈fp,∀o,h.get? b=some o->h'.get? b=some o)->tn i h'
 item:∀(X:Cx),X.prog=P->X.w=w->X.K=K->X.calm=true->∀(i:Nat) (pins:List (Addr×nW)) (s:Shared) (σ:St) (H:Hp) (E:bp->Shared->Prop),Inv X pins σ H s->(∀b∈fp,vh X pins H b)->tn i s.heap->J.go i H ->
  wpAny (model P w) X.A (pyNext (.ref it)) (λr s1=>∃u,r=some u /\
   wpAny (model P w) X.A (pM tg (.ref it) u) (λ_ s2=>∃x H',Inv X pins σ H' s2/\jV x u/\J.yld i H x H'/\tn (i+1) s2.heap/\∀b∈fp,H' b=none) E s1) E s
 done:∀(X:Cx),X.prog=P->X.w=w->X.K=K->X.calm=true->∀(i:Nat) (pins:List (Addr×nW)) (s:Shared) (σ:St) (H:Hp) (E:bp->Shared->Prop),Inv X pins σ H s->(∀b∈fp,vh X pins H b)->tn i s.heap->J.stop i H ->
  wpAny (model P w) X.A (pyNext (.ref it)) (λr s1=>r=none/\Inv X pins σ H s1) E s
 self:∀(A:mz) (i:Nat) (s:Shared) (Q:bp->Shared->Prop) (E:bp->Shared->Prop),tn i s.heap->Q (.ref it) s->wpAny (model P w) A (pyIter (.ref it)) Q E s
abbrev TI:=St->Hp->(It->Hp->Prop)->Prop
def PIE(X:Cx)(pins:List (Addr×nW))(σ:St)(tg:Expr)(R:It->Hp->Prop)(itv:bp)(s2:Shared):Prop :=
 ∃(it:Addr) (fp:List Addr) (tn:Nat->gQ->Prop) (J:It) (H':Hp),itv=.ref it/\Inv X pins σ H' s2/\Turn X.prog X.w X.K tg J fp it tn/\tn 0 s2.heap/\(∀b∈fp,vh X pins H' b)/\R J H'
def PI(X:Cx)(tg iter:Expr)(wi:TI):Prop :=
 ∀(pins:List (Addr×nW)) (s:Shared) (σ:St) (H:Hp) (R:It->Hp->Prop),Inv X pins σ H s->wi σ H R ->
  wpAny (model X.prog X.w) X.A (eval iter X.env) (λv s1=>wpAny (model X.prog X.w) X.A (pyIter v) (PIE X pins σ tg R) X.xe s1) X.xe s
variable{vs:List V}
theorem jbt{s:Shared}{n:String}{vs:Array bp}{Q:Unit->Shared->Prop}(ho:s.heap.get? it=some o)(hc:o.cls=.type n)(hd:o.data=.fields vs)
 (hn:["enumerate","zip","dict_itemiterator","dict_reverseitemiterator","odict_iterator","itertools.zip_longest","itertools.pairwise"].contains n=false) (hQ:Q () s):wpAny M A (pM tg (.ref it) u) Q E s:=by
 unfold pM
 cases tg<;>first
  |exact bJ hQ
  |(cases u<;>first
   |exact bJ hQ
   |(refine bg (wpAny_load ho ?_)
     rw[hc,hd];show wpAny M A (if (["enumerate","zip","dict_itemiterator","dict_reverseitemiterator","odict_iterator","itertools.zip_longest","itertools.pairwise"].contains n&&vs[0]? == some (rawInt _))=true then _ else _) Q E s;rw[if_neg (by intro h;rw[hn,Bool.false_and]at h;cases h)]
     exact bJ hQ))
def Itl(K:bw)(a:Addr):It :=
 ⟨λi H=>∃xs x,SqL K H a xs/\xs[i]?=some x,λi H x H'=>H'=H/\∀xs,SqL K H a xs->xs[i]?=some x,λi H=>∃xs,SqL K H a xs/\xs.length<=i⟩
def Itt(K:bw)(a:Addr):It :=
 ⟨λi H=>∃xs x,SqT K H a xs/\xs[i]?=some x,λi H x H'=>H'=H/\∀xs,SqT K H a xs->xs[i]?=some x,λi H=>∃xs,SqT K H a xs/\xs.length<=i⟩
theorem Vu(a it:Addr):Turn P w K tg (Itl K a) [it] it (λi h=>h.IsListIter it a i) where
 mem:=by simp
 obj:=λi h st b hb=>by
  have e:b=it:=by simpa using hb
  subst e;obtain⟨o,e,c,d⟩:=st;exact⟨o,e,λv z=>by rw[d]at z;cases z⟩
 keep:=λi h h' st k=>st.at λo e=>k it (by simp) o e
 item:=by
  intro X hP hw hK hc i pins s σ H E I hf st hg;subst hP hw hK;obtain⟨xs,x,hq,hx⟩:=hg;obtain⟨its,rv,p,hz⟩:=I.list hq;obtain⟨u,hu,ru⟩:=rv.get hx;obtain⟨f0,f1,f2,f3,f4,f5⟩:=hf it (by simp)
  refine jdB st p.isList (x:=u) (by simpa using hu) λh' st' sb=>?_
  have I1:Inv X pins σ H { s with heap:=h' }:=I.turned (t':=s.toks) (λb o hb e=>(sb.2 b hb).trans e) f0 f1 f3 f4 f5;obtain⟨o,e,c,d⟩:=id st';exact⟨u,rfl,jbt (s:={ s with heap:=h' }) e c d (by decide) ⟨x,H,I1,ru,⟨rfl,λys hy=>by rw[I.list_inj hy hq];exact hx⟩,st',λb hb=>(hf b hb).1⟩⟩
 done:=by
  intro X hP hw hK hc i pins s σ H E I hf st hg;subst hP hw hK;obtain⟨xs,hq,hx⟩:=hg;obtain⟨its,rv,p,hz⟩:=I.list hq;obtain⟨f0,f1,f2,f3,f4,f5⟩:=hf it (by simp);have hl:=rv.length
  exact jdX (I.ok.hd hc) st p.isList (by simp;omega) λh' eb=>⟨rfl,I.turned (t':=s.toks) (λb o hb e=>eb b o hb e) f0 f1 f3 f4 f5⟩
 self:=λ_ _ _ _ _ st h=>wpAny_pyIter_listiter st h
theorem Zw(a it:Addr):Turn P w K tg (Itt K a) [it] it (λi h=>h.IsTupleIter it a i) where
 mem:=by simp
 obj:=λi h st b hb=>by
  have e:b=it:=by simpa using hb
  subst e;obtain⟨o,e,c,d⟩:=st;exact⟨o,e,λv z=>by rw[d]at z;cases z⟩
 keep:=λi h h' st k=>st.at λo e=>k it (by simp) o e
 item:=by
  intro X hP hw hK hc i pins s σ H E I hf st hg;subst hP hw hK;obtain⟨xs,x,hq,hx⟩:=hg;obtain⟨its,rv,p,hz⟩:=I.tuple hq;obtain⟨u,hu,ru⟩:=rv.get hx;obtain⟨f0,f1,f2,f3,f4,f5⟩:=hf it (by simp)
  refine wpAny_pyNext_tuple_item st (show s.heap.IsTuple a its.toArray from p) (x:=u) (by simpa using hu) λh' st' sb=>?_
  have I1:Inv X pins σ H { s with heap:=h' }:=I.turned (t':=s.toks) (λb o hb e=>(sb.2 b hb).trans e) f0 f1 f3 f4 f5;obtain⟨o,e,c,d⟩:=id st';exact⟨u,rfl,jbt (s:={ s with heap:=h' }) e c d (by decide) ⟨x,H,I1,ru,⟨rfl,λys hy=>by rw[I.tuple_inj hy hq];exact hx⟩,st',λb hb=>(hf b hb).1⟩⟩
 done:=by
  intro X hP hw hK hc i pins s σ H E I hf st hg;subst hP hw hK;obtain⟨xs,hq,hx⟩:=hg;obtain⟨its,rv,p,hz⟩:=I.tuple hq;obtain⟨f0,f1,f2,f3,f4,f5⟩:=hf it (by simp);have hl:=rv.length
  exact wpAny_pyNext_tuple_end (I.ok.hd hc) st (show s.heap.IsTuple a its.toArray from p) (by simp;omega) λh' eb=>⟨rfl,I.turned (t':=s.toks) (λb o hb e=>eb b o hb e) f0 f1 f3 f4 f5⟩
 self:=λ_ _ _ _ _ st h=>wpAny_pyIter_tupleiter st h
variable{fp:List Addr}
section
variable {X:Cx} {tg:Expr}
def tFor(wi:TI)(g:TG)(tb:TS):TS:=λD σ H=>wi σ H λJ H1=>∃W:Nat->Nat->St->Hp->Prop,(∃m,W 0 m σ H1)/\∀i m σ H,W i m σ H ->
 (J.stop i H/\D.nx σ H)\/(J.go i H/\∃N:St->Hp->Prop,(∀σ' H',N σ' H'->∃m',m'<m/\W (i+1) m' σ' H')/\∀x H',J.yld i H x H'->g x σ H' λσ2 H2=>tb { D with nx:=N,ct:=N,bk:=D.nx } σ2 H2)
def Qy(fp:List Addr)(h:gQ):List (Addr×nW):=fp.filterMap λb=>(h.get? b).map λo=>(b,o)
theorem qr{b:Addr}(hb:b∈fp)(e:h.get? b=some o):(b,o)∈Qy fp h:=tf.mpr ⟨b,hb,by rw[e];rfl⟩
theorem Vx{p:Addr×nW}(hp:p∈Qy fp h):p.1∈fp/\h.get? p.1=some p.2:=by
 obtain⟨b,hb,e⟩:=tf.mp hp
 cases q:h.get? b with
 |none=>rw[q]at e;cases e
 |some o =>
  rw[q]at e;have e':(b,o)=p:=gD e;subst e';exact⟨hb,q⟩
theorem Inv.pinned{s:Shared}(I:Inv X pins σ H s)(hf:∀b∈fp,vh X pins H b)(ho:∀b∈fp,∃o,s.heap.get? b=some o/\∀v,o.data ≠ .cell v):Inv X (pins++Qy fp s.heap) σ H s :=
 I.pins_of λp hp=>(dI.mp hp).elim (λz=>I.pin p (bX _ z)) λz=>by
  obtain⟨hb,e⟩:=Vx z;obtain⟨f0,f1,f2,_⟩:=hf p.1 hb;obtain⟨o,e',d⟩:=ho p.1 hb;rw[e]at e';cases e';exact⟨e,f0,f1,f2,d⟩
theorem Inv.unpinned{pl:List (Addr×nW)}{s:Shared}(I:Inv X (pins++pl) σ H s):Inv X pins σ H s:=I.pins_of λp hp=>I.pin p (bX _ (dh _ hp))
theorem JC{iter:Expr}{wi:TI}(hp:PassesOwn (model X.prog X.w) X.A X.env X.xe)(hc:X.calm=true)(hi:PI X tg iter wi)(hg:PG X tg g)(hb:PSs X body tb)
 (hs:∀x,mU iter X.env x=pure x:=by intro _;rfl):PS X (.For tg iter body [] pos) (tFor wi g tb):=by
 intro pins s σ H D I h;refine wpAny_For (thn (hi pins s σ H _ I h) λv s1 h1=>thn h1 λitv s2 h2=>?_) hs;obtain⟨it,fp,tn,J,H2,e,I2,T,st2,f2,W,⟨m0,w0⟩,turn⟩:=h2;subst e
 have stat:∀ {H':Hp},(∀b∈fp,H' b=none)->∀b∈fp,vh X pins H' b:=λhn b hb=>⟨hn b hb,(f2 b hb).2⟩
 refine codeAny_forLoop_any (λn s'=>∃i σ' H',Inv X pins σ' H' s'/\tn i s'.heap/\(∀b∈fp,H' b=none)/\W i n σ' H') ?_ m0 ⟨0,σ,H2,I2,st2,λb hb=>(f2 b hb).1,w0⟩;rintro n s3 ⟨i,σ3,H3,I3,st3,fr3,w3⟩;rcases turn i n σ3 H3 w3 with⟨stop,qn⟩|⟨go,N,hN,step⟩
 ·refine nK hp (thn (T.done X rfl rfl rfl hc i pins s3 σ3 H3 X.xe I3 (stat fr3) st3 stop) λr s4 ⟨hr,I4⟩=>?_);subst hr;exact wQ ⟨σ3,H3,I4,qn⟩
 ·refine nK hp (thn (T.item X rfl rfl rfl hc i pins s3 σ3 H3 X.xe I3 (stat fr3) st3 go) λr s4 ⟨u,hr,h4⟩=>?_);subst hr;refine nK hp (thn h4 λ_ s5 ⟨x,H5,I5,r5,y5,st5,fr5⟩=>?_);have I5':=I5.pinned (stat fr5) (T.obj _ _ st5);refine nK hp (thn (hg _ s5 σ3 H5 x u _ I5' r5 (step x H5 y5)) λ_ s6 ⟨σ6,H6,I6,q6⟩=>?_);refine nK hp (thn (hb _ s6 σ6 H6 _ I6 q6) λf s7 q7=>?_)
  have again:∀ {σ7:St} {H7:Hp},Inv X (pins++Qy fp s5.heap) σ7 H7 s7->N σ7 H7->∃m,m<n/\∃i σ' H',Inv X pins σ' H' s7/\tn i s7.heap/\(∀b∈fp,H' b=none)/\W i m σ' H':=λ{σ7 H7} I7 n7=>by
   obtain⟨m',hm,w7⟩:=hN σ7 H7 n7;refine⟨m',hm,i+1,σ7,H7,I7.unpinned,T.keep _ _ _ st5 λb hb o e=>(I7.pin (b,o) (bX _ (bX _ (qr hb e)))).1,λb hb=>?_,w7⟩;obtain⟨o,e,d⟩:=T.obj _ _ st5 b hb;exact(I7.pin (b,o) (bX _ (bX _ (qr hb e)))).2.1
  cases f with
  |next=>obtain⟨σ7,H7,I7,n7⟩:=q7;exact again I7 n7
  |cont=>obtain⟨σ7,H7,I7,n7⟩:=q7;exact again I7 n7
  |brk=>obtain⟨σ7,H7,I7,q7⟩:=q7;exact⟨σ7,H7,I7.unpinned,q7⟩
  |ret v=>obtain⟨x7,σ7,H7,I7,r7,q7⟩:=q7;exact⟨x7,σ7,H7,I7.unpinned,r7,q7⟩
end
abbrev R2:=V->V->Hp->VK->Prop
def OpR(X:Cx)(f:bp->bp->Sem bp)(r:R2):Prop :=
 ∀(pins:List (Addr×nW)) (s:Shared) (σ:St) (H:Hp) (x y:V) (v u:bp) (Q:VK),Inv X pins σ H s->jV x v->jV y u->r x y H Q ->
  wpAny (model X.prog X.w) X.A (f v u) (EP X pins σ Q) X.xe s
def UnR(X:Cx)(f:bp->Sem bp)(r:V->Hp->VK->Prop):Prop :=
 ∀(pins:List (Addr×nW)) (s:Shared) (σ:St) (H:Hp) (x:V) (v:bp) (Q:VK),Inv X pins σ H s->jV x v->r x H Q ->
  wpAny (model X.prog X.w) X.A (f v) (EP X pins σ Q) X.xe s
def xI(X:Cx)(f:bp)(r:List V->Hp->VK->Prop):Prop :=
 ∀(pins:List (Addr×nW)) (s:Shared) (σ:St) (H:Hp) (xs:List V) (us:List bp) (Q:VK),Inv X pins σ H s->jH xs us->r xs H Q ->
  wpAny (model X.prog X.w) X.A (call f us) (EP X pins σ Q) X.xe s
def tOp(r:R2)(ta tb:TE):TE:=λσ H Q=>ta σ H λx H1=>tb σ H1 λy H2=>r x y H2 Q
def tUn(r:V->Hp->VK->Prop)(ta:TE):TE:=λσ H Q=>ta σ H λx H1=>r x H1 Q
def rI(C:Int->Int->Prop)(g:Int->Int->V):R2:=λx y H Q=>∃i j,x=.int i/\y=.int j/\C i j/\Q (g i j) H
def rI0(g:Int->Int->V):R2:=λx y H Q=>∃i j,x=.int i/\y=.int j/\Q (g i j) H
def rU(g:Int->V):V->Hp->VK->Prop:=λx H Q=>∃i,x=.int i/\Q (g i) H
variable{g:Int->Int->Int}{r:R2}
section
variable {X:Cx} {a b c:Expr} {ta tb tc:TE} {pos:Pos}
theorem binT(ha:PE X a ta)(hb:PE X b tb){s:Shared}{R:V->V->Hp->Prop}(I:Inv X pins σ H s)
 (h:ta σ H λx H1=>tb σ H1 λy H2=>R x y H2)  
 (hf:∀v u s2 x y H2,Inv X pins σ H2 s2->jV x v->jV y u->R x y H2->wpAny (model X.prog X.w) X.A (f v u) Q X.xe s2) :
 wpAny (model X.prog X.w) X.A (eval a X.env) (λv s₁=>wpAny (model X.prog X.w) X.A (eval b X.env) (λu s₂=>wpAny (model X.prog X.w) X.A (f v u) Q X.xe s₂) X.xe s₁) X.xe s:=by
 refine thn (ha pins s σ H _ I h) λv s1 ⟨x,H1,I1,r1,q1⟩=>?_
 refine thn (hb pins s1 σ H1 _ I1 q1) λu s2 ⟨y,H2,I2,r2,q2⟩=>?_
 exact hf v u s2 x y H2 I2 r1 r2 q2
theorem jaR{op:je0}(ho:OpR X (wB op) r)(ha:PE X a ta)(hb:PE X b tb):PE X (.BinOp a op b pos) (tOp r ta tb):=by
 intro pins s σ H Q I h;exact wpAny_BinOp (binT ha hb I h λv u s2 x y H2 I2 rx ry q=>ho pins s2 σ H2 x y v u Q I2 rx ry q)
theorem pe_un{op:UnaryOp}{r:V->Hp->VK->Prop}(ho:UnR X (unaryOp op) r)(ha:PE X a ta):PE X (.UnaryOp op a pos) (tUn r ta):=by
 intro pins s σ H Q I h;exact UnaryOp_ (thn (ha pins s σ H _ I h) λv s1 ⟨x,H1,I1,r1,q1⟩=>ho pins s1 σ H1 x v Q I1 r1 q1)
theorem opI{C:Int->Int->Prop}
 (rule:∀(i j:Int) (t u:Tok) (s:Shared) (Q:bp->Shared->Prop) (E:bp->Shared->Prop),C i j->Q (.int (g i j) s.toks) { s with toks:=s.toks+1 }->wpAny (model X.prog X.w) X.A (f (.int i t) (.int j u)) Q E s) :
 OpR X f (rI C λi j=>.int (g i j)):=by
 intro pins s σ H x y v u Q I rx ry h;obtain⟨i,j,rfl,rfl,hc,q⟩:=h;obtain⟨t,rfl⟩:=rx;obtain⟨t',rfl⟩:=ry;exact rule i j t t' s _ _ hc ⟨.int (g i j),H,I.tok _,⟨_,rfl⟩,q⟩
theorem opI0
 (rule:∀(i j:Int) (t u:Tok) (s:Shared) (Q:bp->Shared->Prop) (E:bp->Shared->Prop),Q (.int (g i j) s.toks) { s with toks:=s.toks+1 }->wpAny (model X.prog X.w) X.A (f (.int i t) (.int j u)) Q E s) :
 OpR X f (rI0 λi j=>.int (g i j)):=by
 intro pins s σ H x y v u Q I rx ry h;obtain⟨i,j,rfl,rfl,q⟩:=h;obtain⟨t,rfl⟩:=rx;obtain⟨t',rfl⟩:=ry;exact rule i j t t' s _ _ ⟨.int (g i j),H,I.tok _,⟨_,rfl⟩,q⟩
theorem opB0{g:Int->Int->Bool}
 (rule:∀(i j:Int) (t u:Tok) (s:Shared) (Q:bp->Shared->Prop) (E:bp->Shared->Prop),Q (.bool (g i j)) s->wpAny (model X.prog X.w) X.A (f (.int i t) (.int j u)) Q E s) :
 OpR X f (rI0 λi j=>.bl (g i j)):=by
 intro pins s σ H x y v u Q I rx ry h;obtain⟨i,j,rfl,rfl,q⟩:=h;obtain⟨t,rfl⟩:=rx;obtain⟨t',rfl⟩:=ry;exact rule i j t t' s _ _ ⟨.bl (g i j),H,I,rfl,q⟩
theorem XZ(k:Nat):(0:Int)<=2^k:=by
 rw[two_pow_cast];exact Int.natCast_nonneg _
theorem op_shr:OpR X (wB .RShift) (rI (λ_ j=>0<=j) λi j=>.int (i / 2^j.toNat)):=opI λi j _ _ _ _ _ hc q =>
 rshift_int hc (by rw[jcX i (XZ _)];exact q)
theorem op_and:OpR X (wB .BitAnd) (rI0 λi j=>.int (p6 i j)):=opI0 λ_ _ _ _ _ _ _ q=>and_int q
theorem unI{f:bp->Sem bp}{g:Int->Int}
 (rule:∀(i:Int) (t:Tok) (s:Shared) (Q:bp->Shared->Prop) (E:bp->Shared->Prop),Q (.int (g i) s.toks) { s with toks:=s.toks+1 }->wpAny (model X.prog X.w) X.A (f (.int i t)) Q E s) :
 UnR X f (rU λi=>.int (g i)):=by
 intro pins s σ H x v Q I rx h;obtain⟨i,rfl,q⟩:=h;obtain⟨t,rfl⟩:=rx;exact rule i t s _ _ ⟨.int (g i),H,I.tok _,⟨_,rfl⟩,q⟩
theorem un_neg:UnR X (unaryOp .USub) (rU λi=>.int (-i)):=unI λ_ _ _ _ _ q=>neg_int q
end
def scal:V->V->Bool
 |.non,.non=>true|.non,.int _=>true|.int _,.non=>true|.non,.bl _=>true|.bl _,.non=>true|.non,.str _=>true|.str _,.non=>true
 |.int _,.int _=>true|.bl _,.bl _=>true|.str _,.str _=>true|.byt _,.byt _=>true
 |.int _,.str _=>true|.str _,.int _=>true|.bl _,.str _=>true|.str _,.bl _=>true
 |_,_=>false
def rEq:R2:=λx y H Q=>scal x y=true/\Q (.bl (decide (x=y))) H
theorem dec_int{i j:Int}:decide (V.int i=V.int j)=(i == j):=by
 rw[pN];simp
theorem dec_bl{i j:Bool}:decide (V.bl i=V.bl j)=(i == j):=by
 rw[pN];simp
theorem dec_str{i j:Str}:decide (V.str i=V.str j)=(i == j):=by
 rw[pN];simp
theorem dec_byt{i j:Array UInt8}:decide (V.byt i=V.byt j)=(i.toList == j.toList):=by
 rw[pN];cases i;cases j;simp
variable{Q:VK}
section
variable {X:Cx} {a b c:Expr} {ta tb tc:TE} {pos:Pos}
theorem kF{s:Shared}{k k':Bool}(I:Inv X pins σ H s)(q:Q (.bl k) H)(e:k=k'):EP X pins σ Q (.bool k') s:=by
 subst e;exact⟨.bl k,H,I,rfl,q⟩
theorem op_eq:OpR X (mS .Eq) rEq:=by
 intro pins s σ H x y v u Q I rx ry h;obtain⟨hs,q⟩:=h
 cases x with
 |non =>
  cases rx
  cases y with
  |non=>cases ry;exact PySem.EqNone.eq_none_none (kF I q (by simp))
  |bl j=>cases ry;exact PySem.EqNone.eq_none_bool (kF I q (by simp))
  |int j=>obtain⟨t',rfl⟩:=ry;exact PySem.EqNone.eq_none_int (kF I q (by simp))
  |str j=>obtain⟨t',rfl⟩:=ry;exact PySem.EqNone.eq_none_str (kF I q (by simp))
  |_=>exact absurd (show false=true from hs) dS
 |bl i =>
  cases rx
  cases y with
  |non=>cases ry;exact PySem.EqNone.eq_bool_none (kF I q (by simp))
  |bl j=>cases ry;exact eq_bool (kF I q dec_bl)
  |str j=>obtain⟨t',rfl⟩:=ry;exact PySem.EqMixed.eq_bool_str (kF I q (by simp))
  |_=>exact absurd (show false=true from hs) dS
 |int i =>
  obtain⟨t,rfl⟩:=rx
  cases y with
  |non=>cases ry;exact PySem.EqNone.eq_int_none (kF I q (by simp))
  |int j=>obtain⟨t',rfl⟩:=ry;exact eq_int (kF I q dec_int)
  |str j=>obtain⟨t',rfl⟩:=ry;exact PySem.EqMixed.eq_int_str (kF I q (by simp))
  |_=>exact absurd (show false=true from hs) dS
 |str i =>
  obtain⟨t,rfl⟩:=rx
  cases y with
  |non=>cases ry;exact PySem.EqNone.eq_str_none (kF I q (by simp))
  |bl j=>cases ry;exact PySem.EqMixed.eq_str_bool (kF I q (by simp))
  |int j=>obtain⟨t',rfl⟩:=ry;exact PySem.EqMixed.eq_str_int (kF I q (by simp))
  |str j=>obtain⟨t',rfl⟩:=ry;exact eq_str (kF I q dec_str)
  |_=>exact absurd (show false=true from hs) dS
 |byt i =>
  obtain⟨t,rfl⟩:=rx
  cases y with
  |byt j=>obtain⟨t',rfl⟩:=ry;exact PySem.W.eq_bytes (kF I q dec_byt)
  |_=>exact absurd (show false=true from hs) dS
 |_=>cases y<;>exact absurd (show false=true from hs) dS
theorem op_lt:OpR X (mS .Lt) (rI0 λi j=>.bl (decide (i<j))):=opB0 λ_ _ _ _ _ _ _ q=>lt_int q
theorem op_le:OpR X (mS .LtE) (rI0 λi j=>.bl (decide (i<=j))):=opB0 λ_ _ _ _ _ _ _ q=>le_int q
theorem op_gt:OpR X (mS .Gt) (rI0 λi j=>.bl (decide (j<i))):=opB0 λ_ _ _ _ _ _ _ q=>gt_int q
theorem op_ge:OpR X (mS .GtE) (rI0 λi j=>.bl (decide (j<=i))):=opB0 λ_ _ _ _ _ _ _ q=>ge_int q
theorem op_isN:OpR X (mS .Is) (λx y H Q=>y=.non/\Q (.bl (decide (x=.non))) H):=by
 intro pins s σ H x y v u Q I rx ry h;obtain⟨rfl,q⟩:=h;cases ry;refine is_none_gen (kF I q ?_)
 cases x<;>first
  |(cases rx;rfl)
  |(obtain⟨t,rfl⟩:=rx;rfl)
theorem op_notN:OpR X (mS .IsNot) (λx y H Q=>y=.non/\Q (.bl (!decide (x=.non))) H):=by
 intro pins s σ H x y v u Q I rx ry h;obtain⟨rfl,q⟩:=h;cases ry;refine isnot_none_gen (kF I q ?_)
 cases x<;>first
  |(cases rx;rfl)
  |(obtain⟨t,rfl⟩:=rx;rfl)
theorem nomark(b:Expr)(h:op ≠ .In:=by decide)(h2:op ≠ .NotIn:=by decide):nX op b=false:=by
 have e1:(op == CmpOp.In)=false:=by cases op<;>first|rfl|exact absurd rfl h
 have e2:(op == CmpOp.NotIn)=false:=by cases op<;>first|rfl|exact absurd rfl h2
 cases b<;>simp[nX,e1,e2]
theorem UM(ho:OpR X (mS op) r)(ha:PE X a ta)(hb:PE X b tb)(hm:nX op b=false):PE X (.Compare a [op] [b] pos) (tOp r ta tb):=by
 intro pins s σ H Q I h;exact wpAny_Compare1 (binT ha hb I h λv u s2 x y H2 I2 rx ry q=>ho pins s2 σ H2 x y v u Q I2 rx ry q) hm
def tTest(t:TE):TT:=λσ H Q=>t σ H λx H'=>∃k,x=.bl k/\Q k H'
theorem jcH(ho:OpR X (mS op) r)(ha:PE X a ta)(hb:PE X b tb)(hm:nX op b=false):PT X (.Compare a [op] [b] pos) (tTest (tOp r ta tb)):=by
 intro pins s σ H Q I h
 refine jdW (thn (ha pins s σ H _ I h) λv s1 ⟨x,H1,I1,r1,q1⟩=>thn (hb pins s1 σ H1 _ I1 q1) λu s2 ⟨y,H2,I2,r2,q2⟩ =>
  thn (ho pins s2 σ H2 x y v u _ I2 r1 r2 q2) λc s3 ⟨z,H3,I3,r3,k,e,q3⟩=>?_) hm
 subst e;cases r3;exact mB ⟨H3,I3,q3⟩
theorem Qc:(sizeLine:Nat)<2^63:=by rw[pF];decide
theorem ua{x:V}(r:jH [x] us):∃u,us=[u]/\jV x u:=by
 cases r with
 |cons r1 r2=>cases r2;exact⟨_,rfl,r1⟩
theorem Xc{x:V}(r:jH [x,y] us):∃u w',us=[u,w']/\jV x u/\jV y w':=by
 cases r with
 |cons r1 r2 =>
  cases r2 with
  |cons r3 r4=>cases r4;exact⟨_,_,rfl,r1,r3⟩
theorem jb1:xI X (.builtin "abs") (λxs H Q=>∃i,xs=[.int i]/\Q (.int (if i<0 then -i else i)) H):=by
 intro pins s σ H xs us Q I r h;obtain⟨i,rfl,q⟩:=h;obtain⟨u,rfl,t,rfl⟩:=ua r
 exact call_abs_int λu tk=>⟨.int (if i<0 then -i else i),H,I.tok _,⟨_,rfl⟩,q⟩
theorem Vz(hc:X.calm=true):xI X (.builtin "max") (λxs H Q=>∃i j,xs=[.int i,.int j]/\Q (.int (if j > i then j else i)) H):=by
 intro pins s σ H xs us Q I r h;obtain⟨i,j,rfl,q⟩:=h;obtain⟨u,w',rfl,⟨t,rfl⟩,⟨t',rfl⟩⟩:=Xc r
 refine max_two_ints (I.ok.hd hc) λh' tk k=>⟨_,H,I.kept k,?_,q⟩
 by_cases hj:j > i
 ·rw[if_pos hj,if_pos hj];exact⟨_,rfl⟩
 ·rw[if_neg hj,if_neg hj];exact⟨_,rfl⟩
theorem UU(hc:X.calm=true):xI X (.builtin "min") (λxs H Q=>∃i j,xs=[.int i,.int j]/\Q (.int (if j<i then j else i)) H):=by
 intro pins s σ H xs us Q I r h;obtain⟨i,j,rfl,q⟩:=h;obtain⟨u,w',rfl,⟨t,rfl⟩,⟨t',rfl⟩⟩:=Xc r
 refine min_two_ints (I.ok.hd hc) λh' tk k=>⟨_,H,I.kept k,?_,q⟩
 by_cases hj:j<i
 ·rw[if_pos hj,if_pos hj];exact⟨_,rfl⟩
 ·rw[if_neg hj,if_neg hj];exact⟨_,rfl⟩
theorem Kw:xI X (.type "int") (λxs H Q=>(∃i,xs=[.int i]/\Q (.int i) H)\/∃k,xs=[.bl k]/\Q (.int (if k then 1 else 0)) H):=by
 intro pins s σ H xs us Q I r h;rcases h with⟨i,rfl,q⟩|⟨k,rfl,q⟩
 ·obtain⟨u,rfl,t,rfl⟩:=ua r;exact call_int_int ⟨.int i,H,I,⟨_,rfl⟩,q⟩
 ·obtain⟨u,rfl,r1⟩:=ua r;cases r1;exact call_int_bool ⟨.int (if k then 1 else 0),H,I.tok _,⟨_,rfl⟩,q⟩
end
structure Room (k:Nat) (A:mz):Prop where
 hd:2<=k->A.handled=none
 dp:A.depth+3*k+5<jcY
 un:A.units+16*k+200<cLine
theorem Room.mono(r:Room k A)(h:j<=k):Room j A:=⟨λz=>r.hd (by omega),by have:=r.dp;omega,by have:=r.un;omega⟩
theorem Room.deeper(r:Room (k+1) A)(env:Env):Room k (A.deeper env) :=
 ⟨λz=>r.hd (by omega),by have:=r.dp;show A.depth+1+3*k+5<_;omega,by have:=r.un;show A.units+3+16*k+200<_;omega⟩
variable{kw:List (Str×bp)}
theorem YF{C:Addr}:(A.under (.builtin "type.__call__" ⟨.ref C::us,kw⟩)).depth=A.depth+1:=by
 first|rfl|simp[je1,Code.weight,Code.isCreation,Code.isGuard,Code.isCaller,Code.frames,je2,guardIds]
theorem Yx{C:Addr}:(A.under (.builtin "type.__call__" ⟨.ref C::us,kw⟩)).units=A.units+1:=by
 first|rfl|simp[je1,Code.cUnits,Code.frames,je2]
theorem Room.make(r:Room (k+1) A)(C:Addr)(us:List bp)(kw:List (Str×bp)):Room k (A.under (.builtin "type.__call__" ⟨.ref C::us,kw⟩)) :=
 ⟨λz=>r.hd (by omega),by have:=r.dp;rw[YF];omega,by have:=r.un;rw[Yx];omega⟩
theorem Room.depth(r:Room k A):A.depth<jcY:=by have:=r.dp;omega
def tNil:TA:=λ_ H Q=>Q [] H
def tCons(ta:TE)(tr:TA):TA:=λσ H Q=>ta σ H λx H1=>tr σ H1 λxs H2=>Q (x::xs) H2
section
variable {X:Cx} {e:Expr} {es:List Expr} {te:TE} {t:TA} {pos:Pos}
theorem kH:PA X [] tNil:=λ_ _ _ _ H Q I h=>Calls.spliced_nil ⟨[],H,I,.nil,h⟩
theorem jM(ha:PE X e te)(hr:PA X es t)(hs:bU (e::es) X.env=(false,eval e X.env)::bU es X.env:=by rfl):PA X (e::es) (tCons te t):=by
 intro pos pins s σ H Q I h;rw[hs];show wpAny _ _ (spliced ((false,eval e X.env)::backTo pos (bU es X.env))) _ _ s;refine Calls.spliced_cons (thn (ha pins s σ H _ I h) λu s1 ⟨x,H1,I1,r1,q1⟩=>?_)
 exact thn (hr pos pins s1 σ H1 _ I1 q1) λus s2 ⟨xs,H2,I2,r2,q2⟩=>⟨x::xs,H2,I2,.cons r1 r2,q2⟩
def tTup(t:TA):TE:=λσ H Q=>t σ H λxs H1=>xs.length<=sizeLine/\∀p,H1 p=none->Q (.ref p) (upd H1 p (.tup xs))
def tLst(t:TA):TE:=λσ H Q=>t σ H λxs H1=>xs.length<=sizeLine/\∀p,H1 p=none->Q (.ref p) (upd H1 p (.lst xs))
theorem pe_tup{x1}(h:PA X es t):PE X (.Tuple es x1 pos) (tTup t):=by
 intro pins s σ H Q I hq;refine wpAny_Tuple_spliced (thn (h pos pins s σ H _ I hq) λus s1 ⟨xs,H1,I1,r,z,q⟩=>⟨by rw[<- r.length];exact z,?_⟩);have hf:H1 s1.heap.objs.size=none:=I1.hok.fresh (df _);refine⟨.ref s1.heap.objs.size,upd H1 s1.heap.objs.size (.tup xs),I1.laid (t':=s1.toks) (λb u e=>bB _ e) (df _) ?_,rfl,q _ hf⟩;exact⟨z,us,r,⟨_,dJ _ rfl,rfl,_,rfl⟩⟩
theorem KJ(h:PA X es t):PE X (.List es pos) (tLst t):=by
 intro pins s σ H Q I hq;refine wpAny_List_spliced (thn (h pos pins s σ H _ I hq) λus s1 ⟨xs,H1,I1,r,z,q⟩=>⟨by rw[<- r.length];exact z,?_⟩);have hf:H1 s1.heap.objs.size=none:=I1.hok.fresh (df _);refine⟨.ref s1.heap.objs.size,upd H1 s1.heap.objs.size (.lst xs),I1.laid (t':=s1.toks) (λb u e=>bB _ e) (df _) ?_,rfl,q _ hf⟩;exact⟨z,us,0,r,dJ _ rfl⟩
end
abbrev Sp:=List V->Hp->VK->XK->Prop
abbrev CXT:=List Env->Hp->Shared->XK->bp->Shared->Prop
structure Env0 (P:gj) (w:World) (K:bw) (mg:Str->Option bp) (base:gQ) (A:mz) (outer:List Env) (s:Shared) (H:Hp):Prop where
 frames:A.frames=some outer
 mod:Mod K mg base
 bs:∀b o,base.get? b=some o->s.heap.get? b=some o/\H b=none
 bsz:base.objs.size<=s.heap.objs.size
 funs:s.heap.FunFrames base outer
 frf:∀b∈frs outer,H b=none
 hok:HOk P w H s.heap
 bare:jcL s.gens
def CE(outer:List Env)(P:gj)(w:World)(H:Hp)(s:Shared)(Q:VK)(u:bp)(s':Shared):Prop :=
 ∃v H',s'.os=s.os/\jcL s'.gens/\Un (frs outer) [] H H' s.heap s'.heap/\HOk P w H' s'.heap/\jV v u/\Q v H'
def CR(CX:CXT)(outer:List Env)(P:gj)(w:World)(H:Hp)(s:Shared)(Q:VK)(E:XK)(r:Result)(s':Shared):Prop :=
 match r with
 |.ok (.ret u)=>CE outer P w H s Q u s'
 |.ok _=>False
 |.error e=>CX outer H s E e s'
structure FnOk (P:gj) (w:World) (K:bw) (mg:Str->Option bp) (base:gQ) (CX:CXT) (k:Nat) (f:Addr) (fd:sE) (ps:List Str) (sp:Sp):Prop where
 len:∀vs H Q E,sp vs H Q E->vs.length=ps.length
 run:∀(A:mz) (outer:List Env) (s:Shared) (H:Hp) (args:Args) (us:List bp) (vs:List V) (Q:VK) (E:XK),Room k A->Env0 P w K mg base A outer s H->BindsTo s fd args (ps.zip us)->jH vs us->sp vs H Q E ->
  jcM (model P w) A (.call (.ref f) args) (CR CX outer P w H s Q E) s
variable{f:Addr}{mg:Str->Option bp}{base:gQ}{CX:CXT}{fd:sE}{ps:List Str}{sp:Sp}
theorem FnOk.mono(F:FnOk P w K mg base CX j f fd ps sp)(h:j<=k) :
 FnOk P w K mg base CX k f fd ps sp:=⟨F.len,λA outer s H args us vs Q E hr=>F.run A outer s H args us vs Q E (hr.mono h)⟩
theorem Env0.make{outer:List Env}{s:Shared}(e:Env0 P w K mg base A outer s H)(C:Addr)(us:List bp)(kw:List (Str×bp)) :
 Env0 P w K mg base (A.under (.builtin "type.__call__" ⟨.ref C::us,kw⟩)) outer s H:=⟨by first|exact e.frames|(simpa[je1,Code.envs,je2,pushEnvs]using e.frames),e.mod,e.bs,e.bsz,e.funs,e.frf,e.hok,e.bare⟩
section
variable {X:Cx} {pins:List (Addr×nW)} {σ:St} {H:Hp} {s s':Shared}
theorem Inv.env0(I:Inv X pins σ H s):Env0 X.prog X.w X.K X.mg X.base X.A X.stack s H :=
 ⟨I.ok.frames,I.ok.mod,I.bs,bS I.ok.bsz I.sz,I.stack,I.stkFree,I.hok,I.bare⟩
theorem Inv.after(I:Inv X pins σ H s)(h:CE X.stack X.prog X.w H s Q u s'):EP X pins σ Q u s':=by
 obtain⟨v,H',os,bare,un,hok,r,q⟩:=h;obtain⟨hh,g,d,t,os'⟩:=s';obtain rfl:os'=s.os:=os;exact⟨v,H',I.call (h':=hh) (g':=g) (d':=d) (t':=t) (ch:=[]) un hok bare (λb z=>absurd z (by simp)),r,q⟩
end
def tCall(sp:Sp)(dvs:List V)(E:XK)(t:TA):TE:=λσ H Q=>t σ H λvs H1=>sp (vs++dvs) H1 Q E
def uq(K:bw)(fd:sE)(ps:List Str)(ds:List bp):Prop :=
 ∀(s:Shared) (us:List bp),K.In s.heap->(us++ds).length=ps.length->BindsTo s fd ⟨us,[]⟩ (ps.zip (us++ds))
theorem uq.all(h:∀us:List bp,us.length=ps.length->bindArgs fd ⟨us,[]⟩=pure (ps.zip us)):uq K fd ps []:=λs us _ hl=>by
 rw[di]at hl ⊢;exact .of_eq (h us hl)
def vT(CX:CXT)(X:Cx)(E:XK):Prop:=∀(pins:List (Addr×nW)) (σ:St) (H:Hp) (s:Shared) (e:bp) (s':Shared),Inv X pins σ H s->CX X.stack H s E e s'->X.xe e s'
section
variable {X:Cx} {CX:CXT} {k:Nat} {f C:Addr} {fd:sE} {ps:List Str} {sp:Sp} {dvs:List V} {ds:List bp} {E:XK} {x m:Str} {p pos apos:Pos} {e o:Expr} {es:List Expr} {ta:TE} {t:TA}
theorem run_fn{s:Shared}(F:FnOk X.prog X.w X.K X.mg X.base CX k f fd ps sp)(hr:Room k X.A)(hb:uq X.K fd ps ds)(hd:jH dvs ds)(hx:vT CX X E)
 (I:Inv X pins σ H s) (r:jH vs us) (h:sp (vs++dvs) H Q E):wpAny (model X.prog X.w) X.A (call (.ref f) us) (EP X pins σ Q) X.xe s:=by
 have r2:jH (vs++dvs) (us++ds):=r.append hd
 have hl:(us++ds).length=ps.length:=by rw[<- r2.length];exact F.len _ _ _ _ h
 refine tj (jcN (F.run X.A X.stack s H ⟨us,[]⟩ (us++ds) (vs++dvs) Q E hr I.env0 (hb s us I.kIn hl) r2 h) λr s' hq=>?_)
 cases r with
 |error e=>exact hx pins σ H s e s' I hq
 |ok fl =>
  cases fl with
  |ret u=>exact I.after hq
  |next=>exact mH hq
  |brk=>exact mH hq
  |cont=>exact mH hq
theorem zh(F:FnOk X.prog X.w X.K X.mg X.base CX k f fd ps sp)(hr:Room k X.A)(hg:Gl X x)(hm:X.mg x=some (.ref f))(hk:nr X.K (.ref f)=true)(hb:uq X.K fd ps ds)(hd:jH dvs ds)(hx:vT CX X E)
 (ha:PA X (e::es) t) (hdb:(x == ("__debug__":Str))=false:=by decide) (he:bU (e::es) X.env=(false,eval e X.env)::bU es X.env:=by rfl) (hpl:(backTo pos (bU es X.env)).any (·.1)=false:=by rfl) :
 PE X (.Call (.Name x p) (e::es) [] pos) (tCall sp dvs E t):=by
 intro pins s σ H Q I h;refine tu (uF I hg hm ?_ hdb);refine jeG (h₀:=X.base) I.ok.mod.kin hk (thn (ha pos pins s σ H _ I h) λus s1 ⟨vs,H1,I1,r,q⟩=>⟨I1.kIn,?_⟩) he hpl;exact run_fn F hr hb hd hx I1 r q
end
structure FnScope (N P:List Str) (sc:Scope):Prop where
 kind:sc.kind=.function
 co:sc.isCoroutine=false
 gen:sc.isGenerator=false
 nd:N.Nodup
 pre:N.take P.length=P
 par:∀x∈P,sc.names.lookup x=some .local\/sc.names.lookup x=some .cell
 nofree:∀y∈sc.names,y.2 ≠ .free
theorem KB{kindOf:Str->Option nu}{x:Str}:∀ {binds:List (Str×bp)} {m:Str->Option bp},(∀v,(x,v) ∉ binds)->bindL kindOf binds m x=m x
 |[],_,_=>rfl
 |(n,v)::r,m,h=>by
  unfold bindL;rw[KB λw hw=>h w (bo _ hw)];split
  ·have:x≠n:=by rintro rfl;exact h v bC
   simp[this]
  ·rfl
theorem J2{kindOf:Str->Option nu}{x:Str}:∀ {binds:List (Str×bp)} {m:Str->Option bp},(∀v,(x,v) ∉ binds)->bindC kindOf binds m x=m x
 |[],_,_=>rfl
 |(n,v)::r,m,h=>by
  unfold bindC;rw[J2 λw hw=>h w (bo _ hw)];split
  ·rfl
  ·have:x≠n:=by rintro rfl;exact h v bC
   simp[this]
theorem Km{kindOf:Str->Option nu}{x:Str}{v:bp}:∀ {P:List Str} {vs:List bp} {i:Nat} {m:Str->Option bp},P.Nodup->P[i]?=some x->vs[i]?=some v->kindOf x=some .local ->
 bindL kindOf (P.zip vs) m x=some v
 |[],_,_,_,_,h,_,_=>by simp at h
 |_::_,[],_,_,_,_,h,_=>by simp at h
 |p::P,w::vs,0,m,nd,h1,h2,hk=>by
  simp at h1 h2;subst h1;subst h2;show bindL kindOf ((p,w)::P.zip vs) m p=_;unfold bindL;rw[KB λv hv=>(nL.mp nd).1 (mn hv).1,if_pos hk]
  simp
 |p::P,w::vs,i+1,m,nd,h1,h2,hk=>by
  show bindL kindOf ((p,w)::P.zip vs) m x=_;unfold bindL;exact Km (i:=i) (nL.mp nd).2 (by simpa using h1) (by simpa using h2) hk
theorem Kp{kindOf:Str->Option nu}{x:Str}{v:bp}:∀ {P:List Str} {vs:List bp} {i:Nat} {m:Str->Option bp},P.Nodup->P[i]?=some x->vs[i]?=some v->kindOf x≠some .local ->
 bindC kindOf (P.zip vs) m x=some v
 |[],_,_,_,_,h,_,_=>by simp at h
 |_::_,[],_,_,_,_,h,_=>by simp at h
 |p::P,w::vs,0,m,nd,h1,h2,hk=>by
  simp at h1 h2;subst h1;subst h2;show bindC kindOf ((p,w)::P.zip vs) m p=_;unfold bindC;rw[J2 λv hv=>(nL.mp nd).1 (mn hv).1,if_neg hk]
  simp
 |p::P,w::vs,i+1,m,nd,h1,h2,hk=>by
  show bindC kindOf ((p,w)::P.zip vs) m x=_;unfold bindC;exact Kp (i:=i) (nL.mp nd).2 (by simpa using h1) (by simpa using h2) hk
def start(N:List Str)(vs:List V):St:=vs.map some++bR (N.length-vs.length) none
def Jg(CX:CXT)(P:gj)(w:World)(K:bw)(mg:Str->Option bp)(base:gQ)(N:List Str)(qual:Str)(scope:Scope)(f:Addr)(cd:bp)(A:mz)(outer:List Env)(s:Shared)(H:Hp)(E:XK):Cx where
 prog:=P
 w:=w
 K:=K
 mg:=mg
 base:=base
 A:=A.deeper (envOfC qual scope s.heap.objs.size f cd)
 N:=N
 s₀:=s
 H₀:=H
 env:=envOfC qual scope s.heap.objs.size f cd
 outer:=outer
 stack:=envOfC qual scope s.heap.objs.size f cd::outer
 ex:=[]
 calm:=A.handled.isNone
 fn:=λ_=>true
 pn:=[]
 xe:=λe s'=>wpAny (model P w) (A.deeper (envOfC qual scope s.heap.objs.size f cd)) (jdC (envOfC qual scope s.heap.objs.size f cd) e) (λ_ s''=>CX outer H s E e s'') (λe' s''=>CX outer H s E e' s'') s'
theorem Q5{sc:Scope}(h:sc.names.lookup x=some .cell):∃c,(t6 n sc.names []).lookup x=some c:=by
 have q:=jdD sc.names n [] (.inl h);exact jdi.mp q
variable{qual:Str}
theorem UX{scope:Scope}{cd:bp}{outer:List Env}{s s1:Shared}{E:XK}
 (S:FnScope N ps scope) (hd:A.handled.isNone=true->A.handled=none) (e0:Env0 P w K mg base A outer s H) (hl:vs.length=ps.length) (r:jH vs us)
 (x:InCallC s s.heap.objs.size (bindL (envOfC qual scope s.heap.objs.size f cd).kindOf (ps.zip us) λ_=>none) (t6 (s.heap.objs.size+1) scope.names []) (bindC (envOfC qual scope s.heap.objs.size f cd).kindOf (ps.zip us) λ_=>none) s1) :
 Inv (Jg CX P w K mg base N qual scope f cd A outer s H E) [] (start N vs) H s1:=by
 have hpl:ps.length<=N.length:=by have:=congrArg jdc S.pre;rw[gE]at this;omega
 obtain⟨h1,tk,rfl,hk⟩:=x.done
 have noA:∀b:Addr,b ∉ (Jg CX P w K mg base N qual scope f cd A outer s H E).ex:=λb z=>absurd (show b∈([]:List Addr) from z) (by simp)
 refine⟨⟨e0.mod,S.kind,rfl,rfl,df _,λy z c h1 h2=>?_,λy hy=>?_,λy c _ h=>?_,hd,Around.frames_deeper e0.frames,.inr ⟨rfl,rfl⟩,λb z=>absurd z (noA b),e0.bs,e0.bsz,λb _ _=>noA b,λb z=>absurd z (noA b),e0.funs,e0.frf⟩,
  rfl,e0.bare,Un.kept hk,⟨_,x.toInCall.ns,λi y v h1 h2 h3=>?_⟩,λy c h=>⟨_,x.cell y c h⟩,e0.hok.fresh (df _),λy c h=>?_,λp hp=>absurd (show p∈([]:List (Addr×nW)) from hp) (by simp),e0.hok.kept hk,?_⟩
 ·exact name_of_addr x.apart (mZ h1) (mZ h2)
 ·have hy:scope.names.lookup y=some .cell\/scope.names.lookup y=some .free:=hy;rcases hy with hy|hy
  ·exact Q5 hy
  ·exact absurd rfl (S.nofree _ (mZ hy))
 ·exact jeY (x.above y c (mZ h))
 ·have hi:i<vs.length:=by
   unfold start at h2;by_cases hi:i<vs.length
   ·exact hi
   ·rw[dN (by simpa using hi)]at h2;rw[List.getElem?_replicate]at h2
    split at h2<;>cases h2
  have ha:vs[i]?=some v:=by
   unfold start at h2;rw[dM (by simpa using hi),bY]at h2
   cases e:vs[i]? with
   |none=>rw[e]at h2;cases h2
   |some a=>rw[e]at h2;cases h2;rfl
  obtain⟨u,hu,rv⟩:=r.get ha
  have hp:ps[i]?=some y:=by
   rw[<- S.pre,nY (by omega)];exact h1
  have ndP:ps.Nodup:=by rw[<- S.pre];exact S.nd.sublist (List.take_sublist _ _)
  refine⟨u,rv,?_⟩;rcases S.par y (gn hp) with k|k
  ·exact .inl ⟨k,Km ndP hp hu k⟩
  ·obtain⟨c,e⟩:=Q5 (n:=s.heap.objs.size+1) k;refine .inr ⟨.inl k,c,e,?_⟩;have q:=x.cell y c e;rw[Kp ndP hp hu (by show scope.names.lookup y≠_;rw[k];decide)]at q;exact q
 ·exact e0.hok.fresh (jeY (x.above y c (mZ h)))
 ·unfold start;show _=N.length;rw[b6,bj,pV];omega
theorem jbr{name:Str}{params:Arguments}{scope:Scope}{dV kV doc pm cdv ct oc:bp}{an od:Option Addr}
 {osl:Array (Option bp)}   (lk:K.lookup f=some ⟨oc,od,.func (nQ name qual params body scope dV kV doc pm an cdv ct),osl⟩) (hcd:tN K cdv qual=true) (S:FnScope N ps scope)
 (len:∀vs H Q E,sp vs H Q E->vs.length=ps.length)
 (hbody:∀(A:mz) (outer:List Env) (s:Shared) (H:Hp) (vs:List V) (Q:VK) (E:XK),Room k (A.deeper (envOfC qual scope s.heap.objs.size f cdv))->sp vs H Q E ->
  ∃t,PSs (Jg CX P w K mg base N qual scope f cdv A outer s H E) body t/\t { nx:=λ_ H'=>Q .non H',rt:=Q } (start N vs) H) :
 FnOk P w K mg base CX (k+1) f (nQ name qual params body scope dV kV doc pm an cdv ct) ps sp:=by
 refine⟨len,λA outer s H args us vs Q E hr e0 hb r hsp=>?_⟩;have hl:=len _ _ _ _ hsp
 have KX:K.In s.heap:=e0.mod.kin.keeps λb o e=>(e0.bs b o e).1
 have lim:s.heap.NoLimit:=e0.mod.nolimit.1.keeps λb o e=>(e0.bs b o e).1
 have hkind:∀y∈ps.zip us,scope.names.lookup y.1=some .local\/(scope.names.lookup y.1=some .cell/\((t6 (s.heap.objs.size+1) scope.names []).lookup y.1).isSome=true):=λ⟨n,v⟩ hy=>by
  rcases S.par n (mn hy).1 with q|q
  ·exact .inl q
  ·exact .inr ⟨q,jdD _ _ _ (.inl q)⟩
 refine codeAny_call_function hr.depth (KX _ _ lk) rfl S.co S.gen rfl (PySem.W.codeRec_of KX hcd) (hb _ _ _ _ ?_)
 refine wpAny_newFunctionEnv_cells S.kind hkind λenv he s1 x=>?_
 subst he;refine⟨lim.keeps x.toInCall.keep,codeAny_func ?_⟩;obtain⟨t,ht,hq⟩:=hbody A outer s H vs Q E (hr.deeper _) hsp;have I:Inv (Jg CX P w K mg base N qual scope f cdv A outer s H E) [] (start N vs) H s1:=UX S (λz=>by simpa using z) e0 hl r x
 refine gq (ht [] s1 (start N vs) H _ I hq) (λfl s' hs=>?_) λe s' hs=>hs
 have fin:∀ {σ':St} {H':Hp} {v:V} {u:bp},Inv (Jg CX P w K mg base N qual scope f cdv A outer s H E) [] σ' H' s'->jV v u->Q v H'->CE outer P w H s Q u s' :=
  λ{σ' H' v u} J rv q=>⟨v,H',J.os,J.bare,J.base,J.hok,rv,q⟩
 cases fl with
 |ret u =>
  obtain⟨v,σ',H',J,rv,q⟩:=hs
  exact fin J rv q
 |next =>
  obtain⟨σ',H',J,q⟩:=hs
  exact fin (v:=V.non) (u:=pY) J rfl q
 |brk =>
  obtain⟨_,_,_,q⟩:=hs
  exact mH q
 |cont =>
  obtain⟨_,_,_,q⟩:=hs;exact mH q
section
variable {X:Cx} {x:Str} {p pos:Pos} {e:Expr} {es:List Expr} {t:TA} {id T:String} {r:List V->Hp->VK->Prop}
def tCB(r:List V->Hp->VK->Prop)(t:TA):TE:=λσ H Q=>t σ H λvs H1=>r vs H1 Q
theorem kN(hc:xI X (.builtin id) r)(hg:Gl X x)(hm:X.mg x=none)(hv:si x=some (.builtin id))(ha:PA X (e::es) t)(hn:x ≠ "__name__":=by decide)(hdb:(x == ("__debug__":Str))=false:=by decide)
 (he:bU (e::es) X.env=(false,eval e X.env)::bU es X.env:=by rfl) (hpl:(backTo pos (bU es X.env)).any (·.1)=false:=by rfl):PE X (.Call (.Name x p) (e::es) [] pos) (tCB r t):=by
 intro pins s σ H Q I h;refine tu (uV I hg hm hv ?_ hn hdb);exact t7 (thn (ha pos pins s σ H _ I h) λus s1 ⟨vs,H1,I1,r1,q1⟩=>hc pins s1 σ H1 vs us Q I1 r1 q1) he hpl
theorem zw(hc:xI X (.type T) r)(hg:Gl X x)(hm:X.mg x=none)(hv:si x=some (.type T))(ha:PA X (e::es) t)(hn:x ≠ "__name__":=by decide)(hdb:(x == ("__debug__":Str))=false:=by decide)
 (he:bU (e::es) X.env=(false,eval e X.env)::bU es X.env:=by rfl) (hpl:(backTo pos (bU es X.env)).any (·.1)=false:=by rfl):PE X (.Call (.Name x p) (e::es) [] pos) (tCB r t):=by
 intro pins s σ H Q I h;refine tu (uV I hg hm hv ?_ hn hdb);exact m8 (thn (ha pos pins s σ H _ I h) λus s1 ⟨vs,H1,I1,r1,q1⟩=>hc pins s1 σ H1 vs us Q I1 r1 q1) he hpl
end
end L2
namespace HT
open PySem PyProof.Rows
section
open PySem.SeqAt
open PySem.AutoSeq1 (wpAny_loadPart')
open PySem.MeetsSeq PySem.MeetsSeq2 PySem.MeetsSeq3
end
section
variable {prog:gj} {w:World} {A:mz} {E:bp->Shared->Prop} {s:Shared}
def sIx(n d:Nat):Option Int->Nat
 |none=>d
 |some v=>if v<0 then (v+(n:Int)).toNat else min v.toNat n
end
end HT
namespace L2
open PySem PySem.Spec PyProof.Rows
abbrev TO:=St->Hp->(Option Int->Hp->Prop)->Prop
def PO(X:Cx)(e:Option Expr)(t:TO):Prop :=
 ∀(pins:List (Addr×nW)) (s:Shared) (σ:St) (H:Hp) (Q:Option Int->Hp->Prop),Inv X pins σ H s->t σ H Q ->
  wpAny (model X.prog X.w) X.A (evalPart e X.env) (λu s'=>∃o H',Inv X pins σ H' s'/\IsPart u o/\Q o H') X.xe s
def tNoPart:TO:=λ_ H Q=>Q none H
def tPart(t:TE):TO:=λσ H Q=>t σ H λx H1=>∃i,x=.int i/\Q (some i) H1
section
variable {X:Cx} {e:Expr} {te:TE} {lo hi:Option Expr} {tl th:TO} {pos p2:Pos}
theorem po_none:PO X none tNoPart:=by
 intro pins s σ H Q I h;rw[evalPart_none];exact bJ ⟨none,H,I,.none,h⟩
theorem po_some(h:PE X e te):PO X (some e) (tPart te):=by
 intro pins s σ H Q I hw;rw[evalPart_some]
 refine thn (h pins s σ H _ I hw) λu s1 ⟨x,H1,I1,r1,q1⟩=>?_
 obtain⟨i,rfl,q⟩:=q1;obtain⟨t,rfl⟩:=r1;exact⟨some i,H1,I1,.int i t,q⟩
def SlR(X:Cx)(r:V->Option Int->Option Int->Hp->VK->Prop):Prop :=
 ∀(pins:List (Addr×nW)) (s:Shared) (σ:St) (H:Hp) (x:V) (v vl vu:bp) (lo hi:Option Int) (sl:Addr) (Q:VK),Inv X pins σ H s->jV x v->s.heap.IsSliceOf sl vl vu .none->IsPart vl lo->IsPart vu hi->r x lo hi H Q ->
  ∃T id,nZ (.type T) "__getitem__"=pure (some (.builtin id))/\s.TypeIs v T/\wpAny (model X.prog X.w) X.A (getItem v (.ref sl)) (EP X pins σ Q) X.xe s
def tSl(r:V->Option Int->Option Int->Hp->VK->Prop)(te:TE)(tl th:TO):TE:=λσ H Q=>te σ H λx H1=>tl σ H1 λl H2=>th σ H2 λu H3=>r x l u H3 Q
theorem Xk{r:V->Option Int->Option Int->Hp->VK->Prop}(hr:SlR X r)(he:PE X e te)(hl:PO X lo tl)(hu:PO X hi th):PE X (.Subscript e (.Slice lo hi none p2) pos) (tSl r te tl th):=by
 intro pins s σ H Q I h;refine Subscript_ (thn (he pins s σ H _ I h) λv s1 ⟨x,H1,I1,r1,q1⟩=>?_);refine wpAny_Slice (thn (hl pins s1 σ H1 _ I1 q1) λvl s2 ⟨l,H2,I2,pl,q2⟩=>thn (hu pins s2 σ H2 _ I2 q2) λvu s3 ⟨u,H3,I3,pu,q3⟩=>?_);rw[evalPart_none];refine bJ ?_
 have I4:Inv X pins σ H3 { s3 with heap:=s3.heap.push { cls:=.type "slice",data:=.fields #[vl,vu,.none] } }:=I3.kept (t':=s3.toks) λb ob q=>bB _ q
 obtain⟨T,id,hT,ht,hg⟩:=hr pins { s3 with heap:=s3.heap.push { cls:=.type "slice",data:=.fields #[vl,vu,.none] } } σ H3 x v vl vu l u s3.heap.objs.size Q I4 r1 (Heap.IsSliceOf.new ..) pl pu q3;show wpAny (model X.prog X.w) X.A (subscriptTail e (.Slice lo hi none p2) v (.ref s3.heap.objs.size)) (EP X pins σ Q) X.xe { s3 with heap:=s3.heap.push { cls:=.type "slice",data:=.fields #[vl,vu,.none] } };exact tail_any (ops:=[.ref s3.heap.objs.size,v]) ht hT hg (by with_unfolding_all rfl)
def Va(xs:List V)(lo hi:Option Int):List V:=(xs.drop (HT.sIx xs.length 0 lo)).take (HT.sIx xs.length xs.length hi-HT.sIx xs.length 0 lo)
theorem Q8(xs:List V)(lo hi:Option Int):(Va xs lo hi).length<=xs.length:=by
 unfold Va;rw[gE,mw];omega
end
def ixN(n:Nat)(i:Int):Option Nat:=if 0<=i then (if i<n then some i.toNat else none) else if -(n:Int)<=i then some (i+n).toNat else none
variable{α:Type}
def atI(xs:List α)(i:Int):Option α:=(ixN xs.length i).bind λj=>xs[j]?
variable{n:Nat}{i:Int}
theorem Ut{j:Nat}(h:ixN n i=some j):seqIndex? i n=some j/\j<n /\ -(n:Int)<=i/\i<n:=by
 unfold ixN at h;by_cases h0:0<=i
 ·rw[if_pos h0]at h;by_cases h1:i<n
  ·rw[if_pos h1]at h;have e:i.toNat=j:=gD h;exact⟨by rw[seqIndex_of h0 h1,e],by omega,by omega,h1⟩
  ·rw[if_neg h1]at h;cases h
 ·rw[if_neg h0]at h;by_cases h1:-(n:Int)<=i
  ·rw[if_pos h1]at h;have e:(i+n).toNat=j:=gD h;exact⟨by rw[je3 (by omega) h1,e],by omega,h1,by omega⟩
  ·rw[if_neg h1]at h;cases h
theorem UR{xs:List α}{v:α}(h:atI xs i=some v):∃j,seqIndex? i xs.length=some j/\xs[j]?=some v/\j<xs.length /\ -(xs.length:Int)<=i/\i<xs.length:=by
 unfold atI at h
 cases e:ixN xs.length i with
 |none=>rw[e]at h;cases h
 |some j =>
  rw[e]at h;obtain⟨h1,h2,h3,h4⟩:=Ut e;exact⟨j,h1,h,h2,h3,h4⟩
def ZO(b:Expr):Prop:=∀o i,subscripted b false o i=operate [o,i] (getItem o i)
def IxR(X:Cx)(r:R2):Prop :=
 ∀(value slice:Expr) (pins:List (Addr×nW)) (s:Shared) (σ:St) (H:Hp) (x y:V) (v u:bp) (Q:VK),Inv X pins σ H s->jV x v->jV y u->r x y H Q ->
  subscripted slice false v u=operate [v,u] (getItem v u)->wpAny (model X.prog X.w) X.A (subscriptTail value slice v u) (EP X pins σ Q) X.xe s
def MtR(X:Cx)(id:String)(r:V->List V->Hp->VK->Prop):Prop :=
 ∀(pins:List (Addr×nW)) (s:Shared) (σ:St) (H:Hp) (x:V) (xs:List V) (v:bp) (us:List bp) (Q:VK),Inv X pins σ H s->jV x v->jH xs us->r x xs H Q ->
  wpAny (model X.prog X.w) X.A (call (.builtin id) (v::us)) (EP X pins σ Q) X.xe s
variable{pins:List (Addr×nW)}{σ:St}{H:Hp}{p:Addr}{xs:List V}{its its':List bp}{y x:V}{u v:bp}
section
variable {X:Cx} {a b:Expr} {ta tb:TE} {pos:Pos}
theorem pe_ix{r:R2}(hr:IxR X r)(ha:PE X a ta)(hb:PE X b tb)(hs:ZO b):PE X (.Subscript a b pos) (tOp r ta tb):=by
 intro pins s σ H Q I h;exact Subscript_ (binT ha hb I h λv u s2 x y H2 I2 rx ry q=>hr a b pins s2 σ H2 x y v u Q I2 rx ry q (hs _ _))
def rIxL(K:bw):R2:=λx y H Q=>∃p xs i v,x=.ref p/\y=.int i/\SqL K H p xs/\atI xs i=some v/\Q v H
def rIxT(K:bw):R2:=λx y H Q=>∃p xs i v,x=.ref p/\y=.int i/\SqT K H p xs/\atI xs i=some v/\Q v H
theorem ix_list:IxR X (rIxL X.K):=by
 intro value slice pins s σ H x y v u Q I rx ry h hs;obtain⟨p,xs,i,z,rfl,rfl,hq,he,q⟩:=h;cases rx;obtain⟨t,rfl⟩:=ry;obtain⟨its,r,pl,hz⟩:=I.list hq;obtain⟨j,h1,h2,h3,h4,h5⟩:=UR he;obtain⟨w,ew,rw'⟩:=r.get h2;have hl:=r.length;have hn:=Qc
 have fin:EP X pins σ Q w s:=⟨z,H,I,rw',q⟩
 by_cases h0:0<=i
 ·have hj:i.toNat=j:=by
   rw[seqIndex_of h0 h5]at h1;exact gD h1
  exact item_listR pl.isList h0 (by omega) (by rw[hj];simpa using ew) fin hs
 ·have hj:(i+(its.toArray.size:Int)).toNat=j:=by
   rw[je3 (by omega) h4]at h1;rw[dw,<- hl];exact gD h1
  exact jdE (x:=w) pl.isList.typeIs slot_list_getitem.lookup
   (wpAny_getItem_list_neg (Q:=λr s'=>r=w/\EP X pins σ Q r s') pl.isList (by omega) (by rw[dw]<;>omega) (by omega) (by rw[hj];simpa using ew) ⟨rfl,fin⟩) hs
theorem ix_tup:IxR X (rIxT X.K):=by
 intro value slice pins s σ H x y v u Q I rx ry h hs;obtain⟨p,xs,i,z,rfl,rfl,hq,he,q⟩:=h;cases rx;obtain⟨t,rfl⟩:=ry;obtain⟨its,r,pl,hz⟩:=I.tuple hq;obtain⟨j,h1,h2,h3,h4,h5⟩:=UR he;obtain⟨w,ew,rw'⟩:=r.get h2;have hl:=r.length;have hn:=Qc
 have fin:EP X pins σ Q w s:=⟨z,H,I,rw',q⟩
 exact jdE (x:=w) pl.typeIs slot_tuple_getitem.lookup
  (getItem_tuple (j:=j) (Q:=λr s'=>r=w/\EP X pins σ Q r s') pl (by omega) (by omega) (by rw[dw,<- hl];exact h1) (by simpa using ew) ⟨rfl,fin⟩) hs
theorem Zv(its:List bp)(n j:Nat)(u:bp):t8 (·.setIfInBounds j u) { cls:=.type "list",data:=.seq its.toArray n }={ cls:=.type "list",data:=.seq (its.set j u).toArray n }:=by
 simp[t8]
theorem Inv.lst{s:Shared}(I:Inv X pins σ H s)(h:H p=some (.lst xs)) :
 ∃(its:List bp) (n:Nat),jH xs its/\s.heap.get? p=some { cls:=.type "list",data:=.seq its.toArray n }/\xs.length<=sizeLine:=by
 obtain⟨z,its,n,r,e⟩:=I.hok p _ h;exact⟨its,n,r,e,z⟩
theorem Inv.lstUpd{s:Shared}{ys:List V}{n':Nat}{f:nW->nW}(I:Inv X pins σ H s)(h:H p=some (.lst xs))
 (ho:s.heap.get? p=some { cls:=.type "list",data:=.seq its.toArray n }) (hf:f { cls:=.type "list",data:=.seq its.toArray n }={ cls:=.type "list",data:=.seq its'.toArray n' }) (r:jH ys its') (hz:ys.length<=sizeLine) (t:Nat) :
 Inv X pins σ (upd H p (.lst ys)) { s with heap:=s.heap.update p f,toks:=t }:=by
 have e:(s.heap.update p f).get? p=some { cls:=.type "list",data:=.seq its'.toArray n' }:=by
  rw[mh f ho (by rw[hf]<;>rfl),hf]
 refine I.write (x:=p) (e:=p) (by rw[h];trivial) (.inl rfl) (λb u hb q=>(dQ _ _ (gV hb)).trans q) ⟨_,e⟩ ?_;exact⟨hz,its',n',r,e⟩
def rSetL:V->V->V->Hp->(Hp->Prop)->Prop:=λo i v H Q=>∃p xs k j,o=.ref p/\i=.int k/\H p=some (.lst xs)/\ixN xs.length k=some j/\Q (upd H p (.lst (xs.set j v)))
theorem XM:PSet X rSetL:=by
 intro pins s σ H o i v ov iv u Q I ro ri rv h;obtain⟨p,xs,k,j,rfl,rfl,hp,hj,q⟩:=h;cases ro;obtain⟨t,rfl⟩:=ri;obtain⟨its,n,r,ho,hz⟩:=I.lst hp;obtain⟨h1,h2,h3,h4⟩:=Ut hj;have hl:=r.length;have hn:=Qc
 have I':Inv X pins σ (upd H p (.lst (xs.set j v))) { s with heap:=s.heap.update p (t8 (·.setIfInBounds j u)) } :=
  I.lstUpd hp ho (Zv its n j u) (r.set rv j) (by rw[gX];exact hz) s.toks
 by_cases h0:0<=k
 ·have hk:k.toNat=j:=by
   rw[seqIndex_of h0 h4]at h1;exact gD h1
  exact PySem.W.ki_setAt ho h0 (by omega) (by rw[dw,<- hl];exact h4) (by rw[hk];exact⟨_,I',q⟩)
 ·have hk:(k+(its.toArray.size:Int)).toNat=j:=by
   rw[je3 (by omega) h3]at h1;rw[dw,<- hl];exact gD h1
  exact PySem.W.ki_setBack ho (by omega) (by rw[dw,<- hl];exact h3) (by omega) (by rw[hk];exact⟨_,I',q⟩)
theorem Qa(lo hi:Option Int)(n:Nat):(tJ lo hi none n).1=((HT.sIx n 0 lo:Nat):Int)/\(tJ lo hi none n).2.1=((HT.sIx n n hi:Nat):Int)/\(tJ lo hi none n).2.2=1:=by
 refine⟨?_,?_,rfl⟩
 ·cases lo with
  |none=>simp[tJ,HT.sIx]
  |some i =>
   simp only[tJ,HT.sIx,jfk,show (1:Int) > 0 by decide,if_true];by_cases h:i<0
   ·simp only[h,if_true]<;>omega
   ·simp only[h,if_false]<;>omega
 ·cases hi with
  |none=>simp[tJ,HT.sIx]
  |some i =>
   simp only[tJ,HT.sIx,jfk,show (1:Int) > 0 by decide,if_true];by_cases h:i<0
   ·simp only[h,if_true]<;>omega
   ·simp only[h,if_false]<;>omega
theorem JW(its:List bp)(lo hi:Option Int):slicePick its.toArray lo hi none=((its.drop (HT.sIx its.length 0 lo)).take (HT.sIx its.length its.length hi-HT.sIx its.length 0 lo)).toArray:=by
 obtain⟨h1,h2,h3⟩:=Qa lo hi its.toArray.size;unfold slicePick;rw[h1,h2,h3]
 simp only[sliceRange_one,pick_run,dw]<;>rfl
def rSlL(K:bw):V->Option Int->Option Int->Hp->VK->Prop:=λx lo hi H Q=>∃a xs,x=.ref a/\SqL K H a xs/\∀p,H p=none->Q (.ref p) (upd H p (.lst (Va xs lo hi)))
theorem ZV:SlR X (rSlL X.K):=by
 intro pins s σ H x v vl vu lo hi sl Q I rx hs pl pu h;obtain⟨a,xs,rfl,hx,q⟩:=h;cases rx;obtain⟨its,r,ht,hz⟩:=I.list hx;have hlen:=r.length;refine⟨"list",_,slot_list_getitem.lookup,ht.isList.typeIs,?_⟩;refine wpAny_getItem_list_slice ht.isList hs pl pu .none (by simp) ?_ (by rw[dw]<;>omega);rw[JW,<- hlen];refine⟨.ref s.heap.objs.size,_,I.laid (t':=s.toks) (o:=.lst (Va xs lo hi)) (λb ob q=>bB _ q) (df _) ?_,rfl,q _ (I.hok.fresh (df _))⟩;exact⟨bS (Q8 xs lo hi) hz,_,0,(r.drop (HT.sIx xs.length 0 lo)).take (HT.sIx xs.length xs.length hi-HT.sIx xs.length 0 lo),dJ _ rfl⟩
def um:V->Bool
 |.non=>true
 |.bl _=>true
 |.int _=>true
 |.str _=>true
 |_=>false
def eqV:V->V->Bool
 |.non,.non=>true
 |.bl a,.bl b=>a == b
 |.bl a,.int b=>(if a then 1 else 0) == b
 |.int a,.bl b=>a == (if b then 1 else 0)
 |.int a,.int b=>a == b
 |.str a,.str b=>a == b
 |_,_=>false
theorem eqAt_V{A:mz}{s:Shared}(ry:jV y u)(rx:jV x v)(fy:um y=true)(fx:um x=true):SeqAt.EqAt A s u v (eqV y x):=by
 cases y with
 |non =>
  cases ry
  cases x with
  |non=>cases rx;exact SeqAt.EqAt.same _
  |bl b=>cases rx;exact SeqAt.EqAt.none_bool b
  |int b=>obtain⟨t,rfl⟩:=rx;exact SeqAt.EqAt.none_int b t
  |str b=>obtain⟨t,rfl⟩:=rx;exact SeqAt.EqAt.none_str b t
  |_=>exact absurd (show false=true from fx) dS
 |bl a =>
  cases ry
  cases x with
  |non=>cases rx;exact SeqAt.EqAt.bool_none a
  |bl b=>cases rx;exact SeqAt.EqAt.bool_bool a b
  |int b=>obtain⟨t,rfl⟩:=rx;exact SeqAt.EqAt.bool_int a b t
  |str b=>obtain⟨t,rfl⟩:=rx;exact SeqAt.EqAt.bool_str a b t
  |_=>exact absurd (show false=true from fx) dS
 |int a =>
  obtain⟨t',rfl⟩:=ry
  cases x with
  |non=>cases rx;exact SeqAt.EqAt.int_none a t'
  |bl b=>cases rx;exact SeqAt.EqAt.int_bool a t' b
  |int b=>obtain⟨t,rfl⟩:=rx;exact SeqAt.EqAt.int_int a t' b t
  |str b=>obtain⟨t,rfl⟩:=rx;exact jeD a t' b t
  |_=>exact absurd (show false=true from fx) dS
 |str a =>
  obtain⟨t',rfl⟩:=ry
  cases x with
  |non=>cases rx;exact SeqAt.EqAt.str_none a t'
  |bl b=>cases rx;exact SeqAt.EqAt.str_bool a t' b
  |int b=>obtain⟨t,rfl⟩:=rx;exact jeE a t' b t
  |str b=>obtain⟨t,rfl⟩:=rx;exact SeqAt.EqAt.str_str a t' b t
  |_=>exact absurd (show false=true from fx) dS
 |_=>exact absurd (show false=true from fy) dS
def eqU(x:V)(u:bp):Bool:=match u with
 |.none=>eqV .non x
 |.bool b=>eqV (.bl b) x
 |.int i _=>eqV (.int i) x
 |.str z _=>eqV (.str z) x
 |_=>false
theorem jae(r:jV y u)(f:um y=true):eqU x u=eqV y x:=by
 cases y with
 |non=>cases r;rfl
 |bl b=>cases r;rfl
 |int i=>obtain⟨t,rfl⟩:=r;rfl
 |str z=>obtain⟨t,rfl⟩:=r;rfl
 |_=>exact absurd (show false=true from f) dS
theorem uN{x:V}:∀ {xs:List V} {us:List bp},jH xs us->xs.all um=true->us.any (eqU x)=xs.any λy=>eqV y x
 |_,_,.nil,_=>rfl
 |y::xs,u::us,.cons r t,f=>by
  rw[jez,bh]at f;rw[jeA,jeA,jae r f.1,uN t f.2]
theorem zg{A:mz}{s:Shared}{x:V}{v:bp}(rx:jV x v)(fx:um x=true):∀ {xs:List V} {us:List bp},jH xs us->xs.all um=true->∀u∈us,SeqAt.EqAt A s u v (eqU x u)
 |_,_,.nil,_=>λu hu=>by cases hu
 |y::xs,u::us,.cons r t,f=>λu' hu=>by
  rw[jez,bh]at f;rcases bz.mp hu with rfl|hu
  ·rw[jae r f.1];exact eqAt_V r rx f.1 fx
  ·exact zg rx fx t f.2 u' hu
def inV(x:V)(xs:List V):Bool:=xs.any λy=>eqV y x
def rIn(K:bw)(neg:Bool):R2:=λx y H Q=>∃p xs,y=.ref p/\(SqL K H p xs\/SqT K H p xs)/\um x=true/\xs.all um=true/\Q (.bl (if neg then !inV x xs else inV x xs)) H
theorem Ke:OpR X (mS .In) (rIn X.K false):=by
 intro pins s σ H x y v u Q I rx ry h;obtain⟨p,xs,rfl,hq,fx,fs,q⟩:=h;cases ry;rcases hq with hq|hq
 ·obtain⟨its,r,pl,hz⟩:=I.list hq;refine SeqAt.in_listAt (eqU x) pl.isList (λw hw=>zg rx fx r fs w (by simpa using hw)) ⟨.bl _,H,I,rfl,?_⟩;rw[show its.toArray.any (eqU x)=its.any (eqU x) by simp,uN r fs];exact q
 ·obtain⟨its,r,pl,hz⟩:=I.tuple hq;refine SeqAt.in_tupleAt (eqU x) pl (λw hw=>zg rx fx r fs w (by simpa using hw)) ⟨.bl _,H,I,rfl,?_⟩;rw[show its.toArray.any (eqU x)=its.any (eqU x) by simp,uN r fs];exact q
theorem uy:OpR X (mS .NotIn) (rIn X.K true):=by
 intro pins s σ H x y v u Q I rx ry h;obtain⟨p,xs,rfl,hq,fx,fs,q⟩:=h;cases ry;rcases hq with hq|hq
 ·obtain⟨its,r,pl,hz⟩:=I.list hq;refine SeqAt.notIn_listAt (eqU x) pl.isList (λw hw=>zg rx fx r fs w (by simpa using hw)) ⟨.bl _,H,I,rfl,?_⟩;rw[show its.toArray.any (eqU x)=its.any (eqU x) by simp,uN r fs];exact q
 ·obtain⟨its,r,pl,hz⟩:=I.tuple hq;refine SeqAt.notIn_tupleAt (eqU x) pl (λw hw=>zg rx fx r fs w (by simpa using hw)) ⟨.bl _,H,I,rfl,?_⟩;rw[show its.toArray.any (eqU x)=its.any (eqU x) by simp,uN r fs];exact q
theorem uI:xI X (.builtin "len") (λxs H Q=>∃p ys,xs=[.ref p]/\(SqL X.K H p ys\/SqT X.K H p ys)/\Q (.int ys.length) H):=by
 intro pins s σ H xs us Q I r h;obtain⟨p,ys,rfl,hq,q⟩:=h;obtain⟨u,rfl,rx⟩:=ua r;cases rx;have hn:=Qc;rcases hq with hq|hq
 ·obtain⟨its,r',pl,hz⟩:=I.list hq;have hlen:=r'.length;exact Calls.call_len_list pl.isList (by simp only[dw]<;>omega) ⟨.int ys.length,H,I.tok _,⟨s.toks+1,by rw[dw,hlen]⟩,q⟩
 ·obtain⟨its,r',pl,hz⟩:=I.tuple hq;have hlen:=r'.length;exact len_tuple pl (by simp only[dw]<;>omega) ⟨.int ys.length,H,I.tok _,⟨s.toks+1,by rw[dw,hlen]⟩,q⟩
theorem qV:xI X (.type "list") (λxs H Q=>∃p ys,xs=[.ref p]/\(SqL X.K H p ys\/SqT X.K H p ys)/\∀l,H l=none->Q (.ref l) (upd H l (.lst ys))):=by
 intro pins s σ H xs us Q I r h;obtain⟨p,ys,rfl,hq,q⟩:=h;obtain⟨u,rfl,rx⟩:=ua r;cases rx
 have fin:∀(its:List bp),jH ys its->ys.length<=sizeLine->∀(h':gQ) (c':Nat),(∀b o',s.heap.get? b=some o'->h'.get? b=some o') ->
  h'.get? s.heap.objs.size=some { cls:=.type "list",dict:=none,data:=.seq its.toArray c',slots:=#[] }->EP X pins σ Q (.ref s.heap.objs.size) { s with heap:=h' }:=λits r' hz h' c' kp e =>
  ⟨.ref s.heap.objs.size,_,I.laid (t':=s.toks) kp (df _) (show qP X.prog X.w _ h' _ (.lst ys) from ⟨hz,its,c',r',e⟩),rfl,q _ (I.hok.fresh (df _))⟩
 rcases hq with hq|hq
 ·obtain⟨its,r',pl,hz⟩:=I.list hq;have hlen:=r'.length;obtain⟨o,ho,hc,n,hd⟩:=pl.isList;exact call_list_seq p (.inl rfl) ho hc hd (λh' c' kp e=>fin its r' hz h' c' kp e) (by simp only[dw]<;>omega)
 ·obtain⟨its,r',pl,hz⟩:=I.tuple hq;have hlen:=r'.length;obtain⟨o,ho,hc,n,hd⟩:=pl;exact call_list_seq p (.inr rfl) ho hc hd (λh' c' kp e=>fin its r' hz h' c' kp e) (by simp only[dw]<;>omega)
def tyV(K:bw)(T:String)(x:V)(H:Hp):Prop:=match x with
 |.str _=>T="str"
 |.int _=>T="int"
 |.ref p=>(T="list" /\ ∃xs,SqL K H p xs)\/(T="tuple" /\ ∃o,K.lookup p=some o/\o.cls=.type "tuple" /\ o.dict=none) \/
  (T="dict" /\ ((∃kvs,H p=some (.dK kvs))\/∃kvs,H p=some (.dT kvs)))\/(T="set" /\ ∃S n,H p=some (.set S n))
 |_=>False
theorem jao{s:Shared}{T:String}(I:Inv X pins σ H s)(r:jV x v)(ty:tyV X.K T x H) :
 s.TypeIs v T/\∀a,v=.ref a->∃ob,s.heap.get? a=some ob/\ob.dict=none:=by
 cases x with
 |str z =>
  obtain⟨t,rfl⟩:=r;cases (show T="str" from ty)
  exact⟨typeIs_str s z t,λ_ e=>nomatch e⟩
 |int i =>
  obtain⟨t,rfl⟩:=r;cases (show T="int" from ty)
  exact⟨typeIs_int s i t,λ_ e=>nomatch e⟩
 |ref p =>
  cases r;rcases ty with⟨rfl,xs,hq⟩|⟨rfl,o,hk,hc,hd⟩|⟨rfl,hk⟩|⟨rfl,S,n,hk⟩
  ·obtain⟨its,_,pl,_⟩:=I.list hq;refine⟨pl.isList.typeIs,λa e=>?_⟩;cases e;obtain⟨o,n,e,c,hd,_⟩:=pl;exact⟨o,e,hd⟩
  ·refine⟨⟨o,I.kIn p o hk,hc⟩,λa e=>?_⟩;cases e;exact⟨o,I.kIn _ o hk,hd⟩
  ·have z:∃o,s.heap.get? p=some o/\o.ExactDict:=by
    rcases hk with⟨kvs,hk⟩|⟨kvs,hk⟩
    ·obtain⟨_,_,_,_,o,_,_,e,ex,_⟩:=I.hok p _ hk;exact⟨o,e,ex⟩
    ·obtain⟨_,_,_,_,o,_,_,e,ex,_⟩:=I.hok p _ hk;exact⟨o,e,ex⟩
   obtain⟨o,e,ex⟩:=z;refine⟨⟨o,e,ex.1⟩,λa e2=>?_⟩;cases e2;exact⟨o,e,ex.2.1⟩
  ·obtain⟨o,_,_,_,e,ex,_⟩:=I.hok p _ hk;refine⟨⟨o,e,ex.1⟩,λa e2=>?_⟩;cases e2
   exact⟨o,e,ex.2.1⟩
 |_=>exact mH ty
def tBM0(K:bw)(T:String)(r:V->List V->Hp->VK->Prop)(to:TE):TE:=λσ H Q=>to σ H λx H1=>tyV K T x H1/\r x [] H1 Q
def tBM(K:bw)(T:String)(r:V->List V->Hp->VK->Prop)(to:TE)(t:TA):TE:=λσ H Q=>to σ H λx H1=>tyV K T x H1/\t σ H1 λxs H2=>r x xs H2 Q
variable {o e:Expr} {es:List Expr} {to:TE} {t:TA} {name:Str} {apos cpos:Pos} {T id:String} {r:V->List V->Hp->VK->Prop}
theorem pe_bm0(pa:PlainAttrs T)(slot:Slot T name id)(hty:typeOf (.builtin id)=pure (.type "method_descriptor"))(hm:MtR X id r)(ho:PE X o to)
 (hbase:jdj o name X.env (eval o X.env)=eval o X.env:=by rfl) (hline:(apos.endLine == cpos.line)=true:=by rfl):PE X (.Call (.Attribute o name apos) [] [] cpos) (tBM0 X.K T r to):=by
 intro pins s σ H Q I h;refine wpAny_Call_method0_late hbase hline (thn (ho pins s σ H _ I h) λv s1 ⟨x,H1,I1,r1,ty,q1⟩=>?_);obtain⟨h1,h2⟩:=jao I1 r1 ty;exact⟨T,id,pa,slot,hty,h1,h2,jdF rfl (PySem.evalArgs_none (hm pins s1 σ H1 x [] v [] Q I1 r1 .nil q1))⟩
theorem UC(pa:PlainAttrs T)(slot:Slot T name id)(hty:typeOf (.builtin id)=pure (.type "method_descriptor"))(hm:MtR X id r)(ho:PE X o to)(ha:PA X (e::es) t)
 (hbase:jdj o name X.env (eval o X.env)=eval o X.env:=by rfl)
 (hfew:((backTo cpos (bU (e::es) X.env)).all (λx=>!x.1)&&(backToKw cpos (keywordEach [] X.env)).all (λx=>x.1.isSome)
  && decide ((e::es).length+([]:List jfE).length+(if ([]:List jfE).isEmpty then 0 else 1)<30))=true:=by rfl)
 (hline:(apos.endLine == cpos.line)=true:=by rfl) (hs:bU (e::es) X.env=(false,eval e X.env)::bU es X.env:=by rfl) (hplain:(backTo cpos (bU es X.env)).any (·.1)=false:=by rfl) :
 PE X (.Call (.Attribute o name apos) (e::es) [] cpos) (tBM X.K T r to t):=by
 intro pins s σ H Q I h;refine wpAny_Call_method_late hbase hfew hline rfl (thn (ho pins s σ H _ I h) λv s1 ⟨x,H1,I1,r1,ty,q1⟩=>?_);obtain⟨h1,h2⟩:=jao I1 r1 ty;refine⟨T,id,pa,slot,hty,h1,h2,?_⟩;have hA:=ha cpos pins s1 σ H1 _ I1 q1;rw[hs]at hA ⊢;refine jdF (by show (false ||(backTo cpos (bU es X.env)).any (·.1))=false;rw[hplain]<;>rfl) (Calls.evalArgs_plain ?_)
 exact thn hA λus s2 ⟨vs,H2,I2,r2,q2⟩=>hm pins s2 σ H2 x vs v us Q I2 r1 r2 q2
/- xs.append(e),list.index on a module's tuple .. are MtR facts of 06m -/
end
def MtM(X:Cx)(id:String)(r:V->List V->Hp->VK->Prop):Prop :=
 ∀(pins:List (Addr×nW)) (s:Shared) (σ:St) (H:Hp) (x:V) (xs:List V) (v:bp) (us:List bp) (Q:VK),Inv X pins σ H s->jV x v->jH xs us->r x xs H Q ->
  wpAny (model X.prog X.w) X.A (call (.builtin id) (v::us)) (EP X pins σ Q) X.xe s
theorem jH.one{us:List bp}(h:jH [x] us):∃u,us=[u]/\jV x u:=by
 cases h with|cons r t=>cases t;exact⟨_,rfl,r⟩
theorem jH.rep{xs:List V}{us:List bp}(h:jH xs us):∀k:Nat,jH (bR k xs).flatten (bR k us).flatten
 |0=>.nil
 |k+1=>by
  rw[dX,dX,ma,ma];exact jH.append h (jH.rep h k)
theorem foldl_rep(its:List bp):∀(k:Nat) (acc:List bp),
 jfI (λx1 x2=>x1++x2) acc.toArray (bR k its.toArray)=(acc++(bR k its).flatten).toArray
 |0,acc=>by simp
 |k+1,acc=>by
  have e:acc.toArray++its.toArray=(acc++its).toArray:=by simp
  have e2:(acc++its)++(bR k its).flatten=acc++(bR (k+1) its).flatten:=by
   rw[dX,ma,tO]
  rw[<- e2,<- foldl_rep its k (acc++its),<- e,dX,sT]
variable{t':Nat}
section
variable {X:Cx} {pins:List (Addr×nW)} {σ:St} {H:Hp} {s:Shared} {l b:Addr} {xs ys zs:List V}
theorem Inv.lset{f:Array bp->Array bp}(I:Inv X pins σ H s)(hH:H l=some (.lst xs))
 (e:s.heap.get? l=some { cls:=.type "list",data:=.seq its.toArray n }) (hf:f its.toArray=its'.toArray) (hv:jH ys its') (hz:ys.length<=sizeLine) :
 Inv X pins σ (upd H l (.lst ys)) { s with heap:=s.heap.update l (t8 f),toks:=t' }:=by
 have q:=PySem.IsL.update e f;rw[hf]at q;refine I.write (x:=l) (e:=l) (by rw[hH];exact trivial) (.inl rfl) (λb' u hb hu=>(dQ s.heap (t8 f) (gV hb)).trans hu) ⟨_,q⟩ ?_;exact⟨hz,its',_,hv,q⟩
theorem Inv.lnew(I:Inv X pins σ H s)(hv:jH ys its)(hz:ys.length<=sizeLine) :
 Inv X pins σ (upd H s.heap.objs.size (.lst ys)) { s with heap:=s.heap.push { cls:=.type "list",data:=.seq its.toArray },toks:=t' } :=
 I.laid (λ_ _ q=>bB _ q) (df _) ⟨hz,its,0,hv,dJ _ rfl⟩
theorem Inv.fresh(I:Inv X pins σ H s):H s.heap.objs.size=none:=I.hok.fresh (df _)
theorem Inv.lstM(I:Inv X pins σ H s)(hH:H l=some (.lst xs)):xs.length<=sizeLine/\∃(its:List bp) (n:Nat),jH xs its/\xs.length=its.length/\s.heap.get? l=some { cls:=.type "list",data:=.seq its.toArray n }:=by
 obtain⟨z,its,n,r,e⟩:=I.hok l _ hH;exact⟨z,its,n,r,r.length,e⟩
theorem notLongL(h:n<=sizeLine):mI n=false:=by
 unfold mI;exact decide_eq_false (by omega)
end
section
variable {X:Cx}
def rAppend:V->List V->Hp->VK->Prop:=λx vs H Q=>∃l xs y,x=.ref l/\vs=[y]/\H l=some (.lst xs)/\xs.length<sizeLine/\Q .non (upd H l (.lst (xs ++ [y])))
theorem Ka:MtM X "list.append" rAppend:=by
 intro pins s σ H x vs v us Q I rx rv h;obtain⟨l,xs,y,rfl,rfl,hH,hz,q⟩:=h;cases rx;obtain⟨u,rfl,ru⟩:=rv.one;obtain⟨z,its,n,r,hl,e⟩:=I.lstM hH;refine jeH F.slot_list_append ⟨_,e,rfl⟩ F.entry_list_append (F.args_list_append_2 _ _) (PySem.list_append l its.toArray n u (by rw[dw];omega)) ⟨e,?_⟩;refine⟨.non,_,I.lset (its':=its ++ [u]) hH e (by simp) (r.append (.cons ru .nil)) ?_,rfl,q⟩;rw[b6,nG];omega
theorem len_rep(xs:List α)(k:Nat):(bR k xs).flatten.length=k*xs.length:=by
 induction k with
 |zero=>simp
 |succ k ih=>rw[dX,ma,b6,ih,jcO,Nat.add_comm]
end
section
variable {prog:gj} {w:World} {A:mz} {E:bp->Shared->Prop} {s:Shared}
set_option maxRecDepth 100000 in
end
end L2
namespace Att
open PySem PySem.W PySem.Calls PyProof.Rows
variable{P:Params}{h:gQ}
theorem vt:∀(ns:List Int) (vs:List bp),WellAll P h vs (ns.map WData.int)->jfF vs ns:=by
 intro ns
 induction ns with
 |nil =>
  intro vs w;rw[dR]at w;cases w
  exact .nil
 |cons n ns ih =>
  intro vs w;rw[bq]at w
  cases w with
  |cons a b =>
   cases a;exact .cons _ _ (ih _ b)
variable{l:OpenLaw}{n:Nat}
theorem Vl(hn:l.most=some n){args:List WData}{vals:List bp}
 (hpre:l.row.toRowW.claim.pre args=true) (hwl:WellAll P h vals args) :
 ∃a vs ns,vals=[mf a]/\args=[WData.list (ns.map WData.int)]/\h.get? a=some { cls:=.type "list",data:=.seq vs.toArray }/\jfF vs ns/\ns.length<=n:=by
 have hsh:WShape.hasAll [] args [.list .int]=true:=(pre_splitW hpre).1;have hc:l.pre.holds [] { args:=args }=true:=(pre_splitW hpre).2;obtain⟨d,r,rfl,h1,h2⟩:=hasAllW_cons hsh;obtain rfl:=hasAllW_nil h2;obtain⟨xs,rfl,h3⟩:=hasW_list h1;obtain⟨ns,rfl⟩:=items_int h3
 have hlen:ns.length<=n:=by
  unfold OpenLaw.pre at hc
  have h4:(WTm.not (.lt (.lit (.int (n:Int))) (.len (.arg 0)))).holds [] { args:=[.list (ns.map .int)] }=true:=by
   have h4:=(holds_andW hc).1;rw[hn]at h4;exact h4
  have h5:=condW_of h4 (w_not (w_lt w_lit (w_len_list (w_arg rfl))));rw[bj]at h5
  refine Nat.le_of_not_lt λq=>?_
  have q':(n:Int)<((ns.length:Nat):Int):=by omega
  first
   |(rw[decide_eq_true q']at h5;exact absurd h5 (by decide))
   |(simp at h5;omega)
 cases hwl with
 |cons w1 w2 =>
  cases w2
  cases w1 with
  |list ho hall=>exact⟨_,_,ns,rfl,rfl,ho,vt ns _ hall,hlen⟩
theorem Vf(l:OpenLaw)(args:List WData):l.row.toRowW.claim.post args (.bool true) args=true :=
 postW_of (r:=l.row.toRowW) (X:=(true == true))
  (show WShape.has [] (.bool true) .bool=true by first|rfl|decide|simp[WShape.has,WShape.arms,WShape.armsAll])
  (show (WTm.eq .res (.lit (.bool true))).value [] { args:=args,res:=some (.bool true),after:=args }=some (.bool (true == true)) from w_eq_bool (w_res rfl) w_lit) rfl
theorem attach_call{q:gj}{loose:List Str}{XP:(Str->Option bp)->gQ->Prop}{YP:World->gQ->Prop}{d:DefRec}
 (hn:l.most=some n) (hdf:d.params.defaults=[])
 (call:∀(w:World) (s₀ s₁:Shared) (mg mb:Str->Option bp) (fa:Addr) (o:nW) (pm cd doc:bp) (a:Addr) (vs:List bp) (ns:List Int),
  Ground q loose [] XP w s₀ mg mb s₁.heap->YP w s₁.heap ->
  s₁.heap.get? fa=some o->o.data=.func (docDef d.name d.params d.body d.scope pm cd doc)->s₁.heap.CodeRec cd d.name->mg d.name=some (.ref fa) ->
  s₁.heap.get? a=some { cls:=.type "list",data:=.seq vs.toArray }->jfF vs ns->ns.length<=n->s₁.gens=#[] ->
  jcM (model l.prog w) jdG (.call (.ref fa) ⟨[.ref a],[]⟩) (λr s'=>r=.ok (.ret (.bool true))/\OldK s₁.heap s'.heap/\s'.os=s₁.os/\jcL s'.gens) s₁) :
 WalkO q loose XP YP l.row.toRowW d [] (λf vs=>jfJ f vs):=by
 intro w s₀ s₁ mg mb G Y fa o pm cd doc dV kV ho hd hcd hD hmg hg args vals as hpre hlay hrd hwl hlo;obtain rfl:dV=.none:=Dflts.none hD hdf;obtain rfl:kV=.none:=Dflts.noKw hD;obtain⟨a,vs,ns,rfl,rfl,hobj,hints,hlen⟩:=Vl hn hpre hwl;refine enter_call (jcN (call w s₀ s₁ mg mb fa o pm cd doc a vs ns G Y ho (fd_plain hd) hcd hmg hobj hints hlen hg) λr s' hq=>?_);obtain⟨rfl,h2,h3,h4⟩:=hq;exact⟨.inl ⟨.bool true,.bool true,[],rfl,λ_=>rfl,.bool true,Vf l _,λ_=>⟨List.Pairwise.nil,λ_ hm=>(nomatch hm)⟩⟩,h2,h3,h4⟩
end Att
namespace L2
open PySem PySem.Spec PyProof.Rows
theorem xQ:∀ {vs:List bp} {ns:List Int},jfF vs ns->jH (ns.map V.int) vs
 |_,_,.nil=>.nil
 |_,_,.cons n t h=>.cons ⟨t,rfl⟩ (xQ h)
def Only(H:Hp):Prop:=∀b,H b=none\/∃o xs,H b=some (.frz o (.lst xs))
variable{k:Nat}{x:Str}
theorem jbq{P:gj}{w:World}{K:bw}{mg mb:Str->Option bp}{CX:CXT}{fa a:Addr}{fd:sE}{sp:Sp}{s₁:Shared}{vs:List bp}{ns:List Int}
 (KX:K.In s₁.heap) (hns:s₁.heap.Ns gS mg) (hb:s₁.heap.Ns builtinsNs mb) (hbb:∀x:Str,x ≠ "__name__"->mb x=si x) (hlim:s₁.heap.NoLimit/\s₁.heap.NoDigits) (hg:s₁.gens=#[])
 (ha:s₁.heap.get? a=some { cls:=.type "list",data:=.seq vs.toArray }) (hi:jfF vs ns) (hl:ns.length<=sizeLine) (hr:Room k jdG)
 (F:∀base:gQ,K.In base->base.Ns gS mg->FnOk P w K mg base CX k fa fd [x] sp) (hbind:∀(s:Shared) (u:bp),BindsTo s fd ⟨[u],[]⟩ [(x,u)])
 (hsp:∀H:Hp,Only H->SqL K H a (ns.map V.int)->sp [.ref a] H (λv _=>v=.bl true) λ_ _ _=>False)
 (hCX:∀H e s',CX [] H s₁ (λ_ _ _=>False) e s'->False) :
 jcM (model P w) jdG (.call (.ref fa) ⟨[.ref a],[]⟩) (λr s'=>r=.ok (.ret (.bool true))/\OldK s₁.heap s'.heap/\s'.os=s₁.os/\jcL s'.gens) s₁:=by
 have rv:=xQ hi;have lenV:=hi.length
 have core:∀H:Hp,Only H->SqL K H a (ns.map V.int)->HOk P w H s₁.heap->(∀b,H b≠none->b=a)->(H a≠none->K.lookup a=none) ->
  jcM (model P w) jdG (.call (.ref fa) ⟨[.ref a],[]⟩) (λr s'=>r=.ok (.ret (.bool true))/\OldK s₁.heap s'.heap/\s'.os=s₁.os/\jcL s'.gens) s₁:=by
  intro H hO hS hok hA hK
  have base_of:∀ {b:Addr} {o:nW},s₁.heap.get? b=some o->H b=none->(KR s₁.heap H).get? b=some o:=λe n=>jb4 e n
  have noA:∀ {b:Addr} {o:nW} {es:Array jfl} {ep:Nat},s₁.heap.get? b=some o->o.data=.dict es ep->H b=none:=λ{b o es ep} e d=>by
   cases q:H b with
   |none=>rfl
   |some u =>
    have e':b=a:=hA b (by rw[q];simp);subst e';rw[ha]at e;cases e;have d':Data.seq vs.toArray _=Data.dict es ep:=d;cases d'
  have nsK:∀ {b:Addr} {m:Str->Option bp},s₁.heap.Ns b m->(KR s₁.heap H).Ns b m:=λ{b m} ⟨o,es,ep,e,d,r⟩=>⟨o,es,ep,base_of e (noA e d),d,r⟩
  have hKb:K.In (KR s₁.heap H):=λb o e=>base_of (KX b o e) (by
   cases q:H b with
   |none=>rfl
   |some u =>
    have e':b=a:=hA b (by rw[q];simp);subst e'
    rw[hK (by rw[q];simp)]at e;cases e)
  have hM:Mod K mg (KR s₁.heap H):=⟨hKb,nsK hns,⟨mb,nsK hb,hbb⟩,(let ⟨mc,h1,h2⟩:=hlim.1;⟨mc,nsK h1,h2⟩),(let ⟨mc,h1,h2⟩:=hlim.2;⟨mc,nsK h1,h2⟩)⟩
  have e0:Env0 P w K mg (KR s₁.heap H) jdG [] s₁ H:=⟨rfl,hM,λb o e=>of_hidT e,jdH (U3 _ _),trivial,λb hb=>absurd (show b∈([]:List Addr) from hb) (by simp),hok,.of_eq hg⟩
  refine jcN ((F _ hKb (nsK hns)).run jdG [] s₁ H ⟨[.ref a],[]⟩ [.ref a] [.ref a] _ _ hr e0 (hbind s₁ (.ref a)) (.cons rfl .nil) (hsp H hO hS)) λr s' h=>?_
  cases r with
  |error e=>exact(hCX H e s' h).elim
  |ok fl =>
   cases fl with
   |next=>exact mH h
   |brk=>exact mH h
   |cont=>exact mH h
   |ret u =>
    obtain⟨v,H',os,bare,un,hok',r',q⟩:=h;have q':v=.bl true:=q;subst q';obtain rfl:u=td true:=r';refine⟨rfl,OldK.of_keep λb o e=>?_,os,bare⟩
    cases q:H b with
    |none=>exact un.keep b o e q (by intro z;exact absurd (show b∈([]:List Addr) from z) (by simp)) (by simp)
    |some u =>
     rcases hO b with z|⟨ob,xs,z⟩
     ·rw[q]at z;cases z
     ·have z2:=un.frzs b ob _ z;obtain⟨e1,_⟩:=hok b _ z;obtain⟨e2,_⟩:=hok' b _ z2;rw[e]at e1;cases e1;exact e2
 cases hk:K.lookup a with
 |some o =>
  have e:=KX a o hk;rw[ha]at e;cases e
  refine core (λ_=>none) (λ_=>.inl rfl) (.inr ⟨_,vs.toArray,_,hk,rfl,rfl,rfl,by rw[dw,lenV];exact hl,by simpa using rv⟩) (λb u z=>by have z':(none:Option HO)=some u:=z;cases z') (λb z=>absurd rfl z) λz=>absurd rfl z
 |none =>
  refine core (λb=>if b=a then some (.frz { cls:=.type "list",data:=.seq vs.toArray } (.lst (ns.map V.int))) else none) (λb=>?_) (.inl (.inr ⟨{ cls:=.type "list",data:=.seq vs.toArray },if_pos rfl⟩)) (λb u z=>?_) (λb z=>?_) λ_=>hk
  ·by_cases hb:b=a
   ·exact .inr ⟨_,_,if_pos hb⟩
   ·exact .inl (if_neg hb)
  ·by_cases hb:b=a
   ·have z':=(if_pos hb).symm.trans z;cases z';subst hb;exact⟨ha,by rw[bj];exact hl,vs,_,rv,ha⟩
   ·have z':=(if_neg hb).symm.trans z;cases z'
  ·by_cases hb:b=a
   ·exact hb
   ·exact absurd (if_neg hb) z
theorem walk_of{l:jfA}{n:Nat}{q:gj}{loose:List Str}{XP:(Str->Option bp)->gQ->Prop}{YP:World->gQ->Prop}{d:DefRec}{K:Params->bw}{CX:World->CXT}{sp:World->Sp}
 (hn:l.most=some n) (hn2:n<=sizeLine) (hdf:d.params.defaults=[]) (hr:Room k jdG)
 (hY:∀(w:World) (h:gQ),YP w h->(K w.params).In h)
 (F:∀(w:World) (mg:Str->Option bp) (fa:Addr) (h:gQ),(K w.params).In h->h.Ns gS mg->mg d.name=some (.ref fa) ->
  ∃fd:sE,(∀(s:Shared) (u:bp),BindsTo s fd ⟨[u],[]⟩ [(x,u)]) /\
   ∀base:gQ,(K w.params).In base->base.Ns gS mg->FnOk l.prog w (K w.params) mg base (CX w) k fa fd [x] (sp w))
 (hsp:∀(w:World) (H:Hp) (a:Addr) (ns:List Int),ns.length<=n->Only H->SqL (K w.params) H a (ns.map V.int)->sp w [.ref a] H (λv _=>v=.bl true) λ_ _ _=>False)
 (hCX:∀(w:World) (H:Hp) (s:Shared) (e:bp) (s':Shared),CX w [] H s (λ_ _ _=>False) e s'->False) :
 jfS q loose XP YP l.row.toRowW d [] (λf vs=>jfJ f vs):=by
 refine Att.attach_call hn hdf λw s₀ s₁ mg mb fa o pm cd doc a vs ns G Y ho hd hcd hmg hobj hints hlen hg=>?_
 have KX:=hY w _ Y;obtain⟨fd,hb,hF⟩:=F w mg fa _ KX G.T.g hmg
 exact jbq KX G.T.g G.T.b G.T.builtins ⟨G.T.nolimit,G.T.nodigits⟩ hg hobj hints (bS hlen hn2) hr hF hb (λH hO hS=>hsp w H a ns hlen hO hS) λH e s'=>hCX w H s₁ e s'
end L2
/- THE LAST THEOREM (shape;LID,My.* are yours):
   My.Adr: a structure of the addresses that your layer names (classes,functions);My.Txt K t: a structure (Prop) of the equations over K;
   My.txt_mk:{K} {implicit addresses ..} (e1:nsIn K gS "law"=some (some (.ref f))) (e2:K.lookup f=some ⟨oc,od,.func (fnOf "law" "law" params body scope dV kV doc pm an cdv ct),sl⟩) (e3:codeIn K cdv "law"=true) ..:∃t,My.Txt K t
set_option maxRecDepth 100000 in
set_option maxHeartbeats 0 in
theorem PySem.Challenge.cw_LID_holds : PySem.Challenge.rw_LID.Holds := by
 w_on;o_law;k_head;(case hw=>w_witness2)
 k_fill
 refine L2.walk_of (l:=PySem.Challenge.rw_LID) (n:=63) (k:=40) (x:="script") (CX:=λw=>..) (sp:=λ_=>My.sp_law) rfl (by decide) rfl ⟨rfl,by decide,by decide⟩ (λw h Y=>jfK Y) ?F ?S ?C
 case F =>
  intro w mg fa h KX G hmg
  have T:∃t,My.Txt (L2.KOf KX) t:=by
   dsimp only[L2.KOf]                          -- K must stand as «<heap const> w.params» for k_is
   refine' My.txt_mk ?e1 ?e2 ?e3 ..
   (case e1=>PySem.W.k_is)                    -- in the order: a name -> its address -> its object -> its parts
   (case e2=>PySem.W.k_is)
   ..
  obtain⟨t,T⟩:=T;have e0:=hmg.symm.trans (we KX G T.law)
  cases e0                                       -- fa is the law's own address
  exact⟨_,λs u=>.of_eq rfl,λbase kb nb=>My.law_fn T kb nb⟩     -- if «.of_eq rfl» comes too early: refine'⟨_,?b,λbase kb nb=>My.law_fn T kb nb⟩;exact λs u=>.of_eq rfl
 case S=>exact λw H a ns hl hO hS=>..
 case C=>exact ..
(the tactic k_is has no namespace: write k_is) -/
namespace L2
open PySem PySem.Spec PyProof.Rows
def qQ(s:Stmt):Arguments:=match s with
 |.FunctionDef _ a _ _ _ _ _ _ _ _=>a
 |_=>{ posonlyargs:=[],args:=[],vararg:=none,kwonlyargs:=[],kw_defaults:=[],kwarg:=none,defaults:=[] }
def kj(s:Stmt):List Stmt:=match s with
 |.FunctionDef _ _ b _ _ _ _ _ _ _=>b
 |_=>[]
def jk(s:Stmt):Scope:=match s with
 |.FunctionDef _ _ _ _ _ _ sc _ _ _=>sc
 |_=>{ kind:=.function,names:=[],isGenerator:=false,isCoroutine:=false }
abbrev E0:XK:=λ_ _ _=>False
structure Fun (K:bw) (x qual:Str) (st:Stmt) (f:Addr) (fd:sE):Prop where
 ex:∃(oc:bp) (od:Option Addr) (kV doc pm:bp) (an:Option Addr) (cdv ct:bp) (osl:Array (Option bp)),
  fd=nQ x qual (qQ st) (kj st) (jk st) .none kV doc pm an cdv ct/\K.lookup f=some ⟨oc,od,.func fd,osl⟩/\tN K cdv qual=true
 kp:nr K (.ref f)=true
section
variable {P:gj} {w:World} {K:bw} {mg:Str->Option bp} {base:gQ}
theorem fun_mk{x qual:Str}{st:Stmt}{f:Addr}{oc:bp}{od an:Option Addr}{osl:Array (Option bp)}{kV doc pm cdv ct:bp}(l:K.lookup f=some ⟨oc,od,.func (nQ x qual (qQ st) (kj st) (jk st) .none kV doc pm an cdv ct),osl⟩)
 (c:tN K cdv qual=true) (k:nr K (.ref f)=true):Fun K x qual st f (nQ x qual (qQ st) (kj st) (jk st) .none kV doc pm an cdv ct):=⟨⟨oc,od,kV,doc,pm,an,cdv,ct,osl,rfl,l,c⟩,k⟩
end
def je(H H':Hp):Prop:=∀b o,H b=some o->H' b=some o
theorem je.refl(H:Hp):je H H:=λ_ _ h=>h
variable{H:Hp}
theorem je.trans{H1 H2:Hp}(a:je H H1)(b:je H1 H2):je H H2:=λc o h=>b c o (a c o h)
variable{H':Hp}
theorem je.free(e:je H H'){l:Addr}(h:H' l=Option.none):H l=Option.none:=by
 cases q:H l with
 |none=>rfl
 |some o =>
  rw[e l o q]at h;cases h
theorem je.seq{K:bw}{a:Addr}{xs:List V}(e:je H H')(h:SqL K H a xs):SqL K H' a xs:=by
 rcases h with(h|⟨o,h⟩)|h
 ·exact .inl (.inl (e _ _ h))
 ·exact .inl (.inr ⟨o,e _ _ h⟩)
 ·exact .inr h
end L2
namespace Z
open PySem
set_option genInjectivity true in
inductive D where
 |non|bl (b:Bool)|int (i:Int)|str (x:Str)|tup (xs:List D)|lst (xs:List D)
mutual
noncomputable def eqD:D->D->Bool
 |.non,.non=>true
 |.bl a,.bl b=>a == b
 |.bl a,.int j=>(if a then 1 else 0) == j
 |.int i,.bl b=>i == (if b then 1 else 0)
 |.int i,.int j=>i == j
 |.str x,.str y=>x == y
 |.tup xs,.tup ys=>zb xs ys
 |.lst xs,.lst ys=>zb xs ys
 |_,_=>false
noncomputable def zb:List D->List D->Bool
 |[],[]=>true
 |x::xs,y::ys=>eqD x y&&zb xs ys
 |_,_=>false
end
mutual
noncomputable def qF:D->Nat
 |.tup xs=>zH xs+1
 |.lst xs=>zH xs+1
 |_=>0
noncomputable def zH:List D->Nat
 |[]=>0
 |x::xs=>max (qF x) (zH xs)
end
mutual
noncomputable def nol:D->Bool
 |.tup xs=>Xb xs
 |.lst _=>false
 |_=>true
noncomputable def Xb:List D->Bool
 |[]=>true
 |x::xs=>nol x&&Xb xs
end
structure XD where
 c:Nat
 t:Str
 f:List D
inductive BOp where
 |add|sub|mul|fdiv|mod|shl|shr|band|pow
 deriving DecidableEq
inductive COp where
 |eq|ne|lt|le|gt|ge|isN|notN|isT|notT
 |inn|nin
 deriving DecidableEq
inductive Bi where
 |abs|max|min|len|int|list|sum|all
 deriving DecidableEq
inductive Mt where
 |bitlen
 deriving DecidableEq
inductive Ty where
 |int|bool|tuple|list|str
 deriving DecidableEq
inductive Ex where
 |var (i:Nat)
 |cst (d:D)
 |con (k:Nat)
 |bin (o:BOp) (a b:Ex)
 |neg (a:Ex)
 |not (a:Ex)
 |cmp (o:COp) (a b:Ex)
 |and (a b:Ex)
 |or (a b:Ex)
 |ife (c a b:Ex)
 |tup (es:List Ex)
 |lst (es:List Ex)
 |ix (a b:Ex)
 |call (f:Nat) (es:List Ex)
 |bi (f:Bi) (es:List Ex)
 |meth (m:Mt) (o:Ex)
 |isi (a:Ex) (t:Ty)
 |compR (es:List Ex) (e:Ex)
 |compE (a e:Ex)
 |oix (i:Nat) (e:Ex)
 |compZ (a b e:Ex)
 |slc (a l h:Ex)
inductive RSt where
 |sto (c:Option Ex) (e v:Ex)
 |app (v:Ex)
inductive Sm where
 |nop
 |seq (a b:Sm)
 |set (i:Nat) (e:Ex)
 |unp (is:List Nat) (e:Ex)
 |ret (e:Ex)
 |ite (c:Ex) (a b:Sm)
 |whl (c:Ex) (b:Sm)
 |forR (i:Nat) (es:List Ex) (b:Sm)
 |forE (i:Nat) (e:Ex) (b:Sm)
 |brk|cnt
 |never
 |new (i:Nat)
 |app (i:Nat) (e:Ex)
 |sto (i:Nat) (e v:Ex)
 |shr (i:Nat)
 |retX (fs:List (Nat×List Ex)) (f:Nat) (es:List Ex)
 |raiseA (x:Str) (e:Ex)
 |tryR (b:Sm) (x:Str) (v:D)
 |ext (i:Nat) (e:Ex)
 |forU (i j s:Nat) (e:Ex)
 |retG (e:Ex)
 |setG (i f:Nat) (es:List Ex)
 |ownG (i:Nat) (e:Ex)
 |forT (j i:Nat) (ss:List RSt)
 |shrT (i:Nat)
 |hlfT (i:Nat)
 |cpO (j i:Nat) (es:List Ex) (c e:Ex)
 |forN (i:Nat) (e:Ex) (b:Sm)
inductive Sl where
 |sh (d:D)
 |ow (ds:List D)
 |ot (rows:List (List D))
abbrev Sto:=List (Option Sl)
def getS:Sto->Nat->Option Sl
 |[],_=>none
 |x::_,0=>x
 |_::r,i+1=>getS r i
def setS:Sto->Nat->Option Sl->Sto
 |[],_,_=>[]
 |_::r,0,v=>v::r
 |x::r,i+1,v=>x::setS r i v
abbrev bits(i:Int):Nat:=g7 i
def lim:Nat:=16777216
def ku(i j:Int):Prop:=bits i<=64\/bits j<=64\/bits i+bits j<=134217728
def ShlOk(i j:Int):Prop:=0<=j/\(bits i:Int)+j<=134217728
def ja8(i j:Int):Prop:=0<=j/\(bits i:Int)*j<=134217728
def Uq(n:Nat)(k:Int):Prop:=(-9223372036854775808<=k/\k<9223372036854775808)/\n*k.toNat<=lim
def yO(f:Int->Int->(D->Prop)->Prop):D->D->(D->Prop)->Prop
 |.int i,.int j,Q=>f i j Q
 |_,_,_=>False
def addD:D->D->(D->Prop)->Prop
 |.int i,.int j,Q=>Q (.int (i+j))
 |.lst xs,.lst ys,Q=>xs.length+ys.length<=lim/\Q (.lst (xs++ys))
 |_,_,_=>False
def mulD:D->D->(D->Prop)->Prop
 |.int i,.int j,Q=>ku i j/\Q (.int (i*j))
 |.lst xs,.int k,Q=>Uq xs.length k/\Q (.lst (bR k.toNat xs).flatten)
 |_,_,_=>False
def x5:BOp->D->D->(D->Prop)->Prop
 |.add=>addD
 |.sub=>yO λi j Q=>Q (.int (i-j))
 |.mul=>mulD
 |.fdiv=>yO λi j Q=>(j≠0/\bits j<=9000)/\Q (.int (i.fdiv j))
 |.mod=>yO λi j Q=>j≠0/\Q (.int (i.fmod j))
 |.shl=>yO λi j Q=>ShlOk i j/\Q (.int (i*2^j.toNat))
 |.shr=>yO λi j Q=>0<=j/\Q (.int (i / 2^j.toNat))
 |.band=>yO λi j Q=>Q (.int (p6 i j))
 |.pow=>yO λi j Q=>ja8 i j/\Q (.int (i^j.toNat))
def isNonD:D->Bool
 |.non=>true
 |_=>false
def nonD(t:Bool):D->D->(D->Prop)->Prop
 |x,.non,Q=>Q (.bl (isNonD x == t))
 |_,_,_=>False
def isTD(t:Bool):D->D->(D->Prop)->Prop
 |.bl b,.bl c,Q=>Q (.bl ((b == c) == t))
 |_,_,_=>False
def lexlt(p q:Int×Int):Bool:=decide (p.1<q.1\/(p.1=q.1/\p.2<q.2))
def prD(p:Int×Int):D:=.tup [.int p.1,.int p.2]
def sortD:D->(D->Prop)->Prop
 |.lst xs,Q=>xs.length<64/\((∃ns:List Int,xs=ns.map D.int/\∀ms:List Int,ms.Perm ns->ms.Pairwise (·<=·)->Q (.lst (ms.map D.int))) \/
  ∃ps:List (Int×Int),xs=ps.map prD/\∀qs:List (Int×Int),qs.Perm ps->qs.Pairwise (λa b=>lexlt b a=false)->Q (.lst (qs.map prD)))
 |_,_=>False
def inD(t:Bool):D->D->(D->Prop)->Prop
 |.int i,.lst ys,Q=>∃ns:List Int,ys=ns.map .int/\ys.length<=lim/\Q (.bl (ns.contains i == t))
 |.int i,.tup ys,Q=>∃ns:List Int,ys=ns.map .int/\ys.length<=lim/\Q (.bl (ns.contains i == t))
 |_,_,_=>False
def yD:COp->D->D->(D->Prop)->Prop
 |.eq=>λx y Q=>min (qF x) (qF y)<=100/\Q (.bl (eqD x y))
 |.ne=>λx y Q=>min (qF x) (qF y)<=100/\Q (.bl (!eqD x y))
 |.lt=>yO λi j Q=>Q (.bl (decide (i<j)))
 |.le=>yO λi j Q=>Q (.bl (decide (i<=j)))
 |.gt=>yO λi j Q=>Q (.bl (decide (j<i)))
 |.ge=>yO λi j Q=>Q (.bl (decide (j<=i)))
 |.isN=>nonD true
 |.notN=>nonD false
 |.isT=>isTD true
 |.notT=>isTD false
 |.inn=>inD true
 |.nin=>inD false
def atD(xs:List D)(i:Int):Option D :=
 if 0<=i then xs[i.toNat]? else if -(xs.length:Int)<=i then xs[(i+xs.length).toNat]? else none
def ixD:D->D->(D->Prop)->Prop
 |.lst xs,.int i,Q=>∃d,atD xs i=some d/\Q d
 |.tup xs,.int i,Q=>∃d,atD xs i=some d/\Q d
 |_,_,_=>False
def tyD:Ty->D->Bool
 |.int,.int _=>true
 |.int,.bl _=>true
 |.bool,.bl _=>true
 |.tuple,.tup _=>true
 |.list,.lst _=>true
 |.str,.str _=>true
 |_,_=>false
def v8(f:D->(D->Prop)->Prop):List D->(D->Prop)->Prop
 |[x],Q=>f x Q
 |_,_=>False
def two2(f:D->D->(D->Prop)->Prop):List D->(D->Prop)->Prop
 |[x,y],Q=>f x y Q
 |_,_=>False
def absD:D->(D->Prop)->Prop
 |.int i,Q=>Q (.int (if i<0 then -i else i))
 |_,_=>False
def lenD:D->(D->Prop)->Prop
 |.lst xs,Q=>Q (.int xs.length)
 |.tup xs,Q=>Q (.int xs.length)
 |_,_=>False
def toIntD:D->(D->Prop)->Prop
 |.int i,Q=>Q (.int i)
 |.bl b,Q=>Q (.int (if b then 1 else 0))
 |_,_=>False
def toListD:D->(D->Prop)->Prop
 |.lst xs,Q=>Q (.lst xs)
 |.tup xs,Q=>Q (.lst xs)
 |_,_=>False
def yB(f:List D->(D->Prop)->Prop):D->(D->Prop)->Prop
 |.lst xs,Q=>f xs Q
 |_,_=>False
def yW(mx:Bool)(a b:Int):Int:=if mx then (if b > a then b else a) else (if b<a then b else a)
def mmF(mx:Bool)(d:Int):List Int->Int
 |[]=>d
 |n::ns=>ns.foldl (yW mx) n
def minD:List D->(D->Prop)->Prop
 |[x],Q=>yB (λxs Q=>∃ns:List Int,xs=ns.map .int/\ns ≠ []/\Q (.int (mmF false 0 ns))) x Q
 |[x,y],Q=>yO (λi j Q=>Q (.int (if j<i then j else i))) x y Q
 |_,_=>False
def biD:Bi->List D->(D->Prop)->Prop
 |.abs=>v8 absD
 |.max=>two2 (yO λi j Q=>Q (.int (if j > i then j else i)))
 |.min=>minD
 |.len=>v8 lenD
 |.int=>v8 toIntD
 |.list=>v8 toListD
 |.sum=>v8 (yB λxs Q=>∃ns:List Int,xs=ns.map .int/\Q (.int ns.sum))
 |.all=>v8 (yB λxs Q=>∃bs:List Bool,xs=bs.map .bl/\Q (.bl (bs.all id)))
def sIx(n d:Nat):Option Int->Nat
 |none=>d
 |some v=>if v<0 then (v+(n:Int)).toNat else min v.toNat n
def yr(xs:List D)(lo hi:Option Int):List D:=(xs.drop (sIx xs.length 0 lo)).take (sIx xs.length xs.length hi-sIx xs.length 0 lo)
def slD:D->Option Int->Option Int->(D->Prop)->Prop
 |.lst xs,lo,hi,Q=>Q (.lst (yr xs lo hi))
 |_,_,_,_=>False
def kL:Ex->Bool
 |.cst .non=>true
 |_=>false
def vz(R:Option Int->Prop):D->Prop
 |.int i=>R (some i)
 |_=>False
def prt(b:Bool)(w:(D->Prop)->Prop)(R:Option Int->Prop):Prop:=if b=true then R none else w (vz R)
def mmD(mx:Bool):D->D->(D->Prop)->Prop
 |.lst xs,.int d,Q=>∃ns:List Int,xs=ns.map .int/\Q (.int (mmF mx d ns))
 |_,_,_=>False
def mtD:Mt->D->(D->Prop)->Prop
 |.bitlen,.int i,Q=>Q (.int (bits i))
 |_,_,_=>False
structure Ctr where
 pre:List D->Prop
 res:List D->D->Prop
 exn:List D->XD->Prop:=λ_ _=>False
structure Cfg where
 ct:Nat->Ctr
 cn:Nat->D
 fr:Nat->Bool:=λ_=>false
 f2:Nat->Bool:=λ_=>false
 E:XD->Prop:=λ_=>False
def Ctr.wp(c:Ctr)(ds:List D)(Q:D->Prop)(E:XD->Prop):Prop:=c.pre ds/\(∀d,c.res ds d->Q d)/\∀x,c.exn ds x->E x
def itemsD:D->Option (List D)
 |.lst xs=>some xs
 |.tup xs=>some xs
 |_=>none
def jW(lo st:Int):Nat->List D
 |0=>[]
 |n+1=>.int lo::jW (lo+st) st n
def qT(i:Int):Prop:=-4611686018427387904<=i/\i<4611686018427387904
def rgD:List D->(List D->Prop)->Prop
 |[.int hi],Q=>qT hi/\Q (jW 0 1 hi.toNat)
 |_,_=>False
def QM(xs:List D):List D:=xs.zipIdx.map λp=>.tup [.int p.2,p.1]
def zD(xs ys:List D):List D:=(xs.zip ys).map λp=>.tup [p.1,p.2]
def isL(f:List D->Prop):D->Prop
 |.lst xs=>f xs
 |_=>False
def kC(rows:List (List D)):D:=.lst (rows.map .lst)
def jbb(f:List (List D)->Prop)(d:D):Prop:=∃rows,d=kC rows/\f rows
def obD(f:List (List D)->Prop)(p:Prop):Option Sl->Prop
 |some (.ot rows)=>f rows
 |some (.sh _)=>p
 |_=>False
def otD(f:List (List D)->Prop):Option Sl->Prop
 |some (.ot rows)=>f rows
 |_=>False
def isB(Q:Bool->Prop):D->Prop
 |.bl k=>Q k
 |_=>False
def kD(f:D->(D->Prop)->Prop):List D->(List D->Prop)->Prop
 |[],Q=>Q []
 |d::ds,Q=>f d λy=>kD f ds λys=>Q (y::ys)
def qN(p:D->(Bool->Prop)->Prop)(f:D->(D->Prop)->Prop):List D->(List D->Prop)->Prop
 |[],Q=>Q []
 |d::ds,Q=>p d λb=>if b=true then f d λy=>qN p f ds λys=>Q (y::ys) else qN p f ds Q
mutual
noncomputable def wpE(C:Cfg):Ex->Sto->(D->Prop)->Prop
 |.var i,σ,Q=>match getS σ i with|some (.sh d)=>Q d|_=>False
 |.cst d,_,Q=>Q d
 |.con k,_,Q=>Q (C.cn k)
 |.bin o a b,σ,Q=>wpE C a σ λx=>wpE C b σ λy=>x5 o x y Q
 |.neg a,σ,Q=>wpE C a σ λx=>match x with|.int i=>Q (.int (-i))|_=>False
 |.not a,σ,Q=>wpE C a σ λx=>match x with|.bl c=>Q (.bl (!c))|_=>False
 |.cmp o a b,σ,Q=>wpE C a σ λx=>wpE C b σ λy=>yD o x y Q
 |.and a b,σ,Q=>wpE C a σ λx=>match x with|.bl k=>if k=true then wpE C b σ Q else Q (.bl false)|_=>False
 |.or a b,σ,Q=>wpE C a σ λx=>match x with|.bl k=>if k=true then Q (.bl true) else wpE C b σ Q|_=>False
 |.ife c a b,σ,Q=>wpE C c σ λx=>match x with|.bl k=>if k=true then wpE C a σ Q else wpE C b σ Q|_=>False
 |.tup es,σ,Q=>wpEs C es σ λds=>Q (.tup ds)
 |.lst es,σ,Q=>wpEs C es σ λds=>Q (.lst ds)
 |.ix a b,σ,Q=>wpE C a σ λx=>wpE C b σ λy=>ixD x y Q
 |.call f es,σ,Q=>wpEs C es σ λds=>(C.ct f).wp ds Q C.E
 |.bi f es,σ,Q=>wpEs C es σ λds=>biD f ds Q
 |.meth m o,σ,Q=>wpE C o σ λx=>mtD m x Q
 |.isi a t,σ,Q=>wpE C a σ λx=>Q (.bl (tyD t x))
 |.compR es e,σ,Q=>wpEs C es σ λds=>rgD ds λxs=>xs.length<=lim/\kD (λd Q=>wpE C e (σ ++ [some (.sh d)]) Q) xs λys=>Q (.lst ys)
 |.compE a e,σ,Q=>wpE C a σ λd=>∃xs,itemsD d=some xs/\xs.length<=lim/\kD (λd Q=>wpE C e (σ ++ [some (.sh d)]) Q) xs λys=>Q (.lst ys)
 |.oix i e,σ,Q=>match getS σ i with|some (.ow ds)=>wpE C e σ λy=>ixD (.lst ds) y Q|_=>False
 |.compZ a b e,σ,Q=>wpE C a σ λx=>wpE C b σ λy=>∃xs ys,(x=.lst xs/\y=.lst ys)/\(zD xs ys).length<=lim/\kD (λd Q=>wpE C e (σ ++ [some (.sh d)]) Q) (zD xs ys) λzs=>Q (.lst zs)
 |.slc a l h,σ,Q=>wpE C a σ λx=>prt (kL l) (λR=>wpE C l σ R) λy=>prt (kL h) (λR=>wpE C h σ R) λz=>slD x y z Q
noncomputable def wpEs(C:Cfg):List Ex->Sto->(List D->Prop)->Prop
 |[],_,Q=>Q []
 |e::es,σ,Q=>wpE C e σ λd=>wpEs C es σ λds=>Q (d::ds)
end
section
variable {C:Cfg} {σ:Sto} {Q:D->Prop}
theorem wE_var:wpE C (.var i) σ Q=(match getS σ i with|some (.sh d)=>Q d|_=>False):=rfl
theorem wE_cst:wpE C (.cst d) σ Q=(Q d):=rfl
theorem wE_con:wpE C (.con k) σ Q=(Q (C.cn k)):=rfl
theorem wE_bin:wpE C (.bin o a b) σ Q=(wpE C a σ λx=>wpE C b σ λy=>x5 o x y Q):=rfl
theorem wE_neg:wpE C (.neg a) σ Q=(wpE C a σ λx=>match x with|.int i=>Q (.int (-i))|_=>False):=rfl
theorem wE_not:wpE C (.not a) σ Q=(wpE C a σ λx=>match x with|.bl c=>Q (.bl (!c))|_=>False):=rfl
theorem wE_cmp:wpE C (.cmp o a b) σ Q=(wpE C a σ λx=>wpE C b σ λy=>yD o x y Q):=rfl
theorem wE_and:wpE C (.and a b) σ Q=(wpE C a σ λx=>match x with|.bl k=>if k=true then wpE C b σ Q else Q (.bl false)|_=>False):=rfl
theorem wE_or:wpE C (.or a b) σ Q=(wpE C a σ λx=>match x with|.bl k=>if k=true then Q (.bl true) else wpE C b σ Q|_=>False):=rfl
theorem wE_ife:wpE C (.ife c a b) σ Q=(wpE C c σ λx=>match x with|.bl k=>if k=true then wpE C a σ Q else wpE C b σ Q|_=>False):=rfl
theorem wE_tup:wpE C (.tup es) σ Q=(wpEs C es σ λds=>Q (.tup ds)):=rfl
theorem wE_lst:wpE C (.lst es) σ Q=(wpEs C es σ λds=>Q (.lst ds)):=rfl
theorem wE_ix:wpE C (.ix a b) σ Q=(wpE C a σ λx=>wpE C b σ λy=>ixD x y Q):=rfl
theorem wE_call:wpE C (.call f es) σ Q=(wpEs C es σ λds=>(C.ct f).wp ds Q C.E):=rfl
theorem wE_bi:wpE C (.bi f es) σ Q=(wpEs C es σ λds=>biD f ds Q):=rfl
theorem wE_meth:wpE C (.meth m o) σ Q=(wpE C o σ λx=>mtD m x Q):=rfl
theorem wE_isi:wpE C (.isi a t) σ Q=(wpE C a σ λx=>Q (.bl (tyD t x))):=rfl
theorem wE_compR:wpE C (.compR es e) σ Q=(wpEs C es σ λds=>rgD ds λxs=>xs.length<=lim/\kD (λd Q=>wpE C e (σ ++ [some (.sh d)]) Q) xs λys=>Q (.lst ys)):=rfl
theorem wE_compE:wpE C (.compE a e) σ Q=(wpE C a σ λd=>∃xs,itemsD d=some xs/\xs.length<=lim/\kD (λd Q=>wpE C e (σ ++ [some (.sh d)]) Q) xs λys=>Q (.lst ys)):=rfl
theorem wE_oix:wpE C (.oix i e) σ Q=(match getS σ i with|some (.ow ds)=>wpE C e σ λy=>ixD (.lst ds) y Q|_=>False):=rfl
theorem wE_compZ:wpE C (.compZ a b e) σ Q=(wpE C a σ λx=>wpE C b σ λy=>∃xs ys,(x=.lst xs/\y=.lst ys)/\(zD xs ys).length<=lim/\kD (λd Q=>wpE C e (σ ++ [some (.sh d)]) Q) (zD xs ys) λzs=>Q (.lst zs)):=rfl
theorem wE_slc:wpE C (.slc a l h) σ Q=(wpE C a σ λx=>prt (kL l) (λR=>wpE C l σ R) λy=>prt (kL h) (λR=>wpE C h σ R) λz=>slD x y z Q):=rfl
end
structure DE where
 nx:Sto->Prop
 rt:D->Prop
 bk:Sto->Prop:=λ_=>False
 ct:Sto->Prop:=λ_=>False
 rf:List D->Prop:=λ_=>False
 xn:XD->Prop:=λ_=>False
 rg:List (List D)->Prop:=λ_=>False
def setAll:List Nat->List D->Sto->Option Sto
 |[],[],σ=>some σ
 |i::is,d::ds,σ=>setAll is ds (setS σ i (some (.sh d)))
 |_,_,_=>none
def forL(body:DE->Sto->Prop)(i:Nat)(K:DE):List D->Sto->Prop
 |[],σ=>K.nx σ
 |d::ds,σ=>body { K with nx:=forL body i K ds,ct:=forL body i K ds,bk:=K.nx } (setS σ i (some (.sh d)))
def jbu(c:Sto->(Bool->Prop)->Prop)(body:DE->Sto->Prop)(K:DE)(σ:Sto):Prop :=
 ∃W:Nat->Sto->Prop,(∃m,W m σ)/\∀m σ,W m σ->c σ λt=>if t=true then
  body { K with nx:=λσ'=>∃m',m'<m/\W m' σ',ct:=λσ'=>∃m',m'<m/\W m' σ',bk:=K.nx } σ else K.nx σ
def extD(K:DE)(σ:Sto)(i:Nat)(ds:List D):D->Prop
 |.lst xs=>ds.length+xs.length<=lim/\K.nx (setS σ i (some (.ow (ds++xs))))
 |_=>False
def fldOk(x:Str)(d:D):Prop:=x="Dependent"->∃xs,d=.lst xs
def wpN(C:Cfg)(σ:Sto)(f:Nat)(es:List Ex):List (Nat×List Ex)->(D->Prop)->(XD->Prop)->Prop
 |[],Q,E=>wpEs C es σ λds=>(C.ct f).wp ds Q E
 |gr::rest,Q,E=>wpN C σ f es rest (λd=>wpEs C gr.2 σ λds=>(C.ct gr.1).wp (d::ds) Q C.E) E
def ocD(f:List D->Prop)(g:List (List D)->Prop):Option Sl->Prop
 |some (.ow ds)=>f ds
 |some (.ot rows)=>g rows
 |_=>False
def JM(f:List D->Prop):Option Sl->Prop
 |some (.ow ds)=>f ds
 |_=>False
def insD(K:DE)(σ:Sto)(i:Nat)(ds:List D)(v:D):D->Prop
 |.int k=>(0<=k/\k<=ds.length/\ds.length<lim)/\K.nx (setS σ i (some (.ow (ds.take k.toNat++v::ds.drop k.toNat))))
 |_=>False
def uh(c:Sto->(D->Prop)->Prop)(i s:Nat)(K:DE):List D->Sto->Prop
 |[],σ=>K.nx σ
 |d::ds,σ=>c (setS σ i (some (.sh d))) λy=>uh c i s K ds (setS (setS σ i (some (.sh d))) s (some (.sh y)))
def app2D(K:DE)(σ:Sto)(i:Nat)(rows:List (List D))(w:(D->Prop)->Prop):D->Prop
 |.int k=>∃row,(0<=k/\rows[k.toNat]?=some row/\row.length<lim)/\w λy=>K.nx (setS σ i (some (.ot (rows.set k.toNat (row ++ [y])))))
 |_=>False
def popD(K:DE)(σ:Sto)(i j:Nat)(ms ls:List D):D->Prop
 |.int k=>∃d,(0<=k/\ls[k.toNat]?=some d/\ms.length<lim/\k<16777216)/\K.nx (setS (setS σ j (some (.ow (ls.eraseIdx k.toNat)))) i (some (.ow (ms ++ [d]))))
 |_=>False
def stoR(row:List D)(d:D)(Q:List D->Prop):D->Prop
 |.int k=>(0<=k/\k<row.length)/\Q (row.set k.toNat d)
 |_=>False
def Vd(C:Cfg)(j:Nat)(σ:Sto):RSt->List D->(List D->Prop)->Prop
 |.app v,row,Q=>row.length<lim/\wpE C v (setS σ j none) λd=>Q (row ++ [d])
 |.sto none e v,row,Q=>wpE C v (setS σ j (some (.sh (.lst row)))) λd=>nol d=true/\wpE C e (setS σ j none) (stoR row d Q)
 |.sto (some c) e v,row,Q=>wpE C c (setS σ j none) (isB λb=>if b=true then wpE C v (setS σ j (some (.sh (.lst row)))) (λd=>nol d=true/\wpE C e (setS σ j none) (stoR row d Q)) else Q row)
def wpR(C:Cfg)(j:Nat)(σ:Sto):List RSt->List D->(List D->Prop)->Prop
 |[],row,Q=>Q row
 |s::ss,row,Q=>Vd C j σ s row λrow'=>wpR C j σ ss row' Q
def uM(f:List D->(List D->Prop)->Prop):List (List D)->(List (List D)->Prop)->Prop
 |[],Q=>Q []
 |r::rs,Q=>f r λr'=>uM f rs λrs'=>Q (r'::rs')
def notT:Option Sl->Bool
 |some (.ot _)=>false
 |_=>true
def noT:Sto->Nat->Bool
 |[],_=>true
 |_::r,0=>r.all notT
 |x::r,i+1=>notT x&&noT r i
def frIt(C:Cfg):Ex->Bool
 |.call f _=>C.fr f
 |_=>true
def qI(f:D->(List D->Prop)->Prop):List D->(List (List D)->Prop)->Prop
 |[],Q=>Q []
 |d::ds,Q=>f d λy=>qI f ds λys=>Q (y::ys)
def wpG(C:Cfg):Ex->Sto->(List (List D)->Prop)->Prop
 |.compR es b,σ,Q=>frIt C b=true/\wpEs C es σ λds=>rgD ds λxs=>xs.length<=lim/\qI (λd Q=>wpE C b (σ ++ [some (.sh d)]) (isL Q)) xs Q
 |.compE a b,σ,Q=>frIt C b=true/\wpE C a σ λd=>∃xs,itemsD d=some xs/\xs.length<=lim/\qI (λd Q=>wpE C b (σ ++ [some (.sh d)]) (isL Q)) xs Q
 |_,_,_=>False
def wpS(C:Cfg):Sm->DE->Sto->Prop
 |.nop,K,σ=>K.nx σ
 |.seq a b,K,σ=>wpS C a { K with nx:=λσ'=>wpS C b K σ' } σ
 |.set i e,K,σ=>wpE C e σ λd=>K.nx (setS σ i (some (.sh d)))
 |.unp is e,K,σ=>wpE C e σ λd=>match d with|.tup ds=>∃σ',setAll is ds σ=some σ'/\K.nx σ'|.lst ds=>∃σ',setAll is ds σ=some σ'/\K.nx σ'|_=>False
 |.ret e,K,σ=>wpE C e σ K.rt
 |.ite c a b,K,σ=>wpE C c σ (isB λt=>if t=true then wpS C a K σ else wpS C b K σ)
 |.whl c b,K,σ=>jbu (λσ Q=>wpE C c σ (isB Q)) (λK σ=>wpS C b K σ) K σ
 |.forR i es b,K,σ=>wpEs C es σ λds=>rgD ds λxs=>forL (λK σ=>wpS C b K σ) i K xs σ
 |.forE i e b,K,σ=>wpE C e σ λd=>∃xs,itemsD d=some xs/\forL (λK σ=>wpS C b K σ) i K xs σ
 |.brk,K,σ=>K.bk σ
 |.cnt,K,σ=>K.ct σ
 |.never,_,_=>False
 |.new i,K,σ=>K.nx (setS σ i (some (.ow [])))
 |.ext i e,K,σ=>match getS σ i with|some (.ow ds)=>wpE C e σ (extD K σ i ds)|_=>False
 |.app i e,K,σ=>match getS σ i with|some (.ow ds)=>ds.length<lim/\wpE C e σ λd=>K.nx (setS σ i (some (.ow (ds ++ [d]))))|_=>False
 |.sto i e v,K,σ=>match getS σ i with|some (.ow ds)=>wpE C v σ λd=>wpE C e σ λy=>(match y with|.int k=>(0<=k/\k<ds.length)/\K.nx (setS σ i (some (.ow (ds.set k.toNat d))))|_=>False)|_=>False
 |.shr i,K,σ=>match getS σ i with|some (.ow ds)=>K.nx (setS σ i (some (.sh (.lst ds))))|_=>False
 |.raiseA x e,K,σ=>wpE C e σ λd=>fldOk x d/\K.xn ⟨0,x,[d]⟩
 |.retX fs f es,K,σ=>wpN C σ f es fs K.rt K.xn
 |.tryR b x v,K,σ=>wpS C b { K with xn:=λz=>z.t=x/\K.rt v } σ
 |.forU i j s e,K,σ=>JM (λds=>uh (λσ Q=>wpE C e σ Q) i s K ds σ) (getS σ j)
 |.retG e,K,σ=>wpG C e σ K.rg
 |.setG i f es,K,σ=>wpEs C es σ λds=>((C.fr f=false/\C.f2 f=true)/\noT σ i=true)/\(C.ct f).wp ds (jbb λrows=>K.nx (setS σ i (some (.ot rows)))) C.E
 |.ownG i e,K,σ=>noT σ i=true/\wpG C e σ λrows=>K.nx (setS σ i (some (.ot rows)))
 |.forT j i ss,K,σ=>otD (λrows=>uM (wpR C j (setS σ i none) ss) rows λrows'=>K.nx (setS (setS σ i (some (.ot rows'))) j none)) (getS σ i)
 |.shrT i,K,σ=>otD (λrows=>K.nx (setS σ i (some (.sh (kC rows))))) (getS σ i)
 |.cpO j i es c e,K,σ=>JM (λds=>wpEs C es (setS σ j (some (.sh (.lst ds)))) λvs=>rgD vs λxs=>xs.length<=lim/\qN (λd Q=>wpE C c (setS σ j (some (.sh (.lst ds))) ++ [some (.sh d)]) (isB Q)) (λd Q=>wpE C e (setS σ j (some (.sh (.lst ds))) ++ [some (.sh d)]) Q) xs λys=>Xb ys=true/\K.nx (setS σ i (some (.ow ys)))) (getS σ j)
 |.hlfT i,K,σ=>ocD (λ_=>K.nx σ) (λrows=>K.nx (setS σ i (some (.ow (rows.map .lst))))) (getS σ i)
 |.forN i e b,K,σ=>wpE C e σ (isL λxs=>forL (λK σ=>wpS C b K σ) i K (QM xs) σ)
section
variable {C:Cfg} {K:DE} {σ:Sto}
theorem wS_seq:wpS C (.seq a b) K σ=(wpS C a { K with nx:=λσ'=>wpS C b K σ' } σ):=rfl
theorem wS_unp:wpS C (.unp is e) K σ=(wpE C e σ λd=>match d with|.tup ds=>∃σ',setAll is ds σ=some σ'/\K.nx σ'|.lst ds=>∃σ',setAll is ds σ=some σ'/\K.nx σ'|_=>False):=rfl
theorem wS_new:wpS C (.new i) K σ=(K.nx (setS σ i (some (.ow [])))):=rfl
theorem jck:wpS C (.ext i e) K σ=(match getS σ i with|some (.ow ds)=>wpE C e σ (extD K σ i ds)|_=>False):=rfl
theorem Za:wpS C (.app i e) K σ=(match getS σ i with|some (.ow ds)=>ds.length<lim/\wpE C e σ λd=>K.nx (setS σ i (some (.ow (ds ++ [d]))))|_=>False):=rfl
theorem YB:wpS C (.sto i e v) K σ=(match getS σ i with|some (.ow ds)=>wpE C v σ λd=>wpE C e σ λy=>(match y with|.int k=>(0<=k/\k<ds.length)/\K.nx (setS σ i (some (.ow (ds.set k.toNat d))))|_=>False)|_=>False):=rfl
theorem Zd:wpS C (.shr i) K σ=(match getS σ i with|some (.ow ds)=>K.nx (setS σ i (some (.sh (.lst ds))))|_=>False):=rfl
end
variable{f:List (List D)->Prop}{x y:D}{Q Q':D->Prop}
theorem q5{f:Int->Int->(D->Prop)->Prop}(hf:∀i j,f i j Q->f i j Q')(w:yO f x y Q):yO f x y Q':=by
 cases x<;>first|exact w.elim|(cases y<;>first|exact w.elim|exact hf _ _ w)
variable{o:Option Sl}
theorem Kb{o:BOp}(h:∀d,Q d->Q' d)(w:x5 o x y Q):x5 o x y Q':=by
 cases o<;>first|exact q5 (λi j z=>h _ z) w|exact q5 (λi j z=>⟨z.1,h _ z.2⟩) w|skip
 ·cases x<;>first|exact w.elim|(cases y<;>first|exact w.elim|exact h _ w|exact⟨w.1,h _ w.2⟩)
 ·cases x<;>first|exact w.elim|(cases y<;>first|exact w.elim|exact h _ w|exact⟨w.1,h _ w.2⟩)
theorem xZ{o:COp}(h:∀d,Q d->Q' d)(w:yD o x y Q):yD o x y Q':=by
 cases o<;>first|exact q5 (λi j z=>h _ z) w|exact⟨w.1,h _ w.2⟩|skip
 ·cases y<;>first|exact w.elim|exact h _ w
 ·cases y<;>first|exact w.elim|exact h _ w
 ·cases x<;>first|exact w.elim|(cases y<;>first|exact w.elim|(next k=>cases k<;>first|exact w.elim|exact h _ w))
 ·cases x<;>first|exact w.elim|(cases y<;>first|exact w.elim|(next k=>cases k<;>first|exact w.elim|exact h _ w))
 ·cases x<;>first|exact w.elim|(cases y<;>first|exact w.elim|exact h _ w|exact⟨w.choose,w.choose_spec.1,w.choose_spec.2.1,h _ w.choose_spec.2.2⟩)
 ·cases x<;>first|exact w.elim|(cases y<;>first|exact w.elim|exact h _ w|exact⟨w.choose,w.choose_spec.1,w.choose_spec.2.1,h _ w.choose_spec.2.2⟩)
theorem yL(h:∀d,Q d->Q' d)(w:ixD x y Q):ixD x y Q':=by
 unfold ixD at *
 split at w<;>first|exact⟨w.choose,w.choose_spec.1,h _ w.choose_spec.2⟩|exact w.elim
variable{xs:List D}
theorem Kd{f:D->(D->Prop)->Prop}(hf:∀x,f x Q->f x Q')(w:v8 f xs Q):v8 f xs Q':=by
 match xs,w with
 |[x],w=>exact hf x w
theorem Kj{f:D->D->(D->Prop)->Prop}(hf:∀x y,f x y Q->f x y Q')(w:two2 f xs Q):two2 f xs Q':=by
 match xs,w with
 |[x,y],w=>exact hf x y w
theorem VD(h:∀d,Q d->Q' d):∀ {xs:List D},minD xs Q->minD xs Q'
 |[x],w=>by
  cases x<;>first|exact w.elim|exact⟨w.choose,w.choose_spec.1,w.choose_spec.2.1,h _ w.choose_spec.2.2⟩
 |[x,y],w=>q5 (λi j z=>h _ z) w
theorem QT{f:Bi}(h:∀d,Q d->Q' d)(w:biD f xs Q):biD f xs Q':=by
 cases f<;>first|exact VD h w|exact Kd (f:=sortD) (λx z=>sortD_mono h z) w|exact Kj (λx y z=>q5 (λi j z=>⟨z.1,h _ z.2⟩) z) w|exact Kj (λx y z=>q5 (λi j z=>h _ z) z) w|refine Kd (λx z=>?_) w
 all_goals cases x<;>first|exact z.elim|exact h _ z|exact And.intro z.1 (h _ z.2)|exact⟨z.choose,z.choose_spec.1,h _ z.choose_spec.2⟩
theorem jbD{f:Mt}(h:∀d,Q d->Q' d)(w:mtD f x Q):mtD f x Q':=by
 unfold mtD at *
 split at w<;>first|exact h _ w|exact⟨w.1,h _ w.2⟩|exact w.elim
variable{c:Ex}{ds:List D}
theorem Ctr.wp_mono{c:Ctr}{E:XD->Prop}(h:∀d,Q d->Q' d)(w:c.wp ds Q E):c.wp ds Q' E:=⟨w.1,λd r=>h d (w.2.1 d r),w.2.2⟩
variable{Q Q':List D->Prop}{d:D}
theorem ka{Q Q':Bool->Prop}(h:∀k,Q k->Q' k)(w:isB Q d):isB Q' d:=by
 cases d<;>first|exact h _ w|exact w.elim
theorem yG(h:∀d,Q d->Q' d)(w:rgD ds Q):rgD ds Q':=by
 unfold rgD at *;split at w
 ·exact⟨w.1,h _ w.2⟩
 ·exact w.elim
theorem jU{f:D->(D->Prop)->Prop}(hf:∀d {Q Q':D->Prop},(∀y,Q y->Q' y)->f d Q->f d Q'):∀(xs:List D) {Q Q':List D->Prop},(∀ys,Q ys->Q' ys)->kD f xs Q->kD f xs Q'
 |[],Q,Q',h,w=>h _ w
 |d::ds,Q,Q',h,w=>hf d (λy wy=>jU hf ds (λys=>h _) wy) w
theorem xJ{p:D->(Bool->Prop)->Prop}{f:D->(D->Prop)->Prop}(hp:∀d {Q Q':Bool->Prop},(∀y,Q y->Q' y)->p d Q->p d Q')(hf:∀d {Q Q':D->Prop},(∀y,Q y->Q' y)->f d Q->f d Q') :
 ∀(xs:List D) {Q Q':List D->Prop},(∀ys,Q ys->Q' ys)->qN p f xs Q->qN p f xs Q'
 |[],Q,Q',h,w=>h _ w
 |d::ds,Q,Q',h,w=>hp d (λb wb=>by
  cases b with
  |true=>exact hf d (λy wy=>xJ hp hf ds (λys=>h _) wy) wb
  |false=>exact xJ hp hf ds h wb) w
theorem jaD{l h:Option Int}{Q Q':D->Prop}(k:∀d,Q d->Q' d)(w:slD x l h Q):slD x l h Q':=by
 unfold slD at *
 split at w<;>first|exact w.elim|exact k _ w|exact⟨w.1,k _ w.2⟩
variable{R R':Option Int->Prop}
theorem U8(h:∀o,R o->R' o)(w:vz R d):vz R' d:=by
 cases d<;>first|exact w.elim|exact h _ w
theorem xS{b:Bool}{w:(D->Prop)->Prop}(hw:∀ {Q Q':D->Prop},(∀d,Q d->Q' d)->w Q->w Q')(h:∀o,R o->R' o)(k:prt b w R):prt b w R':=by
 unfold prt at *;split
 ·next e=>rw[if_pos e]at k;exact h _ k
 ·next e=>rw[if_neg e]at k;exact hw (λd=>U8 h) k
variable{g:List (List D)->Prop}
theorem QR(h:∀rows,f rows->g rows)(w:otD f o):otD g o:=by
 match o,w with
 |some (.ot rows),w=>exact h rows w
theorem Vw(h:∀rows,f rows->g rows)(w:jbb f d):jbb g d:=⟨w.choose,w.choose_spec.1,h _ w.choose_spec.2⟩
mutual
theorem ja{C:Cfg}:∀(e:Ex) {σ:Sto} {Q Q':D->Prop},(∀d,Q d->Q' d)->wpE C e σ Q->wpE C e σ Q'
 |.var i,σ,Q,Q',h,w=>by
  rw[wE_var]at w ⊢
  cases g:getS σ i with
  |none=>rw[g]at w;exact w.elim
  |some z=>rw[g]at w;cases z<;>first|exact h _ w|exact w.elim
 |.cst d,σ,Q,Q',h,w=>by exact h _ w
 |.con k,σ,Q,Q',h,w=>by exact h _ w
 |.bin o a b,σ,Q,Q',h,w=>by
  exact ja a (λx wx=>ja b (λy wy=>Kb h wy) wx) w
 |.neg a,σ,Q,Q',h,w=>by
  exact ja a (λx wx=>by cases x<;>first|exact h _ wx|exact wx.elim) w
 |.not a,σ,Q,Q',h,w=>by
  exact ja a (λx wx=>by cases x<;>first|exact h _ wx|exact wx.elim) w
 |.cmp o a b,σ,Q,Q',h,w=>by
  exact ja a (λx wx=>ja b (λy wy=>xZ h wy) wx) w
 |.and a b,σ,Q,Q',h,w=>by
  refine ja a (λx wx=>?_) w
  cases x with
  |bl k=>cases k with
   |true=>exact ja b h wx
   |false=>exact h _ wx
  |_=>exact wx.elim
 |.or a b,σ,Q,Q',h,w=>by
  refine ja a (λx wx=>?_) w
  cases x with
  |bl k=>cases k with
   |true=>exact h _ wx
   |false=>exact ja b h wx
  |_=>exact wx.elim
 |.ife c a b,σ,Q,Q',h,w=>by
  refine ja c (λx wx=>?_) w
  cases x with
  |bl k=>cases k with
   |true=>exact ja a h wx
   |false=>exact ja b h wx
  |_=>exact wx.elim
 |.tup es,σ,Q,Q',h,w=>by exact jm es (λds=>h _) w
 |.lst es,σ,Q,Q',h,w=>by exact jm es (λds=>h _) w
 |.ix a b,σ,Q,Q',h,w=>by
  exact ja a (λx wx=>ja b (λy wy=>yL h wy) wx) w
 |.call f es,σ,Q,Q',h,w=>by exact jm es (λds=>Ctr.wp_mono h) w
 |.bi f es,σ,Q,Q',h,w=>by exact jm es (λds=>QT h) w
 |.meth m o,σ,Q,Q',h,w=>by exact ja o (λx=>jbD h) w
 |.isi a t,σ,Q,Q',h,w=>by exact ja a (λx=>h _) w
 |.compR es e,σ,Q,Q',h,w=>by
  exact jm es (λds=>yG λxs wx=>⟨wx.1,jU (f:=λd Q=>wpE C e (σ ++ [some (.sh d)]) Q) (λd _ _ hq=>ja e hq) xs (λys=>h _) wx.2⟩) w
 |.compE a e,σ,Q,Q',h,w=>by
  exact ja a (λd ⟨xs,e1,wx⟩=>⟨xs,e1,wx.1,jU (f:=λd Q=>wpE C e (σ ++ [some (.sh d)]) Q) (λd _ _ hq=>ja e hq) xs (λys=>h _) wx.2⟩) w
 |.slc a l u,σ,Q,Q',h,w=>by
  exact ja a (λx wx=>xS (λhq=>ja l hq) (λy wy=>xS (λhq=>ja u hq) (λz=>jaD h) wy) wx) w
 |.oix i e,σ,Q,Q',h,w=>by
  rw[wE_oix]at w ⊢
  cases g:getS σ i with
  |none=>rw[g]at w;exact w.elim
  |some z =>
   rw[g]at w
   cases z with
   |sh d=>exact w.elim
   |ot _=>exact w.elim
   |ow ds=>exact ja e (λy wy=>yL h wy) w
 |.compZ a b e,σ,Q,Q',h,w=>by
  exact ja a (λx wx=>ja b (λy ⟨xs,ys,e1,wy⟩=>⟨xs,ys,e1,wy.1,jU (f:=λd Q=>wpE C e (σ ++ [some (.sh d)]) Q) (λd _ _ hq=>ja e hq) _ (λys=>h _) wy.2⟩) wx) w
theorem jm{C:Cfg}:∀(es:List Ex) {σ:Sto} {Q Q':List D->Prop},(∀d,Q d->Q' d)->wpEs C es σ Q->wpEs C es σ Q'
 |[],σ,Q,Q',h,w=>by unfold wpEs at *;exact h _ w
 |e::es,σ,Q,Q',h,w=>by
  unfold wpEs at *;exact ja e (λd wd=>jm es (λds=>h _) wd) w
end
structure DE.le (K K':DE):Prop where
 nx:∀σ,K.nx σ->K'.nx σ
 rt:∀d,K.rt d->K'.rt d
 bk:∀σ,K.bk σ->K'.bk σ
 ct:∀σ,K.ct σ->K'.ct σ
 rf:∀ds,K.rf ds->K'.rf ds
 xn:∀x,K.xn x->K'.xn x:=by exact λ_ z=>z
 rg:∀rows,K.rg rows->K'.rg rows:=by exact λ_ z=>z
theorem qa{body:DE->Sto->Prop}(hb:∀K K' σ,DE.le K K'->body K σ->body K' σ){i:Nat}{K K':DE}(h:DE.le K K'):∀(xs:List D) {σ:Sto},forL body i K xs σ->forL body i K' xs σ
 |[],σ,w=>h.nx _ w
 |d::ds,σ,w=>by
  unfold forL at *;refine hb _ _ _ ?_ w;exact⟨λ_=>qa hb h ds,h.rt,h.nx,λ_=>qa hb h ds,h.rf,h.xn,h.rg⟩
theorem uD{C:Cfg}{σ:Sto}{f:Nat}{es:List Ex}:∀(fs:List (Nat×List Ex)) {Q Q':D->Prop} {E E':XD->Prop},(∀d,Q d->Q' d)->(∀y,E y->E' y)->wpN C σ f es fs Q E->wpN C σ f es fs Q' E'
 |[],Q,Q',E,E',h,h',w=>by
  unfold wpN at *
  exact jm es (λds wd=>⟨wd.1,λd r=>h _ (wd.2.1 d r),λy r=>h' _ (wd.2.2 y r)⟩) w
 |gr::rest,Q,Q',E,E',h,h',w=>by
  unfold wpN at *;exact uD rest (λd=>jm gr.2 λds=>Ctr.wp_mono h) h' w
variable{f:List D->Prop}
theorem jcs{f':List D->Prop}{g':List (List D)->Prop}(h:∀ds,f ds->f' ds)(k:∀rs,g rs->g' rs)(w:ocD f g o):ocD f' g' o:=by
 match o,w with
 |some (.ow ds),w=>exact h ds w
 |some (.ot rows),w=>exact k rows w
variable{g:List D->Prop}
theorem Kv(h:∀ds,f ds->g ds)(w:JM f o):JM g o:=by
 match o,w with
 |some (.ow ds),w=>exact h ds w
theorem JB{c:Sto->(D->Prop)->Prop}(hc:∀σ {Q Q':D->Prop},(∀b,Q b->Q' b)->c σ Q->c σ Q'){i s:Nat}{K K':DE}(h:DE.le K K'):∀(xs:List D) {σ:Sto},uh c i s K xs σ->uh c i s K' xs σ
 |[],σ,w=>h.nx _ w
 |d::ds,σ,w=>hc _ (λy wy=>JB hc h ds wy) w
theorem x6(h:∀ds,f ds->g ds)(w:isL f d):isL g d:=by
 cases d<;>first|exact w.elim|exact h _ w
theorem qD{f:D->(List D->Prop)->Prop}(hf:∀d {Q Q':List D->Prop},(∀y,Q y->Q' y)->f d Q->f d Q'):∀(xs:List D) {Q Q':List (List D)->Prop},(∀ys,Q ys->Q' ys)->qI f xs Q->qI f xs Q'
 |[],Q,Q',h,w=>h _ w
 |d::ds,Q,Q',h,w=>hf d (λy wy=>qD hf ds (λys=>h _) wy) w
variable{e:Ex}{σ:Sto}
theorem uw{C:Cfg}{Q Q':List (List D)->Prop}(h:∀r,Q r->Q' r)(w:wpG C e σ Q):wpG C e σ Q':=by
 cases e<;>first|exact w.elim|skip
 ·next es b=>exact⟨w.1,jm es (λds=>yG λxs wx=>⟨wx.1,qD (f:=λd Q=>wpE C b (σ ++ [some (.sh d)]) (isL Q)) (λd _ _ hq=>ja b λ_=>x6 hq) xs h wx.2⟩) w.2⟩
 ·next a b=>exact⟨w.1,ja a (λd ⟨xs,e1,wx⟩=>⟨xs,e1,wx.1,qD (f:=λd Q=>wpE C b (σ ++ [some (.sh d)]) (isL Q)) (λd _ _ hq=>ja b λ_=>x6 hq) xs h wx.2⟩) w.2⟩
theorem Kn{row:List D}(h:∀r,Q r->Q' r)(w:stoR row d Q y):stoR row d Q' y:=by
 cases y<;>first|exact w.elim|exact⟨w.1,h _ w.2⟩
variable{j:Nat}
theorem va{C:Cfg}{s:RSt}{row:List D}(h:∀r,Q r->Q' r)(w:Vd C j σ s row Q):Vd C j σ s row Q':=by
 cases s with
 |app v=>exact⟨w.1,ja v (λ_=>h _) w.2⟩
 |sto c e v =>
  cases c with
  |none=>exact ja v (λd wd=>⟨wd.1,ja e (λy=>Kn h) wd.2⟩) w
  |some c =>
   refine ja c (λd=>ka λk wk=>?_) w
   cases k with
   |true=>exact ja v (λd wd=>⟨wd.1,ja e (λy=>Kn h) wd.2⟩) wk
   |false=>exact h _ wk
theorem uk{C:Cfg}{j:Nat}{σ:Sto}:∀(ss:List RSt) {row:List D} {Q Q':List D->Prop},(∀r,Q r->Q' r)->wpR C j σ ss row Q->wpR C j σ ss row Q'
 |[],row,Q,Q',h,w=>h _ w
 |s::ss,row,Q,Q',h,w=>va (λr wr=>uk ss h wr) w
theorem Jx{f:List D->(List D->Prop)->Prop}(hf:∀r {Q Q':List D->Prop},(∀y,Q y->Q' y)->f r Q->f r Q'):∀(rs:List (List D)) {Q Q':List (List D)->Prop},(∀r,Q r->Q' r)->uM f rs Q->uM f rs Q'
 |[],Q,Q',h,w=>h _ w
 |r::rs,Q,Q',h,w=>hf r (λy wy=>Jx hf rs (λys=>h _) wy) w
theorem jn{C:Cfg}:∀(s:Sm) {K K':DE} {σ:Sto},DE.le K K'->wpS C s K σ->wpS C s K' σ
 |.nop,K,K',σ,h,w=>by exact h.nx _ w
 |.seq a b,K,K',σ,h,w=>by
  refine jn a ?_ w
  exact⟨λ_=>jn b h,h.rt,h.bk,h.ct,h.rf,h.xn,h.rg⟩
 |.set i e,K,K',σ,h,w=>by exact ja e (λ_=>h.nx _) w
 |.unp is e,K,K',σ,h,w=>by
  refine ja e (λd wd=>?_) w
  cases d<;>first|exact⟨wd.choose,wd.choose_spec.1,h.nx _ wd.choose_spec.2⟩|exact wd.elim
 |.ret e,K,K',σ,h,w=>by exact ja e h.rt w
 |.ite c a b,K,K',σ,h,w=>by
  refine ja c (λd=>ka λk wk=>?_) w
  cases k with
  |true=>exact jn a h wk
  |false=>exact jn b h wk
 |.whl c b,K,K',σ,h,w=>by
  obtain⟨W,w0,turn⟩:=w;refine⟨W,w0,λm σ hW=>ja c (λd=>ka λk wk=>?_) (turn m σ hW)⟩
  cases k with
  |true =>
   refine jn b ?_ wk
   exact⟨λ_ z=>z,h.rt,h.nx,λ_ z=>z,h.rf,h.xn,h.rg⟩
  |false=>exact h.nx _ wk
 |.forR i es b,K,K',σ,h,w=>by
  exact jm es (λds=>yG λxs=>qa (body:=λK σ=>wpS C b K σ) (λK K' σ h=>jn b h) h xs) w
 |.forE i e b,K,K',σ,h,w=>by
  exact ja e (λd ⟨xs,e1,wx⟩=>⟨xs,e1,qa (body:=λK σ=>wpS C b K σ) (λK K' σ h=>jn b h) h xs wx⟩) w
 |.brk,K,K',σ,h,w=>by exact h.bk _ w
 |.cnt,K,K',σ,h,w=>by exact h.ct _ w
 |.never,K,K',σ,h,w=>by exact w.elim
 |.new i,K,K',σ,h,w=>by exact h.nx _ w
 |.ext i e,K,K',σ,h,w=>by
  rw[jck]at w ⊢
  cases g:getS σ i with
  |none=>rw[g]at w;exact w.elim
  |some z =>
   rw[g]at w
   cases z with
   |sh d=>exact w.elim
   |ot _=>exact w.elim
   |ow ds =>
    refine ja e (λd wd=>?_) w
    cases d<;>first|exact wd.elim|exact⟨wd.1,h.nx _ wd.2⟩
 |.app i e,K,K',σ,h,w=>by
  rw[Za]at w ⊢
  cases g:getS σ i with
  |none=>rw[g]at w;exact w.elim
  |some z =>
   rw[g]at w
   cases z with
   |sh d=>exact w.elim
   |ot _=>exact w.elim
   |ow ds=>exact⟨w.1,ja e (λ_=>h.nx _) w.2⟩
 |.sto i e v,K,K',σ,h,w=>by
  rw[YB]at w ⊢
  cases g:getS σ i with
  |none=>rw[g]at w;exact w.elim
  |some z =>
   rw[g]at w
   cases z with
   |sh d=>exact w.elim
   |ot _=>exact w.elim
   |ow ds =>
    refine ja v (λd wd=>ja e (λy wy=>?_) wd) w
    cases y<;>first|exact⟨wy.1,h.nx _ wy.2⟩|exact wy.elim
 |.shr i,K,K',σ,h,w=>by
  rw[Zd]at w ⊢
  cases g:getS σ i with
  |none=>rw[g]at w;exact w.elim
  |some z =>
   rw[g]at w
   cases z with
   |sh d=>exact w.elim
   |ot _=>exact w.elim
   |ow ds=>exact h.nx _ w
 |.retX fs f es,K,K',σ,h,w=>by
  exact uD fs (λd=>h.rt _) (λy=>h.xn _) w
 |.raiseA x e,K,K',σ,h,w=>by
  exact ja e (λd q=>⟨q.1,h.xn _ q.2⟩) w
 |.tryR b x v,K,K',σ,h,w=>by
  refine jn b ?_ w
  exact⟨h.nx,h.rt,h.bk,h.ct,h.rf,λz q=>⟨q.1,h.rt _ q.2⟩,h.rg⟩
 |.forU i j s e,K,K',σ,h,w=>by exact Kv (λds=>JB (c:=λσ Q=>wpE C e σ Q) (λσ _ _ hq=>ja e hq) h ds) w
 |.retG e,K,K',σ,h,w=>by exact uw (λrows=>h.rg _) w
 |.setG i f es,K,K',σ,h,w=>by exact jm es (λds wd=>⟨wd.1,Ctr.wp_mono (λd=>Vw λrows=>h.nx _) wd.2⟩) w
 |.ownG i e,K,K',σ,h,w=>by exact⟨w.1,uw (λrows=>h.nx _) w.2⟩
 |.forT j i ss,K,K',σ,h,w=>by exact QR (λrows=>Jx (f:=wpR C j (setS σ i none) ss) (λr _ _ hq=>uk ss hq) rows λ_=>h.nx _) w
 |.shrT i,K,K',σ,h,w=>by exact QR (λrows=>h.nx _) w
 |.cpO j i es c e,K,K',σ,h,w=>by
  exact Kv (λds=>jm es λvs=>yG λxs wx=>⟨wx.1,xJ (p:=λd Q=>wpE C c (setS σ j (some (.sh (.lst ds))) ++ [some (.sh d)]) (isB Q)) (f:=λd Q=>wpE C e (setS σ j (some (.sh (.lst ds))) ++ [some (.sh d)]) Q) (λd _ _ hq=>ja c λ_=>ka hq) (λd _ _ hq=>ja e hq) xs (λys q=>⟨q.1,h.nx _ q.2⟩) wx.2⟩) w
 |.hlfT i,K,K',σ,h,w=>by exact jcs (λ_=>h.nx _) (λrows=>h.nx _) w
 |.forN i e b,K,K',σ,h,w=>by
  exact ja e (λd=>x6 λxs=>qa (body:=λK σ=>wpS C b K σ) (λK K' σ h=>jn b h) h _) w
theorem xt(i:Int):bits i=if i=0 then 0 else i.natAbs.log2+1:=by
 unfold bits g7;by_cases h:i=0
 ·simp[h]
 ·simp[h]
theorem jh{i:Int}{n:Nat}:bits i<=n ↔ i.natAbs<2^n:=by
 rw[xt];by_cases h:i=0
 ·subst h;simp[gO]
 ·rw[if_neg h]
  have h0:i.natAbs≠0:=by omega
  rw[<- Nat.log2_lt h0];omega
theorem zo(i:Int):i.natAbs<2^bits i:=jh.mp (df _)
theorem yK{i:Int}{n:Nat}:n<bits i ↔ 2^n<=i.natAbs:=by
 have:=@jh i n;omega
variable{i:Int}
theorem QV(h:i≠0):2^(bits i-1)<=i.natAbs:=by
 refine yK.mp ?_
 have:bits i≠0:=by rw[xt,if_neg h];omega
 omega
theorem JR(h:i≠0):0<bits i:=by rw[xt,if_neg h];omega
variable{n:Nat}
theorem QK:bits i=n+1 ↔ 2^n<=i.natAbs/\i.natAbs<2^(n+1):=by
 have h1:=@jh i (n+1);have h2:=@yK i n;constructor
 ·intro h;exact⟨h2.mp (by omega),h1.mp (by omega)⟩
 ·intro ⟨a,b⟩;have:=h1.mpr b;have:=h2.mpr a;omega
theorem xg(i:Int):bits (-i)=bits i:=by
 rw[xt,xt,Int.natAbs_neg];by_cases h:i=0
 ·simp[h]
 ·rw[if_neg h,if_neg (by omega)]
theorem vO(i:Int):bits (i.natAbs:Int)=bits i:=by
 rw[xt,xt,pI];by_cases h:i=0
 ·simp[h]
 ·rw[if_neg h,if_neg (by omega)]
theorem jC(a b:Int):bits (a*b)<=bits a+bits b:=by
 rw[jh,mi,jd6];have h1:=zo a;have h2:=zo b;exact Nat.mul_lt_mul'' h1 h2
theorem uH(a b:Int):bits (a+b)<=max (bits a) (bits b)+1:=by
 rw[jh,mJ];have h1:=zo a;have h2:=zo b;have h3:2^bits a<=2^max (bits a) (bits b):=my (by decide) (by omega);have h4:2^bits b<=2^max (bits a) (bits b):=my (by decide) (by omega);omega
theorem ze(a b:Int):bits (a-b)<=max (bits a) (bits b)+1:=by
 have:=uH a (-b);rw[xg]at this;rw[Int.sub_eq_add_neg];exact this
variable{a:Int}
theorem jX{b:Int}(h:a.natAbs<=b.natAbs):bits a<=bits b:=by
 rw[jh];have:=zo b;omega
theorem kl(n:Nat):bits (2^n:Int)=n+1:=by
 rw[QK]
 have e:((2:Int)^n).natAbs=2^n:=by rw[pj];rfl
 rw[e];exact⟨df _,jd7 (by decide) (by omega)⟩
theorem xF(h0:0<=i)(h:i<2^n):bits i<=n:=by
 rw[jh]
 have:(i.natAbs:Int)<2^n:=by omega
 exact_mod_cast this
theorem two_pow_pos(n:Nat):(0:Int)<2^n:=by
 have:=gO n
 exact_mod_cast this
theorem j4{b:Int}(h:0<=b):a.fdiv b=a / b:=jcX a h
theorem jA{b:Int}(h:0<=b):a.fmod b=a%b:=Int.fmod_eq_emod_of_nonneg a h
theorem xT{b:Int}(h:0<b):bits (a / b)<=bits a:=by
 refine jX ?_;by_cases h0:0<=a
 ·have h1:0<=a / b:=jdT h0 (sj h);have h2:a / b<=a:=Int.ediv_le_self b h0;omega
 ·have h1:a / b<0:=Int.ediv_neg_of_neg_of_pos (by omega) h
  have h2:a<=a / b:=by
   have:=Int.le_ediv_iff_mul_le (a:=a) (b:=a) h
   have h3:a*b<=a:=by
    have:=Int.mul_le_mul_of_nonpos_left (a:=a) (b:=b) (c:=1) (by omega) (by omega);omega
   omega
  omega
def startS(n:Nat)(ds:List D):Sto:=ds.map (λd=>some (.sh d))++bR (n-ds.length) none
def jB(C:Cfg)(n:Nat)(b:Sm)(c:Ctr):Prop:=∀ds,c.pre ds->wpS C b { nx:=λ_=>c.res ds .non,rt:=c.res ds } (startS n ds)
def KeepsF(C:Cfg)(n:Nat)(b:Sm)(c:Ctr):Prop:=∀ds,c.pre ds->wpS C b { nx:=λ_=>False,rt:=λ_=>False,rf:=λxs=>c.res ds (.lst xs) } (startS n ds)
def jb7(C:Cfg)(n:Nat)(b:Sm)(c:Ctr):Prop:=∀ds,c.pre ds->wpS C b { nx:=λ_=>False,rt:=λ_=>False,rg:=λrows=>c.res ds (kC rows) } (startS n ds)
def KP(C:Cfg)(n:Nat)(b:Sm)(c:Ctr):Prop:=∀ds,c.pre ds->wpS C b { nx:=λ_=>c.res ds .non,rt:=c.res ds,xn:=c.exn ds } (startS n ds)
def KeepsQ(C:Cfg)(n:Nat)(b:Sm)(c:Ctr):Prop:=∀ds,c.pre ds->wpS C b { nx:=λ_=>False,rt:=λd=>nol d=true/\c.res ds d,rg:=λrows=>c.res ds (kC rows),xn:=c.exn ds } (startS n ds)
def KeepsY(C:Cfg)(n:Nat)(b:Sm)(c:Ctr):Prop:=∀ds,c.pre ds->wpS C b { nx:=λ_=>False,rt:=λ_=>False,rf:=λxs=>c.res ds (.lst xs),xn:=c.exn ds } (startS n ds)
variable{x:Str}{i:Nat}{es:List Ex}
section
variable {C:Cfg} {K:DE} {σ:Sto}
theorem Vv:wpS C (.raiseA x e) K σ=wpE C e σ λd=>fldOk x d/\K.xn ⟨0,x,[d]⟩:=rfl
theorem ZJ{f:Nat}:wpS C (.retX [] f es) K σ=wpEs C es σ λds=>(C.ct f).wp ds K.rt K.xn:=rfl
theorem qG:wpS C .nop K σ=K.nx σ:=rfl
theorem jO{a b:Sm}:wpS C (.seq a b) K σ=wpS C a { K with nx:=λσ'=>wpS C b K σ' } σ:=rfl
theorem jbn{i:Nat}{e:Ex}:wpS C (.set i e) K σ=wpE C e σ λd=>K.nx (setS σ i (some (.sh d))):=rfl
def unpD(is:List Nat)(K:DE)(σ:Sto):D->Prop
 |.tup ds=>∃σ',setAll is ds σ=some σ'/\K.nx σ'
 |.lst ds=>∃σ',setAll is ds σ=some σ'/\K.nx σ'
 |_=>False
theorem jcE{is:List Nat}{e:Ex}:wpS C (.unp is e) K σ=wpE C e σ (unpD is K σ):=by
 rw[wS_unp];congr 1
theorem ws_tryR{b:Sm}{v:D}:wpS C (.tryR b x v) K σ=wpS C b { K with xn:=λz=>z.t=x/\K.rt v } σ:=rfl
theorem Yq{e:Ex}:wpS C (.ret e) K σ=wpE C e σ K.rt:=rfl
theorem qH{c:Ex}{a b:Sm}:wpS C (.ite c a b) K σ=wpE C c σ (isB λt=>if t=true then wpS C a K σ else wpS C b K σ):=rfl
theorem ja0:wpS C .brk K σ=K.bk σ:=rfl
theorem jb9:wpS C .cnt K σ=K.ct σ:=rfl
theorem Xz:wpS C .never K σ=False:=rfl
def appD(K:DE)(σ:Sto)(i:Nat)(w:(D->Prop)->Prop):Option Sl->Prop
 |some (.ow ds)=>ds.length<lim/\w λd=>K.nx (setS σ i (some (.ow (ds ++ [d]))))
 |_=>False
def stoD(K:DE)(σ:Sto)(i:Nat)(ds:List D)(d:D):D->Prop
 |.int k=>(0<=k/\k<ds.length)/\K.nx (setS σ i (some (.ow (ds.set k.toNat d))))
 |_=>False
def stoW(K:DE)(σ:Sto)(i:Nat)(w:(D->Prop)->Prop)(u:(D->Prop)->Prop):Option Sl->Prop
 |some (.ow ds)=>w λd=>u (stoD K σ i ds d)
 |_=>False
theorem appD_ow{i:Nat}{w:(D->Prop)->Prop}{ds:List D}:appD K σ i w (some (.ow ds))=(ds.length<lim/\w λd=>K.nx (setS σ i (some (.ow (ds ++ [d]))))):=rfl
theorem jbC{i:Nat}{ds:List D}{d:D}{k:Int}:stoD K σ i ds d (.int k)=((0<=k/\k<ds.length)/\K.nx (setS σ i (some (.ow (ds.set k.toNat d))))):=rfl
theorem jcJ{i:Nat}{w u:(D->Prop)->Prop}{ds:List D}:stoW K σ i w u (some (.ow ds))=w λd=>u (stoD K σ i ds d):=rfl
theorem Uk{f:List D->Prop}{ds:List D}:JM f (some (.ow ds))=f ds:=rfl
theorem jbY{i:Nat}:wpS C (.new i) K σ=K.nx (setS σ i (some (.ow []))):=rfl
theorem jaK{i:Nat}{e:Ex}:wpS C (.app i e) K σ=appD K σ i (wpE C e σ) (getS σ i):=by
 rw[Za];unfold appD
 cases getS σ i with
 |none=>rfl
 |some z=>cases z<;>rfl
theorem jaM{i:Nat}{e v:Ex}:wpS C (.sto i e v) K σ=stoW K σ i (wpE C v σ) (wpE C e σ) (getS σ i):=by
 rw[YB];unfold stoW
 cases getS σ i with
 |none=>rfl
 |some z=>cases z with
  |sh d=>rfl
  |ot _=>rfl
  |ow ds =>
   simp only[];congr 1
theorem jbX{i:Nat}:wpS C (.shr i) K σ=JM (λds=>K.nx (setS σ i (some (.sh (.lst ds))))) (getS σ i):=by
 rw[Zd];unfold JM
 cases getS σ i with
 |none=>rfl
 |some z=>cases z<;>rfl
theorem ZE{i:Nat}{e:Ex}{b:Sm}:wpS C (.seq (.set i e) b) K σ=wpE C e σ λd=>wpS C b K (setS σ i (some (.sh d))):=by rw[jO,jbn]
theorem Yw{is:List Nat}{e:Ex}{b:Sm}:wpS C (.seq (.unp is e) b) K σ=wpE C e σ (unpD is { K with nx:=λσ'=>wpS C b K σ' } σ):=by rw[jO,jcE]
theorem Yv{e:Ex}{b:Sm}:wpS C (.seq (.ret e) b) K σ=wpE C e σ K.rt:=by rw[jO,Yq]
theorem X4{i:Nat}{b:Sm}:wpS C (.seq (.new i) b) K σ=wpS C b K (setS σ i (some (.ow []))):=by rw[jO,jbY]
theorem Zm{i:Nat}{e:Ex}{b:Sm}:wpS C (.seq (.app i e) b) K σ=appD { K with nx:=λσ'=>wpS C b K σ' } σ i (wpE C e σ) (getS σ i):=by rw[jO,jaK]
theorem Ze{i:Nat}{e v:Ex}{b:Sm}:wpS C (.seq (.sto i e v) b) K σ=stoW { K with nx:=λσ'=>wpS C b K σ' } σ i (wpE C v σ) (wpE C e σ) (getS σ i):=by rw[jO,jaM]
theorem YA{i:Nat}{b:Sm}:wpS C (.seq (.shr i) b) K σ=JM (λds=>wpS C b K (setS σ i (some (.sh (.lst ds))))) (getS σ i):=by rw[jO,jbX]
theorem jcG{f:List D->Prop}{xs:List D}:isL f (.lst xs)=f xs:=rfl
theorem ja6{i:Nat}{ds:List D}{d:D}{k:Int}:insD K σ i ds d (.int k)=((0<=k/\k<=ds.length/\ds.length<lim)/\K.nx (setS σ i (some (.ow (ds.take k.toNat++d::ds.drop k.toNat))))):=rfl
theorem ws_forU{s:Nat}:wpS C (.forU i j s e) K σ=JM (λds=>uh (λσ Q=>wpE C e σ Q) i s K ds σ) (getS σ j):=rfl
theorem obD_ot{f:List (List D)->Prop}{p:Prop}{rows:List (List D)}:obD f p (some (.ot rows))=f rows:=rfl
theorem obD_sh{f:List (List D)->Prop}{p:Prop}{d:D}:obD f p (some (.sh d))=p:=rfl
theorem ocD_ow{f:List D->Prop}{g:List (List D)->Prop}{ds:List D}:ocD f g (some (.ow ds))=f ds:=rfl
theorem ocD_ot{f:List D->Prop}{g:List (List D)->Prop}{rows:List (List D)}:ocD f g (some (.ot rows))=g rows:=rfl
theorem otD_ot{f:List (List D)->Prop}{rows:List (List D)}:otD f (some (.ot rows))=f rows:=rfl
theorem Vk{i:Nat}{rows:List (List D)}{w:(D->Prop)->Prop}{k:Int}:app2D K σ i rows w (.int k)=∃row,(0<=k/\rows[k.toNat]?=some row/\row.length<lim)/\w λy=>K.nx (setS σ i (some (.ot (rows.set k.toNat (row ++ [y]))))):=rfl
theorem KI{e:Ex}:wpS C (.retG e) K σ=wpG C e σ K.rg:=rfl
theorem Ue{i f:Nat}{es:List Ex}:wpS C (.setG i f es) K σ=wpEs C es σ λds=>((C.fr f=false/\C.f2 f=true)/\noT σ i=true)/\(C.ct f).wp ds (jbb λrows=>K.nx (setS σ i (some (.ot rows)))) C.E:=rfl
theorem Z9{i:Nat}{e:Ex}:wpS C (.ownG i e) K σ=(noT σ i=true/\wpG C e σ λrows=>K.nx (setS σ i (some (.ot rows)))):=rfl
theorem ws_forT{ss:List RSt}:wpS C (.forT j i ss) K σ=otD (λrows=>uM (wpR C j (setS σ i none) ss) rows λrows'=>K.nx (setS (setS σ i (some (.ot rows'))) j none)) (getS σ i):=rfl
theorem ZL{i:Nat}:wpS C (.shrT i) K σ=otD (λrows=>K.nx (setS σ i (some (.sh (kC rows))))) (getS σ i):=rfl
theorem Uz{i:Nat}:wpS C (.hlfT i) K σ=ocD (λ_=>K.nx σ) (λrows=>K.nx (setS σ i (some (.ow (rows.map .lst))))) (getS σ i):=rfl
theorem ws_forN{b:Sm}:wpS C (.forN i e b) K σ=wpE C e σ (isL λxs=>forL (λK σ=>wpS C b K σ) i K (QM xs) σ):=rfl
theorem jcq{i j:Nat}{ms ls:List D}{k:Int}:popD K σ i j ms ls (.int k)=∃d,(0<=k/\ls[k.toNat]?=some d/\ms.length<lim/\k<16777216)/\K.nx (setS (setS σ j (some (.ow (ls.eraseIdx k.toNat)))) i (some (.ow (ms ++ [d])))):=rfl
theorem ws_cpO:wpS C (.cpO j i es c e) K σ=JM (λds=>wpEs C es (setS σ j (some (.sh (.lst ds)))) λvs=>rgD vs λxs=>xs.length<=lim/\qN (λd Q=>wpE C c (setS σ j (some (.sh (.lst ds))) ++ [some (.sh d)]) (isB Q)) (λd Q=>wpE C e (setS σ j (some (.sh (.lst ds))) ++ [some (.sh d)]) Q) xs λys=>Xb ys=true/\K.nx (setS σ i (some (.ow ys)))) (getS σ j):=rfl
theorem XJ{e:Ex}{b:Sm}:wpS C (.seq (.retG e) b) K σ=wpG C e σ K.rg:=by rw[jO,KI]
theorem Xv{i f:Nat}{es:List Ex}{b:Sm}:wpS C (.seq (.setG i f es) b) K σ=wpEs C es σ λds=>((C.fr f=false/\C.f2 f=true)/\noT σ i=true)/\(C.ct f).wp ds (jbb λrows=>wpS C b K (setS σ i (some (.ot rows)))) C.E:=by rw[jO,Ue]
theorem QH{i:Nat}{e:Ex}{b:Sm}:wpS C (.seq (.ownG i e) b) K σ=(noT σ i=true/\wpG C e σ λrows=>wpS C b K (setS σ i (some (.ot rows)))):=by rw[jO,Z9]
theorem Q4{i:Nat}{b:Sm}:wpS C (.seq (.shrT i) b) K σ=otD (λrows=>wpS C b K (setS σ i (some (.sh (kC rows))))) (getS σ i):=by rw[jO,ZL]
theorem Xy{i:Nat}{b:Sm}:wpS C (.seq (.hlfT i) b) K σ=ocD (λ_=>wpS C b K σ) (λrows=>wpS C b K (setS σ i (some (.ow (rows.map .lst))))) (getS σ i):=by rw[jO,Uz]
theorem zj{b:Sm}:wpS C (.forE i e b) K σ=wpE C e σ λd=>∃xs,itemsD d=some xs/\forL (λK σ=>wpS C b K σ) i K xs σ:=rfl
theorem vF{b:Sm}:wpS C (.forR i es b) K σ=wpEs C es σ λds=>rgD ds λxs=>forL (λK σ=>wpS C b K σ) i K xs σ:=rfl
end
variable{body:DE->Sto->Prop}{K:DE}
theorem VA:forL body i K (d::ds) σ=body { K with nx:=forL body i K ds,ct:=forL body i K ds,bk:=K.nx } (setS σ i (some (.sh d))):=rfl
theorem Qx{body:DE->Sto->Prop}{i:Nat}{K:DE}(P:List D->Sto->Prop)(hb:∀K K' σ,DE.le K K'->body K σ->body K' σ) :
 ∀(xs:List D) (σ:Sto),P xs σ->(∀d ds σ,P (d::ds) σ->body { K with nx:=P ds,ct:=P ds,bk:=K.nx } (setS σ i (some (.sh d))))->(∀σ,P [] σ->K.nx σ)->forL body i K xs σ
 |[],σ,h0,hs,he=>he σ h0
 |d::ds,σ,h0,hs,he=>by
  rw[VA];refine hb _ _ _ ?_ (hs d ds σ h0);exact⟨λσ' p=>Qx P hb ds σ' p hs he,λ_ z=>z,λ_ z=>z,λσ' p=>Qx P hb ds σ' p hs he,λ_ z=>z,λ_ z=>z,λ_ z=>z⟩
theorem qb{C:Cfg}{b:Sm}(P:List D->Sto->Prop)(h0:P xs σ)(hs:∀d ds σ,P (d::ds) σ->wpS C b { K with nx:=P ds,ct:=P ds,bk:=K.nx } (setS σ i (some (.sh d))))(he:∀σ,P [] σ->K.nx σ) :
 forL (λK σ=>wpS C b K σ) i K xs σ:=Qx (body:=λK σ=>wpS C b K σ) P (λK K' σ h w=>jn b h w) xs σ h0 hs he
theorem US{c:Sto->(Bool->Prop)->Prop}(P:Sto->Prop)(μ:Sto->Nat)(h0:P σ)
 (hs:∀σ,P σ->c σ λt=>if t=true then body { K with nx:=λσ'=>μ σ'<μ σ/\P σ',ct:=λσ'=>μ σ'<μ σ/\P σ',bk:=K.nx } σ else K.nx σ)
 (hc:∀σ Q Q',(∀t,Q t->Q' t)->c σ Q->c σ Q') (hb:∀K K' σ,DE.le K K'->body K σ->body K' σ):jbu c body K σ:=by
 refine⟨λm σ=>m=μ σ/\P σ,⟨_,rfl,h0⟩,?_⟩;rintro m σ ⟨rfl,p⟩;refine hc σ _ _ (λt w=>?_) (hs σ p)
 cases t with
 |true =>
  refine hb _ _ _ ?_ w
  exact⟨λσ' ⟨l,p'⟩=>⟨_,l,rfl,p'⟩,λ_ z=>z,λ_ z=>z,λσ' ⟨l,p'⟩=>⟨_,l,rfl,p'⟩,λ_ z=>z,λ_ z=>z,λ_ z=>z⟩
 |false=>exact w
theorem Ji{C:Cfg}{b:Sm}(P:Sto->Prop)(μ:Sto->Nat)(h0:P σ)
 (hs:∀σ,P σ->wpE C c σ (isB λt=>if t=true then wpS C b { K with nx:=λσ'=>μ σ'<μ σ/\P σ',ct:=λσ'=>μ σ'<μ σ/\P σ',bk:=K.nx } σ else K.nx σ)):wpS C (.whl c b) K σ:=by
 exact US P μ h0 hs (λσ Q Q' h w=>ja c (λd=>ka h) w) λK K' σ h w=>jn b h w
theorem Yk:eqD .non .non=true:=rfl
theorem VL{v:Bool}:eqD .non (.bl v)=false:=rfl
theorem Zt{v:Int}:eqD .non (.int v)=false:=rfl
theorem Y5{v:Str}:eqD .non (.str v)=false:=rfl
theorem Y7{v:List D}:eqD .non (.tup v)=false:=rfl
theorem Yr{v:List D}:eqD .non (.lst v)=false:=rfl
theorem Vo{u:Bool}:eqD (.bl u) .non=false:=rfl
theorem jcc{u:Bool}{v:Bool}:eqD (.bl u) (.bl v)=(u == v):=rfl
theorem Vs{u:Bool}{v:Int}:eqD (.bl u) (.int v)=((if u then 1 else 0) == v):=rfl
theorem Vp{u:Bool}{v:Str}:eqD (.bl u) (.str v)=false:=rfl
theorem VY{u:Bool}{v:List D}:eqD (.bl u) (.tup v)=false:=rfl
theorem UT{u:Bool}{v:List D}:eqD (.bl u) (.lst v)=false:=rfl
theorem YN{u:Int}:eqD (.int u) .non=false:=rfl
theorem VS{u:Int}{v:Bool}:eqD (.int u) (.bl v)=(u == (if v then 1 else 0)):=rfl
theorem Zz{u:Int}{v:Int}:eqD (.int u) (.int v)=(u == v):=rfl
theorem eq_int_str{u:Int}{v:Str}:eqD (.int u) (.str v)=false:=rfl
theorem Zs{u:Int}{v:List D}:eqD (.int u) (.tup v)=false:=rfl
theorem Yz{u:Int}{v:List D}:eqD (.int u) (.lst v)=false:=rfl
theorem Yp{u:Str}:eqD (.str u) .non=false:=rfl
theorem Vj{u:Str}{v:Bool}:eqD (.str u) (.bl v)=false:=rfl
theorem eq_str_int{u:Str}{v:Int}:eqD (.str u) (.int v)=false:=rfl
theorem Yy{u:Str}{v:Str}:eqD (.str u) (.str v)=(u == v):=rfl
theorem YK{u:Str}{v:List D}:eqD (.str u) (.tup v)=false:=rfl
theorem Yg{u:Str}{v:List D}:eqD (.str u) (.lst v)=false:=rfl
theorem YR{u:List D}:eqD (.tup u) .non=false:=rfl
theorem Ve{u:List D}{v:Bool}:eqD (.tup u) (.bl v)=false:=rfl
theorem Ys{u:List D}{v:Int}:eqD (.tup u) (.int v)=false:=rfl
theorem ZD{u:List D}{v:Str}:eqD (.tup u) (.str v)=false:=rfl
theorem YH{u:List D}{v:List D}:eqD (.tup u) (.tup v)=zb u v:=rfl
theorem Y3{u:List D}{v:List D}:eqD (.tup u) (.lst v)=false:=rfl
theorem YO{u:List D}:eqD (.lst u) .non=false:=rfl
theorem VP{u:List D}{v:Bool}:eqD (.lst u) (.bl v)=false:=rfl
theorem YG{u:List D}{v:Int}:eqD (.lst u) (.int v)=false:=rfl
theorem X6{u:List D}{v:Str}:eqD (.lst u) (.str v)=false:=rfl
theorem Zh{u:List D}{v:List D}:eqD (.lst u) (.tup v)=false:=rfl
theorem YW{u:List D}{v:List D}:eqD (.lst u) (.lst v)=zb u v:=rfl
theorem eqs_nn:zb [] []=true:=rfl
theorem eqs_nc{y:D}{ys:List D}:zb [] (y::ys)=false:=rfl
theorem eqs_cn{y:D}{ys:List D}:zb (y::ys) []=false:=rfl
theorem eqs_cc{x y:D}{xs ys:List D}:zb (x::xs) (y::ys)=(eqD x y&&zb xs ys):=rfl
theorem dep_non:qF .non=0:=rfl
theorem dep_bl{u:Bool}:qF (.bl u)=0:=rfl
theorem dep_int{u:Int}:qF (.int u)=0:=rfl
theorem dep_str{u:Str}:qF (.str u)=0:=rfl
theorem dep_tup{u:List D}:qF (.tup u)=zH u+1:=rfl
theorem dep_lst{u:List D}:qF (.lst u)=zH u+1:=rfl
theorem deps_n:zH []=0:=rfl
theorem deps_c{x:D}{xs:List D}:zH (x::xs)=max (qF x) (zH xs):=rfl
section
variable {Q:D->Prop} {i j:Int}
theorem UE:x5 .add (.int i) (.int j) Q=Q (.int (i+j)):=rfl
theorem Q2{x y:List D}:x5 .add (.lst x) (.lst y) Q=(x.length+y.length<=lim/\Q (.lst (x++y))):=rfl
theorem Z2:x5 .sub (.int i) (.int j) Q=Q (.int (i-j)):=rfl
theorem bin_mul:x5 .mul (.int i) (.int j) Q=(ku i j/\Q (.int (i*j))):=rfl
theorem ja5{x:List D}{k:Int}:x5 .mul (.lst x) (.int k) Q=(Uq x.length k/\Q (.lst (bR k.toNat x).flatten)):=rfl
theorem jaC:x5 .fdiv (.int i) (.int j) Q=((j≠0/\bits j<=9000)/\Q (.int (i.fdiv j))):=rfl
theorem jcK:x5 .mod (.int i) (.int j) Q=(j≠0/\Q (.int (i.fmod j))):=rfl
theorem ZZ:x5 .shl (.int i) (.int j) Q=(ShlOk i j/\Q (.int (i*2^j.toNat))):=rfl
theorem bin_shr:x5 .shr (.int i) (.int j) Q=(0<=j/\Q (.int (i / 2^j.toNat))):=rfl
theorem jcw:x5 .band (.int i) (.int j) Q=Q (.int (p6 i j)):=rfl
theorem bin_pow:x5 .pow (.int i) (.int j) Q=(ja8 i j/\Q (.int (i^j.toNat))):=rfl
theorem cmp_eq{x y:D}:yD .eq x y Q=(min (qF x) (qF y)<=100/\Q (.bl (eqD x y))):=rfl
theorem cmp_ne{x y:D}:yD .ne x y Q=(min (qF x) (qF y)<=100/\Q (.bl (!eqD x y))):=rfl
theorem cmp_lt:yD .lt (.int i) (.int j) Q=Q (.bl (decide (i<j))):=rfl
theorem cmp_le:yD .le (.int i) (.int j) Q=Q (.bl (decide (i<=j))):=rfl
theorem cmp_gt:yD .gt (.int i) (.int j) Q=Q (.bl (decide (j<i))):=rfl
theorem cmp_ge:yD .ge (.int i) (.int j) Q=Q (.bl (decide (j<=i))):=rfl
theorem cmp_isT{b:Bool}:yD .isT (.bl b) (.bl true) Q=Q (.bl b):=by cases b<;>rfl
theorem jbR{b:Bool}:yD .notT (.bl b) (.bl true) Q=Q (.bl (!b)):=by cases b<;>rfl
theorem Yu{xs:List D}:ixD (.lst xs) (.int i) Q=∃d,atD xs i=some d/\Q d:=rfl
theorem ix_tup{xs:List D}:ixD (.tup xs) (.int i) Q=∃d,atD xs i=some d/\Q d:=rfl
theorem bi_abs:biD .abs [.int i] Q=Q (.int (if i<0 then -i else i)):=rfl
theorem bi_max:biD .max [.int i,.int j] Q=Q (.int (if j > i then j else i)):=rfl
theorem bi_min:biD .min [.int i,.int j] Q=Q (.int (if j<i then j else i)):=rfl
theorem bi_lenl{xs:List D}:biD .len [.lst xs] Q=Q (.int xs.length):=rfl
theorem bi_lent{xs:List D}:biD .len [.tup xs] Q=Q (.int xs.length):=rfl
theorem bi_int:biD .int [.int i] Q=Q (.int i):=rfl
theorem bi_intb{b:Bool}:biD .int [.bl b] Q=Q (.int (if b then 1 else 0)):=rfl
theorem jaF{xs:List D}:biD .list [.lst xs] Q=Q (.lst xs):=rfl
theorem jcv{xs:List D}:biD .list [.tup xs] Q=Q (.lst xs):=rfl
theorem kq{α:Type}{f:α->D}(hf:∀a b,f a=f b->a=b):∀ {xs ys:List α},xs.map f=ys.map f->xs=ys
 |[],[],_=>rfl
 |[],_::_,h=>by simp at h
 |_::_,[],h=>by simp at h
 |x::xs,y::ys,h=>by
  simp only[bq,bO]at h;rw[hf _ _ h.1,kq hf h.2]
theorem YI{ns:List Int}{Q:D->Prop}:biD .sum [.lst (ns.map .int)] Q ↔ Q (.int ns.sum):=by
 unfold biD v8 yB;exact⟨λ⟨ms,e,q⟩=>by rw[kq (λa b h=>by injection h) e];exact q,λq=>⟨ns,rfl,q⟩⟩
theorem bi_all{bs:List Bool}{Q:D->Prop}:biD .all [.lst (bs.map .bl)] Q ↔ Q (.bl (bs.all id)):=by
 unfold biD v8 yB;exact⟨λ⟨ms,e,q⟩=>by rw[kq (λa b h=>by injection h) e];exact q,λq=>⟨bs,rfl,q⟩⟩
theorem mm_ints{mx:Bool}{ns:List Int}{d:Int}{Q:D->Prop}:mmD mx (.lst (ns.map .int)) (.int d) Q ↔ Q (.int (mmF mx d ns)):=by
 unfold mmD;exact⟨λ⟨ms,e,q⟩=>by rw[kq (λa b h=>by injection h) e];exact q,λq=>⟨ns,rfl,q⟩⟩
theorem Qt{ns:List Int}{Q:D->Prop}:biD .min [.lst (ns.map .int)] Q ↔ ns ≠ []/\Q (.int (mmF false 0 ns)):=by
 exact⟨λ⟨ms,e,h,q⟩=>by rw[kq (λa b h=>by injection h) e];exact⟨h,q⟩,λq=>⟨ns,rfl,q.1,q.2⟩⟩
theorem QO{f:D->(D->Prop)->Prop}(hf:∀d {Q Q':D->Prop},(∀y,Q y->Q' y)->f d Q->f d Q')(R:D->D->Prop):∀ {xs:List D} {Q:List D->Prop},(∀d∈xs,f d (R d))->(∀ys:List D,ys.length=xs.length->(∀(i:Nat) (x y:D),xs[i]?=some x->ys[i]?=some y->R x y)->Q ys)->kD f xs Q
 |[],Q,_,q=>q [] rfl λi x y h=>by simp at h
 |d::ds,Q,h,q=>by
  rw[kD];refine hf d (λy ry=>?_) (h d (bC ..))
  refine QO hf R (λe he=>h e (bo _ he)) λys hl hr=>q (y::ys) (by simp[hl]) λi a b h1 h2=>?_
  cases i with
  |zero=>simp at h1 h2;subst h1 h2;exact ry
  |succ i=>exact hr i a b (by simpa using h1) (by simpa using h2)
theorem mt_bits:mtD .bitlen (.int i) Q=Q (.int (bits i)):=rfl
theorem jaZ{P:Bool->Prop}{b:Bool}:isB P (.bl b)=P b:=rfl
theorem unp_lst{is:List Nat}{K:DE}{σ:Sto}{ds:List D}:unpD is K σ (.lst ds)=∃σ',setAll is ds σ=some σ'/\K.nx σ':=rfl
theorem unp_tup{is:List Nat}{K:DE}{σ:Sto}{ds:List D}:unpD is K σ (.tup ds)=∃σ',setAll is ds σ=some σ'/\K.nx σ':=rfl
theorem rg_1{P:List D->Prop}:rgD [.int i] P=(qT i/\P (jW 0 1 i.toNat)):=rfl
end
theorem KC{x:D}{xs:List D}:atD (x::xs) 0=some x:=rfl
theorem jbK{x y:D}{xs:List D}:atD (x::y::xs) 1=some y:=rfl
theorem atD_2{x y z:D}{xs:List D}:atD (x::y::z::xs) 2=some z:=rfl
theorem atD_3{x y z u:D}{xs:List D}:atD (x::y::z::u::xs) 3=some u:=rfl
theorem aI{a b:Prop}(x:a)(y:b):a/\b:=⟨x,y⟩
def zC:=aI @jcq<|aI @otD_ot<|aI @obD_ot<|aI @obD_sh<|aI @Vk<|aI @jcG<|aI @ja6<|aI @appD_ow<|aI @jbC<|aI @jcJ<|aI @Uk<|aI @ocD_ow<|aI @ocD_ot<|aI @UE<|aI @Q2<|aI @Z2<|aI @bin_mul<|aI @ja5<|aI @jaC<|aI @jcK<|aI @ZZ<|aI @bin_shr<|aI @jcw<|aI @bin_pow<|aI @cmp_eq<|aI @cmp_ne<|aI @cmp_lt<|aI @cmp_le<|aI @cmp_gt<|aI @cmp_ge<|aI @cmp_isT<|aI @jbR<|aI @Yu<|aI @ix_tup<|aI @bi_abs<|aI @bi_max<|aI @bi_min<|aI @bi_lenl<|aI @bi_lent<|aI @bi_int<|aI @bi_intb<|aI @jaF<|aI @jcv<|aI @YI<|aI @bi_all<|aI @mm_ints<|aI @mt_bits<|aI @jaZ<|aI @unp_tup<|aI @unp_lst<|aI @rg_1<|aI @Yk<|aI @VL<|aI @Zt<|aI @Y5<|aI @Y7<|aI @Yr<|aI @Vo<|aI @jcc<|aI @Vs<|aI @Vp<|aI @VY<|aI @UT<|aI @YN<|aI @VS<|aI @Zz<|aI @eq_int_str<|aI @Zs<|aI @Yz<|aI @Yp<|aI @Vj<|aI @eq_str_int<|aI @Yy<|aI @YK<|aI @Yg<|aI @YR<|aI @Ve<|aI @Ys<|aI @ZD<|aI @YH<|aI @Y3<|aI @YO<|aI @VP<|aI @YG<|aI @X6<|aI @Zh<|aI @YW<|aI @eqs_nn<|aI @eqs_nc<|aI @eqs_cn<|aI @eqs_cc<|aI @dep_non<|aI @dep_bl<|aI @dep_int<|aI @dep_str<|aI @dep_tup<|aI @dep_lst<|aI @deps_n<|aI @deps_c<|aI @decide_eq_true_eq<|aI @dE<|aI @bh<|aI @Bool.not_true<|aI @Bool.not_false<|aI @decide_eq_false_iff_not<|aI @false_implies<|aI @and_true<|aI @true_and<|aI @and_false<|aI @false_and<|aI @Nat.min_self<|aI @Nat.max_self<|aI @mL<|aI @Nat.min_zero<|aI @Nat.zero_min<|aI @Nat.max_zero<|aI @Nat.zero_max<|aI @KC<|aI @jbK<|aI @atD_2<|aI @atD_3<|aI @Bool.true_eq_false<|aI @dG<|aI @not_false_eq_true<|aI @not_true_eq_false<|aI @Bool.and_true<|aI @Bool.true_and<|aI @Bool.and_false<|aI @Bool.false_and<|aI @jdI<|aI @Bool.true_or<|aI @Bool.or_false<|aI @Bool.false_or<|@Int.cast_ofNat_Int
def zP:=aI @qG<|aI @jO<|aI @jbn<|aI @jcE<|aI @Yq<|aI @qH<|aI @ja0<|aI @jb9<|aI @Xz<|aI @jbY<|aI @jaK<|aI @jaM<|aI @jbX<|aI @KI<|aI @Ue<|aI @Z9<|aI @ZL<|@Uz
def zS:=aI @ZE<|aI @Yw<|aI @Yv<|aI @X4<|aI @Zm<|aI @Ze<|aI @YA<|aI @XJ<|aI @Xv<|aI @QH<|aI @Q4<|aI @Xy<|aI @qG<|aI @Yq<|aI @ja0<|aI @jb9<|aI @Xz<|@KI
def JT(σ:Sto)(i:Nat):Int:=match getS σ i with|some (.sh (.int k))=>k|_=>0
theorem ji{i j:Int}(h:bits i+bits j<=134217728):ku i j:=.inr (.inr h)
def vL:Sm :=
 (.seq (.set 1 (.cst (.int 1)))
 (.seq (.set 2 (.cst (.int 2)))
 (.seq (.set 3 (.var 0))
 (.seq (.whl (.cmp .gt (.var 3) (.cst (.int 0))) (.seq (.ite (.cmp .eq (.bin .mod (.var 3) (.cst (.int 2))) (.cst (.int 1))) (.seq (.set 1 (.bin .mul (.var 1) (.var 2)))
  .nop) .nop)
  (.seq (.set 2 (.bin .mul (.var 2) (.var 2)))
  (.seq (.set 3 (.bin .fdiv (.var 3) (.cst (.int 2))))
  .nop))))
 (.seq (.ret (.var 1))
 .nop)))))
def KL(i_two_to:Nat):Sm :=
 (.seq (.ite (.cmp .lt (.ix (.var 0) (.cst (.int 1))) (.cst (.int 0))) (.seq (.ret (.tup [(.ix (.var 0) (.cst (.int 0))),(.call i_two_to [(.neg (.ix (.var 0) (.cst (.int 1))))])]))
  .nop) .nop)
 (.seq (.ret (.tup [(.bin .mul (.ix (.var 0) (.cst (.int 0))) (.call i_two_to [(.ix (.var 0) (.cst (.int 1)))])),(.cst (.int 1))]))
 .nop))
def kO:Ctr where
 pre ds:=match ds with|[.int n]=>0<=n/\n<=1000000|_=>False
 res ds d:=match ds with|[.int n]=>d=.int (2^n.toNat)|_=>False
theorem jcA{C:Cfg}:jB C 4 vL kO:=by
 rintro ds h;simp only[kO]at h;split at h
 case h_2=>exact h.elim
 next n =>
 obtain⟨n,rfl⟩:∃m:Nat,n=m:=⟨n.toNat,by lia⟩
 have hn:n<=1000000:=by lia
 try simp only[zP,zC,wE_var,wE_cst,wE_con,wE_bin,wE_neg,wE_not,wE_cmp,wE_and,wE_or,wE_ife,wE_tup,wE_lst,wE_ix,wE_call,wE_bi,wE_meth,wE_isi,wE_compR,wE_compE,wE_oix,wE_compZ,wE_slc,wpEs,getS,setS,setAll,tyD,itemsD,Ctr.wp,startS,jdt,bR,Nat.reduceSub,Nat.reduceAdd,reduceIte,Nat.reduceLeDiff,Nat.reduceLT,Int.reduceEq,Int.reduceNeg,Int.reduceLT,Int.reduceLE,Int.reduceSub,Int.reduceAdd,Int.reduceBEq,bq,dR,dX,pd,dU,mF,bW,dz,di,forall_eq,forall_eq',implies_true,if_true,if_false,ite_true,ite_false,gc,exists_eq_left',exists_eq_left,ne_eq,beq_iff_eq,beq_self_eq_true,beq_eq_false_iff_ne,nv,vL,kO,bV]
 refine Ji (λσ=>∃j:Nat,2^j<=2*n+2/\σ=[some (.sh (.int n)),some (.sh (.int (2^(n%2^j)))),some (.sh (.int (2^(2^j)))),some (.sh (.int ((n / 2^j:Nat):Int)))]) (λσ=>(JT σ 3).toNat) ?_ ?_
 ·refine⟨0,by lia,?_⟩;simp[Nat.mod_one]
 ·rintro σ ⟨j,hj,rfl⟩
  try simp only[zP,zC,wE_var,wE_cst,wE_con,wE_bin,wE_neg,wE_not,wE_cmp,wE_and,wE_or,wE_ife,wE_tup,wE_lst,wE_ix,wE_call,wE_bi,wE_meth,wE_isi,wE_compR,wE_compE,wE_oix,wE_compZ,wE_slc,wpEs,getS,setS,setAll,tyD,itemsD,Ctr.wp,startS,jdt,bR,Nat.reduceSub,Nat.reduceAdd,reduceIte,Nat.reduceLeDiff,Nat.reduceLT,Int.reduceEq,Int.reduceNeg,Int.reduceLT,Int.reduceLE,Int.reduceSub,Int.reduceAdd,Int.reduceBEq,bq,dR,dX,pd,dU,mF,bW,dz,di,forall_eq,forall_eq',implies_true,if_true,if_false,ite_true,ite_false,gc,exists_eq_left',exists_eq_left,ne_eq,beq_iff_eq,beq_self_eq_true,beq_eq_false_iff_ne,nv,JT]
  by_cases h0:0<n / 2^j
  ·rw[if_pos (by lia)]
   have hle:2^j<=n:=by
    rcases b8 n (2^j) with h|h
    ·rw[Nat.div_eq_of_lt h]at h0;lia
    ·exact h
   have e1:((n / 2^j:Nat):Int).fmod 2=((n / 2^j%2:Nat):Int):=by rw[jA (by decide)];lia
   have e2:((n / 2^j:Nat):Int).fdiv 2=((n / 2^(j+1):Nat):Int):=by
    rw[j4 (by decide),mJ,<- jdJ];lia
   have e3:(2:Int)^2^j*2^2^j=2^2^(j+1):=by rw[<- nc,mJ];congr 1;lia
   have m2:ku ((2:Int)^2^j) (2^2^j):=ji (by rw[kl];lia)
   have lt:(((n / 2^(j+1):Nat):Int)).toNat<(((n / 2^j:Nat):Int)).toNat:=by
    have:n / 2^(j+1)<n / 2^j:=by rw[mJ,<- jdJ];lia
    lia
   have hj':2^(j+1)<=2*n+2:=by rw[mJ];lia
   rw[e1,e2,e3]
   have dec:n%2^(j+1)=n%2^j+2^j*(n / 2^j%2):=by rw[mJ,Nat.mod_mul]
   by_cases ho:n / 2^j%2=1
   ·rw[if_pos (by lia)]
    have e4:(2:Int)^(n%2^j)*2^2^j=2^(n%2^(j+1)):=by rw[<- nc,dec,ho];congr 1;lia
    have hm:n%2^j<2^j:=jfL _ (gO j);have m1:ku ((2:Int)^(n%2^j)) (2^2^j):=ji (by rw[kl,kl];lia);exact⟨m1,m2,by decide,lt,j+1,hj',by rw[e4]⟩
   ·rw[if_neg (by lia)]
    have e4:n%2^(j+1)=n%2^j:=by
     have:n / 2^j%2=0:=by lia
     rw[dec,this];lia
    exact⟨m2,by decide,lt,j+1,hj',by rw[e4]⟩
  ·rw[if_neg (by lia)]
   have:n<2^j:=by
    rcases b8 n (2^j) with h|h
    ·exact h
    ·have:=Nat.div_pos h (gO j);lia
   rw[Nat.mod_eq_of_lt this]
theorem jP{C:Cfg}{a b:Sm}(P:Sto->Prop)(h1:wpS C a { K with nx:=P } σ)(h2:∀σ',P σ'->wpS C b K σ'):wpS C (.seq a b) K σ:=by
 rw[jO];refine jn a ?_ h1;exact⟨λσ' p=>h2 σ' p,λ_ z=>z,λ_ z=>z,λ_ z=>z,λ_ z=>z,λ_ z=>z,λ_ z=>z⟩
def yu:Ctr where
 pre ds:=match ds with|[.tup [.int w,.int p]]=>(-1000000<=p/\p<=1000000)/\bits w<=1000000|_=>False
 res ds d:=match ds with|[.tup [.int w,.int p]]=>d=.tup [.int (if p<0 then w else w*2^p.toNat),.int (if p<0 then 2^(-p).toNat else 1)]|_=>False
theorem k_value{C:Cfg}(h1:C.ct i=kO):jB C 1 (KL i) yu:=by
 rintro ds h;simp only[yu]at h;split at h
 case h_2=>exact h.elim
 next w p =>
 obtain⟨⟨p1,p2⟩,hw⟩:=h
 try simp only[zP,zC,wE_var,wE_cst,wE_con,wE_bin,wE_neg,wE_not,wE_cmp,wE_and,wE_or,wE_ife,wE_tup,wE_lst,wE_ix,wE_call,wE_bi,wE_meth,wE_isi,wE_compR,wE_compE,wE_oix,wE_compZ,wE_slc,wpEs,getS,setS,setAll,tyD,itemsD,Ctr.wp,startS,jdt,bR,Nat.reduceSub,Nat.reduceAdd,reduceIte,Nat.reduceLeDiff,Nat.reduceLT,Int.reduceEq,Int.reduceNeg,Int.reduceLT,Int.reduceLE,Int.reduceSub,Int.reduceAdd,Int.reduceBEq,bq,dR,dX,pd,dU,mF,bW,dz,di,forall_eq,forall_eq',implies_true,if_true,if_false,ite_true,ite_false,gc,exists_eq_left',exists_eq_left,ne_eq,beq_iff_eq,beq_self_eq_true,beq_eq_false_iff_ne,nv,KL,yu,h1,kO]
 by_cases hp:p<0
 ·rw[if_pos hp];simp only[hp,if_true];exact⟨⟨by lia,by lia⟩,trivial⟩
 ·rw[if_neg hp];simp only[hp,if_false];refine⟨⟨by lia,by lia⟩,ji ?_,trivial⟩;rw[kl];lia
theorem XQ{C:Cfg}{e:Ex}{i s:Nat}{K:DE}(P:List D->Sto->Prop):∀(xs:List D) (σ:Sto),P xs σ->(∀d ds σ,P (d::ds) σ->wpE C e (setS σ i (some (.sh d))) λy=>P ds (setS (setS σ i (some (.sh d))) s (some (.sh y))))->(∀σ,P [] σ->K.nx σ)->uh (λσ Q=>wpE C e σ Q) i s K xs σ
 |[],σ,h0,hs,he=>he σ h0
 |d::ds,σ,h0,hs,he=>ja e (λy wy=>XQ P ds _ wy hs he) (hs d ds σ h0)
end Z
local macro_rules | `(tactic|lia)=>`(tactic|lia -abstractProof)
local macro_rules | `(tactic|dsimp! only[$ls,*])=>`(tactic|try simp only[Z.zC,Z.wE_var,Z.wE_cst,Z.wE_con,Z.wE_bin,Z.wE_neg,Z.wE_not,Z.wE_cmp,Z.wE_and,Z.wE_or,Z.wE_ife,Z.wE_tup,Z.wE_lst,Z.wE_ix,Z.wE_call,Z.wE_bi,Z.wE_meth,Z.wE_isi,Z.wE_compR,Z.wE_compE,Z.wE_oix,Z.wE_compZ,Z.wE_slc,Z.wpEs,Z.getS,Z.setS,Z.setAll,Z.tyD,Z.itemsD,Z.startS,jdt,bR,Nat.reduceSub,Nat.reduceAdd,reduceIte,Nat.reduceLeDiff,Nat.reduceLT,Int.reduceEq,Int.reduceNeg,Int.reduceLT,Int.reduceLE,Int.reduceSub,Int.reduceAdd,Int.reduceBEq,bq,dR,dX,pd,dU,mF,bW,dz,di,forall_eq,forall_eq',implies_true,if_true,if_false,ite_true,ite_false,gc,exists_eq_left',exists_eq_left,ne_eq,beq_iff_eq,beq_self_eq_true,beq_eq_false_iff_ne,nv,$ls,*])
local macro_rules | `(tactic|simp_arith only[$ls,*])=>`(tactic|try simp only[Z.zC,Z.wE_var,Z.wE_cst,Z.wE_con,Z.wE_bin,Z.wE_neg,Z.wE_not,Z.wE_cmp,Z.wE_and,Z.wE_or,Z.wE_ife,Z.wE_tup,Z.wE_lst,Z.wE_ix,Z.wE_call,Z.wE_bi,Z.wE_meth,Z.wE_isi,Z.wE_compR,Z.wE_compE,Z.wE_oix,Z.wE_compZ,Z.wE_slc,Z.wpEs,Z.getS,Z.setS,Z.setAll,Z.tyD,Z.itemsD,Z.Ctr.wp,Z.startS,jdt,bR,Nat.reduceSub,Nat.reduceAdd,reduceIte,Nat.reduceLeDiff,Nat.reduceLT,Int.reduceEq,Int.reduceNeg,Int.reduceLT,Int.reduceLE,Int.reduceSub,Int.reduceAdd,Int.reduceBEq,bq,dR,dX,pd,dU,mF,bW,dz,di,forall_eq,forall_eq',implies_true,if_true,if_false,ite_true,ite_false,gc,exists_eq_left',exists_eq_left,ne_eq,beq_iff_eq,beq_self_eq_true,beq_eq_false_iff_ne,nv,$ls,*])
local macro_rules | `(tactic|simp_all_arith! only[$ls,*])=>`(tactic|dsimp! only[Z.zP,Z.Ctr.wp,$ls,*])
local macro_rules | `(tactic|simp_all! only[$ls,*])=>`(tactic|dsimp! only[Z.zS,$ls,*])
local macro_rules | `(tactic|simp_arith! only[$ls,*])=>`(tactic|simp_arith only[Z.zS,$ls,*])
namespace Z
open PySem
def zX:Sm :=
 (.seq (.ite (.cmp .eq (.var 0) (.lst [])) (.seq (.ret (.bin .mul (.var 1) (.cst (.int 7919))))
  .nop) .nop)
 (.seq (.ret (.bin .add (.ix (.var 0) (.bin .mod (.var 1) (.bi .len [(.var 0)]))) (.bin .mul (.bin .fdiv (.var 1) (.bi .len [(.var 0)])) (.cst (.int 104729)))))
 .nop))
def yQ:Sm :=
 (.seq (.set 2 (.bin .mod (.bin .add (.bin .mul (.var 0) (.cst (.int 6364136223846793005))) (.bin .mul (.bin .add (.var 1) (.cst (.int 1))) (.cst (.int 1442695040888963407)))) (.cst (.int 340282366920938463463374607431768211507))))
 (.seq (.ret (.bin .mod (.bin .mul (.var 2) (.var 2)) (.cst (.int 340282366920938463463374607431768211297))))
 .nop))
def zM:Sm :=
 (.seq (.ite (.cmp .eq (.var 0) (.cst (.int 0))) (.seq (.ret (.tup [(.cst (.int 0)),(.cst (.int 0))]))
  .nop) .nop)
 (.seq (.set 2 (.bin .band (.var 0) (.bin .sub (.cst (.int 0)) (.var 0))))
 (.seq (.ret (.tup [(.bin .fdiv (.var 0) (.var 2)),(.bin .sub (.bin .add (.var 1) (.meth .bitlen (.var 2))) (.cst (.int 1)))]))
 .nop)))
def yj(i_law_drawn i_law_bare:Nat):Sm :=
 (.seq (.set 4 (.call i_law_drawn [(.var 0),(.var 1)]))
 (.seq (.set 5 (.bin .mod (.var 4) (.cst (.int 8))))
 (.seq (.set 6 (.bin .sub (.bin .mod (.bin .fdiv (.var 4) (.cst (.int 8))) (.bin .add (.bin .mul (.cst (.int 2)) (.var 3)) (.cst (.int 1)))) (.var 3)))
 (.seq (.set 7 (.bin .mod (.bin .fdiv (.var 4) (.bin .add (.bin .mul (.cst (.int 16)) (.var 3)) (.cst (.int 8)))) (.bin .shl (.cst (.int 1)) (.var 2))))
 (.seq (.ite (.cmp .eq (.var 5) (.cst (.int 0))) (.seq (.set 7 (.ix (.lst [(.cst (.int 0)),(.cst (.int 1)),(.cst (.int 3))]) (.bin .mod (.bin .fdiv (.var 4) (.cst (.int 64))) (.cst (.int 3)))))
  .nop) .nop)
 (.seq (.ite (.cmp .eq (.var 5) (.cst (.int 1))) (.seq (.set 7 (.bin .sub (.bin .shl (.cst (.int 1)) (.var 2)) (.cst (.int 1))))
  .nop) .nop)
 (.seq (.ite (.cmp .eq (.var 5) (.cst (.int 2))) (.seq (.set 7 (.bin .add (.bin .shl (.cst (.int 1)) (.bin .sub (.var 2) (.cst (.int 1)))) (.cst (.int 1))))
  .nop) .nop)
 (.seq (.ite (.cmp .eq (.var 5) (.cst (.int 3))) (.seq (.set 7 (.bin .mod (.var 0) (.bin .shl (.cst (.int 1)) (.var 2))))
  .nop) .nop)
 (.seq (.ite (.cmp .eq (.var 5) (.cst (.int 4))) (.seq (.set 7 (.bin .mod (.var 7) (.cst (.int 32))))
  .nop) .nop)
 (.seq (.ite (.cmp .eq (.bin .mod (.bin .fdiv (.var 4) (.cst (.int 16))) (.cst (.int 2))) (.cst (.int 1))) (.seq (.set 7 (.bin .sub (.cst (.int 0)) (.var 7)))
  .nop) .nop)
 (.seq (.ret (.call i_law_bare [(.var 7),(.var 6)]))
 .nop)))))))))))
def zd:Sm :=
 (.seq (.ret (.and (.isi (.var 0) .int) (.not (.isi (.var 0) .bool))))
 .nop)
def ya:Sm :=
 (.seq (.set 0 (.bi .abs [(.var 0)]))
 (.seq (.set 1 (.bi .abs [(.var 1)]))
 (.seq (.whl (.cmp .ne (.var 1) (.cst (.int 0))) (.seq (.set 2 (.bin .sub (.var 0) (.bin .mul (.bin .fdiv (.var 0) (.var 1)) (.var 1))))
  (.seq (.set 0 (.var 1))
  (.seq (.set 1 (.var 2))
  .nop))))
 (.seq (.ret (.var 0))
 .nop))))
def xm(i_law_whole i_law_common:Nat):Sm :=
 (.seq (.ite (.or (.not (.isi (.var 0) .tuple)) (.or (.cmp .ne (.bi .len [(.var 0)]) (.cst (.int 2))) (.or (.not (.call i_law_whole [(.ix (.var 0) (.cst (.int 0)))])) (.not (.call i_law_whole [(.ix (.var 0) (.cst (.int 1)))]))))) (.seq (.ret (.cst (.bl false)))
  .nop) .nop)
 (.seq (.ret (.and (.cmp .gt (.ix (.var 0) (.cst (.int 1))) (.cst (.int 0))) (.and (.cmp .eq (.bin .mul (.ix (.var 0) (.cst (.int 0))) (.var 2)) (.bin .mul (.var 1) (.ix (.var 0) (.cst (.int 1))))) (.cmp .eq (.call i_law_common [(.ix (.var 0) (.cst (.int 0))),(.ix (.var 0) (.cst (.int 1)))]) (.cst (.int 1))))))
 .nop))
def yH(i_law_drawn i_law_cell:Nat):Sm :=
 (.seq (.ret (.ix (.lst [(.bin .add (.cst (.int 8)) (.bin .mod (.call i_law_drawn [(.call i_law_cell [(.var 0),(.var 1)]),(.var 1)]) (.cst (.int 57)))),(.cst (.int 8)),(.cst (.int 53)),(.cst (.int 64))]) (.bin .mod (.call i_law_drawn [(.call i_law_cell [(.var 0),(.var 1)]),(.bin .add (.var 1) (.cst (.int 1)))]) (.cst (.int 4)))))
 .nop)
variable{xs:List D}{i:Int}
theorem yX(h0:0<=i)(h1:i<xs.length):∃d,atD xs i=some d/\d∈xs:=by
 have h:i.toNat<xs.length:=by lia
 refine⟨xs[i.toNat],?_,dP h⟩;unfold atD;rw[if_pos h0,bD h]
theorem VB{ns:List Int}(h0:0<=i)(h1:i<ns.length):∃n,atD (ns.map .int) i=some (.int n):=by
 obtain⟨d,e,m⟩:=yX (xs:=ns.map .int) h0 (by simpa using h1);obtain⟨n,_,rfl⟩:=bH.mp m;exact⟨n,e⟩
def xj:Ctr where
 pre ds:=∃(ns:List Int) (k:Int),ds=[.lst (ns.map .int),.int k]/\ns.length<=63/\0<=k
 res ds d:=∃i,d=.int i
theorem jas(ns:List Int):zb (ns.map .int) []=decide (ns=[]):=by
 cases ns<;>simp[eqD,zb]
theorem k_cell{C:Cfg}:jB C 2 zX xj:=by
 rintro ds ⟨ns,k,rfl,hl,hk⟩
 simp_all_arith! only[zX,xj,bj]
 refine⟨by lia,?_⟩;rw[jas];simp only[decide_eq_true_eq];by_cases hn:ns=[]
 ·rw[if_pos hn];exact⟨.inr (.inl (by decide)),_,rfl⟩
 ·rw[if_neg hn];have hp:0<ns.length:=ph.mpr hn;have hb:bits (ns.length:Int)<=64:=xF (by lia) (by lia);rw[jA (by lia)];obtain⟨n,e⟩:=VB (ns:=ns) (i:=k%ns.length) (gR _ (by lia)) (gK _ (by lia));refine⟨by lia,_,e,⟨by lia,by lia⟩,.inr (.inl (by decide)),?_⟩
  simp_all_arith! only[]
  exact⟨_,rfl⟩
def kr:Ctr where
 pre ds:=match ds with|[.int _,.int _]=>True|_=>False
 res ds d:=∃i,d=.int i/\0<=i/\i<340282366920938463463374607431768211297
theorem jcI{C:Cfg}:jB C 3 yQ kr:=by
 rintro ds h;simp only[kr]at h;split at h
 case h_2=>exact h.elim
 next c k =>
 simp_all_arith! only[yQ,kr]
 rw[jA (by decide),jA (by decide)];have b1:bits ((c*6364136223846793005+(k+1)*1442695040888963407)%340282366920938463463374607431768211507)<=129:=xF (gR _ (by decide)) (Int.lt_trans (gK _ (by decide)) (by decide));refine⟨.inr (.inl (by decide)),.inr (.inl (by decide)),ji (by lia),_,rfl,gR _ (by decide),gK _ (by decide)⟩
theorem jbz:∀n:Nat,0<n->∃v m,n=2^v*m/\m%2=1:=by
 intro n
 induction n using Nat.strongRecOn with
 |ind n ih =>
  intro hn;by_cases h:n%2=1
  ·exact⟨0,n,by simp,h⟩
  ·obtain⟨v,m,e,hm⟩:=ih (n / 2) (by lia) (by lia);refine⟨v+1,m,?_,hm⟩;rw[mJ,Nat.mul_right_comm,<- e];lia
theorem Kq:∀(v m:Nat),m%2=1->(2^v*m) &&& (2^v*m-1)=2^v*(m-1)
 |0,m,h=>by
  simp only[Nat.pow_zero,Nat.one_mul]
  refine jd8 λi=>?_
  rw[jdU]
  cases i with
  |zero=>simp only[Nat.testBit_zero];have:(m-1)%2=0:=by lia
         simp[h,this]
  |succ i=>simp only[Nat.testBit_succ];have:(m-1) / 2=m / 2:=by lia
           rw[this];simp
 |v+1,m,h=>by
  have ih:=Kq v m h;have hp:0<2^v*m:=jfu (gO v) (by lia)
  have e1:2^(v+1)*m=2*(2^v*m):=by rw[mJ];grind
  have e2:2^(v+1)*(m-1)=2*(2^v*(m-1)):=by rw[mJ];grind
  rw[e1,e2];generalize hA:2^v*m=A at *
  refine jd8 λi=>?_
  rw[jdU]
  cases i with
  |zero=>simp only[Nat.testBit_zero];simp
  |succ i =>
   simp only[Nat.testBit_succ]
   have a1:(2*A) / 2=A:=by lia
   have a2:(2*A-1) / 2=A-1:=by lia
   have a3:2*(2^v*(m-1)) / 2=2^v*(m-1):=by lia
   rw[a1,a2,a3,<- ih,jdU]
variable{w:Int}
theorem KU(h:w≠0):∃(v:Nat) (m:Int),w=m*2^v/\m%2=1/\p6 w (0-w)=2^v:=by
 obtain⟨v,m,e,hm⟩:=jbz w.natAbs (by lia);have hl:=Kq v m hm;rw[<- e]at hl
 have hp:(2^v*(m-1):Nat)=w.natAbs-2^v:=by rw[Nat.mul_sub,<- e];simp
 have hle:2^v<=w.natAbs:=by rw[e];exact Nat.le_mul_of_pos_right _ (by lia)
 have cast:((2^v:Nat):Int)=2^v:=by simp
 have ecast:(w.natAbs:Int)=2^v*m:=by rw[e];simp
 by_cases hw:0<=w
 ·refine⟨v,m,?_,by lia,?_⟩
  ·rw[mK,<- ecast];lia
  ·unfold p6
   have d1:decide (0<=w)=true:=by simpa using hw
   have d2:decide (0<=0-w)=false:=by simp;lia
   rw[d1,d2];simp only[jfM]
   have e1:w.toNat=w.natAbs:=by lia
   have e2:(-(0-w)-1).toNat=w.natAbs-1:=by lia
   rw[e1,e2,hl,hp];lia
 ·refine⟨v,-m,?_,by lia,?_⟩
  ·rw[Int.neg_mul,mK,<- ecast];lia
  ·unfold p6
   have d1:decide (0<=w)=false:=by simpa using hw
   have d2:decide (0<=0-w)=true:=by simp;lia
   rw[d1,d2];simp only[jfM]
   have e1:(0-w).toNat=w.natAbs:=by lia
   have e2:(-w-1).toNat=w.natAbs-1:=by lia
   rw[e1,e2,hl,hp];lia
structure Num (n:Nat) (w p:Int):Prop where
 odd:w%2=1\/(w=0/\p=0)
 sz:w.natAbs<2^n
structure Bare (w p w' p':Int):Prop where
 nought:w=0->w'=0/\p'=0
 same:w≠0->∃v:Nat,w=w'*2^v/\p'=p+v/\w'%2=1
variable{p w' p':Int}{n:Nat}
theorem Bare.num(b:Bare w p w' p')(h:w.natAbs<2^n):Num n w' p':=by
 by_cases hw:w=0
 ·obtain⟨rfl,rfl⟩:=b.nought hw;exact⟨.inr ⟨rfl,rfl⟩,gO n⟩
 ·obtain⟨v,e,_,ho⟩:=b.same hw;refine⟨.inl ho,?_⟩
  have:w.natAbs=w'.natAbs*2^v:=by rw[e,mi,pj];rfl
  have:w'.natAbs*1<=w'.natAbs*2^v:=sD _ (gO v);lia
theorem Bare.pow(b:Bare w p w' p')(h:w.natAbs<2^n):(w'=0/\p'=0)\/(p<=p'/\p'<p+n):=by
 by_cases hw:w=0
 ·exact .inl (b.nought hw)
 ·obtain⟨v,e,ep,ho⟩:=b.same hw;refine .inr ⟨by lia,?_⟩
  have:w.natAbs=w'.natAbs*2^v:=by rw[e,mi,pj];rfl
  have:1*2^v<=w'.natAbs*2^v:=mM _ (by lia)
  have:2^v<2^n:=by lia
  have:=(jdk (a:=2) (by decide)).mp this;lia
def qM:Ctr where
 pre ds:=match ds with|[.int w,.int _]=>bits w<=9000|_=>False
 res ds d:=match ds with|[.int w,.int p]=>∃w' p',d=.tup [.int w',.int p']/\Bare w p w' p'|_=>False
theorem k_bare{C:Cfg}:jB C 3 zM qM:=by
 rintro ds h;simp only[qM]at h;split at h
 case h_2=>exact h.elim
 next w p =>
 simp_all_arith! only[zM,qM]
 by_cases hw:w=0
 ·rw[if_pos hw];exact⟨0,0,rfl,λ_=>⟨rfl,rfl⟩,λz=>absurd hw z⟩
 ·rw[if_neg hw];obtain⟨v,m,e,ho,el⟩:=KU hw;rw[el,kl]
  have hv:v+1<=bits w:=by
   have:v<bits w:=by
    rw[yK,e,mi,pj];exact Nat.le_mul_of_pos_left _ (by lia)
   lia
  have hp:=two_pow_pos v;refine⟨⟨by lia,by lia⟩,m,p+v,?_,λz=>absurd z hw,λ_=>⟨v,e,rfl,ho⟩⟩
  have:w.fdiv (2^v)=m:=by rw[j4 (by lia),e,jet _ (by lia)]
  rw[this,show p+((v+1:Nat):Int)-1=p+v by lia]
theorem uC:(1:Int)*2^n=2^n:=tK _
theorem num_le{x:Int}(h0:0<=x)(h:x<2^n):x.natAbs<2^n:=by
 have:(x.natAbs:Int)<2^n:=by lia
 exact_mod_cast this
def xA:Ctr where
 pre ds:=match ds with|[.int _,.int _,.int w,.int far]=>(8<=w/\w<=64)/\1<=far/\far<=5000|_=>False
 res ds d:=match ds with|[.int _,.int _,.int w,.int far]=>∃x p,d=.tup [.int x,.int p]/\Num w.toNat x p /\ -far<=p/\p<far+64|_=>False
variable{i j:Nat}
theorem jbS{C:Cfg}(h2:C.ct j=kr)(h1:C.ct i=qM):jB C 8 (yj j i) xA:=by
 rintro ds h;simp only[xA]at h;split at h
 case h_2=>exact h.elim
 next c k w far =>
 obtain⟨⟨w1,w2⟩,f1,f2⟩:=h
 obtain⟨n,rfl⟩:∃m:Nat,w=m:=⟨w.toNat,by lia⟩
 have hn:n<=64:=by lia
 have hn8:8<=n:=by lia
 have two:(2:Int)^n<=2^64:=by exact_mod_cast my (by decide:0<2) hn
 have two8:(2:Int)^8<=2^n:=by exact_mod_cast my (by decide:0<2) hn8
 have sh:ShlOk 1 n:=⟨by lia,by have:bits 1=1:=by decide
                               lia⟩
 have sh':ShlOk 1 ((n:Int)-1):=⟨by lia,by have:bits 1=1:=by decide
                                          lia⟩
 have pp:=two_pow_pos n
 simp_arith! only[yj,xA,h2,kr]
 rintro d ⟨more,rfl,m0,m1⟩
 simp_arith! only[bV,uC]
 have b1:bits (2*far+1)<=9000:=bS (xF (n:=64) (by lia) (by lia)) (by decide);have b2:bits (16*far+8)<=9000:=bS (xF (n:=64) (by lia) (by lia)) (by decide);refine⟨by decide,.inl (by decide),by lia,.inl (by decide),⟨by lia,b2⟩,sh,by lia,?_⟩;rw[jA (by decide),j4 (by decide),jA (by lia),j4 (by lia),jA (by lia)];generalize hp:more / 8%(2*far+1)-far=pw
 have hpw:-far<=pw/\pw<=far:=by
  have:=gR (more / 8) (show 2*far+1≠0 by lia);have:=gK (more / 8) (show 0<2*far+1 by lia);lia
 generalize hx:more / (16*far+8)%2^n=x
 have hx0:0<=x/\x<2^n:=by
  rw[<- hx];exact⟨gR _ (by lia),gK _ pp⟩
 generalize more%8=kind;clear hp hx
 let P:Sto->Prop:=λσ=>∃x:Int,(0<=x/\x<2^n)/\σ=[some (.sh (.int c)),some (.sh (.int k)),some (.sh (.int n)),some (.sh (.int far)),some (.sh (.int more)),some (.sh (.int kind)),some (.sh (.int pw)),some (.sh (.int x))]
 have step:∀ {e:Ex} {q:Int} {K:DE} {σ:Sto},P σ->(∀σ,P σ->wpE C e σ λd=>∃x:Int,d=.int x/\0<=x/\x<2^n) ->
  wpS C (.ite (.cmp .eq (.var 5) (.cst (.int q))) (.seq (.set 7 e) .nop) .nop) { K with nx:=P } σ:=by
  rintro e q K σ hσ he;have he':=he σ hσ;obtain⟨x,hx,rfl⟩:=hσ
  simp_all_arith! only[]
  by_cases hq:kind=q
  ·rw[if_pos hq];refine ja e ?_ he';rintro d ⟨y,rfl,hy⟩;exact⟨y,hy,rfl⟩
  ·rw[if_neg hq];exact⟨x,hx,rfl⟩
 refine jP P (step ⟨x,hx0,rfl⟩ ?_) ?_
 ·rintro σ ⟨x,hx,rfl⟩
  simp_all_arith! only[]
  rw[j4 (by decide),jA (by decide)];obtain⟨d,e,hd⟩:=yX (xs:=[.int 0,.int 1,.int 3]) (i:=more / 64%3) (by lia) (by simp;lia);refine⟨by decide,d,e,?_⟩;simp only[bz,bK,or_false]at hd
  rcases hd with rfl|rfl|rfl<;>exact⟨_,rfl,by lia,by lia⟩
 intro σ hσ;refine jP P (step hσ ?_) ?_
 ·rintro σ ⟨x,hx,rfl⟩
  simp_all_arith! only[bV,uC]
  exact⟨sh,_,rfl,by lia,by lia⟩
 intro σ hσ;refine jP P (step hσ ?_) ?_
 ·rintro σ ⟨x,hx,rfl⟩
  simp_all_arith! only[uC]
  have e:((n:Int)-1).toNat=n-1:=by lia
  have e2:(2:Int)^n=2*2^(n-1):=by
   conv=>lhs;rw[show n=(n-1)+1 by lia,nR]
   lia
  have:=two_pow_pos (n-1);rw[e];exact⟨sh',_,rfl,by lia,by lia⟩
 intro σ hσ;refine jP P (step hσ ?_) ?_
 ·rintro σ ⟨x,hx,rfl⟩
  simp_all_arith! only[bV,uC]
  rw[jA (by lia)];exact⟨sh,by lia,_,rfl,gR _ (by lia),gK _ pp⟩
 intro σ hσ;refine jP P (step hσ ?_) ?_
 ·rintro σ ⟨x,hx,rfl⟩
  simp_all_arith! only[]
  rw[jA (by lia)];exact⟨_,rfl,by lia,by lia⟩
 rintro σ ⟨x,hx,rfl⟩
 simp_all_arith! only[h1,qM,bV]
 rw[j4 (by decide),jA (by decide)]
 have fin:∀y:Int,y.natAbs<2^n->bits y<=9000/\∀d,(∃w' p',d=D.tup [.int w',.int p']/\Bare y pw w' p')->∃x p,d=.tup [.int x,.int p]/\Num n x p /\ -far<=p/\p<far+64:=by
  intro y hy;refine⟨bS (jh.mpr hy) (by lia),?_⟩;rintro d ⟨w',p',rfl,hb⟩;refine⟨w',p',rfl,hb.num hy,?_⟩
  rcases hb.pow hy with⟨_,rfl⟩|⟨_,_⟩<;>lia
 refine⟨by decide,?_⟩;have hx2:=num_le hx.1 hx.2;by_cases hs:more / 16%2=1
 ·rw[if_pos hs];exact fin (0-x) (by lia)
 ·rw[if_neg hs];exact fin x hx2
def isInt:D->Bool
 |.int _=>true
 |_=>false
def zm:Ctr where
 pre ds:=match ds with|[_]=>True|_=>False
 res ds d:=match ds with|[x]=>d=.bl (isInt x)|_=>False
theorem k_whole{C:Cfg}:jB C 1 zd zm:=by
 rintro ds h;simp only[zm]at h;split at h
 case h_2=>exact h.elim
 next x =>
 cases x<;>simp_all_arith! only[zd,zm,isInt]
def kR:Ctr where
 pre ds:=match ds with|[.int a,.int b]=>bits a<=9000/\bits b<=9000|_=>False
 res ds d:=match ds with|[.int a,.int b]=>d=.int (gf a b)|_=>False
theorem Ye(i:Int):(if i<0 then -i else i)=i.natAbs:=by split<;>lia
theorem V1{C:Cfg}:jB C 3 ya kR:=by
 rintro ds h;simp only[kR]at h;split at h
 case h_2=>exact h.elim
 next a b =>
 simp_all_arith! only[ya,kR,Ye]
 refine Ji (λσ=>∃(x y:Nat) (o:Option Sl),(je4 x y=gf a b/\bits (x:Int)<=9000/\bits (y:Int)<=9000)/\σ=[some (.sh (.int x)),some (.sh (.int y)),o]) (λσ=>(JT σ 1).toNat) ?_ ?_
 ·exact⟨_,_,_,⟨rfl,by rw[vO];exact h.1,by rw[vO];exact h.2⟩,rfl⟩
 ·rintro σ ⟨x,y,o,⟨hg,hx,hy⟩,rfl⟩
  simp_all_arith! only[JT]
  by_cases h0:y=0
  ·subst h0;simp only[jeI]at hg;simp[hg]
  ·rw[if_pos (by lia)];rw[j4 (by lia)]
   have e:(x:Int)-x / y*y=((x%y:Nat):Int):=by
    have:=Int.emod_def (x:Int) y;rw[mK]at this;rw[<- this];simp
   have hb:bits ((x:Int) / y)<=9000:=bS (xT (by lia)) hx;have hm:x%y<y:=jfL _ (by lia);refine⟨⟨by lia,hy⟩,ji (by lia),?_⟩;rw[e];refine⟨by lia,y,x%y,_,⟨?_,hy,?_⟩,rfl⟩
   ·rw[jcP,<- jfv,jcP];exact hg
   ·refine bS (jX ?_) hy;lia
def kY:Ctr where
 pre ds:=match ds with|[.tup [.int a,.int b],.int t,.int u]=>(bits a<=9000/\bits b<=9000)/\bits t<=1000000/\bits u<=1000000|_=>False
 res ds d:=match ds with|[.tup [.int a,.int b],.int t,.int u]=>d=.bl (decide (0<b/\a*u=t*b/\gf a b=1))|_=>False
theorem Zp{C:Cfg}(h1:C.ct i=zm)(h2:C.ct j=kR):jB C 3 (xm i j) kY:=by
 rintro ds h;simp only[kY]at h;split at h
 case h_2=>exact h.elim
 next a b t u =>
 obtain⟨⟨ha,hb⟩,ht,hu⟩:=h
 simp_all_arith! only[xm,kY,h1,h2,zm,kR,isInt,Int.reduceBNe,Int.reduceBEq]
 by_cases c1:0<b
 ·rw[if_pos c1];refine⟨ji (by lia),ji (by lia),?_⟩;by_cases c2:a*u=t*b
  ·rw[if_pos c2];refine⟨⟨ha,hb⟩,?_⟩;simp[c1,c2]
   by_cases c3:gf a b=1<;>simp[c3]
   lia
  ·rw[if_neg c2];simp[c2]
 ·rw[if_neg c1];simp[c1]
def zx:Ctr where
 pre ds:=∃(ns:List Int) (k:Int),ds=[.lst (ns.map .int),.int k]/\ns.length<=63/\0<=k
 res ds d:=∃i,d=.int i/\8<=i/\i<=64
theorem k_width{C:Cfg}(h1:C.ct i=kr)(h2:C.ct j=xj):jB C 2 (yH i j) zx:=by
 rintro ds ⟨ns,k,rfl,hl,hk⟩
 simp_all_arith! only[yH,zx,h1,h2,xj,kr]
 have pc:∃(ns':List Int) (k':Int),[.lst (ns.map .int),.int k]=[D.lst (ns'.map .int),.int k']/\ns'.length<=63/\0<=k':=⟨ns,k,rfl,hl,hk⟩
 refine⟨pc,?_⟩;rintro d ⟨c,rfl⟩
 simp_all_arith! only[]
 rintro d ⟨m,rfl,m0,m1⟩
 simp_all_arith! only[]
 refine⟨pc,?_⟩;rintro d ⟨c,rfl⟩
 simp_all_arith! only[]
 rintro d ⟨m',rfl,m0',m1'⟩
 simp_all_arith! only[]
 rw[jA (by decide),jA (by decide)];obtain⟨d,e,hd⟩:=yX (xs:=[.int (8+m%57),.int 8,.int 53,.int 64]) (i:=m'%4) (by lia) (by simp;lia);refine⟨d,e,?_⟩;simp only[bz,bK,or_false]at hd
 rcases hd with rfl|rfl|rfl|rfl<;>exact⟨_,rfl,by lia,by lia⟩
theorem Jh{P:Int->Prop}:∀(n:Nat) (lo st:Int),(∀i:Nat,i<n->P (lo+i*st))->∀d∈jW lo st n,∃i,d=.int i/\P i
 |0,lo,st,h,d,hd=>by simp[jW]at hd
 |n+1,lo,st,h,d,hd=>by
  simp only[jW,bz]at hd;rcases hd with rfl|hd
  ·exact⟨lo,rfl,by simpa using h 0 (by lia)⟩
  ·refine Jh n (lo+st) st (λi hi=>?_) d hd;have:=h (i+1) (by lia)
   have e:lo+st+i*st=lo+((i+1:Nat):Int)*st:=by grind
   rw[e];exact this
def vk:Ctr where
 pre ds:=∃ns:List Int,ds=[.lst (ns.map .int)]/\ns.length<=63
 res ds d:=d=.bl true
variable{K:DE}{σ:Sto}
theorem for_law{C:Cfg}{b:Sm}(I:D->Prop)(P:Sto->Prop)(hx:∀d∈xs,I d)(h0:P σ)(hs:∀d σ,I d->P σ->wpS C b { K with nx:=P,ct:=P,bk:=K.nx } (setS σ i (some (.sh d))))(he:∀σ,P σ->K.nx σ) :
 forL (λK σ=>wpS C b K σ) i K xs σ :=
 qb (λds σ=>(∀d∈ds,I d)/\P σ) ⟨hx,h0⟩ (λd ds σ ⟨h1,h2⟩=>by
  refine jn b ?_ (hs d σ (h1 d (bC ..)) h2)
  exact⟨λ_ p=>⟨λe he=>h1 e (bo _ he),p⟩,λ_ z=>z,λ_ z=>z,λ_ p=>⟨λe he=>h1 e (bo _ he),p⟩,λ_ z=>z,λ_ z=>z,λ_ z=>z⟩) λσ ⟨_,h2⟩=>he σ h2
theorem jbV{C:Cfg}{b:Sm}{es:List Ex}(I:D->Prop)(P:Sto->Prop)(hx:wpEs C es σ λds=>rgD ds λxs=>∀d∈xs,I d)(h0:P σ)(hs:∀d σ,I d->P σ->wpS C b { K with nx:=P,ct:=P,bk:=K.nx } (setS σ i (some (.sh d))))(he:∀σ,P σ->K.nx σ) :
 wpS C (.forR i es b) K σ:=by
 rw[vF];exact jm es (λds=>yG λxs hx=>for_law I P hx h0 hs he) hx
end Z
namespace Z
open PySem PySem.Spec PyProof.Rows L2
def dum(N:List Str):Str:=⟨Array.replicate N.length 32⟩
def qg(N:List Str)(x:Str):List Str:=N.map (λy=>if y=x then dum N else y) ++ [x]
def qv(scope:Scope)(x:Str)(cl:List (Str×Addr))(C:Addr):List (Str×Addr):=if scope.names.lookup x=some .cell then (x,C+1)::cl else cl
variable{x y:Str}{cl:List (Str×Addr)}
theorem JA{scope:Scope}{C:Addr}(h:y≠x):(qv scope x cl C).lookup y=cl.lookup y:=by
 unfold qv;split
 ·rw[gF,show (y == x)=false from beq_eq_false_iff_ne.mpr h]
 ·rfl
theorem k9{scope:Scope}{C c:Addr}(h:(qv scope x cl C).lookup y=some c):(y=x/\c=C+1/\scope.names.lookup x=some .cell)\/cl.lookup y=some c:=by
 unfold qv at h;split at h
 ·next hc =>
  by_cases e:y=x
  ·subst e;rw[gF,show (y == y)=true from beq_self_eq_true y]at h;cases h;exact .inl ⟨rfl,rfl,hc⟩
  ·rw[gF,show (y == x)=false from beq_eq_false_iff_ne.mpr e]at h;exact .inr h
 ·exact .inr h
theorem vK{scope:Scope}{C:Addr}(h:scope.names.lookup x=some .cell):(qv scope x cl C).lookup x=some (C+1):=by
 unfold qv;rw[if_pos h,gF,show (x == x)=true from beq_self_eq_true x]
theorem Qp:∀ {names:List (Str×nu)} {n:Nat} {acc:List (Str×Addr)} {h:gQ},(names.filter λy=>y.2 == .cell)=[]->t6 n names acc=acc/\jer h names=h
 |[],n,acc,h,_=>⟨rfl,rfl⟩
 |(m,k)::r,n,acc,h,e=>by
  cases hk:k == sH with
  |true=>simp[sk,hk]at e
  |false =>
   have e':(r.filter λy=>y.2 == .cell)=[]:=by simpa[sk,hk]using e
   unfold t6 jer;simp only[hk,dG,if_false];exact Qp e'
theorem V3{x:Str}:∀ {names:List (Str×nu)} {n:Nat} {acc:List (Str×Addr)} {h:gQ},(names.filter λy=>y.2 == .cell)=[(x,.cell)]->t6 n names acc=(x,n)::acc/\jer h names=h.push { cls:=.type "cell",data:=.cell none }
 |[],n,acc,h,e=>by simp at e
 |(m,k)::r,n,acc,h,e=>by
  cases hk:k == sH with
  |true =>
   have e':m=x/\(r.filter λy=>y.2 == .cell)=[]:=by
    have:((m,k)::(r.filter λy=>y.2 == .cell))=[(x,.cell)]:=by rw[<- e];simp[sk,hk]
    simp only[bO,wg]at this;exact⟨this.1.1,this.2⟩
   unfold t6 jer;simp only[hk,if_true];obtain⟨z1,z2⟩:=Qp (n:=n+1) (acc:=(m,n)::acc) (h:=h.push { cls:=.type "cell",data:=.cell none }) e'.2;rw[z1,z2,e'.1]
   exact⟨rfl,rfl⟩
  |false =>
   have e':(r.filter λy=>y.2 == .cell)=[(x,.cell)]:=by simpa[sk,hk]using e
   unfold t6 jer;simp only[hk,dG,if_false];exact V3 e'
theorem qO{env:Env}:∀ {names:List (Str×nu)} {x:Str},names.lookup x=some .cell ->
 (names.map λ(n,k)=>if (k == wj&&env.scope.kind == .function&&env.kindOf n == some .cell) then (n,sH) else (n,k)).lookup x=some .cell
 |[],_,h=>by simp at h
 |(n,k)::r,x,h=>by
  have ih:=@qO env r x;show List.lookup x ((if (k == wj&&env.scope.kind == .function&&env.kindOf n == some .cell)=true then (n,sH) else (n,k))::_)=_
  cases hx:x == n with
  |true =>
   simp only[gF,hx]at h;cases h
   simp[gF,hx]
  |false =>
   simp only[gF,hx]at h;by_cases hc:(k == wj&&env.scope.kind == .function&&env.kindOf n == some .cell)=true
   ·rw[if_pos hc];simp only[gF,hx];exact ih h
   ·rw[if_neg hc];simp only[gF,hx];exact ih h
variable{M:Model}{A:mz}{E Q:bp->Shared->Prop}{env:Env}
theorem Xe{s:Shared}{scope:Scope}{globals:Addr}{qual:Str}{bi:Addr}{Q:Env->Shared->Prop}
 (hc:(scope.names.filter λy=>y.2 == .cell)=if scope.names.lookup x=some .cell then [(x,.cell)] else [])
 (hQ:∀h',h'.Ns s.heap.objs.size (λ_=>none)->(∀b o,s.heap.get? b=some o->h'.get? b=some o)->(scope.names.lookup x=some .cell->h'.IsCell (s.heap.objs.size+1) none) ->
  Q (newEnv scope s.heap.objs.size globals (qv scope x cl s.heap.objs.size) qual none .none (some env) bi) { s with heap:=h' }) :
 wpAny M A (newFunctionEnv scope globals cl [] qual none .none (some env) bi) Q E s:=by
 simp only[newFunctionEnv,nv,if_true];refine bg (wpAny_alloc ?_);refine bg (wpAny_layCells _ (λname kind cells=>by cases hkc:kind == sH<;>simp[hkc]) _ _ _ _ ?_);rw[show ({ s with heap:=s.heap.push { cls:=.type "dict",data:=.dict #[] } }:Shared).heap.objs.size=s.heap.objs.size+1 from tP ..];refine bg ?_;rw[tQ];refine bJ (bJ ?_)
 have old:∀b o,s.heap.get? b=some o->(s.heap.push { cls:=.type "dict",data:=.dict #[] }).get? b=some o:=λb o e=>bB _ e
 by_cases h:scope.names.lookup x=some .cell
 ·rw[if_pos h]at hc;obtain⟨e1,e2⟩:=V3 (n:=s.heap.objs.size+1) (acc:=cl) (h:=s.heap.push { cls:=.type "dict",data:=.dict #[] }) hc;rw[e1,e2]
  have q:=hQ ((s.heap.push { cls:=.type "dict",data:=.dict #[] }).push { cls:=.type "cell",data:=.cell none }) ((Heap.Ns.new s.heap (.type "dict")).keeps λb o e=>bB _ e) (λb o e=>bB _ (old b o e)) λ_=>by
   have:=dJ (s.heap.push { cls:=.type "dict",data:=.dict #[] }) (o:={ cls:=.type "cell",data:=.cell none }) rfl;rw[tP]at this;exact⟨_,this,rfl⟩
  unfold qv at q;rw[if_pos h]at q;exact q
 ·rw[if_neg h]at hc;obtain⟨e1,e2⟩:=Qp (n:=s.heap.objs.size+1) (acc:=cl) (h:=s.heap.push { cls:=.type "dict",data:=.dict #[] }) hc;rw[e1,e2]
  have q:=hQ (s.heap.push { cls:=.type "dict",data:=.dict #[] }) (Heap.Ns.new s.heap (.type "dict")) old λz=>absurd z h
  unfold qv at q;rw[if_neg h]at q;exact q
def qf(X:Cx)(s:Shared)(H:Hp)(fp:List Addr)(x:Str)(scope:Scope)(cl:List (Str×Addr))(C:Addr):Cx :=
 { X with N:=qg X.N x,s₀:=s,H₀:=H,env:=compEnvC scope (qv scope x cl C) C X.env,outer:=X.stack,stack:=X.stack,ex:=fp,fn:=λy=>decide (scope.names.lookup x=some .cell)&&decide (y=x),pn:=[],xe:=λ_ _=>False }
structure CompOk (X:Cx) (x:Str) (scope:Scope) (cl:List (Str×Addr)):Prop where
 clos:closureFor scope X.env=pure cl
 kind:scope.kind=.function
 cell:(scope.names.filter λy=>y.2 == .cell)=if scope.names.lookup x=some .cell then [(x,.cell)] else []
 names:∀y∈scope.names,y.2=.local->scope.names.lookup y.1=some .local
 loc:scope.names.lookup x=some .local\/scope.names.lookup x=some .cell
 only:∀y,(jcQ scope X.env).names.lookup y=some .local->y=x\/(y ∉ X.N/\y≠(dum X.N))
 vis:∀y,y≠x->((jcQ scope X.env).names.lookup y=some .cell\/(jcQ scope X.env).names.lookup y=some .free)->Vis X.env.scope y/\X.env.scope.names.lookup y≠some .local/\∃c,cl.lookup y=some c
 sub:∀y c,cl.lookup y=some c->X.env.cells.lookup y=some c
 ne:x≠(dum X.N)
 noE:X.env.scope.names.lookup (dum X.N)=none
variable{i:Nat}
section
variable {X:Cx} {x:Str} {scope:Scope} {cl:List (Str×Addr)}
theorem Q7:(qg X.N x)[X.N.length]?=some x:=by
 unfold qg;rw[dN (by simp)];simp
theorem Kx(h:(qg X.N x)[i]?=some y)(hy:y≠x):i<X.N.length/\(X.N[i]?=some y\/y=(dum X.N)):=by
 unfold qg at h;by_cases hi:i<X.N.length
 ·refine⟨hi,?_⟩;rw[dM (by simpa using hi),bY,bD hi]at h;simp only[wU,gc]at h;split at h
  ·exact .inr h.symm
  ·rw[bD hi,h];exact .inl rfl
 ·exfalso;rw[dN (by simpa using hi)]at h;simp only[bj]at h;rcases jeJ (jdK.mp hi) with z|z
  ·rw[<- z]at h;simp at h;exact hy h.symm
  ·rw[bI (by simp;lia)]at h;cases h
theorem Kg(nd:X.N.Nodup)(he:(dum X.N) ∉ X.N)(hx:x≠(dum X.N)):(qg X.N x).Nodup:=by
 unfold qg;generalize dum X.N=dm at he hx ⊢;rw[je5];refine⟨?_,by simp,?_⟩
 ·generalize X.N=N at nd he
  induction N with
  |nil=>simp
  |cons a r ih =>
   simp only[bz,not_or]at he;have nd':=nL.mp nd;rw[bq,nL];refine⟨?_,ih nd'.2 he.2⟩;intro hm;obtain⟨b,hb,e⟩:=bH.mp hm;by_cases h1:a=x
   ·rw[if_pos h1]at e;by_cases h2:b=x
    ·exact nd'.1 (by rw[h1,<- h2];exact hb)
    ·rw[if_neg h2]at e;exact he.2 (e ▸ hb)
   ·rw[if_neg h1]at e;by_cases h2:b=x
    ·rw[if_pos h2]at e;exact he.1 e
    ·rw[if_neg h2]at e;exact nd'.1 (e ▸ hb)
 ·intro a ha b hb;simp only[bz,bK,or_false]at hb;subst hb;obtain⟨c,hc,e⟩:=bH.mp ha;by_cases h:c=b
  ·rw[if_pos h]at e;rw[<- e];exact gV hx
  ·rw[if_neg h]at e;rw[<- e];exact h
end
variable{tk:Nat}
section
variable {X:Cx} {x:Str} {scope:Scope} {cl:List (Str×Addr)} {pins:List (Addr×nW)} {σ:L2.St} {H:Hp} {s:Shared} {fp:List Addr}
theorem comp_ok(I:Inv X pins σ H s)(co:CompOk X x scope cl)(hf:∀b∈fp,vh X pins H b){C:Addr}(hC:s.heap.objs.size<=C)(hfp:∀b∈fp,b<s.heap.objs.size):(qf X s H fp x scope cl C).Ok where
 mod:=I.ok.mod
 kind:=co.kind
 glob:=I.ok.glob
 blt:=I.ok.blt
 above:=hC
 inj:=λy z c h1 h2=>by
  have no:∀w,cl.lookup w≠some (C+1):=λw e=>by
   obtain⟨v,q⟩:=I.cell w _ (co.sub w _ e);have:=q.lt;exact absurd (dC this hC) (by lia)
  rcases k9 h1 with⟨rfl,rfl,_⟩|k1
  ·rcases k9 h2 with⟨rfl,_,_⟩|k2
   ·rfl
   ·exact absurd k2 (no z)
  ·rcases k9 h2 with⟨rfl,rfl,_⟩|k2
   ·exact absurd k1 (no y)
   ·exact I.ok.inj y z c (co.sub y c k1) (co.sub z c k2)
 has:=λy hy=>by
  by_cases e:y=x
  ·subst e;rcases co.loc with z|z
   ·have q:(jcQ scope X.env).names.lookup y=some .local:=wF z;have hy':(jcQ scope X.env).names.lookup y=some .cell\/(jcQ scope X.env).names.lookup y=some .free:=hy;rw[q]at hy'
    rcases hy' with r|r<;>cases r
   ·exact⟨C+1,vK z⟩
  ·obtain⟨c,hc⟩:=(co.vis y e hy).2.2;exact⟨c,(JA e).trans hc⟩
 cab:=λy c h e=>by
  have h:(decide (scope.names.lookup x=some .cell)&&decide (y=x))=true:=h;simp only[bh,decide_eq_true_eq]at h;obtain⟨h1,rfl⟩:=h;have e:(qv scope y cl C).lookup y=some c:=e;rw[vK h1]at e;cases e;show s.heap.objs.size<=C+1;lia
 hd:=I.ok.hd
 frames:=I.ok.frames
 stk:=.inl rfl
 exf:=λb hb=>⟨λe=>by have:=hfp b hb;rw[e]at this;exact absurd (dC this hC) (gB _),λy c h=>by
  rcases k9 h with⟨_,rfl,_⟩|h
  ·have:=hfp b hb;intro z;rw[<- z]at this;exact absurd (dC this hC) (by lia)
  ·exact(hf b hb).2.2.2.2.1 y c (co.sub y c h)⟩
 bs:=I.bs
 bsz:=bS I.ok.bsz I.sz
 noex:=λb o e hb=>by
  rcases(hf b hb).2.2.2.1 with z|z
  ·exact I.ok.noex b o e z
  ·exact absurd (dC (bP e) (bS I.ok.bsz z)) (gB _)
 exfs:=λb hb hb'=>by
  rcases bz.mp (I.stkSub b hb') with z|z
  ·exact(hf b hb).2.1 z
  ·exact(hf b hb).2.2.1 z
 funs:=I.stack
 frf:=I.stkFree
theorem jap(I:Inv X pins σ H s)(co:CompOk X x scope cl)(hf:∀b∈fp,vh X pins H b){C:Addr}{h':gQ}{m:Str->Option bp}(hC:s.heap.objs.size<=C)(hfp:∀b∈fp,b<s.heap.objs.size)
 (hk:∀b o,s.heap.get? b=some o->h'.get? b=some o) (hn:h'.Ns C m) (hce:scope.names.lookup x=some .cell->∃v,h'.IsCell (C+1) v):Inv (qf X s H fp x scope cl C) [] (σ ++ [none]) H { s with heap:=h',toks:=tk } where
 ok:=comp_ok I co hf hC hfp
 os:=rfl
 bare:=I.bare
 base:=Un.kept hk
 loc:=by
  refine⟨m,hn,λi y v h1 h2 h3=>?_⟩
  have hi:i<σ.length:=by
   rcases b8 i σ.length with z|z
   ·exact z
   ·rw[dN z]at h2;rcases jeJ z with y|y
    ·rw[<- y]at h2;simp at h2
    ·rw[bI (by simp;lia)]at h2;cases h2
  rw[dM hi]at h2;by_cases hyx:y=x
  ·exfalso;subst hyx;have h1':(qg X.N y)[i]?=some y:=h1;unfold qg at h1'
   have hi':i<X.N.length:=by rw[<- I.len];exact hi
   rw[dM (by simpa using hi'),bY,bD hi']at h1';simp only[wU,gc]at h1';split at h1'
   ·exact co.ne h1'.symm
   ·next hne=>exact hne h1'
  ·have hvis:(jcQ scope X.env).names.lookup y=some .cell\/(jcQ scope X.env).names.lookup y=some .free:=by
    rcases h3 with z|z|z
    ·rcases co.only y z with q|⟨q1,q2⟩
     ·exact absurd q hyx
     ·exfalso;rcases(Kx h1 hyx).2 with r|r
      ·exact q1 (gn r)
      ·exact q2 r
    ·exact .inl z
    ·exact .inr z
   obtain⟨v1,v2,c,hc⟩:=co.vis y hyx hvis;obtain⟨_,hN|hN⟩:=Kx h1 hyx
   ·obtain⟨m0,hn0,hl⟩:=I.loc;obtain⟨u,r,l⟩:=hl i y v hN h2 v1;refine⟨u,r,.inr ⟨hvis,c,(JA hyx).trans hc,?_⟩⟩;rcases l with⟨k,_⟩|⟨_,c',hc',z⟩
    ·exact absurd k v2
    ·rw[co.sub y c hc]at hc';cases hc';obtain⟨o,ho,hd⟩:=z;exact⟨o,hk c o ho,hd⟩
   ·exfalso;subst hN
    rcases v1 with z|z|z<;>(rw[co.noE]at z;cases z)
 cell:=λy c h=>by
  rcases k9 h with⟨_,rfl,z⟩|h
  ·exact hce z
  ·obtain⟨v,o,ho,hd⟩:=I.cell y c (co.sub y c h);exact⟨v,o,hk c o ho,hd⟩
 free:=I.hok.fresh hC
 freeC:=λy c h=>by
  rcases k9 h with⟨_,rfl,_⟩|h
  ·exact I.hok.fresh (bS hC (jfw _))
  ·exact I.freeC y c (co.sub y c h)
 pin:=λp hp=>nomatch hp
 hok:=I.hok.kept hk
 len:=by
  show (σ ++ [none]).length=(qg X.N x).length;unfold qg;simp[I.len]
end
def tests(ifs:List Expr)(env:Env):Sem Bool:=forIn ifs true λc r=>if r=true then do let ok <- isTrue c env (eval c env);pure (jfB ok) else pure (jfB r)
def PTs(X:Cx)(ifs:List Expr)(t:TT):Prop:=∀(pins:List (Addr×nW)) (s:Shared) (σ:L2.St) (H:Hp) (Q:Bool->Hp->Prop),Inv X pins σ H s->t σ H Q->wpAny (model X.prog X.w) X.A (tests ifs X.env) (TP X pins σ Q) X.xe s
variable{X:Cx}
theorem qy:PTs X [] λ_ H Q=>Q true H:=λ_ _ _ H _ I h=>bJ ⟨H,I,h⟩
theorem Uc{c:Expr}{t:TT}(h:PT X c t):PTs X [c] t:=λpins s σ H Q I w=>wpAny_tests_one (h pins s σ H Q I w)
variable{elt iter:Expr}{ifs:List Expr}{pos:Pos}{it:bp}
section
variable {prog:gj} {w:World} {A:mz} {R:Result->Shared->Prop} {s:Shared}
theorem VT{target:Expr}{scope:Scope}{acc:bp}(I:Nat->Shared->Prop)
 (turn:∀n s,I n s->wpAny (model prog w) A (pyNext it) (λr s₁=>match r with
  |none=>R (.ok .next) s₁
  |some v=>wpAny (model prog w) A (pM target it v) (λ_ s₁=>wpAny (model prog w) A (assign target env v) (λ_ s₂=>wpAny (model prog w) A (tests ifs env) (λok s₃ =>
   if ok=true then wpAny (model prog w) A (eval elt env) (λx s₃ =>
    wpAny (model prog w) A (call (.builtin "list.append") [acc,x]) (λ_ s₄=>∃m,m<n/\I m s₄) (λ_ _=>False) s₃) (λ_ _=>False) s₃
   else ∃m,m<n/\I m s₃) (λ_ _=>False) s₂) (λ_ _=>False) s₁) (λ_ _=>False) s₁) (λ_ _=>False) s)
 (n:Nat) (h:I n s):jcM (model prog w) A (.compLoop (.ListComp elt [⟨target,iter,ifs,0⟩] scope pos) 0 it acc env) R s:=by
 refine codeAny_loop rfl I (λn s hI=>?_) n h;show wpAny _ _ ((compTurn (.ListComp elt [⟨target,iter,ifs,0⟩] scope pos) 0 it acc env).onRaise (λx=>do jdu x env;theTreesLotGoes x)) _ _ s;refine wpAny_noted ?_;rw[compTurn_list];refine bg (pS (bg (gq (turn n s hI) (λr s₁ h₁=>?_) λ_ _ z=>z.elim)))
 cases r with
 |none=>exact bJ h₁
 |some v =>
  refine bg (gq h₁ (λ_ s₂ h₂=>bg (gq h₂ (λ_ s₃ h₃=>bg (gq h₃ (λok s₄ h₄=>?_) λ_ _ z=>z.elim)) λ_ _ z=>z.elim)) λ_ _ z=>z.elim)
  cases ok with
  |false=>exact bJ ⟨rfl,h₄⟩
  |true=>exact bg (bg (gq h₄ (λx s₄ h₄=>bg (gq h₄ (λ_ s₅ h₅=>bJ (bJ ⟨rfl,h₅⟩)) λ_ _ z=>z.elim)) λ_ _ z=>z.elim))
end
def zQ(wi:TI)(tt:TT)(te:TE):TE:=λσ H Q=>wi σ H λJ H1=>∃W:Nat->Nat->List V->Hp->Prop,(∃m,W 0 m [] H1)/\∀i m ys H,W i m ys H ->
 (J.stop i H/\ys.length<=sizeLine/\∀p,H p=none->Q (.ref p) (upd H p (.lst ys)))\/(J.go i H/\ys.length<sizeLine/\∀x H',J.yld i H x H'->tt (σ ++ [some x]) H' λb H1 =>
  if b=true then te (σ ++ [some x]) H1 λy H2=>∃m',m'<m/\W (i+1) m' (ys ++ [y]) H2 else ∃m',m'<m/\W (i+1) m' ys H1)
def tYes:TT:=λ_ H Q=>Q true H
abbrev tComp(wi:TI)(te:TE):TE:=zQ wi tYes te
variable{px:Pos}{wi:TI}{tt:TT}{te:TE}{pins:List (Addr×nW)}{σ:L2.St}{H:Hp}
section
variable {X:Cx} {x:Str} {scope:Scope} {cl:List (Str×Addr)}
theorem JY{use:Option (bp->Sem Unit)}{Qf:VK}{Qv:bp->Shared->Prop}{s:Shared}(hc:X.calm=true)(nd:X.N.Nodup)(hE:(dum X.N) ∉ X.N)(co:CompOk X x scope cl)(hi:PI X (.Name x px) iter wi)
 (ht:∀s H fp C,PTs (qf X s H fp x scope cl C) ifs tt) (he:∀s H fp C,PE (qf X s H fp x scope cl C) elt te) (hs:∀v,mU iter X.env v=pure v) (I:Inv X pins σ H s) (h:zQ wi tt te σ H Qf)
 (fin:∀(D C:Addr) (H':Hp) (s4:Shared) (m:Str->Option bp),Inv X pins σ H' s4->s4.heap.Ns C m->vh X pins H' C->Qf (.ref D) H'->compPost (model X.prog X.w) X.A X.xe use Qv (.ref D) C (.ok .next) s4) :
 wpAny (model X.prog X.w) X.A (comprehension (.ListComp elt [⟨.Name x px,iter,ifs,0⟩] scope pos) scope X.env (firstIterPos [⟨.Name x px,iter,ifs,0⟩] pos) (newList []) (firstAsync [⟨.Name x px,iter,ifs,0⟩]) (firstIter [⟨.Name x px,iter,ifs,0⟩] X.env) use) Qv X.xe s:=by
 refine wpAny_comprehension_free (g:=⟨.Name x px,iter,ifs,0⟩) (gs:=[]) rfl hs co.clos co.kind co.names ?_
 refine thn (hi pins s σ H _ I h) λv s1 h1=>thn h1 λitv s2 h2=>?_
 obtain⟨it,fp,tn,J,H2,e,I2,T,st2,f2,W,⟨m0,w0⟩,turn⟩:=h2;subst e
 have hfp:∀b∈fp,b<s2.heap.objs.size:=λb hb=>by
  obtain⟨o,e,_⟩:=T.obj _ _ st2 b hb;exact bP e
 refine jdd (Xe (x:=x) co.cell λh₁ hns₁ hsb₁ hce₁=>?_);dsimp only at hns₁ hsb₁ hce₁ ⊢;generalize hG:s2.heap.push { cls:=.type "list",dict:=none,data:=.seq ([]:List bp).toArray }=G at hns₁ hsb₁ hce₁ ⊢
 have hCs:G.objs.size=s2.heap.objs.size+1:=by rw[<- hG,tP]
 obtain⟨D,hD⟩:∃D:Addr,s2.heap.objs.size=D:=⟨_,rfl⟩
 obtain⟨C,hC⟩:∃C:Addr,G.objs.size=C:=⟨_,rfl⟩
 rw[hD]at hCs;rw[hD];rw[hC]at hCs hns₁ hce₁ ⊢
 have hDC:D≠C:=by rw[hCs];exact gI (t9 _)
 have old:∀b o,s2.heap.get? b=some o->h₁.get? b=some o:=λb o e=>hsb₁ b o (hG ▸ bB _ e)
 have hacc:h₁.PlainList D #[]:=⟨_,hsb₁ _ _ (hG ▸ (hD ▸ dJ s2.heap rfl))⟩
 let X':=qf X s2 H2 fp x scope cl C
 have hCle:s2.heap.objs.size<=C:=by rw[hD,hCs];exact jfw _
 have I3:Inv X' [] (σ ++ [none]) H2 { s2 with heap:=h₁ }:=jap I2 co f2 hCle hfp old hns₁ λz=>⟨_,hce₁ z⟩
 have ndX:X'.N.Nodup:=Kg nd hE co.ne
 have hDL:D≠X.env.locals:=by rw[<- hD];exact pH I2.lt
 have hDf:D ∉ frs X.stack:=λhb=>by
  rcases bz.mp (I2.stkSub D hb) with z|z
  ·exact hDL z
  ·exact I2.nofs (jdH hD) z
 have hDfp:D ∉ fp:=λhb=>by have:=hfp D hb;rw[hD]at this;exact absurd this (gB _)
 have hDc:∀y c,(qv scope x cl C).lookup y=some c->c≠D:=λy c e z=>by
  rcases k9 e with⟨_,e,_⟩|e
  ·rw[e,hCs]at z;have z:(D+1+1:Nat)=D:=z;lia
  obtain⟨v,q⟩:=I2.cell y c (co.sub y c e);have:=q.lt;rw[z,<- hD]at this;exact absurd this (gB _)
 have stat:∀ {H':Hp} {ob:nW},(∀b∈fp,H' b=none)->∀b∈fp,vh X' [(D,ob)] H' b:=λ{H' ob} hn b hb=>by
  obtain⟨g0,g1,g2,g3,g4,g5⟩:=f2 b hb;refine⟨hn b hb,λz=>?_,λz=>?_,.inl hb,λy c e=>?_,λp hp z=>?_⟩
  rotate_left 2
  ·rcases k9 e with⟨_,rfl,_⟩|e
   ·have:=hfp b hb;intro z;rw[<- z]at this;exact absurd (dC this hCle) (by lia)
   ·exact g4 y c (co.sub y c e)
  rotate_left
  ·have:=hfp b hb;rw[show b=C from z]at this;exact absurd (dC this hCle) (gB _)
  ·rcases bz.mp (I2.stkSub b z) with y|y
   ·exact g1 y
   ·exact g2 y
  ·have hp':p=(D,ob):=by simpa[X',qf]using hp
   subst hp';have z':D=b:=z;exact hDfp (z' ▸ hb)
 have pinD:∀ {τ:L2.St} {H':Hp} {s':Shared} {n:Nat} {us:List bp},Inv X' [] τ H' s'->s'.heap.get? D=some { cls:=.type "list",data:=.seq us.toArray n }->H' D=none->Inv X' [(D,{ cls:=.type "list",data:=.seq us.toArray n })] τ H' s':=λ{τ H' s' n us} J e hn =>
  J.pins_of λp hp=>by
   have hp':p=(D,{ cls:=.type "list",data:=.seq us.toArray n }):=by simpa using hp
   subst hp';exact⟨e,hn,hDC,hDf,λv z=>by cases z⟩
 have loop:jcM (model X.prog X.w) X.A (.compLoop (.ListComp elt [⟨.Name x px,iter,ifs,0⟩] scope pos) 0 (.ref it) (.ref D) (compEnvC scope (qv scope x cl C) C X.env))
  (compPost (model X.prog X.w) X.A X.xe use Qv (.ref D) C) { s2 with heap:=h₁ }:=by
  refine VT (λn s'=>∃(i:Nat) (o:Option V) (ys:List V) (us:List bp) (H':Hp),Inv X' [] (σ ++ [o]) H' s'/\tn i s'.heap/\(∀b∈fp,H' b=none)/\s'.heap.PlainList D us.toArray/\jH ys us/\H' D=none/\W i n ys H') ?_ m0
   ⟨0,none,[],[],H2,I3,T.keep _ _ _ st2 λb hb o e=>old b o e,λb hb=>(f2 b hb).1,hacc,.nil,I2.hok.fresh (jdH hD),w0⟩
  rintro n s3 ⟨i,o3,ys,us,H3,J3,st3,fr3,⟨n3,pl3⟩,vl3,hD3,w3⟩;have J3':=pinD J3 pl3 hD3;rcases turn i n ys H3 w3 with⟨stop,hl,q⟩|⟨go,hl,step⟩
  ·refine gq (T.done X' rfl rfl rfl hc i _ s3 _ H3 (λ_ _=>False) J3' (stat fr3) st3 stop) (λr s4 ⟨hr,J4⟩=>?_) λ_ _ z=>z
   subst hr;obtain⟨m4,hn4,_⟩:=J4.loc;have eD:s4.heap.get? D=some { cls:=.type "list",data:=.seq us.toArray n3 }:=(J4.pin _ (bX _ (bC ..))).1
   have nC:∀b o,s2.heap.get? b=some o->b≠C:=λb o e z=>by
    have:=bP e;rw[z]at this;exact absurd (dC this hCle) (gB _)
   have nD:∀b o,s2.heap.get? b=some o->b≠D:=λb o e z=>by
    have:=bP e;rw[z,hD]at this;exact absurd this (gB _)
   have tD:∀b u,H3 b=some u->b≠D:=λb u e=>kW e hD3
   have hCn:H3 C=none:=J4.free;have U4:Un (frs X.stack) fp H2 H3 s2.heap s4.heap:=J4.base
   have U:Un (frs X.stack) fp H2 (upd H3 D (.lst ys)) s2.heap s4.heap:={
    keep:=λb o e hn hb hx=>U4.keep b o e hn hb hx
    slot:=λb o e hn hb hx=>by
     obtain⟨sl,q⟩:=U4.slot b o e hn hb hx;exact⟨sl,q⟩
    free:=λb o e hn hx=>by rw[jg (nD b o e)];exact U4.free b o e hn hx
    there:=λb o e hx=>by
     obtain⟨o',q⟩:=U4.there b o e hx;exact⟨o',q⟩
    tups:=λb xs e=>by have:=U4.tups b xs e;rw[jg (tD b _ this)];exact this
    frzs:=λb o u e=>by have:=U4.frzs b o u e;rw[jg (tD b _ this)];exact this
    tbls:=λb ps e=>by
     obtain⟨more,this⟩:=U4.tbls b ps e
     exact⟨more,by rw[jg (tD b _ this)];exact this⟩ }
   have K:HOk X.prog X.w (upd H3 D (.lst ys)) s4.heap:=λb u e=>by
    by_cases hb:b=D
    ·subst hb;rw[ju]at e;cases e;exact⟨hl,us,n3,vl3,eD⟩
    ·rw[jg hb]at e
     exact(J4.hok b u e).stay (λc v hc q=>q) (λc z=>by rw[jg (tD c _ z)];exact z) λc xs z=>by rw[jg (tD c _ z)];exact z
   have I4:Inv X pins σ (upd H3 D (.lst ys)) s4:=I2.call' J4.os U K J4.bare λb hb=>by
    obtain⟨g0,g1,g2,g3,g4,g5⟩:=f2 b hb;exact⟨g3,g1,g4,g5⟩
   exact fin D C _ s4 m4 I4 hn4 (I2.fpOk hCle (by rw[jg (gV hDC)];exact hCn)) (q D hD3)
  ·refine gq (T.item X' rfl rfl rfl hc i _ s3 _ H3 (λ_ _=>False) J3' (stat fr3) st3 go) (λr s4 ⟨u,hr,h4⟩=>?_) λ_ _ z=>z
   subst hr
   refine gq h4 (λ_ s5 ⟨xv,H5,J5,r5,y5,st5,fr5⟩=>?_) λ_ _ z=>z
   have J5':=J5.pinned (stat fr5) (T.obj _ _ st5);have hlen:σ.length=X.N.length:=I2.len;refine jdb (vP J5' ndX (i:=X.N.length) Q7 (co.loc.elim (λz=>.inl (wF z)) λz=>.inr (qO z)) r5 (λs6 J6=>?_) (co.loc.elim (λz=>.inr (wF z)) λz=>.inl (by show (decide (scope.names.lookup x=some .cell)&&decide (x=x))=true;simp[z])))
   have eσ:(σ ++ [o3]).set X.N.length (some xv)=σ ++ [some xv]:=by rw[<- hlen];simp
   rw[eσ]at J6
   refine thn (ht s2 H2 fp C _ s6 _ H5 _ J6 (step xv H5 y5)) λb s6 ⟨H6,J6,w6⟩=>?_
   cases b with
   |false =>
    obtain⟨m',hm,w7⟩:=w6;have pD:=J6.pin (D,_) (bX _ (dh _ (bC ..)));refine⟨m',hm,i+1,some xv,ys,us,H6,J6.pins_of λp hp=>(nomatch hp),T.keep _ _ _ st5 λb hb o e=>(J6.pin (b,o) (bX _ (bX _ (qr hb e)))).1,λb hb=>?_,⟨n3,pD.1⟩,vl3,pD.2.1,w7⟩;obtain⟨o,e,_⟩:=T.obj _ _ st5 b hb
    exact(J6.pin (b,o) (bX _ (bX _ (qr hb e)))).2.1
   |true =>
   refine thn (he s2 H2 fp C _ s6 _ H6 _ J6 w6) λy s7 ⟨yv,H7,J7,r7,m',hm,w7⟩=>?_
   have pD:=J7.pin (D,_) (bX _ (dh _ (bC ..)))
   have pl7:s7.heap.PlainList D us.toArray:=⟨n3,pD.1⟩
   have hsz:us.toArray.size<=sizeLine:=by have:=vl3.length;simp;lia
   refine wpAny_list_append_plain (hsz:=hsz) pl7 λh₈ pl8 sb8=>?_
   refine⟨m',hm,i+1,some xv,ys ++ [yv],us ++ [y],H7,?_,?_,?_,?_,vl3.append (.cons r7 .nil),pD.2.1,w7⟩
   ·have J7':Inv X' [] (σ ++ [some xv]) H7 s7:=J7.pins_of λp hp=>nomatch hp
    exact J7'.turned (t':=s7.toks) (it:=D) (λb o hb e=>(sb8.2 b hb).trans e) pD.2.1 hDC (.inr (jdH hD)) hDc λp hp=>nomatch hp
   ·refine T.keep _ _ _ st5 λb hb o e=>?_
    have:=(J7.pin (b,o) (bX _ (bX _ (qr hb e)))).1;exact(sb8.2 b λz=>hDfp (z ▸ hb)).trans this
   ·intro b hb;obtain⟨o,e,_⟩:=T.obj _ _ st5 b hb;exact(J7.pin (b,o) (bX _ (bX _ (qr hb e)))).2.1
   ·have e:(us ++ [y]).toArray=us.toArray.push y:=by simp
    rw[e];exact pl8
 exact codeAny_compStart_list loop (T.self _ _ _ _ _ (T.keep _ _ _ st2 λb hb o e=>old b o e) loop)
theorem yb(hc:X.calm=true)(nd:X.N.Nodup)(hE:(dum X.N) ∉ X.N)(co:CompOk X x scope cl)(hi:PI X (.Name x px) iter wi)
 (ht:∀s H fp C,PTs (qf X s H fp x scope cl C) ifs tt) (he:∀s H fp C,PE (qf X s H fp x scope cl C) elt te) (hs:∀v,mU iter X.env v=pure v):PE X (.ListComp elt [⟨.Name x px,iter,ifs,0⟩] scope pos) (zQ wi tt te):=by
 intro pins s σ H Q I h;rw[eval_ListComp]
 refine JY hc nd hE co hi ht he hs I h λD C H' s4 m I4 hn hC q=>?_
 obtain⟨g0,g1,g2,g3,g4,g5⟩:=hC;exact⟨m,hn,λh' sb=>⟨.ref D,H',I4.turned (t':=s4.toks) (λb o hb e=>(sb.2 b hb).trans e) g0 g1 g3 g4 g5,rfl,q⟩⟩
theorem KS{py spos:Pos}(hc:X.calm=true)(nd:X.N.Nodup)(hE:(dum X.N) ∉ X.N)(co:CompOk X x scope cl)(hi:PI X (.Name x px) iter wi)
 (ht:∀s H fp C,PTs (qf X s H fp x scope cl C) ifs tt) (he:∀s H fp C,PE (qf X s H fp x scope cl C) elt te) (hs:∀v,mU iter X.env v=pure v)
 (hsw:tI (.ListComp elt [⟨.Name x px,iter,ifs,0⟩] scope pos) (some (.Name y py)) spos.line X.env=pure true) (hy:X.N[i]?=some y) (hl:L2.Loc X.env.scope y) (hf:X.fn y=true\/X.env.scope.names.lookup y=some .local) :
 PS X (.Assign [.Name y py] (.ListComp elt [⟨.Name x px,iter,ifs,0⟩] scope pos) spos) (λD σ H=>zQ wi tt te σ H λv H'=>D.nx (σ.set i (some v)) H'):=by
 intro pins s σ H D I h;rw[exec_Assign_Name_used _ _ _ _ hsw];refine bg (pS (bg ?_));show wpAny _ X.A (do let _ <- comprehension (.ListComp elt [⟨.Name x px,iter,ifs,0⟩] scope pos) scope X.env (firstIterPos [⟨.Name x px,iter,ifs,0⟩] pos) (newList []) (firstAsync [⟨.Name x px,iter,ifs,0⟩]) (firstIter [⟨.Name x px,iter,ifs,0⟩] X.env) (some (assign (.Name y py) X.env))) _ _ s;refine bg (gq (JY (Qv:=λ_ s'=>SP X pins D .next s') hc nd hE co hi ht he hs I h λDa C H' s4 m I4 hn hC q=>?_) (λ_ s' hq=>bJ (bJ hq)) λ_ _ z=>z);refine jdb (KA I4 nd hy hl (v:=.ref Da) rfl (λs5 I5 ⟨a,sb,ha⟩=>?_) hf);obtain⟨g0,g1,g2,g3,g4,g5⟩:=hC
 have haC:a≠C:=by
  rcases ha with z|z
  ·rw[z];exact gV g1
  ·exact g4 y a z
 refine⟨m,hn.sameBut sb (gV haC),λh' sb'=>?_⟩;exact⟨_,H',I5.turned (t':=s5.toks) (λb o hb e=>(sb'.2 b hb).trans e) g0 g1 g3 g4 g5,q⟩
end
def jd(H:Hp)(O:List Addr):Hp:=λa=>if a∈O then none else H a
theorem jf(H:Hp)(O:List Addr):je (jd H O) H:=λb o h=>by
 unfold jd at h;split at h
 ·cases h
 ·exact h
variable{H':Hp}{O:List Addr}
theorem jc(e:je H H'):je (jd H O) (jd H' O):=λb o h=>by
 unfold jd at *;split at h
 ·cases h
 ·next hb=>rw[if_neg hb];exact e b o h
theorem jE{O':List Addr}(e:∀a∈O',a∈O):je (jd H O) (jd H O'):=λb o h=>by
 unfold jd at *;split at h
 ·cases h
 ·next hb=>rw[if_neg λz=>hb (e b z)];exact h
variable{a:Addr}
theorem kz(h:a ∉ O):jd H O a=H a:=by unfold jd;rw[if_neg h]
variable{K:bw}{xs:List D}
theorem kG{xs:List V}(e:je H H')(h:SqT K H a xs):SqT K H' a xs:=by
 rcases h with(h|⟨o,h⟩)|h
 ·exact .inl (.inl (e _ _ h))
 ·exact .inl (.inr ⟨o,e _ _ h⟩)
 ·exact .inr h
mutual
noncomputable def Is(K:bw)(S:Hp):D->V->Prop
 |.non,v=>v=.non
 |.bl b,v=>v=.bl b
 |.int i,v=>v=.int i
 |.str x,v=>v=.str x/\jdL x=true
 |.tup xs,v=>∃a vs,v=.ref a/\SqT K S a vs/\Iss K S xs vs
 |.lst xs,v=>∃a vs,v=.ref a/\SqL K S a vs/\Iss K S xs vs
noncomputable def Iss(K:bw)(S:Hp):List D->List V->Prop
 |[],vs=>vs=[]
 |d::ds,vs=>∃v r,vs=v::r/\Is K S d v/\Iss K S ds r
end
variable{v:V}{vs:List V}
section
variable {K:bw} {S S':Hp}
mutual
theorem Is.mono(e:je S S'):∀(d:D) {v:V},Is K S d v->Is K S' d v
 |.non,v,h=>by unfold Is at *;exact h
 |.bl b,v,h=>by unfold Is at *;exact h
 |.int i,v,h=>by unfold Is at *;exact h
 |.str x,v,h=>by unfold Is at *;exact h
 |.tup xs,v,h=>by
  unfold Is at *;obtain⟨a,vs,h1,h2,h3⟩:=h
  exact⟨a,vs,h1,kG e h2,Iss.mono e xs h3⟩
 |.lst xs,v,h=>by
  unfold Is at *;obtain⟨a,vs,h1,h2,h3⟩:=h;exact⟨a,vs,h1,e.seq h2,Iss.mono e xs h3⟩
theorem Iss.mono(e:je S S'):∀(ds:List D) {vs:List V},Iss K S ds vs->Iss K S' ds vs
 |[],vs,h=>by unfold Iss at *;exact h
 |d::ds,vs,h=>by
  unfold Iss at *;obtain⟨v,r,h1,h2,h3⟩:=h;exact⟨v,r,h1,Is.mono e d h2,Iss.mono e ds h3⟩
end
theorem Iss.length:∀ {ds:List D} {vs:List V},Iss K S ds vs->vs.length=ds.length
 |[],vs,h=>by unfold Iss at h;subst h;rfl
 |d::ds,vs,h=>by
  unfold Iss at h;obtain⟨v,r,rfl,_,h3⟩:=h;simp[Iss.length h3]
theorem Iss.get:∀ {ds:List D} {vs:List V} {i:Nat} {d:D},Iss K S ds vs->ds[i]?=some d->∃v,vs[i]?=some v/\Is K S d v
 |[],vs,i,d,h,e=>by simp at e
 |x::ds,vs,i,d,h,e=>by
  unfold Iss at h;obtain⟨v,r,rfl,h2,h3⟩:=h
  cases i with
  |zero=>simp at e;subst e;exact⟨v,rfl,h2⟩
  |succ i =>
   obtain⟨w,e1,e2⟩:=Iss.get (i:=i) (d:=d) h3 (by simpa using e);exact⟨w,by simpa using e1,e2⟩
theorem Iss.append:∀ {ds es:List D} {vs ws:List V},Iss K S ds vs->Iss K S es ws->Iss K S (ds++es) (vs++ws)
 |[],es,vs,ws,h,g=>by unfold Iss at h;subst h;exact g
 |x::ds,es,vs,ws,h,g=>by
  unfold Iss at h;obtain⟨v,r,rfl,h2,h3⟩:=h;show Iss K S (x::(ds++es)) (v::(r++ws));unfold Iss;exact⟨v,_,rfl,h2,h3.append g⟩
theorem jr{i:Int}(h:Is K S (.int i) v):v=.int i:=by unfold Is at h;exact h
theorem qj{i:Bool}(h:Is K S (.bl i) v):v=.bl i:=by unfold Is at h;exact h
theorem zY(h:Is K S .non v):v=.non:=by unfold Is at h;exact h
theorem vS(h:Is K S (.str x) v):v=.str x/\jdL x=true:=by unfold Is at h;exact h
theorem qu(h:Is K S (.tup xs) v):∃a vs,v=.ref a/\SqT K S a vs/\Iss K S xs vs:=by unfold Is at h;exact h
theorem jN(h:Is K S (.lst xs) v):∃a vs,v=.ref a/\SqL K S a vs/\Iss K S xs vs:=by unfold Is at h;exact h
theorem jK(i:Int):Is K S (.int i) (.int i):=by unfold Is;rfl
theorem j3(i:Bool):Is K S (.bl i) (.bl i):=by unfold Is;rfl
theorem JO:Is K S .non .non:=by unfold Is;rfl
theorem X9(h:jdL x=true):Is K S (.str x) (.str x):=by unfold Is;exact⟨rfl,h⟩
theorem Zy(h:S a=some (.tup vs))(g:Iss K S xs vs):Is K S (.tup xs) (.ref a):=by unfold Is;exact⟨a,vs,rfl,SqT.of h,g⟩
theorem Ur(h:SqT K S a vs)(g:Iss K S xs vs):Is K S (.tup xs) (.ref a):=by unfold Is;exact⟨a,vs,rfl,h,g⟩
theorem qJ(h:SqL K S a vs)(g:Iss K S xs vs):Is K S (.lst xs) (.ref a):=by unfold Is;exact⟨a,vs,rfl,h,g⟩
end
mutual
noncomputable def zJ:D->PyData
 |.non=>.none
 |.bl b=>.bool b
 |.int i=>.int i
 |.str x=>.str x
 |.tup xs=>.tuple (xG xs)
 |.lst xs=>.list (xG xs)
noncomputable def xG:List D->List PyData
 |[]=>[]
 |x::xs=>zJ x::xG xs
end
mutual
theorem Jb:∀a b:D,PyData.eqv (zJ a) (zJ b)=eqD a b
 |a,b=>by
  cases a<;>cases b<;>simp only[zJ,PyData.eqv,eqD]
  ·exact uW _ _
  ·exact uW _ _
theorem uW:∀a b:List D,wm (xG a) (xG b)=zb a b
 |[],[]=>by simp only[xG,wm,zb]
 |[],_::_=>by simp only[xG,wm,zb]
 |_::_,[]=>by simp only[xG,wm,zb]
 |x::xs,y::ys=>by simp only[xG,wm,zb];rw[Jb x y,uW xs ys]
end
mutual
theorem vY:∀a:D,(zJ a).depth=qF a
 |.non=>rfl
 |.bl _=>rfl
 |.int _=>rfl
 |.str _=>rfl
 |.tup xs=>by simp only[zJ,PyData.depth,qF];rw[vb xs]
 |.lst xs=>by simp only[zJ,PyData.depth,qF];rw[vb xs]
theorem vb:∀a:List D,jfC (xG a)=zH a
 |[]=>rfl
 |x::xs=>by simp only[xG,jfC,zH];rw[vY x,vb xs]
end
section
variable {X:Cx} {pins:List (Addr×nW)} {σ:L2.St} {H:Hp} {s:Shared}
mutual
theorem Is.reads(I:Inv X pins σ H s):∀(d:D) {v:V} {u:bp},Is X.K H d v->jV v u->(∃as,Reads s.heap u (zJ d) as)/\(zJ d).canLay0=true
 |.non,v,u,h,r=>by cases zY h;cases r;exact⟨⟨_,.none⟩,rfl⟩
 |.bl b,v,u,h,r=>by cases qj h;cases r;exact⟨⟨_,.bool b⟩,rfl⟩
 |.int i,v,u,h,r=>by cases jr h;obtain⟨t,rfl⟩:=r;exact⟨⟨_,.int i t⟩,rfl⟩
 |.str x,v,u,h,r=>by obtain⟨rfl,o⟩:=vS h;obtain⟨t,rfl⟩:=r;exact⟨⟨_,.str x t⟩,o⟩
 |.tup xs,v,u,h,r=>by
  obtain⟨a,vs,rfl,h1,h2⟩:=qu h;cases r;obtain⟨its,rv,⟨o,e1,e2,n,e3⟩,_⟩:=I.tuple h1;obtain⟨⟨as,ra⟩,c⟩:=Iss.reads I xs h2 rv
  exact⟨⟨as,.tuple e1 e2 e3 (by simpa using ra)⟩,c⟩
 |.lst xs,v,u,h,r=>by
  obtain⟨a,vs,rfl,h1,h2⟩:=jN h;cases r;obtain⟨its,rv,pl,_⟩:=I.list h1;obtain⟨o,e1,e2,n,e3⟩:=pl.isList;obtain⟨⟨as,ra⟩,c⟩:=Iss.reads I xs h2 rv;exact⟨⟨_,.list e1 e2 e3 (by simpa using ra)⟩,c⟩
theorem Iss.reads(I:Inv X pins σ H s):∀(ds:List D) {vs:List V} {us:List bp},Iss X.K H ds vs->jH vs us->(∃as,ReadsAll s.heap us (xG ds) as)/\je6 (xG ds)=true
 |[],vs,us,h,r=>by
  unfold Iss at h;subst h;cases r
  exact⟨⟨_,.nil⟩,rfl⟩
 |d::ds,vs,us,h,r=>by
  unfold Iss at h;obtain⟨v,q,rfl,h1,h2⟩:=h
  cases r with
  |cons r1 r2 =>
   obtain⟨⟨as,ra⟩,c1⟩:=Is.reads I d h1 r1;obtain⟨⟨bs,rb⟩,c2⟩:=Iss.reads I ds h2 r2;exact⟨⟨_,.cons ra rb⟩,by simp only[xG,je6];rw[c1,c2];rfl⟩
end
end
section
variable {prog:gj} {w:World} {A:mz} {E:bp->Shared->Prop}
theorem UN{l it:Addr}{vs:Array bp}(hd:l≠it):∀(m i:Nat) {s:Shared} {Q:List bp->Shared->Prop},s.heap.IsListIter it l i->s.heap.IsList l vs->i+m=vs.size ->
 (∀h₂,h₂.IsListIter it l (i+m)->h₂.IsList l vs->nP it s.heap h₂->Q (vs.toList.drop i) { s with heap:=h₂ })->wpAny (model prog w) A (draw (.ref it) m) Q E s
 |0,i,s,Q,a1,a2,e,q=>by
  have z:=q s.heap a1 a2 (mV ..);rw[tT (by simp;lia)]at z
  exact bJ z
 |m+1,i,s,Q,a1,a2,e,q=>by
  have lt:i<vs.size:=by lia
  show wpAny _ _ (pyNext (.ref it) >>= _) _ _ _;refine bg (jdB (x:=vs[i]) a1 a2 (by simp[lt]) ?_);intro h₁ b1 b2;have c2:h₁.IsList l vs:=a2.extBut b2.extBut hd;refine bg (dW (UN hd m (i+1) b1 c2 (by lia) ?_));intro h₂ d1 d2 d3;have z:=q h₂ (by rw[Nat.add_comm m 1,<- Nat.add_assoc];exact d1) d2 (b2.trans d3)
  have cut:vs.toList.drop i=vs[i]::vs.toList.drop (i+1):=by rw[gC (by simpa using lt)];simp
  rw[cut]at z;exact bJ z
theorem V4{l:Addr}{vs:Array bp}{tg:List (Bool×(bp->Sem Unit))}{Q:Unit->Shared->Prop}{s:Shared}(hh:A.handled=none)(hl:s.heap.IsList l vs)(hn:tg.length=vs.size)(hz:tg.findIdx? (·.1)=none)
 (q:∀h₂,(∀b o,s.heap.get? b=some o->h₂.get? b=some o)->wpAny (model prog w) A (assignInOrder (tg.map (·.2)) vs.toList) Q E { s with heap:=h₂ }):wpAny (model prog w) A (unpack (.ref l) tg) Q E s:=by
 have new:∀b o,s.heap.get? b=some o->b≠s.heap.objs.size:=λb o e=>gI (bP e)
 have hd:l≠s.heap.objs.size:=by obtain⟨o,e,_⟩:=hl;exact new l o e
 unfold unpack;rw[hn,hz];refine bg (dW ?_);unfold unpackItems notIterableAtAll;refine bg (bg (wpAny_specialOf hl.typeIs slot_list_iter.lookup (bJ ?_)));simp only[dG,if_false];refine bg (dW (pW hl ?_));refine bg (dW (UN hd vs.size 0 ⟨_,dJ _ rfl,rfl,rfl⟩ (hl.push _) (by lia) ?_));intro h₁ a1 a2 a3;simp only[gk];rw[if_neg (by simp)];refine bg (dW (jdX hh a1 a2 (by simp) ?_));intro h₂ b1;simp only[Option.isSome_none,dG,if_false];exact bJ (q h₂ λb o e=>b1 b o (new b o e) (a3.extBut b o (new b o e) (bB _ e)))
end
def gLst(K:bw)(n:Nat)(t:TGs):TG:=λv σ H Q=>∃a xs,v=.ref a/\SqL K H a xs/\xs.length=n/\t xs σ H Q
def gSq(K:bw)(n:Nat)(t:TGs):TG:=λv σ H Q=>gTup K n t v σ H Q\/gLst K n t v σ H Q
variable{k:Nat}{n:Int}
theorem pg_sq{es:List Expr}{t:TGs}{n:Nat}(hc:X.calm=true)(h:PGs X es t)(hn:(nk es X.env).length=n)(hst:(nk es X.env).findIdx? (·.1)=none):PG X (.Tuple es k pos) (gSq X.K n t):=by
 intro pins s σ H v u Q I r w;rcases w with w|⟨a,xs,rfl,hq,hl,w⟩
 ·exact pg_tup hc h hn hst pins s σ H v u Q I r w
 ·cases r;obtain⟨its,rv,p,hz⟩:=I.list hq;rw[assign_Tuple];refine bg (pS (V4 (I.ok.hd hc) p.isList (by simp[hn,<- hl,rv.length]) hst λh₂ keep=>?_));exact h pins _ σ H xs _ Q (I.kept (t':=s.toks) keep) (by simpa using rv) w
variable{s':Shared}
section
variable {prog:gj} {w:World} {A:mz} {R:Result->Shared->Prop} {I S:Addr} {fp wr:List Addr} {G:Array pL->Array pL->Prop} {P:Nat->bp->Prop} {St:Nat->Shared->Prop} {ns:List Int}
theorem vG:(toString "min" ++ toString ".loop":String)="min.loop":=by decide
theorem uX{s:Shared}(mv:jfN wr G s s')(f:nW->nW):jfN (S::wr) G s { s' with heap:=s'.heap.update S f } :=
 ⟨λb o hb eb=>(dQ _ _ (λx=>hb (by rw[x];exact bC))).trans (mv.heap b o (λx=>hb (bo _ x)) eb),mv.gens,mv.drawn,mv.os,mv.toks⟩
theorem drop_at(h:i<ns.length):ns.drop i=ns.getD i 0::ns.drop (i+1):=by rw[gC h];simp[h]
theorem Yl(W:WalksS prog w A.in1 I fp wr G ns.length P St)(hv:∀i v,P i v->∃t,v=.int (ns.getD i 0) t)(hS:S ∉ fp)(kw:List (Str×bp)):∀(k i:Nat) (s:Shared) (m:Int) (t:Tok) (c:Nat),i+k=ns.length->St i s ->
 s.heap.get? S=some { cls:=.type "list",dict:=none,data:=.seq #[.int m t,.int m t] c,slots:=#[] }->(∀s' t',jfN (S::wr) G s s'->R (.ok (.ret (.int ((ns.drop i).foldl (yW false) m) t'))) s') ->
 jcM (model prog w) A (.builtin "min.loop" ⟨[.ref I,.none,.ref S],kw⟩) R s
 |0,i,s,m,t,c,e,a1,a2,q=>by
  have Sw:S ∉ wr:=λz=>hS (W.sub _ z)
  refine wV jdv ?_;rw[wG nh _];refine bg (m:=jfm (.ref S)) (mO a2 rfl ?_);refine bg (m:=tryCatch (pyNext (.ref I)) _) (jcZ (W.done s _ _ (by rw[<- e];exact a1) ?_));intro s' mv;have b2:=mv.heap S _ Sw a2;refine bg (m:=updateSeq S (λ_=>#[])) (wW b2 rfl (bg (p7 (bJ ?_))));have z:=q _ t (uX mv (t8 λ_=>#[]));rw[tT (by lia)]at z
  exact z
 |k+1,i,s,m,t,c,e,a1,a2,q=>by
  have Sw:S ∉ wr:=λz=>hS (W.sub _ z)
  have lt:i<ns.length:=by lia
  rw[drop_at lt,sT]at q;refine wV jdv ?_;rw[wG nh _];refine bg (m:=jfm (.ref S)) (mO a2 rfl ?_);refine bg (m:=tryCatch (pyNext (.ref I)) _) (jcZ (W.item i s _ _ lt a1 ?_));intro v s' pv b1 mv;obtain⟨t₁,rfl⟩:=hv i v pv;have b2:=mv.heap S _ Sw a2;generalize hn:ns.getD i 0=n at *;have cmp:=CmpOf.ints_lt (prog:=prog) (w:=w) (A:=A.in1) (P:=λj v=>∃t,v=.int (if j=0 then n else m) t) (λj=>if j=0 then n else m) (λ_ _ h=>h);refine bg (m:=tryCatch (sR [.int n t₁,.int n t₁] (richCompare .Lt (.int n t₁) (.int m t) >>= _)) _) (jcZ (dW (bg (cmp 0 1 _ _ _ _ _ ⟨t₁,rfl⟩ ⟨t,rfl⟩ ?_))));simp only[if_true,Nat.one_ne_zero,if_false];refine bg (dW (mB (bg (p7 (bJ ?_)))))
  have moved:jfN (S::wr) G s s':=mv.mono λb hb=>bo _ hb
  by_cases lo:n<m
  ·simp only[lo,decide_true,if_true]
   have pk:yW false m n=n:=by unfold yW;simp[lo]
   rw[pk]at q;refine bg (wW b2 rfl (bg (p7 ?_)));rw[vG];refine bJ ⟨jdl nh _,Yl W hv hS kw k (i+1) _ n t₁ _ (by lia) (W.frame _ s' _ s'.toks b1 (df _) ?_) (mh _ b2 rfl) ?_⟩
   ·intro b hb o eb;exact(dQ _ _ (λx=>hS (by rw[x];exact hb))).trans eb
   ·intro s₂ t₂ m₂;exact q s₂ t₂ (jfx W.gtrans (uX mv _) m₂)
  ·simp only[lo,decide_false,dG,if_false]
   have pk:yW false m n=m:=by unfold yW;simp[lo]
   rw[pk]at q;refine bg (p7 ?_);rw[vG];exact bJ ⟨jdl nh _,Yl W hv hS kw k (i+1) s' m t c (by lia) b1 b2 λs₂ t₂ m₂=>q s₂ t₂ (jfx W.gtrans moved m₂)⟩
end
section
variable {prog:gj} {w:World} {A:mz} {E:bp->Shared->Prop} {I:Addr} {fp wr:List Addr} {G:Array pL->Array pL->Prop} {P:Nat->bp->Prop} {St:Nat->Shared->Prop} {ns:List Int}
theorem jcu{id:String}{b:tU}{args:List bp}{kw:List (Str×bp)}{s:Shared}(hk:builtinKind id=none)(hp:plainId id=true)(hb:entryFor table id=some b)(ha:argsOk id ⟨args,kw⟩)
 (hc:wpAny (model prog w) A.in1 (b ⟨args,kw⟩) (λfin s'=>∃c',fin=.again c'/\c'.quiet=true/\jcM (model prog w) A c' (λr s'=>match r with|.ok (.ret v)=>Q v s'|.ok _=>False|.error e=>E e s') s') E s) :
 wpAny (model prog w) A (call (.builtin id) args kw) Q E s:=by
 refine tj (mP hp hb ?_)
 have fin:=gq hc (Q':=λfin s'=>match fin with
  |.done f=>(match (Except.ok f:Result) with|.ok (.ret v)=>Q v s'|.ok _=>False|.error e=>E e s')
  |.again c'=>c'.quiet=true/\jcM (model prog w) A c' (λr s'=>match r with|.ok (.ret v)=>Q v s'|.ok _=>False|.error e=>E e s') s')
  (λ_ _ ⟨c',e,z⟩=>by subst e;exact z) λ_ _ z=>z
 simp only[sr,hk]
 cases hs:jeu id with
 |none=>exact bJ fin
 |some sig =>
  have e:jd9 id sig ⟨args,kw⟩=pure ():=by simpa only[argsOk,hs]using ha
  simp only[e];exact bJ fin
end
theorem vm:∀ {ns:List Int} {us:List bp},jH (ns.map V.int) us->∀i v,us[i]?=some v->∃t,v=jfi (ns.getD i 0) t
 |[],us,r,i,v,h=>by cases r;simp at h
 |n::ns,us,r,i,v,h=>by
  cases r with
  |cons r1 r2 =>
   cases i with
   |zero=>simp at h;subst h;obtain⟨t,e⟩:=r1;exact⟨t,by simpa using e⟩
   |succ i=>simpa using vm r2 i v (by simpa using h)
variable{τ:L2.St}
theorem Inv.moved'{s:Shared}{o:nW}(I:Inv X pins τ H s)(m:jfN [s.heap.objs.size] (λa b=>b=a) { s with heap:=s.heap.push o,toks:=tk } s'):Inv X pins τ H s':=by
 have k:∀b u,s.heap.get? b=some u->s'.heap.get? b=some u:=λb u e=>m.heap b u (λz=>by
  have:b=s.heap.objs.size:=by simpa using z
  exact absurd (bP e) (by rw[this];exact gB _)) (bB _ e)
 exact I.call' (ch:=[]) m.os (Un.kept k) (I.hok.kept k) (by rw[m.gens];exact I.bare) λ_ z=>nomatch z
variable{ns:List Int}
section
variable {prog:gj} {w:World} {A:mz} {E:bp->Shared->Prop} {I:Addr} {fp wr:List Addr} {G:Array pL->Array pL->Prop} {P:Nat->bp->Prop} {St:Nat->Shared->Prop}
theorem VV:jcR "min" ["key","default"] 0 ⟨[],[]⟩=pure [none,none]:=rfl
theorem VZ(a:bp):argsOk "min" ⟨[a],[]⟩:=by unfold argsOk;kernel_rfl
theorem jbF{x:bp}{s:Shared}
 (h:wpAny (model prog w) A.in1 (pyIter x) (λit s₂=>∃I fp wr G P St,it=.ref I/\WalksS prog w A.in1 I fp wr G (n::ns).length P St/\St 0 s₂/\(∀b∈fp,b<s₂.heap.objs.size)/\(∀i v,P i v->∃t,v=.int ((n::ns).getD i 0) t) /\
  ∀s' t,jfN wr G s₂ s'->Q (.int (mmF false 0 (n::ns)) t) s') E s) :
 wpAny (model prog w) A (call (.builtin "min") [x] []) Q E s:=by
 refine jcu F.kind_min F.plain_min F.entry_min (VZ _) ?_;refine bg (m:=jcR "min" ["key","default"] 0 ⟨[],[]⟩) (mQ (VV) ?_);refine bg (bJ (bg (gq h ?_ λ_ _ e=>e)));rintro it s₂ ⟨I,fp,wr,G,P,St,rfl,W,st,hf,hv,q⟩;refine bg (jdd ?_)
 have fresh:s₂.heap.objs.size ∉ fp:=λz=>gB _ (hf _ z)
 have st':St 0 { s₂ with heap:=s₂.heap.push { cls:=.type "list",dict:=none,data:=.seq #[] 0,slots:=#[] } }:=W.frame 0 s₂ _ s₂.toks st (df _) λb _ o e=>bB _ e
 have hS:=dJ s₂.heap (show ({ cls:=.type "list",dict:=none,data:=.seq #[] 0,slots:=#[] }:nW).isFreed=false from rfl);rw[vG];refine bJ ⟨_,rfl,jdl nh _,?_⟩;refine wV jdv ?_;rw[wG nh _];refine bg (m:=jfm (.ref s₂.heap.objs.size)) (mO hS rfl ?_);refine bg (m:=tryCatch (pyNext (.ref I)) _) (jcZ (W.item 0 _ _ _ (by simp) st' ?_));intro v s' pv b1 mv;obtain⟨t₁,rfl⟩:=hv 0 v pv
 have Sw:s₂.heap.objs.size ∉ wr:=λz=>fresh (W.sub _ z)
 have b2:=mv.heap _ _ Sw hS;refine bg (m:=updateSeq s₂.heap.objs.size (λ_=>#[.int n t₁,.int n t₁])) (wW b2 rfl ?_);rw[vG];refine bJ ⟨jdl nh _,Yl W hv fresh _ ns.length 1 _ n t₁ _ (by simp;lia) (W.frame _ s' _ s'.toks b1 (df _) ?_) (mh _ b2 rfl) ?_⟩
 ·intro b hb o eb;exact(dQ _ _ (λx=>fresh (by rw[x];exact hb))).trans eb
 ·intro s₃ t₃ m₃;exact q s₃ t₃ (Moved.drop_new (tk:=s₂.toks) (jfx W.gtrans (uX mv _) m₃) (df _))
end
variable{Q:Option bp->Shared->Prop}
theorem UZ(hc:X.calm=true){s:Shared}{Q:VK}(I:Inv X pins τ H s)(hq:SqL X.K H a ((n::ns).map V.int))(q:Q (.int (mmF false 0 (n::ns))) H) :
 wpAny (model X.prog X.w) X.A (call (.builtin "min") [.ref a] []) (EP X pins τ Q) X.xe s:=by
 obtain⟨its,rv,p,hz⟩:=I.list hq;have hl:=rv.length;rw[bj]at hl;obtain⟨o,n0,ho,_⟩:=id p;have hne:a≠s.heap.objs.size:=gI (bP ho);have W:=(jfO (prog:=X.prog) (w:=X.w) (A:=X.A.in1) (I.ok.hd hc) s.heap.objs.size a hne its.toArray).toS;rw[show its.toArray.size=(n::ns).length by simp[hl]]at W
 have fin:wpAny (model X.prog X.w) X.A.in1 (pyIter (.ref a)) (λit s₂=>∃I fp wr G P St,it=.ref I/\WalksS X.prog X.w X.A.in1 I fp wr G (n::ns).length P St/\St 0 s₂/\(∀b∈fp,b<s₂.heap.objs.size)/\(∀i v,P i v->∃t,v=.int ((n::ns).getD i 0) t) /\
  ∀s' t,jfN wr G s₂ s'->EP X pins τ Q (.int (mmF false 0 (n::ns)) t) s') X.xe s:=by
  refine pW p.isList ⟨s.heap.objs.size,_,_,_,_,_,rfl,W,⟨⟨_,dJ _ rfl,rfl,rfl⟩,p.isList.push _⟩,λb hb=>?_,λi v hv=>vm rv i v (by simpa using hv),λs' t' m=>?_⟩
  ·rw[tP];simp only[bz,bK,or_false]at hb;rcases hb with z|z
   ·rw[z];exact t9 _
   ·rw[z];exact je7 (bP ho)
  ·exact⟨.int (mmF false 0 (n::ns)),H,Inv.moved' (tk:=s.toks) I m,⟨t',rfl⟩,q⟩
 exact jbF fin
abbrev zob(TI TO:Addr)(f0:bp)(f1:Bool):nW:={ cls:=.type "zip",dict:=none,data:=.fields #[f0,.bool f1,.bool false,.ref TI,.ref TO],slots:=#[] }
abbrev yi(a b:bp):nW:={ cls:=.type "tuple",data:=.seq #[a,b] }
def ZF(f0:bp):Prop:=f0=.none\/∃T:Nat,f0=rawInt T
variable{xs ys:Array bp}
section
variable {prog:gj} {w:World} {A:mz} {E:bp->Shared->Prop} {s:Shared} {z TI TO i1 i2 l1 l2:Addr}
theorem Jw{Q:Option nW->Shared->Prop}(h:Q (s.heap.get? a) s):wpAny (model prog w) A (jea a) Q E s:=λΓ p _=>by
 unfold jea;rw[Sem.wp_loadIfAlive];exact h
theorem zfree{f0:bp}{f1:Bool}{Q:Bool->Shared->Prop}(hz:s.heap.get? z=some (zob TI TO f0 f1))(hf:ZF f0)(q:∀b h₁ g1,h₁.get? z=some (zob TI TO f0 g1)->nP z s.heap h₁->Q b { s with heap:=h₁ }) :
 wpAny (model prog w) A (dZ (.ref z)) Q E s:=by
 unfold dZ;rcases hf with rfl|⟨T,rfl⟩
 ·exact bg (gA hz rfl (x:=.none) rfl (bJ (q true s.heap f1 hz (mV ..))))
 ·refine bg (gA hz rfl (x:=rawInt T) rfl ?_);refine bg (m:=jea (T:Int).toNat) (Jw ?_)
  cases hT:s.heap.get? (T:Int).toNat with
  |none=>exact bJ (q true s.heap f1 hz (mV ..))
  |some o =>
   refine bg (m:=field (.ref z) 1) (gA hz rfl (x:=.bool f1) rfl ?_)
   cases f1 with
   |true=>exact bJ (q false s.heap true hz (mV ..))
   |false=>exact bg (m:=tV (.ref z) 1 (.bool true)) (gh hz (by simp) λh₁ k1 k2=>bJ (q false h₁ true k1 k2))
structure ZSt (z TI TO i1 i2 l1 l2:Addr) (k:Nat) (h:gQ):Prop where
 zip:∃f0 f1,ZF f0/\h.get? z=some (zob TI TO f0 f1)
 its:h.get? TI=some (yi (.ref i1) (.ref i2))
 old:∃a b,h.get? TO=some (yi a b)
 one:h.IsListIter i1 l1 k
 two:h.IsListIter i2 l2 k
theorem znext{x y:bp}(D:ZipApart z TI TO i1 i2 l1 l2)(st:ZSt z TI TO i1 i2 l1 l2 k s.heap)(hl1:s.heap.IsList l1 xs)(hl2:s.heap.IsList l2 ys)(hx:xs[k]?=some x)(hy:ys[k]?=some y)
 (q:∀T h₂,ZSt z TI TO i1 i2 l1 l2 (k+1) h₂->s.heap.objs.size<=T->h₂.get? T=some (yi x y)->(∀b o,b ∉ [z,TO,i1,i2]->s.heap.get? b=some o->h₂.get? b=some o)->Q (some (.ref T)) { s with heap:=h₂ }) :
 wpAny (model prog w) A (pyNext (.ref z)) Q E s:=by
 obtain⟨⟨f0,f1,hf,hz⟩,hTI,⟨a,b,hTO⟩,h1,h2⟩:=st
 have ty:s.TypeIs (.ref z) "zip":=⟨_,hz,rfl⟩
 unfold pyNext;refine bg (pT (pq (name:=jdM "__next__") ty sU (pA sU ty F.entry_zip_next ?_ (F.args_zip_next_1 _))));refine bg (m:=field (.ref z) 2) (gA hz rfl (x:=.bool false) rfl (bg (m:=field (.ref z) 3) (gA hz rfl (x:=.ref TI) rfl (bg (mO hTI rfl ?_)))));refine bg (m:=dZ (.ref z)) (zfree hz hf λfr h₁ g1 hz₁ s1=>?_)
 have lt:∀ {h:gQ} {c:Addr} {o:nW},h.get? c=some o->c<h.objs.size:=λe=>bP e
 have TI1:h₁.get? TI=some (yi (.ref i1) (.ref i2)):=s1.extBut _ _ D.TIz hTI;have TO1:h₁.get? TO=some (yi a b):=s1.extBut _ _ D.TOz hTO;have a1:=h1.extBut s1.extBut D.i1z;have a2:=h2.extBut s1.extBut D.i2z;have c1:=hl1.extBut s1.extBut D.l1z;have c2:=hl2.extBut s1.extBut D.l2z
 cases fr with
 |false =>
  simp only[dG,if_false];refine bg ?_;simp only[<- jeK,sV,tQ];refine bg (bg (dW (bg (m:=d5 (.ref i1)) (gZ a1 c1 hx λh₂ b1 s2=>bJ (bJ ?_)))));have a2':=a2.extBut s2.extBut D.i12.symm;have c2':=c2.extBut s2.extBut D.l2i1;refine bg (bg (dW (bg (m:=d5 (.ref i2)) (gZ a2' c2' hy λh₃ b2 s3=>bJ (bJ (bJ ?_))))));refine bg (m:=newTuple [x,y]) (jeb (bJ ⟨_,rfl,bJ ?_⟩))
  have up:∀b o,b ∉ [z,TO,i1,i2]->s.heap.get? b=some o->h₃.get? b=some o:=λb o hb e=>by
   simp only[bz,bK,or_false,not_or]at hb;exact s3.extBut _ _ hb.2.2.2 (s2.extBut _ _ hb.2.2.1 (s1.extBut _ _ hb.1 e))
  have szs:h₃.objs.size=s.heap.objs.size:=by rw[s3.1,s2.1,s1.1]
  refine q h₃.objs.size _ ⟨⟨f0,g1,hf,bB _ (s3.extBut _ _ D.i2z.symm (s2.extBut _ _ D.i1z.symm hz₁))⟩,bB _ (s3.extBut _ _ D.TIi2 (s2.extBut _ _ D.TIi1 TI1)),⟨a,b,bB _ (s3.extBut _ _ D.TOi2 (s2.extBut _ _ D.TOi1 TO1))⟩,?_,?_⟩ (by rw[szs];exact df _) (dJ _ rfl) λb o hb e=>bB _ (up b o hb e)
  ·exact(b1.extBut s3.extBut D.i12).at λo e=>bB _ e
  ·exact b2.at λo e=>bB _ e
 |true =>
  simp only[if_true];refine bg (wpAny_rule (bg (m:=field (.ref z) 4) (gA hz₁ rfl (x:=.ref TO) rfl ?_)));refine bg (m:=tV (.ref z) 0 .ellipsis) (gh hz₁ (by simp) λh₂ hz₂ s2=>bg ?_);simp only[jfn,List.zipIdx_nil,sV,tQ];have TO2:h₂.get? TO=some (yi a b):=s2.extBut _ _ D.TOz TO1;have a1':=a1.extBut s2.extBut D.i1z;have c1':=c1.extBut s2.extBut D.l1z;refine bg (bg (wq (bg (m:=d5 (.ref i1)) (gZ a1' c1' hx λh₃ b1 s3=>bJ ?_))));have TO3:h₃.get? TO=some (yi a b):=s3.extBut _ _ D.TOi1 TO2;refine bg (mO TO3 rfl (bg (wH TO3 λh₄ TO4 s4=>bg (p7 (bJ ?_)))));have a2':=((a2.extBut s2.extBut D.i2z).extBut s3.extBut D.i12.symm).extBut s4.extBut D.TOi2.symm;have c2':=((c2.extBut s2.extBut D.l2z).extBut s3.extBut D.l2i1).extBut s4.extBut D.l2TO;refine bg (bg (wq (bg (m:=d5 (.ref i2)) (gZ a2' c2' hy λh₅ b2 s5=>bJ ?_))));have TO5:h₅.get? TO=some (yi x b):=s5.extBut _ _ D.TOi2 TO4;refine bg (mO TO5 rfl (bg (wH TO5 λh₆ TO6 s6=>bg (p7 (bJ (bJ ?_))))));have TO6':h₆.get? TO=some (yi x y):=TO6;refine bg (mO TO6' rfl (bg (jeb ?_)));have hz6:h₆.get? z=some (zob TI TO .ellipsis g1):=s6.extBut _ _ D.TOz.symm (s5.extBut _ _ D.i2z.symm (s4.extBut _ _ D.TOz.symm (s3.extBut _ _ D.i1z.symm hz₂)));have hz7:(h₆.push (yi x y)).get? z=some (zob TI TO .ellipsis g1):=bB _ hz6
  have up:∀b o,b ∉ [z,TO,i1,i2]->s.heap.get? b=some o->h₆.get? b=some o:=λb o hb e=>by
   simp only[bz,bK,or_false,not_or]at hb;exact s6.extBut _ _ hb.2.1 (s5.extBut _ _ hb.2.2.2 (s4.extBut _ _ hb.2.1 (s3.extBut _ _ hb.2.2.1 (s2.extBut _ _ hb.1 (s1.extBut _ _ hb.1 e)))))
  have szs:h₆.objs.size=s.heap.objs.size:=by rw[s6.1,s5.1,s4.1,s3.1,s2.1,s1.1]
  refine bg (m:=g8 (.ref z) (.ref h₆.objs.size)) ?_;unfold g8;refine bg (m:=tV (.ref z) 0 (rawInt h₆.objs.size)) (gh hz7 (by simp) λh₈ hz8 s8=>gh hz8 (by simp) λh₉ hz9 s9=>bJ ⟨_,rfl,bJ ?_⟩);have zlt:z<h₆.objs.size:=bP hz6
  have up2:∀b o,b≠z->(h₆.push (yi x y)).get? b=some o->h₉.get? b=some o:=λb o hb e=>s9.extBut _ _ hb (s8.extBut _ _ hb e)
  have b1':=((b1.extBut s4.extBut D.TOi1.symm).extBut s5.extBut D.i12).extBut s6.extBut D.TOi1.symm;have b2':=b2.extBut s6.extBut D.TOi2.symm
  refine q h₆.objs.size h₉ ⟨⟨rawInt h₆.objs.size,false,.inr ⟨_,rfl⟩,hz9⟩,?_,⟨x,y,up2 _ _ D.TOz (bB _ TO6')⟩,b1'.at λo e=>up2 _ o D.i1z (bB _ e),b2'.at λo e=>up2 _ o D.i2z (bB _ e)⟩ (by rw[szs];exact df _) (up2 _ _ (pH zlt) (dJ _ rfl)) λb o hb e=>?_
  ·exact up2 _ _ D.TIz (bB _ (s6.extBut _ _ D.TITO (s5.extBut _ _ D.TIi2 (s4.extBut _ _ D.TITO (s3.extBut _ _ D.TIi1 (s2.extBut _ _ D.TIz TI1))))))
  ·have hb':b≠z:=λe=>hb (by rw[e];exact bC)
   exact up2 _ _ hb' (bB _ (up b o hb e))
theorem zend(hh:A.handled=none)(D:ZipApart z TI TO i1 i2 l1 l2)(st:ZSt z TI TO i1 i2 l1 l2 k s.heap)(hl1:s.heap.IsList l1 xs)(hl2:s.heap.IsList l2 ys)(hend:xs[k]?=none\/ys[k]?=none)
 (q:∀h₂,(∀b o,b ∉ [z,TO,i1,i2]->s.heap.get? b=some o->h₂.get? b=some o)->Q none { s with heap:=h₂ }) :
 wpAny (model prog w) A (pyNext (.ref z)) Q E s:=by
 obtain⟨⟨f0,f1,hf,hz⟩,hTI,⟨a,b,hTO⟩,h1,h2⟩:=st
 have ty:s.TypeIs (.ref z) "zip":=⟨_,hz,rfl⟩
 have hh1:A.in1.handled=none:=hh;unfold pyNext;refine bg (pT (pq (name:=jdM "__next__") ty sU (pA sU ty F.entry_zip_next ?_ (F.args_zip_next_1 _))));refine bg (m:=field (.ref z) 2) (gA hz rfl (x:=.bool false) rfl (bg (m:=field (.ref z) 3) (gA hz rfl (x:=.ref TI) rfl (bg (mO hTI rfl ?_)))));refine bg (m:=dZ (.ref z)) (zfree hz hf λfr h₁ g1 hz₁ s1=>?_);have TO1:h₁.get? TO=some (yi a b):=s1.extBut _ _ D.TOz hTO;have a1:=h1.extBut s1.extBut D.i1z;have a2:=h2.extBut s1.extBut D.i2z;have c1:=hl1.extBut s1.extBut D.l1z;have c2:=hl2.extBut s1.extBut D.l2z
 have fin:∀(h₂:gQ) (e:Addr),(∀b o,b ∉ [z,TO,i1,i2]->s.heap.get? b=some o->h₂.get? b=some o)->(∃o,h₂.get? e=some o/\o.cls=.type "StopIteration") ->
  wpAny (model prog w) A (do if (<- jc0 (.ref e) (.type "StopIteration"))=true then pure none else throw (.ref e)) Q E { s with heap:=h₂ }:=λh₂ e k ⟨o,ho,hc⟩ =>
  bg (wpAny_isInstance (T:="StopIteration") (b:=true) ⟨o,ho,hc⟩ isSubtype_stop (bJ (q h₂ k)))
 cases fr with
 |false =>
  simp only[dG,if_false];refine bg ?_;simp only[<- jeK,sV,tQ]
  cases hx:xs[k]? with
  |none =>
   refine bg (bg (dW (bg (m:=d5 (.ref i1)) (nH hh1 a1 c1 hx λh₂ e s2 he=>fin h₂ e (λb o hb e=>?_) he))));simp only[bz,bK,or_false,not_or]at hb
   exact s2 _ _ hb.2.2.1 (s1.extBut _ _ hb.1 e)
  |some x =>
   have hy:ys[k]?=none:=by
    rcases hend with h|h
    ·rw[hx]at h;cases h
    ·exact h
   refine bg (bg (dW (bg (m:=d5 (.ref i1)) (gZ a1 c1 hx λh₂ b1 s2=>bJ (bJ ?_)))));have a2':=a2.extBut s2.extBut D.i12.symm;have c2':=c2.extBut s2.extBut D.l2i1;refine bg (bg (dW (bg (m:=d5 (.ref i2)) (nH hh1 a2' c2' hy λh₃ e s3 he=>fin h₃ e (λb o hb e=>?_) he))));simp only[bz,bK,or_false,not_or]at hb
   exact s3 _ _ hb.2.2.2 (s2.extBut _ _ hb.2.2.1 (s1.extBut _ _ hb.1 e))
 |true =>
  simp only[if_true];refine bg (wpAny_rule (bg (m:=field (.ref z) 4) (gA hz₁ rfl (x:=.ref TO) rfl ?_)));refine bg (m:=tV (.ref z) 0 .ellipsis) (gh hz₁ (by simp) λh₂ hz₂ s2=>bg ?_);simp only[jfn,List.zipIdx_nil,sV,tQ];have TO2:h₂.get? TO=some (yi a b):=s2.extBut _ _ D.TOz TO1;have a1':=a1.extBut s2.extBut D.i1z;have c1':=c1.extBut s2.extBut D.l1z
  cases hx:xs[k]? with
  |none =>
   refine bg (bg (wq (bg (m:=d5 (.ref i1)) (nH hh1 a1' c1' hx λh₃ e s3 he=>?_))));obtain⟨oe,hoe,hce⟩:=he;have hz3:h₃.get? z=some (zob TI TO .ellipsis g1):=s3 _ _ D.i1z.symm hz₂
   have hez:e≠z:=λx=>by subst x;rw[hz3]at hoe;cases hoe;simp at hce
   refine gh hz3 (by simp) λh₄ _ s4=>fin h₄ e (λb o hb e=>?_) ⟨oe,s4.extBut _ _ hez hoe,hce⟩
   simp only[bz,bK,or_false,not_or]at hb
   exact s4.extBut _ _ hb.1 (s3 _ _ hb.2.2.1 (s2.extBut _ _ hb.1 (s1.extBut _ _ hb.1 e)))
  |some x =>
   have hy:ys[k]?=none:=by
    rcases hend with h|h
    ·rw[hx]at h;cases h
    ·exact h
   refine bg (bg (wq (bg (m:=d5 (.ref i1)) (gZ a1' c1' hx λh₃ b1 s3=>bJ ?_))));have TO3:h₃.get? TO=some (yi a b):=s3.extBut _ _ D.TOi1 TO2;refine bg (mO TO3 rfl (bg (wH TO3 λh₄ TO4 s4=>bg (p7 (bJ ?_)))));have a2':=((a2.extBut s2.extBut D.i2z).extBut s3.extBut D.i12.symm).extBut s4.extBut D.TOi2.symm;have c2':=((c2.extBut s2.extBut D.l2z).extBut s3.extBut D.l2i1).extBut s4.extBut D.l2TO;refine bg (bg (wq (bg (m:=d5 (.ref i2)) (nH hh1 a2' c2' hy λh₅ e s5 he=>?_))));obtain⟨oe,hoe,hce⟩:=he;have hz5:h₅.get? z=some (zob TI TO .ellipsis g1):=s5 _ _ D.i2z.symm (s4.extBut _ _ D.TOz.symm (s3.extBut _ _ D.i1z.symm hz₂))
   have hez:e≠z:=λx=>by subst x;rw[hz5]at hoe;cases hoe;simp at hce
   refine gh hz5 (by simp) λh₆ _ s6=>fin h₆ e (λb o hb e=>?_) ⟨oe,s6.extBut _ _ hez hoe,hce⟩
   simp only[bz,bK,or_false,not_or]at hb;exact s6.extBut _ _ hb.1 (s5 _ _ hb.2.2.2 (s4.extBut _ _ hb.2.1 (s3.extBut _ _ hb.2.2.1 (s2.extBut _ _ hb.1 (s1.extBut _ _ hb.1 e)))))
end
variable{ch:List Addr}{h₂:gQ}
theorem Inv.turnedL{s:Shared}{T:Addr}{xs:List V}{us:List bp}(I:Inv X pins σ H s)(hf:∀b∈ch,vh X pins H b)(k:∀b o,b ∉ ch->s.heap.get? b=some o->h₂.get? b=some o)
 (hT:s.heap.objs.size<=T) (ht:h₂.get? T=some { cls:=.type "tuple",data:=.seq us.toArray }) (r:jH xs us) (hz:xs.length<=sizeLine):Inv X pins σ (upd H T (.tup xs)) { s with heap:=h₂ }:=by
 have fT:H T=none:=I.hok.fresh hT
 have ntr:∀b u,H b=some u->b ∉ ch:=λb u e z=>by rw[(hf b z).1]at e;cases e
 have nT:∀b u,H b=some u->b≠T:=λb u e z=>by rw[z,fT]at e;cases e
 refine I.call' (s':={ s with heap:=h₂ }) (ch:=ch) rfl ⟨λb o e n _ hb=>k b o hb e,λb o e n _ hb=>⟨o.slots,k b o hb e⟩,λb o e n hb=>?_,λb o e hb=>⟨o,k b o hb e⟩,λb ys e=>?_,λb o u e=>?_,λb ps e=>⟨#[],?_⟩⟩ ?_ I.bare λb hb=>?_
 ·rw[jg λq=>absurd (bP e) (by rw[q];exact jdK.mpr hT)];exact n
 ·rw[jg (nT b _ e)];exact e
 ·rw[jg (nT b _ e)];exact e
 ·rw[jg (nT b _ e),e];simp
 ·intro b u e;by_cases hb:b=T
  ·subst hb;rw[ju]at e;cases e;exact⟨hz,us,r,⟨_,ht,rfl,_,rfl⟩⟩
  ·rw[jg hb]at e
   refine(I.hok b u e).stay (λc v hc q=>k c v ?_ q) (λc q=>by rw[jg (nT c _ q)];exact q) λc ys q=>by rw[jg (nT c _ q)];exact q
   rcases hc with z|z
   ·rw[z];exact ntr b u e
   ·exact ntr c _ z
 ·obtain⟨_,f1,_,f3,f4,f5⟩:=hf b hb;exact⟨f3,f1,f4,f5⟩
theorem Inv.turnedN{s:Shared}(I:Inv X pins σ H s)(hf:∀b∈ch,vh X pins H b)(k:∀b o,b ∉ ch->s.heap.get? b=some o->h₂.get? b=some o):Inv X pins σ H { s with heap:=h₂ }:=by
 have ntr:∀b u,H b=some u->b ∉ ch:=λb u e z=>by rw[(hf b z).1]at e;cases e
 refine I.call' (s':={ s with heap:=h₂ }) (ch:=ch) rfl ⟨λb o e n _ hb=>k b o hb e,λb o e n _ hb=>⟨o.slots,k b o hb e⟩,λb o e n hb=>n,λb o e hb=>⟨o,k b o hb e⟩,λb ys e=>e,λb o u e=>e,λb ps e=>⟨#[],by rw[e];simp⟩⟩ ?_ I.bare λb hb=>?_
 ·intro b u e
  refine(I.hok b u e).stay (λc v hc q=>k c v ?_ q) (λc q=>q) λc ys q=>q
  rcases hc with z|z
  ·rw[z];exact ntr b u e
  ·exact ntr c _ z
 ·obtain⟨_,f1,_,f3,f4,f5⟩:=hf b hb;exact⟨f3,f1,f4,f5⟩
def Itz(K:bw)(l1 l2:Addr):It:=⟨λi H=>∃xs ys x y,SqL K H l1 xs/\SqL K H l2 ys/\xs[i]?=some x/\ys[i]?=some y,
 λi H v H'=>∃T x y,v=.ref T/\H T=none/\(∀xs,SqL K H l1 xs->xs[i]?=some x)/\(∀ys,SqL K H l2 ys->ys[i]?=some y)/\H'=upd H T (.tup [x,y]),λi H=>∃xs ys,SqL K H l1 xs/\SqL K H l2 ys/\(xs.length<=i\/ys.length<=i)⟩
variable{p:Pos}
theorem ZN{s:Shared}{u:bp}{Q:Unit->Shared->Prop}(h:Q () s):wpAny M A (pM (.Name x p) it u) Q E s:=by
 unfold pM;exact bJ h
theorem V5{P:gj}{w:World}{z TI TO i1 i2 l1 l2:Addr}(D:ZipApart z TI TO i1 i2 l1 l2):Turn P w K (.Name x px) (Itz K l1 l2) [z,TI,TO,i1,i2] z (λi h=>ZSt z TI TO i1 i2 l1 l2 i h) where
 mem:=by simp
 obj:=λi h st b hb=>by
  obtain⟨⟨f0,f1,hf,hz⟩,hTI,⟨a,b',hTO⟩,⟨o1,e1,_,d1⟩,⟨o2,e2,_,d2⟩⟩:=st;simp only[bz,bK,or_false]at hb;rcases hb with rfl|rfl|rfl|rfl|rfl
  ·exact⟨_,hz,λv q=>by cases q⟩
  ·exact⟨_,hTI,λv q=>by cases q⟩
  ·exact⟨_,hTO,λv q=>by cases q⟩
  ·exact⟨_,e1,λv q=>by rw[d1]at q;cases q⟩
  ·exact⟨_,e2,λv q=>by rw[d2]at q;cases q⟩
 keep:=λi h h' st k=>by
  obtain⟨⟨f0,f1,hf,hz⟩,hTI,⟨a,b',hTO⟩,o1,o2⟩:=st;exact⟨⟨f0,f1,hf,k z (by simp) _ hz⟩,k TI (by simp) _ hTI,⟨a,b',k TO (by simp) _ hTO⟩,o1.at λo e=>k i1 (by simp) o e,o2.at λo e=>k i2 (by simp) o e⟩
 item:=by
  intro X hP hw hK hc i pins s σ H E I hf st hg;subst hP hw hK;obtain⟨xs,ys,xv,yv,q1,q2,e1,e2⟩:=hg;obtain⟨its1,r1,p1,_⟩:=I.list q1;obtain⟨its2,r2,p2,_⟩:=I.list q2;obtain⟨u1,hu1,ru1⟩:=r1.get e1;obtain⟨u2,hu2,ru2⟩:=r2.get e2
  refine znext D st p1.isList p2.isList (x:=u1) (y:=u2) (by simpa using hu1) (by simpa using hu2) λT h₂ st₂ hT ht k=>⟨.ref T,rfl,ZN ?_⟩
  have fT:H T=none:=I.hok.fresh hT;have I2:Inv X pins σ (upd H T (.tup [xv,yv])) { s with heap:=h₂ }:=Inv.turnedL (ch:=[z,TO,i1,i2]) (us:=[u1,u2]) I (λb hb=>hf b (by simp only[bz,bK,or_false]at hb ⊢;rcases hb with q|q|q|q<;>simp[q])) k hT ht (.cons ru1 (.cons ru2 .nil)) (by show 2<=sizeLine;decide);refine⟨.ref T,upd H T (.tup [xv,yv]),I2,rfl,⟨T,xv,yv,rfl,fT,λzs hz=>by rw[I.list_inj hz q1];exact e1,λzs hz=>by rw[I.list_inj hz q2];exact e2,rfl⟩,st₂,λb hb=>?_⟩
  obtain⟨o,eo,_⟩:∃o,s.heap.get? b=some o/\True:=by
   obtain⟨⟨f0,f1,hf',hz⟩,hTI,⟨a,b',hTO⟩,⟨o1,w1,_,_⟩,⟨o2,w2,_,_⟩⟩:=st;simp only[bz,bK,or_false]at hb;rcases hb with rfl|rfl|rfl|rfl|rfl
   ·exact⟨_,hz,trivial⟩
   ·exact⟨_,hTI,trivial⟩
   ·exact⟨_,hTO,trivial⟩
   ·exact⟨_,w1,trivial⟩
   ·exact⟨_,w2,trivial⟩
  rw[jg λq=>absurd (bP eo) (by rw[q];exact jdK.mpr hT)];exact(hf b hb).1
 done:=by
  intro X hP hw hK hc i pins s σ H E I hf st hg;subst hP hw hK;obtain⟨xs,ys,q1,q2,hl⟩:=hg;obtain⟨its1,r1,p1,_⟩:=I.list q1;obtain⟨its2,r2,p2,_⟩:=I.list q2;have n1:=r1.length;have n2:=r2.length
  refine zend (I.ok.hd hc) D st p1.isList p2.isList (hl.elim (λh=>.inl (by simp;lia)) λh=>.inr (by simp;lia)) λh₂ k=>⟨rfl,?_⟩
  exact Inv.turnedN (ch:=[z,TO,i1,i2]) I (λb hb=>hf b (by simp only[bz,bK,or_false]at hb ⊢;rcases hb with q|q|q|q<;>simp[q])) k
 self:=λA i s Q E st h=>by
  obtain⟨⟨f0,f1,hf,hz⟩,_⟩:=st
  have ty:s.TypeIs (.ref z) "zip":=⟨_,hz,rfl⟩
  refine wpAny_pyIter_slot ty F.slot_zip_iter (pA F.slot_zip_iter ty F.entry_zip_iter ?_ (F.args_zip_iter_1 _));exact bJ (M:=model P w) ⟨_,rfl,"zip",_,ty,sU.lookup,h⟩
def iZip(K:bw)(ta:TA):TI:=λσ H R=>ta σ H λvs H1=>∃l1 l2,vs=[.ref l1,.ref l2]/\(∃xs,SqL K H1 l1 xs)/\(∃ys,SqL K H1 l2 ys)/\R (Itz K l1 l2) H1
theorem jcD{a:Expr}{as:List Expr}{ta:TA}(hg:Gl X "zip")(hm:X.mg "zip"=none)(ha:PA X (a::as) ta)(hs:bU (a::as) X.env=(false,eval a X.env)::bU as X.env)(hpl:(backTo pos (bU as X.env)).any (·.1)=false) :
 PI X (.Name x px) (.Call (.Name "zip" p) (a::as) [] pos) (iZip X.K ta):=by
 intro pins s σ H R I h;refine Call_ (uV I hg hm boot_zip (m8 (thn (ha pos pins s σ H _ I h) λus s1 ⟨vs,H1,I1,r1,q1⟩=>?_) hs hpl));obtain⟨l1,l2,rfl,⟨xs,hx⟩,⟨ys,hy⟩,q⟩:=q1;obtain⟨u1,u2,rfl,e1,e2⟩:=Xc r1;cases e1;cases e2;obtain⟨its1,r1,p1,_⟩:=I1.list hx;obtain⟨its2,r2,p2,_⟩:=I1.list hy
 have a1:l1<s1.heap.objs.size:=by obtain⟨_,e,_⟩:=p1.isList;exact bP e
 have a2:l2<s1.heap.objs.size:=by obtain⟨_,e,_⟩:=p2.isList;exact bP e
 refine call_zip_2 p1.isList p2.isList λh₂ hz hTI hTO hi1 hi2 _ hk=>?_
 have D:=zipApart_new a1 a2;refine wpAny_pyIter_zip (s:={ s1 with heap:=h₂ }) hz ⟨_,_,_,_,H1,rfl,I1.kept (t':=s1.toks) hk,V5 D,⟨⟨.none,false,.inl rfl,hz⟩,hTI,⟨_,_,hTO⟩,hi1,hi2⟩,λb hb=>?_,q⟩
 have hb':s1.heap.objs.size<=b:=by
  simp only[bz,bK,or_false]at hb
  rcases hb with rfl|rfl|rfl|rfl|rfl<;>lia
 exact I1.fpOk hb' (I1.hok.fresh hb')
end Z
namespace Z
open PySem PySem.Spec PySem.Calls PyProof.Rows PySem.W L2
variable{mN:Str->Option bp}{fI:Addr}{oI:nW}{Q:Unit->Shared->Prop}
section
variable {prog:gj} {w:World} {A:mz} {E:bp->Shared->Prop} {h:gQ} {g:Array pL} {d:Drawn} {t:Nat} {os:je8}
variable {nm q:Str} {C N:Addr} {bs bm bmB:List bp} {hdct:Bool} {sn:List Str} {sub:List bp} {ab:Bool} {col:Option Bool} {dd:Option Addr} {k0 k1 k2 k3 k5:Option bp} {B Bn newId nid initId inN:String} {bmN:List bp}
theorem YC(Fn:jcS Bn newId inN bmN)(hBn:bmB.contains (.type Bn)=true)(F:jcS B nid initId bmB)(T:jfG h bmB bm){rest:List bp}{Q:PySem.Fin->Shared->Prop}
 (hC:h.get? C=some (mR nm q C N bs bm hdct sn sub ab col dd k0 k1 k2 k3 k5 newId)) (hn:h.Ns N mN) (hi:mN "__init__"=some (.ref fI)) (hfI:h.get? fI=some oI) (hfc:oI.cls=.type "function")
 (hq:∀h' e,p8 h h' e (.ref C) rest->wpAny (model prog w) A (call (.ref fI) (.ref e::rest)) (λr s'=>r=.none/\Q (.done (.ret (.ref e))) s') E ⟨h',g,d,t,os⟩) (hrest:rest.length<=sizeLine) :
 wpAny (model prog w) A (tU.«type.__call__» ⟨.ref C::rest,[]⟩) Q E ⟨h,g,d,t,os⟩:=by
 repeat (first|(with_reducible refine mC hC ?_)|(with_reducible refine wpAny_madeBy_exc hC ?_)|wp_step)
 refine codeAny_call_builtin_code (jc1 _ Fn.quiet) (wpAny_check_new_subU Fn hBn T hC (codeAny_exc_new_subU Fn hBn F T hC ?_ hrest));show wpAny _ _ _ _ _ _;generalize hh2:(h.push { cls:=.type "tuple",data:=.seq rest.toArray }).push { cls:=.ref C,data:=.fields #[.ref h.objs.size,.none,.none,.none,.bool false,.none] }=h2
 have kp:∀b o,h.get? b=some o->h2.get? b=some o:=λb o e=>by rw[<- hh2];exact bB _ (bB _ e)
 have he:h2.get? (h.objs.size+1)=some { cls:=.ref C,data:=.fields #[.ref h.objs.size,.none,.none,.none,.bool false,.none] }:=by rw[<- hh2];heap_get
 have ht:h2.get? h.objs.size=some { cls:=.type "tuple",data:=.seq rest.toArray }:=by rw[<- hh2];exact bB _ (jde rfl rfl)
 have hcC:(mf C::bm).contains (.ref C)=true:=by simp
 have hC2:=kp _ _ hC;have hn2:h2.Ns N mN:=hn.keeps kp;unfold jc0
 repeat (first|(with_reducible refine mC he ?_)|(with_reducible refine w5 hC2 ?_;rw[hcC])|wp_step)
 show wpAny _ _ (nZ (.ref C) _) _ _ _;refine wpAny_typeLookup_tail hC2 hn2 (T.keeps kp) F.mroIs F.init.lookup ?_;rw[hi];refine dW (bg ?_);unfold bindSpecial;refine bg (wpAny_typeOf (T:="function") ⟨_,kp _ _ hfI,hfc⟩ ?_);rw[if_pos (by decide)]
 have made:p8 h h2 (h.objs.size+1) (.ref C) rest:=⟨kp,pZ (jfw _),h.objs.size,he,pZ (df _),ht⟩
 refine bJ (bg (gq (hq h2 _ made) (λr s' hr=>?_) λ_ _ x=>x));obtain⟨rfl,hQ⟩:=hr
 wp_walk
 exact hQ
theorem YX(Fn:jcS Bn newId inN bmN)(hBn:bmB.contains (.type Bn)=true)(F:jcS B nid initId bmB)(T:jfG h bmB bm){rest:List bp}{Q:bp->Shared->Prop}
 (hC:h.get? C=some (mR nm q C N bs bm hdct sn sub ab col dd k0 k1 k2 k3 k5 newId)) (hn:h.Ns N mN) (hi:mN "__init__"=some (.ref fI)) (hfI:h.get? fI=some oI) (hfc:oI.cls=.type "function")
 (hq:∀h' e,p8 h h' e (.ref C) rest->wpAny (model prog w) (A.under (.builtin "type.__call__" ⟨.ref C::rest,[]⟩)) (call (.ref fI) (.ref e::rest)) (λr s'=>r=.none/\Q (.ref e) s') E ⟨h',g,d,t,os⟩) (hrest:rest.length<=sizeLine) :
 wpAny (model prog w) A (call (.ref C) rest) Q E ⟨h,g,d,t,os⟩:=by
 have l1:=tc_lookup;have l2:=tc_bind (.ref C)
 have ty:(⟨h,g,d,t,os⟩:Shared).TypeIs (.ref C) "type":=⟨_,hC,rfl⟩
 refine tj (codeAny_of_tree (show wpAny _ _ (callAny (.ref C) _) _ _ _ from ?_))
 repeat (any_goals (first|assumption|(with_reducible refine mC hC ?_)|wp_step))
 exact⟨rfl,codeAny_call_builtin_at (jc1 _ (by decide +kernel)) entry_typeCall (wpAny_check_type_call_sub hC (YC Fn hBn F T hC hn hi hfI hfc hq hrest))⟩
end
section
variable {M:Model} {A:mz} {E:bp->Shared->Prop} {env:Env}
variable {nm q:Str} {C N:Addr} {bs bm:List bp} {hdct:Bool} {sn:List Str} {sub:List bp} {ab:Bool} {col:Option Bool} {dd:Option Addr} {k0 k1 k2 k3 k5:Option bp} {newId:String}
theorem ZC{s:Shared}{x:Sem bp}{Q:Flow->Shared->Prop}(hb:bm.contains (.type "BaseException")=true)(hh:A.handled=none)
 (hx:wpAny M A x (λv s₁=>∃e t dct,v=.ref e/\s₁.heap.get? C=some (mR nm q C N bs bm hdct sn sub ab col dd k0 k1 k2 k3 k5 newId)/\s₁.heap.get? e=some { cls:=.ref C,dict:=dct,data:=.fields #[.ref t,.none,.none,.none,.bool false,.none] }/\E (.ref e) s₁) E s) :
 wpAny M A (raiseStmt env (some x) none) Q E s:=by
 have hcB:(mf C::bm).contains (.type "BaseException")=true:=by rw[tE,hb,jdI]
 unfold raiseStmt;refine bg (gq hx (λv s₁ ⟨e,t,dct,ev,hC,he,hE⟩=>?_) λ_ _ x=>x);subst ev;obtain⟨hp,g,d,tk,os⟩:=s₁
 repeat (first|(with_reducible refine mC he ?_)|(with_reducible refine mC hC ?_)|(with_reducible refine w5 hC ?_;rw[hcB])|wp_step)
 exact wpAny_raiseNew_none hh hE
end
variable{base:gQ}{env:Env}{L e:Addr}{oe:nW}{vs:Array bp}{a0:bp}{dct:Option Addr}
section
variable {M:Model} {A:mz} {E:bp->Shared->Prop} {s:Shared}
def yw(h:gQ)(e:Addr)(dct:Option Addr):Prop:=∃o,h.get? e=some o/\o.dict=dct
theorem Jn(o:nW)(f:Array bp->Array bp):(wu f o).dict=o.dict:=by
 unfold wu
 split<;>rfl
theorem noteD{outer:List Env}{head:bp}{hadNext:Bool}
 (hfr:A.frames=some (env::outer)) (hl:s.heap.FunFrames base (env::outer)) (hf:env.frame=some L) (he:s.heap.get? e=some oe) (hkb:base.StaysIn s.heap) (hen:base.get? e=none) (hd:oe.data=.fields vs) (hsz:1<vs.size) (h0:vs[0]?=some a0)
 (h:∀h',Heap.NotedW base (env::outer) e oe.cls a0 (rawInt L) s.heap h'->yw h' e oe.dict->Q () { s with heap:=h' }) :
 wpAny M A (do let a <- frameOf env;let pl <- entryPlaceOf L hadNext;let b <- jev head a .none (rawInt L) .none pl;tV (.ref e) 1 b) Q E s:=by
 have nf:e ∉ (env::outer).filterMap (·.frame):=λhm=>by
  obtain⟨_,o,ho,hnf⟩:=hl.mem hm;rw[he]at ho;cases ho;exact hnf vs hd
 refine bg (wpAny_frameOf_fun hfr hl hf λh1 hs=>bg (wpAny_entryPlaceOf λpl hpl=>?_));unfold jev newFields;refine bg (jdd ?_ (hpl.sizeOk5 _ _ _ _ _));generalize htb:({ cls:=.type "traceback",dict:=none,data:=.fields ([head,.ref L,.none,rawInt L,.none]++(if pl.isEmpty then bR 6 pY else pl)).toArray }:nW)=tb;have he1:h1.get? e=some oe:=(hs.2.1 e nf).trans he;have hne:h1.objs.size≠e:=pH (bP he1);have he2:(h1.push tb).get? e=some oe:=bB _ he1;have hT2:(h1.push tb).get? h1.objs.size=some tb:=dJ h1 (by rw[<- htb];rfl)
 let f1:nW->nW:=wu (·.setIfInBounds 1 (mf h1.objs.size))
 have d3:(f1 oe).data=.fields (vs.setIfInBounds 1 (mf h1.objs.size)):=jeL hd _;have he3:((h1.push tb).update e f1).get? e=some (f1 oe):=mh _ he2 (jdY d3);have hT3:((h1.push tb).update e f1).get? h1.objs.size=some tb:=(dQ _ _ (gV hne)).trans hT2;refine jec he2 hd hsz (h _ ?_ ⟨f1 oe,he3,Jn _ _⟩)
 have kb:base.StaysIn h1:=λb o hb=>(hs.2.1 b λhm=>by rw[(hl.mem hm).1]at hb;cases hb).trans (hkb b o hb)
 have keep:∀b o,b≠e->h1.get? b=some o->((h1.push tb).update e f1).get? b=some o:=λb o hb q=>by
  rw[dQ _ _ (gV hb)];exact bB _ q
 have other:∀b o,s.heap.get? b=some o->(∀vs,o.data ≠ .fields vs)->b≠e:=λb o q n z=>by
  rw[z,he]at q;cases q;exact n vs hd
 have fresh:base.get? h1.objs.size=none:=by
  cases q:base.get? h1.objs.size with
  |none=>rfl
  |some o=>exact absurd (bP (kb _ _ q)) (gB _)
 have dT:tb.data=.fields ([head,.ref L,.none,rawInt L,.none]++(if pl.isEmpty then bR 6 pY else pl)).toArray:=by rw[<- htb]
 refine⟨λb o q=>keep b o (λz=>by rw[z,hen]at q;cases q) (kb b o q),hl.of_keeps λb o q n=>?_,⟨f1 oe,_,h1.objs.size,tb,_,he3,⟨Obj.cls_mapFields _ _,?_⟩,d3,by simp[hsz],fresh,hne,hT3,dT,?_⟩,λb o q n=>?_⟩
 ·obtain⟨sl,z⟩:=hs.2.2 b o q;exact⟨_,keep b _ (other b o q n) z,rfl⟩
 ·rw[Array.getElem?_setIfInBounds_ne (by decide)];exact h0
 ·simp
 ·obtain⟨sl,z⟩:=hs.2.2 b o q;exact⟨sl,keep b _ (other b o q n) z⟩
theorem landD{l:List Env}{cls fl:bp}(hkb:base.StaysIn s.heap)(hen:base.get? e=none)(hl:s.heap.FunFrames base l)(ht:s.heap.TracedAtW base e cls a0 fl)(hdc:yw s.heap e dct)
 (h:∀h',su base l e cls a0 h'->yw h' e dct->s.heap.UpToSlots h'->Q () { s with heap:=h' }):wpAny M A (jfo (.ref e) none) Q E s:=by
 obtain⟨oe,vs,T,oT,ts,he,hc,hd,h1,hnT,hTe,hT,hdT,h3⟩:=ht;obtain⟨o,ho,hdo⟩:=hdc;unfold jfo;refine bg (gA he hd h1 ?_);rw[if_pos (by simp)];have sz:3<ts.size:=(nz.mp h3).1;have dT:=jeL hdT (·.setIfInBounds 3 ((none:Option Addr).elim pY λf=>rawInt f));refine jec hT hdT sz (h _ ?_ ?_ λb o q n=>?_)
 ·have ot:∀b,b≠T->(s.heap.update T (wu (·.setIfInBounds 3 ((none:Option Addr).elim pY λf=>rawInt f)))).get? b=s.heap.get? b:=λb hb=>dQ _ _ (gV hb)
  refine⟨λb o q=>(ot b λz=>by rw[z,hnT]at q;cases q).trans (hkb b o q),hen,hl.of_keeps λb o q n=>⟨o,(ot b λz=>?_).trans q,rfl⟩,oe,vs,T,_,_,(ot e (gV hTe)).trans he,hc,hd,h1,hnT,hTe,mh _ hT (jdY dT),dT,by simp[sz]⟩;rw[z,hT]at q;cases q;exact n ts hdT
 ·exact⟨o,(dQ _ _ hTe).trans ho,hdo⟩
 ·refine⟨o.slots,(dQ _ _ λz=>?_).trans q⟩;rw[<- z,hT]at q;cases q;exact n ts hdT
theorem leaveD1{outer:List Env}
 (hfr:A.frames=some (env::outer)) (hl:s.heap.FunFrames base (env::outer)) (hf:env.frame=some L) (he:s.heap.get? e=some oe) (hkb:base.StaysIn s.heap) (hen:base.get? e=none) (hd:oe.data=.fields vs) (h1:vs[1]?=some .none) (h0:vs[0]?=some a0)
 (h:∀h',gQ.LeftW base (env::outer) e oe.cls a0 s.heap h'->yw h' e oe.dict->Q () { s with heap:=h' }):wpAny M A (jdC env (.ref e)) Q E s:=by
 unfold jdC jdu;simp only[hf];refine bg (bg (gA he hd h1 ?_));rw[if_neg (by decide)]
 exact noteD hfr hl hf he hkb hen hd (nz.mp h1).1 h0 λh2 ⟨x1,x2,x3,x4⟩ dd=>landD (s:={ s with heap:=h2 }) x1 hen x2 x3 dd λh3 ⟨y1,_,y3,y4⟩ d2 us=>h h3 ⟨y1,y3,y4,λb o q n=>by obtain⟨sl,z⟩:=x4 b o q n;obtain⟨s2,z2⟩:=us b { o with slots:=sl } z n;exact⟨s2,z2⟩⟩ d2
theorem lookD{outer:List Env}{cls:bp}
 (hfr:A.frames=some (env::outer)) (hf:env.frame=some L) (hfl:su base (env::outer) e cls a0 s.heap) (hdc:yw s.heap e dct)
 (h:∀h',gQ.HeldW base (env::outer) e cls a0 L h'->yw h' e dct->s.heap.UpToSlots h'->Q () { s with heap:=h' }):wpAny M A (jdu (.ref e) env) Q E s:=by
 obtain⟨hkb,hen,hl,oe,vs,T,oT,ts,he,⟨hc,h0⟩,hd,h1,hnT,hTe,hT,hdT,h3⟩:=hfl;obtain⟨o,ho,hdo⟩:=hdc;rw[he]at ho;cases ho;subst hc hdo;unfold jdu;simp only[hf];refine bg (gA he hd h1 ?_);rw[if_pos (by simp)];refine bg (gA hT hdT h3 ?_);rw[if_neg (by simp[rawInt])];refine bg (jec hT hdT (nz.mp h3).1 ?_);generalize hh:s.heap.update T (wu (·.setIfInBounds 3 pY))=h2
 have ot:∀b,b≠T->h2.get? b=s.heap.get? b:=λb hb=>by rw[<- hh];exact dQ _ _ (gV hb)
 have nT:∀b o,s.heap.get? b=some o->(∀vs,o.data ≠ .fields vs)->b≠T:=λb o q n z=>by
  rw[z,hT]at q;cases q;exact n ts hdT
 exact noteD (s:={ s with heap:=h2 }) hfr (hl.of_keeps λb o q n=>⟨o,(ot b (nT b o q n)).trans q,rfl⟩) hf ((ot e (gV hTe)).trans he) (λb o q=>(ot b λz=>by rw[z,hnT]at q;cases q).trans (hkb b o q)) hen hd (nz.mp h1).1 h0 λh' ⟨x1,x2,x3,x4⟩ dd=>h h' ⟨x1,hen,x2,x3⟩ dd λb o q n=>x4 b o ((ot b (nT b o q n)).trans q) n
theorem leaveD2{outer:List Env}{cls:bp}
 (hfr:A.frames=some (env::outer)) (hf:env.frame=some L) (hfl:su base (env::outer) e cls a0 s.heap) (hdc:yw s.heap e dct)
 (h:∀h',su base outer e cls a0 h'->yw h' e dct->s.heap.UpToSlots h'->Q () { s with heap:=h' }):wpAny M A (jdC env (.ref e)) Q E s:=by
 unfold jdC;refine bg (lookD hfr hf hfl hdc λh2 hd2 dd us=>?_);obtain⟨x1,x2,x3,x4⟩:=hd2
 refine landD (s:={ s with heap:=h2 }) x1 x2 x3 x4 dd λh3 fl d3 us2=>h h3 ?_ d3 (us.trans us2)
 obtain⟨y1,y2,⟨_,_,y3⟩,y4⟩:=fl;exact⟨y1,y2,y3,y4⟩
end
inductive TailN (n:Str) (h:gQ) (bmB:List bp):List bp->Prop
 |base:TailN n h bmB bmB
 |own {a:Addr} {c0:bp} {dd:Option Addr} {cd:jfp} {sl:Array (Option bp)} {m:Str->Option bp} {tl:List bp} (hA:h.get? a=some { cls:=c0,dict:=dd,data:=.cls cd,slots:=sl }) (hN:h.Ns cd.ns m) (hn:m n=none) (r:TailN n h bmB tl):TailN n h bmB (.ref a::tl)
variable{Q:Option bp->Shared->Prop}{y:Option bp}
section
variable {prog:gj} {w:World} {M:Model} {A:mz} {E:bp->Shared->Prop} {h:gQ} {g:Array pL} {d:Drawn} {t:Nat} {os:je8} {a dA:Addr} {o:nW} {vs:Array bp} {t0:Addr}
 {nm q:Str} {C N:Addr} {bs bm bmB:List bp} {hdct:Bool} {sn:List Str} {sub:List bp} {ab:Bool} {col:Option Bool} {dd:Option Addr} {k0 k1 k2 k3 k5:Option bp} {B newId:String} {mN mD:Str->Option bp} {n:Str}
theorem Ya{tl:List bp}(T:TailN n h bmB tl)(hr:lookupAlong bmB n=pure y)(hq:Q y ⟨h,g,d,t,os⟩):wpAny M A (lookupAlong tl n) Q E ⟨h,g,d,t,os⟩:=by
 induction T with
 |base=>rw[hr];exact bJ hq
 |own hA hN hn _ ih =>
  rw[lookupAlong_cons];exact bg (wpAny_classOwn_cls hA hN (by rw[hn];exact ih))
theorem Ko(hC:h.get? C=some (mR nm q C N bs bm hdct sn sub ab col dd k0 k1 k2 k3 k5 newId))(hn:h.Ns N mN)(T:TailN n h bmB bm)(hbm:mroOf (.type B)=pure bmB)(hB:nZ (.type B) n=pure y)(h0:mN n=none)
 (hq:Q y ⟨h,g,d,t,os⟩):wpAny M A (nZ (.ref C) n) Q E ⟨h,g,d,t,os⟩:=by
 have hr:lookupAlong bmB n=pure y:=by rw[typeLookup_eq,hbm]at hB;exact hB
 rw[typeLookup_eq];refine bg (wpAny_mroOf_exc hC ?_);rw[lookupAlong_cons];exact bg (wpAny_classOwn_exc hC hn (by rw[h0];exact Ya T hr hq))
end
end Z
namespace Z
open PySem PySem.Spec PySem.Calls PyProof.Rows PySem.W L2
open Builtin Builtin.ObjectAttr
variable{n:Str}{h:gQ}{bmB tl:List bp}
theorem TailN.has(T:TailN n h bmB tl){x:String}(hb:bmB.contains (.type x)=true):tl.contains (.type x)=true:=by
 induction T with
 |base=>exact hb
 |own _ _ _ _ ih=>rw[tE,ih,jdI]
theorem TailN.pass(T:TailN n h bmB tl){self:bp}(hb:refuseLoop self "__setattr__" bmB=pure ()):refuseLoop self "__setattr__" tl=pure ():=by
 induction T with
 |base=>exact hb
 |own _ _ _ _ ih=>rw[refuseLoop_ref];exact ih
variable{Q:Unit->Shared->Prop}
section
variable {prog:gj} {w:World} {A:mz} {E:bp->Shared->Prop} {h:gQ} {g:Array pL} {d:Drawn} {t:Nat} {os:je8}
variable {nm q:Str} {C N x:Addr} {bs bm bmB:List bp} {sn:List Str} {sub:List bp} {ab:Bool} {col:Option Bool} {dd:Option Addr} {k0 k1 k2 k3 k5:Option bp} {B newId sa owner:String}
 {mN:Str->Option bp} {name:Str} {v:bp} {o:nW} {vs:Array bp}
theorem VH{tk:Tok}{Q:PySem.Fin->Shared->Prop}(SF:StoreFacts B bmB sa owner)(hC:h.get? C=some (mR nm q C N bs bm true sn sub ab col dd k0 k1 k2 k3 k5 newId))(hn:h.Ns N mN)(hna:mN name=none)(T:TailN name h bmB bm)(hB:nZ (.type B) name=pure none)
 (hx:h.get? x=some o) (hc:o.cls=.ref C) (hf:o.data=.fields vs) (hdn:o.dict=none)
 (hq:∀h' tk',h'.get? x=some { cls:=o.cls,dict:=some h.objs.size,data:=o.data,slots:=o.slots }->h'.Ns1 h.objs.size (λy=>if y=name then some v else none)->(∀b ob,b≠x->h.get? b=some ob->h'.get? b=some ob)->Q (.done (.ret .none)) ⟨h',g,d,tk',os⟩) :
 wpAny (model prog w) A (tU.«object.__setattr__» ⟨[.ref x,.str name tk,v],[]⟩) Q E ⟨h,g,d,t,os⟩:=by
 have ps:=T.pass (SF.passes (.ref x));have xs:x≠h.objs.size:=gI (bP hx);unfold tU.«object.__setattr__»
 repeat (first|rw[refuse_eq]|(rw[refuseLoop_ref,ps])|(with_reducible refine mC hx ?_;rw[hc])|(with_reducible refine wpAny_mroOf_exc hC ?_)|(with_reducible refine Ko hC hn T SF.mro hB hna ?_)|wp_step)
 rw[hdn,hf,if_neg (by simp[typeHasDict])];have x1:(h.push { cls:=.type "dict",data:=.dict #[] }).get? x=some o:=bB _ hx;refine bg (wpAny_alloc' (bg (wpAny_update' x1 (bJ ?_))));generalize hh:((h.push { cls:=.type "dict",data:=.dict #[] }).update x λo=>{ cls:=o.cls,dict:=some h.objs.size,data:=o.data,slots:=o.slots })=h2
 have gd:h2.get? h.objs.size=some { cls:=.type "dict",data:=.dict #[] }:=by rw[<- hh];exact(jew _ _ _ _ xs.symm).trans (jde rfl rfl)
 have gx:h2.get? x=some { cls:=o.cls,dict:=some h.objs.size,data:=o.data,slots:=o.slots }:=by
  rw[<- hh];refine mh _ x1 ?_;have:=(Heap.get?_some_iff.mp hx).2;obtain⟨oc,od,odt,osl⟩:=o
  cases odt<;>first|rfl|exact this
 have nd:h2.Ns h.objs.size (λ_=>none):=⟨_,#[],_,gd,rfl,λe he=>absurd he (by simp),λ_=>rfl⟩
 show wpAny _ _ (storeInDict h.objs.size (.str name tk) name v) _ _ _;unfold storeInDict newKeyGuard;refine bg (bJ (bg (wpAny_nsSet1 (Heap.Ns1.of_empty nd) λh' hn' hs=>?_)));obtain⟨oD,esD,epD,hoD,hdD,hcD⟩:=hn'.count (Within.cons name v Within.nil);refine bg (wpAny_lookBehind hoD (by rw[hdD];exact pastItsLine_dict (bS hcD (by rw[dU,mF,pF];omega))) ?_)
 wp_walk
 exact hq h' _ ((hs.2 x xs).trans gx) hn' λb ob hb q=>(hs.2 b (gI (bP q))).trans (by rw[<- hh];exact(jew _ _ _ _ hb).trans (bB _ q))
theorem Vt{M:Model}{nameV:bp}(SF:StoreFacts B bmB sa owner)(hC:h.get? C=some (mR nm q C N bs bm true sn sub ab col dd k0 k1 k2 k3 k5 newId))(T:TailN n h bmB bm)(hx:h.get? x=some o)(hc:o.cls=.ref C)(hq:Q () ⟨h,g,d,t,os⟩) :
 wpAny M A (sr sa ⟨[.ref x,nameV,v],[]⟩) Q E ⟨h,g,d,t,os⟩:=by
 have co:(mf C::bm).contains (.type owner)=true:=by rw[tE,T.has SF.hasOwner,jdI]
 have ar:=SF.args (.ref x) nameV v;simp only[sr,SF.kind,SF.split];refine bg ?_;unfold jc0
 repeat (first|(with_reducible refine mC hx ?_;rw[hc])|(with_reducible refine w5 hC ?_;rw[co])|wp_step)
 cases sg:jeu sa with
 |none=>exact bJ hq
 |some sig =>
  simp only[argsOk,sg]at ar;show wpAny M A (jd9 sa sig ⟨[.ref x,nameV,v],[]⟩) Q E _;rw[show jd9 sa sig ⟨[.ref x,nameV,v],[]⟩=pure () from ar];exact bJ hq
theorem QP(SF:StoreFacts B bmB sa owner)(hC:h.get? C=some (mR nm q C N bs bm true sn sub ab col dd k0 k1 k2 k3 k5 newId))(hn:h.Ns N mN)(hns:mN "__setattr__"=none)(TS:TailN "__setattr__" h bmB bm)(hna:mN name=none)(T:TailN name h bmB bm)(hB:nZ (.type B) name=pure none)
 (hx:h.get? x=some o) (hc:o.cls=.ref C) (hf:o.data=.fields vs) (hdn:o.dict=none)
 (hq:∀h' tk',h'.get? x=some { cls:=o.cls,dict:=some h.objs.size,data:=o.data,slots:=o.slots }->h'.Ns1 h.objs.size (λy=>if y=name then some v else none)->(∀b ob,b≠x->h.get? b=some ob->h'.get? b=some ob)->Q () ⟨h',g,d,tk',os⟩) :
 wpAny (model prog w) A (setAttr (.ref x) name v) Q E ⟨h,g,d,t,os⟩:=by
 have b3:=SF.slot.bind (.ref x);unfold setAttr callSpecial? specialOf
 repeat (any_goals (first|assumption|(with_reducible refine mC hx ?_;rw[hc])|(with_reducible refine Ko hC hn TS SF.mro SF.slot.lookup hns ?_)|wp_step))
 refine mP SF.slot.plain SF.entry (Vt SF hC T hx hc (VH SF hC hn hna T hB hx hc hf hdn λh' tk' g1 g2 g3=>?_))
 repeat (any_goals (first|assumption|wp_step))
 exact hq h' tk' g1 g2 g3
end
end Z
namespace Z
open PySem PySem.Spec PySem.Calls PyProof.Rows PySem.W L2
section
variable {prog:gj} {w:World} {A:mz} {E:bp->Shared->Prop} {h:gQ} {g:Array pL} {d:Drawn} {t:Nat} {os:je8}
variable {nm q:Str} {C N e t0:Addr} {bs bm bmB:List bp} {hdct:Bool} {sn:List Str} {sub:List bp} {ab:Bool} {col:Option Bool} {dd:Option Addr} {k0 k1 k2 k3 k5:Option bp} {B newId nid initId:String}
theorem VX{rest:List bp}{Q:bp->Shared->Prop}(F:jcS B nid initId bmB)(T:jfG h bmB bm)(hC:h.get? C=some (mR nm q C N bs bm hdct sn sub ab col dd k0 k1 k2 k3 k5 newId))
 (he:h.get? e=some { cls:=.ref C,data:=.fields #[.ref t0,.none,.none,.none,.bool false,.none] }) (hrest:rest.length<=sizeLine)
 (hq:∀h',(∀b o,b≠e->h.get? b=some o->h'.get? b=some o)->h'.get? e=some { cls:=.ref C,data:=.fields #[.ref h.objs.size,.none,.none,.none,.bool false,.none] }->h'.get? h.objs.size=some { cls:=.type "tuple",data:=.seq rest.toArray }->Q .none ⟨h',g,d,t,os⟩) :
 wpAny (model prog w) A (call (.builtin initId) (.ref e::rest)) Q E ⟨h,g,d,t,os⟩:=by
 refine tj (mP F.init.plain F.initEntry (wpAny_check_init_subU F T hC he rfl ?_))
 wp_walk
 have ne:e≠h.objs.size:=gI (bP he);refine hq _ (λb o hb q=>?_) ?_ ?_
 ·rw[dQ _ _ (gV hb)];exact bB _ q
 ·rw[mh _ (bB _ he) rfl];rfl
 ·rw[dQ _ _ ne];exact jde rfl rfl
end
end Z
namespace Z
open PySem PySem.Spec PyProof.Rows PySem.W L2
structure Cover (B:gQ) (outer:List Env) (H1:Hp) (h0 h:gQ):Prop where
 trk:∀b u o,H1 b=some u->h.get? b=some o->B.get? b=some o
 old:∀b o o',h0.get? b=some o->b ∉ frs outer->h.get? b=some o'->B.get? b=some o'
def zR(P:gj)(w:World)(cls:Addr)(outer:List Env)(H:Hp)(s:Shared)(H1:Hp)(dct:Option Addr)(e:bp)(s':Shared):Prop :=
 ∃ea a0 B,e=.ref ea/\s'.os=s.os/\jcL s'.gens/\Un (frs outer) [] H H1 s.heap s'.heap/\HOk P w H1 s'.heap/\je H H1/\su B outer ea (.ref cls) a0 s'.heap/\H1 ea=none/\Cover B outer H1 s.heap s'.heap/\(dct=none\/yw s'.heap ea dct)
variable{a:Addr}{o:nW}
section
variable {P:gj} {w:World} {H H1:Hp} {h0 h h' B B':gQ} {outer l:List Env}
theorem KN{o:HO}(x:qP P w H h a o):∃u,h.get? a=some u:=by
 cases o with
 |lst xs=>obtain⟨_,_,_,_,e⟩:=x;exact⟨_,e⟩
 |tup xs=>obtain⟨_,_,_,o,e,_⟩:=x;exact⟨o,e⟩
 |dK kvs=>obtain⟨_,_,_,_,o,_,_,e,_⟩:=x;exact⟨o,e⟩
 |dT kvs=>obtain⟨_,_,_,_,o,_,_,e,_⟩:=x;exact⟨o,e⟩
 |set S n=>obtain⟨o,_,_,_,e,_⟩:=x;exact⟨o,e⟩
 |ins C dx fs=>obtain⟨_,_,_,e,_⟩:=x;exact⟨_,e⟩
 |own y=>exact x
 |xd fs=>obtain⟨_,⟨o,_,_,e,_⟩,_⟩:=x;exact⟨o,e⟩
 |rng lo hi=>obtain⟨_,_,_,e⟩:=x;exact⟨_,e⟩
 |frz ob u=>obtain⟨e,_⟩:=x;exact⟨_,e⟩
 |tbl ps=>exact⟨_,(show h.get? a=some _ from x)⟩
 |met f y=>exact⟨_,(show h.get? a=some _ from x)⟩
 |ext φ=>obtain⟨_,z,_⟩:=x;exact z
theorem yZ(u:Un (frs outer) [] H H1 h0 h)(k:HOk P w H1 h)(c:Cover B outer H1 h0 h)(ff:h.FunFrames B' l)(sub:∀b∈frs outer,b∈frs l)(st:B.StaysIn h')(sl:h.UpToSlots h') :
 Un (frs outer) [] H H1 h0 h'/\HOk P w H1 h'/\Cover B outer H1 h0 h':=by
 have up:∀b o,b∈frs outer->h.get? b=some o->∃s,h'.get? b=some { o with slots:=s }:=λb o hb e=>by
  obtain⟨_,o',e',nf⟩:=ff.mem (sub b hb);rw[e]at e';cases e';exact sl b o e nf
 refine⟨⟨λb o e n hb hx=>?_,λb o e n hb hx=>?_,u.free,λb o e hx=>?_,u.tups,u.frzs,u.tbls⟩,λa o e=>?_,⟨λb v o e q=>?_,λb o o' e hb q=>?_⟩⟩
 ·exact st _ _ (c.old b o o e hb (u.keep b o e n hb hx))
 ·obtain⟨s1,e1⟩:=u.slot b o e n hb hx;obtain⟨s2,e2⟩:=up b _ hb e1;exact⟨s2,e2⟩
 ·obtain⟨o',e'⟩:=u.there b o e hx;by_cases hb:b∈frs outer
  ·obtain⟨s2,e2⟩:=up b _ hb e';exact⟨_,e2⟩
  ·exact⟨o',st _ _ (c.old b o o' e hb e')⟩
 ·refine(k a o e).stay (λb v hb q=>?_) (λ_ z=>z) λ_ _ z=>z
  rcases hb with rfl|hb
  ·exact st _ _ (c.trk _ _ _ e q)
  ·exact st _ _ (c.trk _ _ _ hb q)
 ·obtain⟨o',e'⟩:=KN (k b v e);have z:=c.trk b v o' e e';have:=st _ _ z;rw[q]at this;cases this;exact z
 ·obtain⟨o2,e2⟩:=u.there b o e (by simp);have z:=c.old b o o2 e hb e2;have:=st _ _ z;rw[q]at this;cases this;exact z
end
structure Own (X:Cx):Prop where
 stk:X.stack=X.env::X.outer
 frm:X.env.frame=some X.env.locals
 ex:X.ex=[]
variable{e:Addr}{dct:Option Addr}
section
variable {X:Cx} {pins:List (Addr×nW)} {σ:L2.St} {H:Hp} {s s':Shared} {M:Model} {E:bp->Shared->Prop} {Q:Unit->Shared->Prop} {C:Addr}
theorem UO(w:Own X):frs X.stack=X.env.locals::frs X.outer:=by
 rw[w.stk];unfold frs;rw[sC,w.frm]
theorem K2(I:Inv X pins σ H s)(w:Own X){b:Addr}(e:X.s₀.heap.get? b=some o)(hb:b ∉ frs X.outer):b ∉ frs X.stack:=by
 rw[UO w];intro z;rcases bz.mp z with rfl|z
 ·exact absurd (bP e) (jdK.mpr I.ok.above)
 ·exact hb z
theorem QC(w:Own X):∀b∈frs X.outer,b∈frs X.stack:=λb hb=>by
 rw[UO w];exact bo _ hb
theorem Xa(I:Inv X pins σ H s)(w:Own X)(sm:je X.H₀ H){h1:gQ}{args:List bp}(hx:p8 s.heap h1 e (.ref C) args)
 (hq:∀s',zR X.prog X.w C X.outer X.H₀ X.s₀ H none (.ref e) s'->Q () s'):wpAny M X.A (jdC X.env (.ref e)) Q E { s with heap:=h1 }:=by
 have e0:=I.env0
 have hin:∀env∈X.stack,∀a,env.frame=some a->a∈frs X.stack:=λenv he a ha=>tf.mpr ⟨env,he,ha⟩
 have ff:=funFrames_hide e0.funs hin
 have bs:(je9 s.heap (frs X.stack)).StaysIn s.heap:=λb o q=>of_hideAll _ q
 have hfr:X.A.frames=some (X.env::X.outer):=by rw[<- w.stk];exact e0.frames
 have ff':s.heap.FunFrames (je9 s.heap (frs X.stack)) (X.env::X.outer):=by rw[<- w.stk];exact ff
 refine wpAny_leaves_madeW (s:={ s with heap:=h1 }) hfr w.frm bs ff' hx λh' t fl tup _ us=>?_
 have cov:Cover (je9 s.heap (frs X.stack)) X.outer H X.s₀.heap s.heap:=by
  refine⟨λb u o e q=>jed _ q λz=>?_,λb o o' e hb q=>jed _ q (K2 I w e hb)⟩;have:=e0.frf b z;rw[e]at this;cases this
 have ub:Un (frs X.outer) [] X.H₀ H X.s₀.heap s.heap:=by have:=I.base;rw[w.ex]at this;exact this
 obtain⟨u2,k2,c2⟩:=yZ ub I.hok cov ff (QC w) fl.1 ((Heap.UpToSlots.of_keeps hx.keeps).trans us);refine hq _ ⟨e,_,_,rfl,I.os,I.bare,u2,k2,sm,fl,?_,c2,.inl rfl⟩
 cases q:H e with
 |none=>rfl
 |some u =>
  obtain⟨o,z⟩:=KN (I.hok e u q);rw[hx.new]at z;cases z
theorem VR{H1:Hp}(I:Inv X pins σ H s)(w:Own X)(sm:je X.H₀ H1){e:bp}(T:zR X.prog X.w C X.stack H s H1 dct e s')
 (hq:∀s',zR X.prog X.w C X.outer X.H₀ X.s₀ H1 dct e s'->Q () s'):wpAny M X.A (jdC X.env e) Q E s':=by
 obtain⟨ea,a0,B,rfl,ho,hg,u,k,s1,fl,he,c,hdc⟩:=T
 have hfr:X.A.frames=some (X.env::X.outer):=by rw[<- w.stk];exact I.env0.frames
 have fl':su B (X.env::X.outer) ea (.ref C) a0 s'.heap:=by rw[<- w.stk];exact fl
 obtain⟨oe,_,e1,_⟩:=id fl.first
 refine leaveD2 hfr w.frm fl' ⟨oe,e1,rfl⟩ λh' f2 d2 us=>?_
 have J:=I.call' ho u k hg (ch:=[]) (λb z=>nomatch z)
 have ub:Un (frs X.outer) [] X.H₀ H1 X.s₀.heap s'.heap:=by have:=J.base;rw[w.ex]at this;exact this
 have cov:Cover B X.outer H1 X.s₀.heap s'.heap:=⟨c.trk,λb o o' e hb q=>by
  obtain⟨o2,e2⟩:=I.base.there b o e (by rw[w.ex];simp)
  exact c.old b o2 o' e2 (K2 I w e hb) q⟩
 obtain⟨u2,k2,c2⟩:=yZ ub k cov fl.2.2.1 (QC w) f2.1 us;refine hq _ ⟨ea,a0,B,rfl,J.os,hg,u2,k2,sm,f2,he,c2,hdc.imp id λ⟨o,q1,q2⟩=>?_⟩;rw[e1]at q1;cases q1;rw[<- q2];exact d2
def del(H:Hp)(a:Addr):Hp:=λb=>if b=a then none else H b
theorem QN{H:Hp}:del H a a=none:=by unfold del;rw[if_pos rfl]
theorem kZ{H:Hp}{b:Addr}(h:b≠a):del H a b=H b:=by unfold del;rw[if_neg h]
theorem inv_del{φ:gQ->Prop}(I:Inv X pins σ H s)(he:H e=some (.ext φ))(h0:X.H₀ e=none):Inv X pins σ (del H e) s:=by
 have nt:∀ {b:Addr} {u:HO},H b=some u->(∀ψ,u ≠ .ext ψ)->b≠e:=λ{b u} q n z=>by rw[z,he]at q;cases q;exact n _ rfl
 refine⟨I.ok,I.os,I.bare,⟨I.base.keep,I.base.slot,λb o q n hx=>?_,I.base.there,λb xs q=>?_,λb o u q=>?_,λb ps q=>?_⟩,I.loc,I.cell,?_,λx c q=>?_,λp hp=>?_,λb u q=>?_,I.len⟩
 ·have:=I.base.free b o q n hx;rw[kZ λz=>by rw[z,he]at this;cases this];exact this
 ·have:=I.base.tups b xs q;rw[kZ (nt this λ_ z=>nomatch z)];exact this
 ·have:=I.base.frzs b o u q;rw[kZ (nt this λ_ z=>nomatch z)];exact this
 ·obtain⟨m,this⟩:=I.base.tbls b ps q;exact⟨m,by rw[kZ (nt this λ_ z=>nomatch z)];exact this⟩
 ·have:=I.free;rw[kZ λz=>by rw[z,he]at this;cases this];exact this
 ·have:=I.freeC x c q;rw[kZ λz=>by rw[z,he]at this;cases this];exact this
 ·obtain⟨g1,g2,g3⟩:=I.pin p hp;exact⟨g1,by rw[kZ λz=>by rw[z,he]at g2;cases g2];exact g2,g3⟩
 ·have hb:b≠e:=λz=>by rw[z,QN]at q;cases q
  rw[kZ hb]at q
  exact(I.hok b u q).stay (λ_ _ _ z=>z) (λc z=>by rw[kZ (nt z λ_ z=>nomatch z)];exact z) λc xs z=>by rw[kZ (nt z λ_ z=>nomatch z)];exact z
theorem Yd{vs:Array bp}{a0:bp}(I:Inv X pins σ H s)(w:Own X)(sm:je X.H₀ H)(ho:s.heap.get? e=some o)(hc:o.cls=.ref C)(hdc:o.dict=dct)(hd:o.data=.fields vs)(h1:vs[1]?=some .none)(ha:vs[0]?=some a0)(he:H e=none)(h0:X.s₀.heap.get? e=none)
 (hq:∀s',zR X.prog X.w C X.outer X.H₀ X.s₀ H dct (.ref e) s'->Q () s'):wpAny M X.A (jdC X.env (.ref e)) Q E s:=by
 have e0:=I.env0
 have hin:∀env∈X.stack,∀a,env.frame=some a->a∈e::frs X.stack:=λenv he a ha=>bo _ (tf.mpr ⟨env,he,ha⟩)
 have ff:=funFrames_hide e0.funs hin
 have bs:(je9 s.heap (e::frs X.stack)).StaysIn s.heap:=λb o q=>of_hideAll _ q
 have hfr:X.A.frames=some (X.env::X.outer):=by rw[<- w.stk];exact e0.frames
 have ff':s.heap.FunFrames (je9 s.heap (e::frs X.stack)) (X.env::X.outer):=by rw[<- w.stk];exact ff
 refine leaveD1 hfr ff' w.frm ho bs (hideAll_none _ (bC ..)) hd h1 ha λh' lf d2=>?_
 obtain⟨y1,y3,y4,us⟩:=lf
 have cov:Cover (je9 s.heap (e::frs X.stack)) X.outer H X.s₀.heap s.heap:=by
  refine⟨λb u o q1 q=>jed _ q λz=>?_,λb o o' q1 hb q=>jed _ q λz=>?_⟩
  ·rcases bz.mp z with rfl|z
   ·rw[he]at q1;cases q1
   ·have:=e0.frf b z;rw[q1]at this;cases this
  ·rcases bz.mp z with rfl|z
   ·rw[h0]at q1;cases q1
   ·exact K2 I w q1 hb z
 have ub:Un (frs X.outer) [] X.H₀ H X.s₀.heap s.heap:=by have:=I.base;rw[w.ex]at this;exact this
 obtain⟨u2,k2,c2⟩:=yZ ub I.hok cov ff (QC w) y1 us;obtain⟨_,_,y5⟩:=y3;rw[hc]at y4;rw[hdc]at d2;exact hq _ ⟨e,a0,_,rfl,I.os,I.bare,u2,k2,sm,⟨y1,hideAll_none _ (bC ..),y5,y4⟩,he,c2,.inr d2⟩
end
end Z
namespace Z
open PySem PySem.Spec PySem.Calls PyProof.Rows PySem.W L2 PySem.Builtin.Getset_descriptor
variable{M:Model}{h:gQ}
section
variable {prog:gj} {w:World} {A:mz} {E:bp->Shared->Prop} {s:Shared} {K:Frag} {x D:Addr} {ox:nW}
structure ExcIn (K:Frag) (D:Addr):Prop where
 ga:findIn K (.ref D) "__getattribute__"=some (some (.builtin "BaseException.__getattribute__"))
 gt:findIn K (.ref D) "__getattr__"=some none
 ca:findIn K (.ref D) "__class__"=some (some (.builtin "object.__class__"))
 cg:specialIn K (.builtin "object.__class__") "__get__"=some (some (.builtin "getset_descriptor.__get__"))
 ct:takesIn K (.builtin "object.__class__")=some true
 mo:mroIn K D (.type "object")=some true
 mb:mroIn K D (.type "BaseException")=some true
def ExAt(h:gQ)(x D:Addr):Prop:=∃o,h.get? x=jee o/\o.cls=.ref D
theorem ExAt.type(I:ExAt h x D):jfa M h (typeOf (.ref x)) (.ref D):=by
 obtain⟨o,e,c⟩:=I;exact c ▸ (Looks.ld e).andThen .now
theorem ExcIn.looks(X:K.In h)(e:ExcIn K D):jfa M h (jdw (.ref x) (.ref D) "__class__") (.bind (.builtin "getset_descriptor.__get__") (.builtin "object.__class__")):=by
 have l1:=sv (M:=M) X e.ca;have l2:=looks_specialIn (M:=M) X e.cg;have l3:=looks_takesIn (M:=M) X e.ct;unfold jdw;refine l1.andThen ?_;refine Looks.andThen (show jfa M h (jfT _) _ from l2) ?_;refine Looks.andThen (show jfa M h (jeM (jee _) (jee _)) (jee (_,_)) from l3.andThen .now) ?_;exact jfa.tag .now
theorem ExcIn.some(e:ExcIn K D):(clsIn K D).isSome=true:=by
 have:=e.mo;unfold mroIn at this
 cases q:clsIn K D with
 |none=>rw[q]at this;cases this
 |some c=>rfl
theorem Ql{R:Result->Shared->Prop}{hh:gQ}{g:Array pL}{d:Drawn}{t:Nat}{os:je8}{tp:bp}(L0:jfa (model prog w) hh (typeOf (.ref x)) (.ref D))(L1:jfa (model prog w) hh (isSubtype (.ref D) (.type "object")) true)
 (h:R (.ok (.ret (.ref D))) ⟨hh,g,d,t,os⟩):jcM (model prog w) A (.call (.builtin "getset_descriptor.__get__") ⟨[.builtin "object.__class__",.ref x,tp],[]⟩) R ⟨hh,g,d,t,os⟩:=by
 refine mP
  KF.slot_gs.plain KF.entry_gs
  (KF.slot_gs.check _ _ _ _ _ _ _ _
   KF.type_class (KF.args_gs _ _ _) ?_)
 unfold tU.«getset_descriptor.__get__» jeN;rw[dga_obj];refine(bg (bJ ?_));unfold descrGetter descrCheckInstance;unfold descrNameAndClass jc0;simp only[PySem.W.KF.owner_class]
 repeat lk
 refine⟨(jc1 _ (by decide +kernel)),(wV KF.entry_class ?_)⟩;unfold tU.«object.__class__»;unfold shownTypeOf
 repeat lk
 exact h
theorem U6{Q:Option bp->Shared->Prop}(X:K.In s.heap)(I:ExAt s.heap x D)(e:ExcIn K D)(h:Q (some (.ref D)) { s with toks:=s.toks+1 }):wpAny (model prog w) A (getAttr? (.ref x) "__class__") Q E s:=by
 obtain⟨hh,g,d,t,os⟩:=s;have L0:=I.type (M:=model prog w);have L1:=sv (M:=model prog w) X e.ga;have L2:=sv (M:=model prog w) X e.gt;have L3:=e.looks (x:=x) (M:=model prog w) X;have L5:=looks_mroIn (M:=model prog w) X e.mo;have L4:=looks_mroIn (M:=model prog w) X e.mb;have f3:=jdx.ga.bind (.ref x);unfold getAttr? getAttrBy? getAttrBy;refine bg (wpAny_mkText (bg (pT (dW (bg (L0.at (bg (L1.at ?_))))))));show wpAny _ _ (wX _ _ _ _ _ _) _ _ _;unfold wX hookBefore;refine bg (L2.at ?_);refine bg (pT (dW ?_));show wpAny _ _ (jef _ _ _) _ _ _;unfold jef;refine bg (mQ f3 ?_);refine tj (mP jdx.ga.plain PySem.F.entry_bexc_ga ?_)
 have hk:builtinKind "BaseException.__getattribute__"=some .slot:=by decide +kernel
 have hsp:splitId "BaseException.__getattribute__"=some ("BaseException","__getattribute__"):=by decide +kernel
 have har:=PySem.F.args_bexc_ga (.ref x) (.str "__class__" t);simp only[sr,hk,hsp];refine bg ?_;unfold jc0;refine bg (L0.at ?_);refine L4.at ?_;rw[if_neg (by decide)];refine mQ (show _=pure () from har) ?_;unfold tU.«object.__getattribute__»;refine bg (mQ (show slotArgs "__getattribute__" 1 _=pure (mf x,[jfj "__class__" t]) from rfl) ?_);refine bg (mQ (show jfH (jfj "__class__" t)=pure "__class__" from rfl) ?_);refine bg (L0.at (bg (L3.at ?_)));show wpAny _ _ (do let v <- sR [Value.builtin "object.__class__"] (call (.builtin "getset_descriptor.__get__") [.builtin "object.__class__",.ref x,.ref D]);ret v) _ _ _;refine bg (dW (tj (Ql (tp:=.ref D) L0 L5 ?_)));refine bJ ?_;show wpAny _ _ (handedOut (.ref D)) _ _ _;refine mQ (show handedOut (.ref D)=pure (.ref D) from rfl) ?_;exact bJ h
theorem jci(e:ExcIn K D):KitX K (.ref x) (.ref D) (λh=>ExAt h x D) where
 ty:=λ_ _ _ I=>I.type
 it:=λ_ _ X _=>by
  have hc:=e.some;unfold clsIn at hc;split at hc
  ·next ho =>
   intro A' Q' E' s' k q;unfold isType loadHead;exact bg (wpAny_loadPart (k _ _ (X _ _ ho)) (bJ q))
  ·cases hc
 ne:=λh tp dd its n sl X htp=>by
  have hc:=e.some
  refine Bool.eq_false_iff.mpr λq=>?_
  have e':D=tp:=Value.ref.inj (beq_iff_eq.mp q);subst e';unfold clsIn at hc;split at hc
  ·next ho =>
   have z:=(X _ _ ho).symm.trans htp;cases z
  ·cases hc
 ca:=λX I k=>U6 X I e k
end
end Z
namespace Z
open PySem PySem.Spec PySem.Calls PyProof.Rows PySem.W L2
abbrev bmV:List bp:=[.type "ValueError",.type "Exception",.type "BaseException",.type "object"]
abbrev Vm:String:="ValueError.__new__"
abbrev mkX(X:Cx)(e:Addr):Cx:={ X with A:=X.A.mark (some (.ref e)),calm:=false,xe:=λ_ _=>False }
section
variable {X:Cx} {pins:List (Addr×nW)} {σ:L2.St} {H:Hp} {s s':Shared} {C:Addr}
theorem UI(I:Inv X pins σ H s)(e:Addr):Inv (mkX X e) pins σ H s :=
 ⟨⟨I.ok.mod,I.ok.kind,I.ok.glob,I.ok.blt,I.ok.above,I.ok.inj,I.ok.has,I.ok.cab,λz=>(nomatch z),I.ok.frames,I.ok.stk,I.ok.exf,I.ok.bs,I.ok.bsz,I.ok.noex,I.ok.exfs,I.ok.funs,I.ok.frf⟩,I.os,I.bare,I.base,I.loc,I.cell,I.free,I.freeC,I.pin,I.hok,I.len⟩
theorem inv_unX{e:Addr}{σ':L2.St}{H':Hp}(I:Inv X pins σ H s)(J:Inv (Z.mkX X e) pins σ' H' s'):Inv X pins σ' H' s':=⟨I.ok,J.os,J.bare,J.base,J.loc,J.cell,J.free,J.freeC,J.pin,J.hok,J.len⟩
theorem KE{a:Addr}{v:HO}(I:Inv X pins σ H s)(h0:X.s₀.heap.get? a=none)(hH:H a=none)(ho:∀H',qP X.prog X.w H' s.heap a v)(hL:a≠X.env.locals)(hc:∀x c,X.env.cells.lookup x=some c->c≠a)(hp:∀p∈X.pn++pins,p.1≠a) :
 Inv X pins σ (upd H a v) s:=by
 have ne:∀ {b:Addr} {u:HO},H b=some u->b≠a:=λ{b u} e z=>by rw[z,hH]at e;cases e
 refine⟨I.ok,I.os,I.bare,⟨I.base.keep,I.base.slot,λb o' e n hx=>?_,I.base.there,λb xs e=>?_,λb o' u e=>?_,λb ps e=>?_⟩,I.loc,I.cell,?_,λx c e=>?_,λp hp'=>?_,λb u e=>?_,I.len⟩
 ·rw[jg λz=>by rw[z,h0]at e;cases e];exact I.base.free b o' e n hx
 ·have:=I.base.tups b xs e;rw[jg (ne this)];exact this
 ·have:=I.base.frzs b o' u e;rw[jg (ne this)];exact this
 ·obtain⟨m,this⟩:=I.base.tbls b ps e;exact⟨m,by rw[jg (ne this)];exact this⟩
 ·rw[jg hL.symm];exact I.free
 ·rw[jg (hc x c e)];exact I.freeC x c e
 ·obtain⟨g1,g2,g3⟩:=I.pin p hp';exact⟨g1,by rw[jg (hp p hp')];exact g2,g3⟩
 ·by_cases hb:b=a
  ·subst hb;rw[ju]at e;cases e;exact ho _
  ·rw[jg hb]at e
   exact(I.hok b u e).stay (λ_ _ _ z=>z) (λc z=>by rw[jg (ne z)];exact z) λc xs z=>by rw[jg (ne z)];exact z
variable {M:Model} {E:bp->Shared->Prop} {Q:Flow->Shared->Prop} {x n:Str} {np pos:Pos} {b₀:Stmt} {suite:List Stmt} {rest:List ExceptHandler} {i:Nat}
def ExcCl(K:Frag)(C:Addr):Prop:=∀h:gQ,K.In h->∃bm N nm qn bs hd sn sub ab col dd k0 k1 k2 k3 k5,h.get? C=some (mR nm qn C N bs bm hd sn sub ab col dd k0 k1 k2 k3 k5 Vm)/\jfG h bmV bm
theorem caughtR{dct:Option Addr}{H1:Hp}(I:Inv X pins σ H s)(w:Own X)(hm:X.mg x=some (.ref C))(hq:ExcCl X.K C)(gl:Gl X x)(hdb:(x == ("__debug__":Str))=false){e:bp}(T:zR X.prog X.w C X.stack H s H1 dct e s')
 (k:∀ea s7,je H H1->Inv (Z.mkX X ea) pins σ H1 s7->wpAny (model X.prog X.w) (X.A.mark (some (.ref ea))) (execs (b₀::suite) X.env) (λf s₅=>Q f s₅) (λ_ _=>False) s7) :
 wpAny (model X.prog X.w) X.A (jdu e X.env) (λ_ s₂=>wpAny (model X.prog X.w) X.A (jfo e none) (λ_ s₃=>wpAny (model X.prog X.w) X.A (handleBy e X.env (.ExceptHandler (some (.Name x np)) none (b₀::suite) pos::rest)) Q E s₃) E s₂) E s':=by
 obtain⟨ea,a0,B,rfl,ho,hg,u,kk,s1,fl,he,c,hdc⟩:=T
 have hfr:X.A.frames=some (X.env::X.outer):=by rw[<- w.stk];exact I.env0.frames
 have fl':su B (X.env::X.outer) ea (.ref C) a0 s'.heap:=by rw[<- w.stk];exact fl
 refine wpAny_looks_onW hfr w.frm fl' λh4 held us4=>?_
 refine wpAny_landsW held λh5 fl5 us5=>?_
 obtain⟨u5,k5,c5⟩:=yZ u kk c fl.2.2.1 (λb hb=>hb) fl5.1 (us4.trans us5);have J5:Inv X pins σ H1 { s' with heap:=h5 }:=I.call' (s':={ s' with heap:=h5 }) ho u5 k5 hg (ch:=[]) (λb z=>nomatch z);obtain⟨bm,N,nm,qn,bs,hd,sn,sub,ab,col,dd,k0,k1,k2,k3,k5',hC,TL⟩:=hq _ J5.kIn
 obtain⟨oe5,vs5,e5,c5',_,_⟩:=id fl5.first
 refine wpAny_handleBy_cons (codeAny_handlers_test (uF (X:=Z.mkX X ea) (UI J5 ea) gl hm ?_ hdb)) (by intro q;cases q);refine wpAny_excMatches_sub_self hC e5 c5' (TL.hasType (by decide +kernel)) (codeAny_handlers_suite ?_)
 refine lands_againW fl5 λh6 fl6 us6=>?_
 obtain⟨u6,k6,c6⟩:=yZ u5 k5 c5 fl5.2.2.1 (λb hb=>by rw[w.stk]at hb;exact hb) fl6.1 us6;have J6:Inv X pins σ H1 { s' with heap:=h6 }:=I.call' (s':={ s' with heap:=h6 }) ho u6 k6 hg (ch:=[]) (λb z=>nomatch z)
 exact gq (k ea _ s1 (UI J6 ea)) (λf s8 z=>z) λ_ _ z=>z.elim
end
def jF:List Str:=["NoRatio","NoNext","NoRoot","Unfit","Dependent","NoLine","BadText","TooGreat","BadRow","NoRow","NoColumn","TooMany"]
structure AloneF (K:Frag) (mg:Str->Option bp) (y:Str) (D:Addr):Prop where
 ex:ExcIn K D
 cls:∀c∈jF,∃Ca,mg c=some (.ref Ca)/\kitOne K (.ref D) (.ref Ca)=some (decide (c=y))
 te:∃Ca,mg "TrueError"=some (.ref Ca)/\kitOne K (.ref D) (.ref Ca)=some true
 ve:kitOne K (.ref D) (.type "ValueError")=some true
 vn:mg "ValueError"=none
 isi:mg "isinstance"=none
 mem:y∈jF
def spA(K:Frag)(mg:Str->Option bp):Sp:=λvs H Q _=>∃y D ea oe u,AloneF K mg y D/\vs=[.ref ea]/\H ea=some (.frz oe u)/\oe.cls=.ref D/\∀H',je H H'->Q (.bl true) H'
end Z
namespace Z
open PySem PySem.Spec PyProof.Rows L2
variable {X:Cx}
end Z
namespace PySem.W
open PySem PySem.Calls PySem.NumText PyProof.Rows KIN
end PySem.W
namespace Z
open PySem PySem.Spec PyProof.Rows L2
variable {X:Cx}
end Z
namespace Z
open PySem PySem.W PyProof.Rows
structure Ord (lt:Nat->Nat->Bool):Prop where
 asy:∀a b,lt a b=true->lt b a=false
 tr:∀a b c,lt b a=false->lt c b=false->lt c a=false
abbrev at'(p:Array Nat)(i:Nat):Nat:=p.getD i 0
def Pm(n:Nat)(p:Array Nat):Prop:=p.toList.Perm (bE n)
def Up(lt:Nat->Nat->Bool)(p:Array Nat)(lo hi:Nat):Prop:=∀i j,lo<=i->i<=j->j<hi->lt (at' p j) (at' p i)=false
def Dn(lt:Nat->Nat->Bool)(p:Array Nat)(lo hi:Nat):Prop:=∀i j,lo<=i->i<=j->j<hi->lt (at' p i) (at' p j)=false
variable{hi:Nat}
section
variable {lt:Nat->Nat->Bool} {n:Nat} {p:Array Nat}
theorem Ord.irr(o:Ord lt)(a:Nat):lt a a=false:=by
 cases h:lt a a
 ·rfl
 ·exact absurd (o.asy a a h) (by simp[h])
theorem Pm.size(h:Pm n p):p.size=n:=by have:=h.length_eq;simpa using this
theorem Up.more(o:Ord lt){lo:Nat}(h:Up lt p lo hi)(hl:lo<hi)(h1:lt (at' p hi) (at' p (hi-1))=false):Up lt p lo (hi+1):=by
 intro i j a b c;by_cases e:j<hi
 ·exact h i j a b e
 ·have e1:j=hi:=by omega
  subst e1;by_cases e2:i=j
  ·rw[e2];exact o.irr _
  ·exact o.tr _ _ _ (h i (j-1) a (by omega) (by omega)) h1
theorem Dn.more(o:Ord lt){lo:Nat}(h:Dn lt p lo hi)(hl:lo<hi)(h1:lt (at' p (hi-1)) (at' p hi)=false):Dn lt p lo (hi+1):=by
 intro i j a b c;by_cases e:j<hi
 ·exact h i j a b e
 ·have e1:j=hi:=by omega
  subst e1;by_cases e2:i=j
  ·rw[e2];exact o.irr _
  ·exact o.tr _ _ _ h1 (h i (j-1) a (by omega) (by omega))
end
end Z
namespace Z
open PySem PySem.W PySem.Calls PyProof.Rows
end Z
namespace Z
open PySem PySem.Spec PyProof.Rows L2
abbrev eob(it:Addr)(i:Int)(f0:bp)(f1:Bool)(old:bp):nW:={ cls:=.type "enumerate",dict:=none,data:=.fields #[f0,.bool f1,.ref it,rawInt i,.none,old],slots:=#[] }
variable{i:Expr}{Q:Option bp->Shared->Prop}{k:Nat}{xs:Array bp}{x:Str}
section
variable {prog:gj} {w:World} {A:mz} {E:bp->Shared->Prop} {s:Shared} {e it l:Addr}
theorem efree{i:Int}{f0 old:bp}{f1:Bool}{Q:Bool->Shared->Prop}(hz:s.heap.get? e=some (eob it i f0 f1 old))(hf:ZF f0)(q:∀b h₁ g1,h₁.get? e=some (eob it i f0 g1 old)->nP e s.heap h₁->Q b { s with heap:=h₁ }) :
 wpAny (model prog w) A (dZ (.ref e)) Q E s:=by
 unfold dZ;rcases hf with rfl|⟨T,rfl⟩
 ·exact bg (gA hz rfl (x:=.none) rfl (bJ (q true s.heap f1 hz (mV ..))))
 ·refine bg (gA hz rfl (x:=rawInt T) rfl ?_);refine bg (m:=jea (T:Int).toNat) (Jw ?_)
  cases hT:s.heap.get? (T:Int).toNat with
  |none=>exact bJ (q true s.heap f1 hz (mV ..))
  |some o =>
   refine bg (m:=field (.ref e) 1) (gA hz rfl (x:=.bool f1) rfl ?_)
   cases f1 with
   |true=>exact bJ (q false s.heap true hz (mV ..))
   |false=>exact bg (m:=tV (.ref e) 1 (.bool true)) (gh hz (by simp) λh₁ k1 k2=>bJ (q false h₁ true k1 k2))
structure ESt (e it l:Addr) (k:Nat) (h:gQ):Prop where
 enm:∃f0 f1 old,ZF f0/\h.get? e=some (eob it k f0 f1 old)
 one:h.IsListIter it l k
theorem enext{x:bp}(hne:e≠it)(st:ESt e it l k s.heap)(hl:s.heap.IsList l xs)(hx:xs[k]?=some x)
 (q:∀T h₂,ESt e it l (k+1) h₂->s.heap.objs.size<=T->h₂.get? T=some (yi (.int k s.toks) x)->(∀b o,b ∉ [e,it]->s.heap.get? b=some o->h₂.get? b=some o)->Q (some (.ref T)) { s with heap:=h₂,toks:=s.toks+1 }) :
 wpAny (model prog w) A (pyNext (.ref e)) Q E s:=by
 obtain⟨⟨f0,f1,old,hf,he⟩,hit⟩:=st
 have ty:s.TypeIs (.ref e) "enumerate":=⟨_,he,rfl⟩
 unfold pyNext;refine bg (pT (pq (name:=jdM "__next__") ty nJ (pA nJ ty jdN ?_ (jdy _))));obtain⟨hp,g,d,tk,os⟩:=s;show wpAny _ _ (field (.ref e) 2 >>= _) _ _ _;refine bg (gA he rfl (x:=.ref it) rfl ?_);refine bg (gZ hit hl hx λh₁ hit₁ hs₁=>?_);replace hs₁:nP it hp h₁:=hs₁;have he₁:h₁.get? e=some (eob it k f0 f1 old):=(hs₁.2 e hne).trans he;show wpAny _ _ (field (.ref e) 3 >>= _) _ _ ⟨h₁,g,d,tk,os⟩;refine bg (gA he₁ rfl (x:=rawInt k) rfl ?_);show wpAny _ _ (field (.ref e) 4 >>= _) _ _ ⟨h₁,g,d,tk,os⟩;refine bg (gA he₁ rfl (x:=.none) rfl ?_);show wpAny _ _ (mkInt k >>= _) _ _ ⟨h₁,g,d,tk,os⟩;refine bg (wpAny_mkInt ?_);show wpAny _ _ (tV (.ref e) 3 (rawInt ((k:Int)+1)) >>= _) _ _ ⟨h₁,g,d,tk+1,os⟩;refine bg (gh he₁ (by simp) λh₂ he₂ hs₂=>?_);replace hs₂:nP e h₁ h₂:=hs₂;replace he₂:h₂.get? e=some (eob it ((k:Int)+1) f0 f1 old):=he₂;show wpAny _ _ (tV (.ref e) 4 .none >>= _) _ _ ⟨h₂,g,d,tk+1,os⟩;refine bg (gh he₂ (by simp) λh₃ he₃ hs₃=>?_);replace hs₃:nP e h₂ h₃:=hs₃;replace he₃:h₃.get? e=some (eob it ((k:Int)+1) f0 f1 old):=he₃;show wpAny _ _ (newTuple [.int k tk,x] >>= _) _ _ ⟨h₃,g,d,tk+1,os⟩;refine bg (jeb ?_);have he₄:(h₃.push (yi (.int k tk) x)).get? e=some (eob it ((k:Int)+1) f0 f1 old):=bB _ he₃;generalize hh₄:h₃.push (yi (.int k tk) x)=h₄ at he₄
 have hsz:h₃.objs.size=hp.objs.size:=by rw[hs₃.1,hs₂.1,hs₁.1]
 have hel:e<hp.objs.size:=bP he
 have ht₄:h₄.get? hp.objs.size=some (yi (.int k tk) x):=by rw[<- hh₄,<- hsz];exact dJ _ rfl
 have hk₄:∀b o,b ∉ [e,it]->hp.get? b=some o->h₄.get? b=some o:=λb o hb e=>by
  simp only[bz,bK,or_false,not_or]at hb;rw[<- hh₄];exact bB _ (hs₃.extBut b o hb.1 (hs₂.extBut b o hb.1 (hs₁.extBut b o hb.2 e)))
 have hit₄:h₄.IsListIter it l (k+1):=by
  rw[<- hh₄];obtain⟨o,ho,r⟩:=(hit₁.extBut hs₂.extBut (gV hne)).extBut hs₃.extBut (gV hne);exact⟨o,bB _ ho,r⟩
 have hc:((k+1:Nat):Int)=(k:Int)+1:=by simp
 show wpAny _ _ (dZ (.ref e) >>= _) _ _ ⟨h₄,g,d,tk+1,os⟩;rw[hsz];refine bg (efree he₄ hf λfr h₅ g1 he₅ hs₅=>?_);replace hs₅:nP e h₄ h₅:=hs₅;have ht₅:h₅.get? hp.objs.size=some (yi (.int k tk) x):=hs₅.extBut _ _ (pH hel) ht₄
 have hk₅:∀b o,b ∉ [e,it]->hp.get? b=some o->h₅.get? b=some o:=λb o hb z=>by
  have hb':=hb;simp only[bz,bK,or_false,not_or]at hb';exact hs₅.extBut b o hb'.1 (hk₄ b o hb z)
 have hit₅:=hit₄.extBut hs₅.extBut (gV hne)
 cases fr with
 |false =>
  simp only[dG,if_false]
  exact bJ ⟨_,rfl,bJ (q _ h₅ ⟨⟨f0,g1,old,hf,by rw[hc];exact he₅⟩,hit₅⟩ (df _) ht₅ hk₅)⟩
 |true =>
  simp only[if_true];refine bg (wpAny_rule ?_);refine bg (m:=field (.ref e) 5) (gA he₅ rfl (x:=old) rfl ?_);refine bg (m:=tV (.ref e) 5 x) (gh he₅ (by simp) λh₆ he₆ hs₆=>?_);refine bg (m:=g8 (.ref e) (.ref hp.objs.size)) ?_;unfold g8;refine bg (m:=tV (.ref e) 0 (rawInt hp.objs.size)) (gh he₆ (by simp) λh₇ he₇ hs₇=>gh he₇ (by simp) λh₈ he₈ hs₈=>?_)
  have up:∀b o,b≠e->h₅.get? b=some o->h₈.get? b=some o:=λb o hb z=>hs₈.extBut b o hb (hs₇.extBut b o hb (hs₆.extBut b o hb z))
  refine bg (p7 (bJ ⟨_,rfl,bJ (q hp.objs.size h₈ ⟨⟨rawInt hp.objs.size,false,x,.inr ⟨_,rfl⟩,by rw[hc];exact he₈⟩,hit₅.at λo z=>up _ o (gV hne) z⟩ (df _) (up _ _ (pH hel) ht₅) λb o hb z=>?_)⟩));have hb':=hb;simp only[bz,bK,or_false,not_or]at hb';exact up b o hb'.1 (hk₅ b o hb z)
theorem eend(hh:A.handled=none)(hne:e≠it)(st:ESt e it l k s.heap)(hl:s.heap.IsList l xs)(hx:xs[k]?=none)
 (q:∀h₂,(∀b o,b ∉ [e,it]->s.heap.get? b=some o->h₂.get? b=some o)->Q none { s with heap:=h₂ }):wpAny (model prog w) A (pyNext (.ref e)) Q E s:=by
 obtain⟨⟨f0,f1,old,hf,he⟩,hit⟩:=st
 have ty:s.TypeIs (.ref e) "enumerate":=⟨_,he,rfl⟩
 unfold pyNext;refine bg (pT (pq (name:=jdM "__next__") ty nJ (pA nJ ty jdN ?_ (jdy _))));show wpAny _ _ (field (.ref e) 2 >>= _) _ _ _;refine bg (gA he rfl (x:=.ref it) rfl ?_);refine bg (nH hh hit hl hx λh' x he' hx'=>?_);obtain⟨o,ho,hc⟩:=hx';refine bg (wpAny_isInstance (T:="StopIteration") (b:=true) ⟨o,ho,hc⟩ isSubtype_stop ?_);refine bJ (q _ λb o hb z=>he' b o ?_ z);simp only[bz,bK,or_false,not_or]at hb;exact hb.2
end
def Ite(K:bw)(l:Addr):It:=⟨λi H=>∃xs x,SqL K H l xs/\xs[i]?=some x,
 λi H v H'=>∃T x,v=.ref T/\H T=none/\(∀xs,SqL K H l xs->xs[i]?=some x)/\H'=upd H T (.tup [.int i,x]),λi H=>∃xs,SqL K H l xs/\xs.length<=i⟩
variable{P:gj}{w:World}{K:bw}{px:Pos}{e l:Expr}{it:Addr}
theorem U0{e l:Addr}(hne:e≠it):Turn P w K (.Name x px) (Ite K l) [e,it] e (λi h=>ESt e it l i h) where
 mem:=by simp
 obj:=λi h st b hb=>by
  obtain⟨⟨f0,f1,old,hf,hz⟩,⟨o1,e1,_,d1⟩⟩:=st;simp only[bz,bK,or_false]at hb;rcases hb with rfl|rfl
  ·exact⟨_,hz,λv q=>by cases q⟩
  ·exact⟨_,e1,λv q=>by rw[d1]at q;cases q⟩
 keep:=λi h h' st k=>by
  obtain⟨⟨f0,f1,old,hf,hz⟩,o1⟩:=st;exact⟨⟨f0,f1,old,hf,k e (by simp) _ hz⟩,o1.at λo z=>k it (by simp) o z⟩
 item:=by
  intro X hP hw hK hc i pins s σ H E I hf st hg;subst hP hw hK;obtain⟨xs,xv,q1,e1⟩:=hg;obtain⟨its1,r1,p1,_⟩:=I.list q1;obtain⟨u1,hu1,ru1⟩:=r1.get e1
  refine enext hne st p1.isList (x:=u1) (by simpa using hu1) λT h₂ st₂ hT ht k=>⟨.ref T,rfl,ZN ?_⟩
  have fT:H T=none:=I.hok.fresh hT;have I2:Inv X pins σ (upd H T (.tup [.int i,xv])) { s with heap:=h₂ }:=Inv.turnedL (ch:=[e,it]) (us:=[.int i s.toks,u1]) I hf k hT ht (.cons ⟨_,rfl⟩ (.cons ru1 .nil)) (by show 2<=sizeLine;decide);refine⟨.ref T,upd H T (.tup [.int i,xv]),I2.tok _,rfl,⟨T,xv,rfl,fT,λzs hz=>by rw[I.list_inj hz q1];exact e1,rfl⟩,st₂,λb hb=>?_⟩
  obtain⟨o,eo,_⟩:∃o,s.heap.get? b=some o/\True:=by
   obtain⟨⟨f0,f1,old,hf',hz⟩,⟨o1,w1,_,_⟩⟩:=st;simp only[bz,bK,or_false]at hb;rcases hb with rfl|rfl
   ·exact⟨_,hz,trivial⟩
   ·exact⟨_,w1,trivial⟩
  rw[jg λq=>absurd (bP eo) (by rw[q];exact jdK.mpr hT)];exact(hf b hb).1
 done:=by
  intro X hP hw hK hc i pins s σ H E I hf st hg;subst hP hw hK;obtain⟨xs,q1,hl⟩:=hg;obtain⟨its1,r1,p1,_⟩:=I.list q1;have n1:=r1.length
  refine eend (I.ok.hd hc) hne st p1.isList (by simp;lia) λh₂ k=>⟨rfl,?_⟩
  exact Inv.turnedN (ch:=[e,it]) I hf k
 self:=λA i s Q E st h=>by
  obtain⟨⟨f0,f1,old,hf,hz⟩,_⟩:=st
  have ty:s.TypeIs (.ref e) "enumerate":=⟨_,hz,rfl⟩
  refine wpAny_pyIter_slot ty jdZ (pA jdZ ty F.entry_enumerate_iter ?_ (F.args_enumerate_iter_1 _));exact bJ (M:=model P w) ⟨_,rfl,"enumerate",_,ty,nJ.lookup,h⟩
def iEnm(K:bw)(ta:TA):TI:=λσ H R=>ta σ H λvs H1=>∃l,vs=[.ref l]/\(∃xs,SqL K H1 l xs)/\R (Ite K l) H1
variable{X:Cx}{p pos:Pos}{a:Expr}{as:List Addr}{ta:TA}
theorem pi_enum{as:List Expr}(hg:Gl X "enumerate")(hm:X.mg "enumerate"=none)(ha:PA X (a::as) ta)(hs:bU (a::as) X.env=(false,eval a X.env)::bU as X.env)(hpl:(backTo pos (bU as X.env)).any (·.1)=false) :
 PI X (.Name x px) (.Call (.Name "enumerate" p) (a::as) [] pos) (iEnm X.K ta):=by
 intro pins s σ H R I h;refine Call_ (uV I hg hm boot_enumerate (m8 (thn (ha pos pins s σ H _ I h) λus s1 ⟨vs,H1,I1,r1,q1⟩=>?_) hs hpl));obtain⟨l,rfl,⟨xs,hx⟩,q⟩:=q1;obtain⟨u1,rfl,e1⟩:=ua r1;cases e1;obtain⟨its1,r1,p1,_⟩:=I1.list hx
 refine call_enumerate_list p1.isList λh₂ he hi _ hk=>?_
 refine wpAny_pyIter_enum (s:={ s1 with heap:=h₂ }) he ⟨_,_,_,_,H1,rfl,I1.kept (t':=s1.toks) hk,U0 (Nat.succ_ne_self _),⟨⟨.none,false,.none,.inl rfl,he⟩,hi⟩,λb hb=>?_,q⟩
 have hb':s1.heap.objs.size<=b:=by
  simp only[bz,bK,or_false]at hb
  rcases hb with rfl|rfl<;>lia
 exact I1.fpOk hb' (I1.hok.fresh hb')
structure Ck where
 N:List Str
 names:List (Str×nu)
 fns:List (Str×Nat)
 cns:List Str
 cls:List Str:=[]
 rz:Bool:=false
 rs:Bool:=false
 al:Bool:=true
def Ck.loc(k:Ck)(i:Nat)(x:Str):Bool :=
 decide (k.N[i]?=some x)&&(decide (k.names.lookup x=some .local) ||decide (k.names.lookup x=some .cell)) && !(x == ("__debug__":Str)) && !(x == ("__classdict__":Str))
def Ck.gl(k:Ck)(x:Str):Bool:=decide (k.names.lookup x=some .globalImplicit) && !(x == ("__debug__":Str))&&decide (x≠("__name__":Str))
def opOk:BOp->je0->Bool
 |.add,.Add=>true
 |.sub,.Sub=>true
 |.mul,.Mult=>true
 |.fdiv,.FloorDiv=>true
 |.mod,.Mod=>true
 |.shl,.LShift=>true
 |.shr,.RShift=>true
 |.band,.BitAnd=>true
 |.pow,.Pow=>true
 |_,_=>false
def Ux:Expr->Bool
 |.Constant .none _ _=>true
 |_=>false
def ZY:Expr->Bool
 |.Constant (.bool _) _ _=>true
 |_=>false
def cOk:COp->CmpOp->Expr->Bool
 |.eq,.Eq,_=>true
 |.ne,.NotEq,_=>true
 |.lt,.Lt,_=>true
 |.le,.LtE,_=>true
 |.gt,.Gt,_=>true
 |.ge,.GtE,_=>true
 |.isN,.Is,e=>Ux e
 |.notN,.IsNot,e=>Ux e
 |.isT,.Is,e=>ZY e
 |.notT,.IsNot,e=>ZY e
 |.inn,.In,_=>true
 |.nin,.NotIn,_=>true
 |_,_,_=>false
def uo:D->Const->Bool
 |.non,.none=>true
 |.bl b,.bool c=>b == c
 |.int i,.int j=>decide (i=j)
 |.str x,.str y=>decide (x=y)&&jdL x
 |_,_=>false
def Bi.nm:Bi->Str
 |.abs=>"abs"
 |.max=>"max"
 |.min=>"min"
 |.len=>"len"
 |.int=>"int"
 |.list=>"list"
 |.sum=>"sum"
 |.all=>"all"
def Ty.nm:Ty->Str
 |.int=>"int"
 |.bool=>"bool"
 |.tuple=>"tuple"
 |.list=>"list"
 |.str=>"str"
def Mt.nm:Mt->Str
 |.bitlen=>"bit_length"
def jam:Expr->Bool
 |.Call (.Name _ _) [] [] _=>false
 |_=>true
def zv:Expr->Bool
 |.Slice ..=>true
 |_=>false
def jv:Expr->Option Str
 |.Name x _=>some x
 |_=>none
def qx:Expr->Option Const
 |.Constant c _ _=>some c
 |_=>none
def jcf:Expr->Option (Expr×je0×Expr)
 |.BinOp l o r _=>some (l,o,r)
 |_=>none
def asUn:Expr->Option (UnaryOp×Expr)
 |.UnaryOp o e _=>some (o,e)
 |_=>none
def Uh:Expr->Option (Expr×List CmpOp×List Expr)
 |.Compare l o r _=>some (l,o,r)
 |_=>none
def Qu:Expr->Option (BoolOp×List Expr×Pos)
 |.BoolOp o vs p=>some (o,vs,p)
 |_=>none
def asIf:Expr->Option (Expr×Expr×Expr)
 |.IfExp t x y _=>some (t,x,y)
 |_=>none
def UK:Expr->Option (List Expr)
 |.Tuple xs _ _=>some xs
 |_=>none
def Xw:Expr->Option (List Expr)
 |.List xs _=>some xs
 |_=>none
def Jz:Expr->Option (Expr×Expr)
 |.Subscript v i _=>some (v,i)
 |_=>none
def xO:Expr->Option (Expr×List Expr×List jfE×Pos)
 |.Call f xs ks p=>some (f,xs,ks,p)
 |_=>none
def yE:Expr->Option (Expr×Str×Pos)
 |.Attribute v x p=>some (v,x,p)
 |_=>none
variable{α β:Type}
def Inv1(f:β->Option α)(R:α->β->Prop)(e:β):Prop:=∀x,f e=some x->R x e
theorem nI{f:β->Option α}{R:α->β->Prop}{e:β}(h:f e=none):Inv1 f R e:=λx k=>by rw[h]at k;exact nomatch k
theorem inv{f:β->Option α}(R:α->β->Prop){e:β}{x:α}(h:f e=some x)(k:Inv1 f R e):R x e:=k x h
local macro_rules | `(tactic|exists $r,$h:ident,$e:ident)=>`(tactic|(refine Z.inv $r $h ?_;clear $h;(first|induction $e:ident using jeO|induction $e:ident using jeP)<;>first|exact Z.nI rfl|(intro x h;cases h;first|rfl|exact⟨_,rfl⟩|exact⟨_,_,rfl⟩)))
theorem js(h:jv e=some x):∃p,e=.Name x p:=by exists (λx e=>∃p,e=.Name x p),h,e
theorem xR{x:Const}(h:qx e=some x):∃j p,e=.Constant x j p:=by exists (λx e=>∃j p,e=.Constant x j p),h,e
variable{r:List Expr}
theorem JE{r:Expr}{o:je0}(h:jcf e=some (l,o,r)):∃p,e=.BinOp l o r p:=by exists (λx e=>∃p,e=.BinOp x.1 x.2.1 x.2.2 p),h,e
theorem jcF{o:UnaryOp}(h:asUn e=some (o,l)):∃p,e=.UnaryOp o l p:=by exists (λx e=>∃p,e=.UnaryOp x.1 x.2 p),h,e
theorem K9{o:List CmpOp}(h:Uh e=some (l,o,r)):∃p,e=.Compare l o r p:=by exists (λx e=>∃p,e=.Compare x.1 x.2.1 x.2.2 p),h,e
variable{o:HO}
theorem vC{o:BoolOp}(h:Qu e=some (o,r,p)):e=.BoolOp o r p:=by exists (λx e=>e=.BoolOp x.1 x.2.1 x.2.2),h,e
variable{t:TS}{y:Str}
theorem jbQ{t x y:Expr}(h:asIf e=some (t,x,y)):∃p,e=.IfExp t x y p:=by exists (λx e=>∃p,e=.IfExp x.1 x.2.1 x.2.2 p),h,e
variable{xs:List Expr}
theorem Zc(h:UK e=some xs):∃j p,e=.Tuple xs j p:=by exists (λx e=>∃j p,e=.Tuple x j p),h,e
theorem zV(h:Xw e=some xs):∃p,e=.List xs p:=by exists (λx e=>∃p,e=.List x p),h,e
variable{v:Expr}
theorem zT(h:Jz e=some (v,i)):∃p,e=.Subscript v i p:=by exists (λx e=>∃p,e=.Subscript x.1 x.2 p),h,e
variable{f:Expr}
theorem xH{ks:List jfE}(h:xO e=some (f,xs,ks,p)):e=.Call f xs ks p:=by exists (λx e=>e=.Call x.1 x.2.1 x.2.2.1 x.2.2.2),h,e
theorem yk(h:yE e=some (v,x,p)):e=.Attribute v x p:=by exists (λx e=>e=.Attribute x.1 x.2.1 x.2.2),h,e
def ke(e:Expr):Option (Str×List Expr×Pos):=(xO e).bind λc=>if c.2.2.1.isEmpty then (jv c.1).map λx=>(x,c.2.1,c.2.2.2) else none
theorem jG(h:ke e=some (x,xs,p)):∃q,e=.Call (.Name x q) xs [] p:=by
 unfold ke at h
 cases c:xO e with
 |none=>rw[c]at h;cases h
 |some c' =>
  obtain⟨f,ys,ks,p'⟩:=c';rw[c]at h;have e1:=xH c
  cases ks with
  |nil =>
   cases n:jv f with
   |none=>simp[n]at h
   |some y =>
    simp[n]at h;obtain⟨q,e2⟩:=js n;obtain⟨rfl,rfl,rfl⟩:=h
    exact⟨q,by rw[e1,e2]⟩
  |cons _ _=>simp at h
def jaY:Expr->Bool
 |.Set ..=>true
 |_=>false
def U1:Expr->Option (Expr×List jeB×Scope)
 |.ListComp a b c _=>some (a,b,c)
 |_=>none
variable{c:Scope}
theorem jaT{b:List jeB}(h:U1 e=some (a,b,c)):∃p,e=.ListComp a b c p:=by exists (λx e=>∃p,e=.ListComp x.1 x.2.1 x.2.2 p),h,e
def vN(e:Expr):Option (Expr×Str×Expr×Scope):=(U1 e).bind λz=>match z.2.1 with
 |[g]=>if g.ifs.isEmpty&&decide (g.is_async=0) then (jv g.target).map λx=>(z.1,x,g.iter,z.2.2) else none
 |_=>none
theorem kU(h:vN e=some (a,x,i,c)):∃px p,e=.ListComp a [⟨.Name x px,i,[],0⟩] c p:=by
 unfold vN at h
 cases z:U1 e with
 |none=>rw[z]at h;cases h
 |some y =>
  obtain⟨a',b,c'⟩:=y;obtain⟨p,rfl⟩:=jaT z;rw[z]at h;simp only[jfq]at h;split at h
  ·next g =>
   obtain⟨tg,it,ifs,asy⟩:=g;simp only at h;split at h
   ·next hc =>
    simp only[bh,gG,decide_eq_true_eq]at hc;obtain⟨rfl,rfl⟩:=hc
    cases n:jv tg with
    |none=>rw[n]at h;cases h
    |some y =>
     rw[n]at h;obtain⟨px,rfl⟩:=js n;cases h;exact⟨px,p,rfl⟩
   ·cases h
  ·cases h
def Qj(e:Expr):Option (Expr×Str×Expr×Scope×Expr):=(U1 e).bind λz=>match z.2.1 with
 |[g]=>match g.ifs with
  |[c]=>if decide (g.is_async=0) then (jv g.target).map λx=>(z.1,x,g.iter,z.2.2,c) else none
  |_=>none
 |_=>none
theorem QU(h:Qj e=some (a,x,i,c,f)):∃px p,e=.ListComp a [⟨.Name x px,i,[f],0⟩] c p:=by
 unfold Qj at h
 cases z:U1 e with
 |none=>rw[z]at h;cases h
 |some y =>
  obtain⟨a',b,c'⟩:=y;obtain⟨p,rfl⟩:=jaT z;rw[z]at h;simp only[jfq]at h;split at h
  ·next g =>
   obtain⟨tg,it,ifs,asy⟩:=g;simp only at h;split at h
   ·next cc =>
    split at h
    ·next hc =>
     simp only[decide_eq_true_eq]at hc;subst hc
     cases n:jv tg with
     |none=>rw[n]at h;cases h
     |some y =>
      rw[n]at h;obtain⟨px,rfl⟩:=js n;cases h;exact⟨px,p,rfl⟩
    ·cases h
   ·cases h
  ·cases h
def XO(names out:List (Str×nu)):List (Str×nu):=names.map λ(n,k)=>if (k == .free&&out.lookup n == some .cell) then (n,.cell) else (n,k)
def Ck.block(k:Ck)(x:Str)(sc:Scope):Ck:={ k with N:=qg k.N x,names:=XO sc.names k.names }
def xC(k:Ck)(x:Str)(sc:Scope):Bool :=
 (sc.kind == .function)&&decide ((sc.names.filter λy=>y.2 == .cell)=if sc.names.lookup x=some .cell then [(x,.cell)] else [])&&(sc.names.all λy=>!(y.2 == .local) ||decide (sc.names.lookup y.1=some .local))&&(decide (sc.names.lookup x=some .local) ||decide (sc.names.lookup x=some .cell)) &&
  (sc.names.all λy=>!(y.2 == .local) ||decide (y.1=x) ||(!(k.N.contains y.1)&&decide (y.1≠(dum k.N))))&&(sc.names.all λy=>!(y.2 == .free) ||decide (k.names.lookup y.1=some .cell) ||decide (k.names.lookup y.1=some .free)) &&
  decide (x≠(dum k.N))&&decide (k.names.lookup (dum k.N)=none) && !(k.N.contains (dum k.N))
def plainE:Expr->Bool
 |.Starred .. |.Set .. |.SetComp .. |.DictComp .. |.Slice ..=>false
 |_=>true
def KO:Expr->Option (Option Expr×Option Expr)
 |.Slice lo hi none _=>some (lo,hi)
 |_=>none
theorem Xi{lo hi:Option Expr}(h:KO e=some (lo,hi)):∃p,e=.Slice lo hi none p:=by
 unfold KO at h;split at h
 ·cases h;exact⟨_,rfl⟩
 ·cases h
mutual
noncomputable def chkE:Ck->Ex->Expr->Bool
 |k,.var i,e=>(jv e).any λx=>k.loc i x
 |k,.cst d,e=>(qx e).any λc=>uo d c
 |k,.con i,e=>(jv e).any λx=>decide (k.cns[i]?=some x)&&k.gl x
 |k,.bin o a b,e=>(jcf e).any λz=>opOk o z.2.1&&chkE k a z.1&&chkE k b z.2.2
 |k,.neg a,e=>(asUn e).any λz=>decide (z.1=.USub)&&chkE k a z.2
 |k,.not a,e=>(asUn e).any λz=>decide (z.1=.Not)&&chkE k a z.2
 |k,.cmp o a b,e=>(Uh e).any λz=>decide (z.2.1.length=1)&&decide (z.2.2.length=1)&&cOk o (z.2.1.getD 0 .Eq) (z.2.2.getD 0 e)&&chkE k a z.1&&chkE k b (z.2.2.getD 0 e)
 |k,.and a b,e=>(Qu e).any λz=>decide (z.1=.And)&&decide (2<=z.2.1.length)&&chkE k a (z.2.1.getD 0 e)&&(if z.2.1.length=2 then chkE k b (z.2.1.getD 1 e) else chkE k b (.BoolOp .And (z.2.1.drop 1) z.2.2))
 |k,.or a b,e=>(Qu e).any λz=>decide (z.1=.Or)&&decide (2<=z.2.1.length)&&chkE k a (z.2.1.getD 0 e)&&(if z.2.1.length=2 then chkE k b (z.2.1.getD 1 e) else chkE k b (.BoolOp .Or (z.2.1.drop 1) z.2.2))
 |k,.ife c a b,e=>(asIf e).any λz=>chkE k c z.1&&chkE k a z.2.1&&chkE k b z.2.2
 |k,.tup es,e=>(UK e).any λxs=>decide (xs.length<=1000)&&kP k es xs
 |k,.lst es,e=>(Xw e).any λxs=>decide (xs.length<=1000)&&kP k es xs
 |k,.ix a b,e=>(Jz e).any λz=>!zv z.2&&chkE k a z.1&&chkE k b z.2
 |k,.call f es,e=>(ke e).any λz=>decide (k.fns[f]?=some (z.1,z.2.1.length))&&k.gl z.1 && !z.2.1.isEmpty&&kP k es z.2.1
 |k,.bi f es,e=>(ke e).any λz=>decide (z.1=f.nm)&&k.gl z.1 && !z.2.1.isEmpty&&kP k es z.2.1
 |k,.meth m o,e=>(xO e).any λz=>z.2.1.isEmpty&&z.2.2.1.isEmpty&&(yE z.1).any λy=>decide (y.2.1=m.nm)&&jam y.1&&(y.2.2.endLine == z.2.2.2.line)&&chkE k o y.1
 |k,.isi a t,e=>(ke e).any λz=>decide (z.1=("isinstance":Str))&&k.gl z.1&&decide (z.2.1.length=2)&&decide (jv (z.2.1.getD 1 e)=some t.nm)&&k.gl t.nm&&chkE k a (z.2.1.getD 0 e)
 |k,.compR es b,e=>(vN e).any λz=>xC k z.2.1 z.2.2.2&&((ke z.2.2.1).any λc=>decide (c.1=("range":Str))&&k.gl c.1 && !c.2.1.isEmpty&&kP k es c.2.1)&&chkE (k.block z.2.1 z.2.2.2) b z.1
 |k,.compE a b,e=>(vN e).any λz=>xC k z.2.1 z.2.2.2 && !jaY z.2.2.1&&chkE k a z.2.2.1&&chkE (k.block z.2.1 z.2.2.2) b z.1
 |k,.compZ a b c,e=>(vN e).any λz=>xC k z.2.1 z.2.2.2&&((ke z.2.2.1).any λy=>decide (y.1=("zip":Str))&&k.gl y.1&&decide (y.2.1.length=2)&&chkE k a (y.2.1.getD 0 e)&&chkE k b (y.2.1.getD 1 e))&&chkE (k.block z.2.1 z.2.2.2) c z.1
 |k,.slc a l h,e=>(Jz e).any λz=>(KO z.2).any λy=>chkE k a z.1&&(y.1.isNone == kL l)&&(y.2.isNone == kL h)&&(kL l ||chkE k l (y.1.getD e))&&(kL h ||chkE k h (y.2.getD e))
 |k,.oix i a,e=>(Jz e).any λz=>!zv z.2&&((jv z.1).any λx=>k.loc i x)&&chkE k a z.2
noncomputable def kP:Ck->List Ex->List Expr->Bool
 |_,[],es=>es.isEmpty
 |k,e::es,xs=>!xs.isEmpty&&chkE k e (xs.getD 0 (.Name "" ⟨0,0,0,0⟩))&&kP k es (xs.drop 1)
end
theorem xx{xs:List α}(h:xs.length=2):∃a b,xs=[a,b]:=by
 match xs,h with
 |[a,b],_=>exact⟨a,b,rfl⟩
theorem qA{xs:List α}(h:xs.length=1):∃a,xs=[a]:=by
 match xs,h with
 |[a],_=>exact⟨a,rfl⟩
theorem k8{xs:List α}(h:(!xs.isEmpty)=true):∃a b,xs=a::b:=by
 cases xs with
 |nil=>cases h
 |cons a b=>exact⟨a,b,rfl⟩
theorem jb{o:Option α}{f:α->Bool}(h:o.any f=true):∃a,o=some a/\f a=true:=by
 cases o with
 |none=>cases h
 |some a=>exact⟨a,rfl,h⟩
def jb3(f x:Str)(d e:Expr):Bool:=(ke e).any λc=>decide (c.1=f)&&decide (c.2.1.length=1)&&decide (jv (c.2.1.getD 0 d)=some x)
variable{f:D->D->(D->Prop)->Prop}{d:D}
theorem call1_{f:Str}{d:Expr}(h:jb3 f x d e=true):∃gp qp dp,e=.Call (.Name f gp) [.Name x qp] [] dp:=by
 unfold jb3 at h;replace h:=jb h;obtain⟨⟨f',ys,dp⟩,h1,h⟩:=h;obtain⟨gp,rfl⟩:=jG h1;simp only[bh,decide_eq_true_eq]at h;obtain⟨⟨rfl,h2⟩,h3⟩:=h;obtain⟨y,rfl⟩:=qA h2;obtain⟨qp,rfl⟩:=js (show jv y=_ from h3);exact⟨_,_,_,rfl⟩
variable{k:Ck}{es:List Expr}
theorem jR(h:kP k [] es=true):es=[]:=by
 rw[kP]at h;simpa using h
variable{xs:List D}
theorem jJ{x:Ex}{xs:List Ex}(h:kP k (x::xs) es=true):∃y ys,es=y::ys/\chkE k x y=true/\kP k xs ys=true:=by
 rw[kP]at h
 cases es with
 |nil=>simp at h
 |cons y ys =>
  simp only[bh,d6,gk]at h;exact⟨y,ys,rfl,h.1.2,h.2⟩
theorem uT{x:Ex}(h:chkE k x e=true):plainE e=true:=by
 cases x with
 |_ =>
  obtain⟨z,hz,_⟩:=jb h
  first
   |(obtain⟨_,rfl⟩:=js hz;rfl)
   |(obtain⟨_,_,rfl⟩:=xR hz;rfl)
   |(obtain⟨_,rfl⟩:=JE hz;rfl)
   |(obtain⟨_,rfl⟩:=jcF hz;rfl)
   |(obtain⟨_,rfl⟩:=K9 hz;rfl)
   |(have e:=vC hz;subst e;rfl)
   |(obtain⟨_,rfl⟩:=jbQ hz;rfl)
   |(obtain⟨_,_,rfl⟩:=Zc hz;rfl)
   |(obtain⟨_,rfl⟩:=zV hz;rfl)
   |(obtain⟨_,rfl⟩:=zT hz;rfl)
   |(obtain⟨_,rfl⟩:=jG hz;rfl)
   |(have e:=xH hz;subst e;rfl)
   |(obtain⟨_,rfl⟩:=asJoin_ hz;rfl)
   |(obtain⟨_,_,_,rfl⟩:=kU hz;rfl)
   |(obtain⟨_,_,rfl⟩:=QU hz;rfl)
   |(obtain⟨_,_,rfl⟩:=kU hz;rfl)
def Rws(K:bw)(O:List Addr)(H:Hp):List (List D)->List Addr->Prop
 |[],as=>as=[]
 |r::rs,as=>∃b bs vs,as=b::bs/\H b=some (.lst vs)/\Iss K (jd H O) r vs/\Rws K O H rs bs
theorem Rws.imp{K:bw}{O O':List Addr}{H H':Hp}(s:je (jd H O) (jd H' O')):∀ {rows:List (List D)} {as:List Addr},(∀b∈as,∀vs,H b=some (.lst vs)->H' b=some (.lst vs))->Rws K O H rows as->Rws K O' H' rows as
 |[],as,_,h=>h
 |r::rs,as,k,h=>by
  obtain⟨b,bs,vs,rfl,h1,h2,h3⟩:=h;exact⟨b,bs,vs,rfl,k b (bC ..) vs h1,Iss.mono s r h2,Rws.imp s (λc hc=>k c (bo _ hc)) h3⟩
theorem Rws.len{K:bw}{O:List Addr}{H:Hp}:∀ {rows:List (List D)} {as:List Addr},Rws K O H rows as->as.length=rows.length
 |[],as,h=>by cases h;rfl
 |r::rs,as,h=>by
  obtain⟨b,bs,vs,rfl,_,_,h3⟩:=h;simp[Rws.len h3]
theorem Rws.isL{K:bw}{O:List Addr}{H:Hp}:∀ {rows:List (List D)} {as:List Addr},Rws K O H rows as->∀b∈as,∃vs,H b=some (.lst vs)
 |[],as,h,b,hb=>by cases h;cases hb
 |r::rs,as,h,b,hb=>by
  obtain⟨c,bs,vs,rfl,h1,_,h3⟩:=h;rcases bz.mp hb with rfl|hb
  ·exact⟨vs,h1⟩
  ·exact Rws.isL h3 b hb
structure OwT (K:bw) (O:List Addr) (H:Hp) (rows:List (List D)) (a:Addr) (as:List Addr):Prop where
 top:H a=some (.lst (as.map .ref))
 nd:a ∉ as/\as.Nodup
 inO:a∈O/\∀b∈as,b∈O
 rw:Rws K O H rows as
variable{a:Addr}{O:List Addr}{H H':Hp}
theorem OwT.mono{rows:List (List D)}(e:je H H')(t:OwT K O H rows a as):OwT K O H' rows a as :=
 ⟨e _ _ t.top,t.nd,t.inO,t.rw.imp (jc e) λb _ vs h=>e _ _ h⟩
def OT(K:bw)(O:List Addr)(H:Hp)(σ:Sto)(τ:L2.St):Prop :=
 (∀i rows,getS σ i=some (.ot rows)->∃a as,τ[i]?=some (some (.ref a))/\OwT K O H rows a as/\∀j ds b,getS σ j=some (.ow ds)->τ[j]?=some (some (.ref b))->b≠a/\b ∉ as)/\∀i j rs qs,getS σ i=some (.ot rs)->getS σ j=some (.ot qs)->i=j
variable{O':List Addr}{σ σ':Sto}{τ τ':L2.St}
theorem OT.step(h:OT K O H σ τ)(hT:∀i rows,getS σ' i=some (.ot rows)->getS σ i=some (.ot rows)/\τ'[i]?=τ[i]?)
 (hO:∀i rows a as,getS σ i=some (.ot rows)->τ[i]?=some (some (.ref a))->(∀j ds b,getS σ j=some (.ow ds)->τ[j]?=some (some (.ref b))->b≠a/\b ∉ as)->OwT K O H rows a as->OwT K O' H' rows a as)
 (hW:∀i rows a as j ds b,getS σ i=some (.ot rows)->OwT K O H rows a as->getS σ' j=some (.ow ds)->τ'[j]?=some (some (.ref b))->(∃ds',getS σ j=some (.ow ds')/\τ[j]?=some (some (.ref b)))\/(b≠a/\b ∉ as)):OT K O' H' σ' τ':=by
 refine⟨λi rows g=>?_,λi j rs qs g1 g2=>h.2 i j rs qs (hT i rs g1).1 (hT j qs g2).1⟩;obtain⟨g0,e0⟩:=hT i rows g;obtain⟨a,as,e1,t,d⟩:=h.1 i rows g0;refine⟨a,as,e0.trans e1,hO i rows a as g0 e1 d t,λj ds b g1 e2=>?_⟩;rcases hW i rows a as j ds b g0 t g1 e2 with⟨ds',g2,e3⟩|z
 ·exact d j ds' b g2 e3
 ·exact z
structure Reps (K:bw) (O:List Addr) (H:Hp) (σ:Sto) (τ:L2.St):Prop where
 len:σ.length=τ.length
 own:∀a∈O,H a≠none
 sh:∀i d,getS σ i=some (.sh d)->∃v,τ[i]?=some (some v)/\Is K (jd H O) d v
 ow:∀i ds,getS σ i=some (.ow ds)->∃a vs,τ[i]?=some (some (.ref a))/\a∈O/\H a=some (.lst vs)/\Iss K (jd H O) ds vs
 dj:∀i j ds es,i≠j->getS σ i=some (.ow ds)->getS σ j=some (.ow es)->τ[i]? ≠ τ[j]?
 tt:OT K O H σ τ
theorem Reps.mono(r:Reps K O H σ τ)(e:je H H'):Reps K O H' σ τ where
 len:=r.len
 own:=λa ha z=>by
  cases q:H a with
  |none=>exact r.own a ha q
  |some o=>rw[e a o q]at z;cases z
 sh:=λi d h=>by
  obtain⟨v,h1,h2⟩:=r.sh i d h;exact⟨v,h1,Is.mono (jc e) d h2⟩
 ow:=λi ds h=>by
  obtain⟨a,vs,h1,h2,h3,h4⟩:=r.ow i ds h;exact⟨a,vs,h1,h2,e _ _ h3,Iss.mono (jc e) ds h4⟩
 dj:=r.dj
 tt:=r.tt.step (λ_ _ g=>⟨g,rfl⟩) (λ_ _ _ _ _ _ _ t=>t.mono e) λ_ _ _ _ j ds b _ _ g q=>.inl ⟨ds,g,q⟩
theorem kJ:∀(σ:Sto) (i j:Nat) (v:Option Sl),getS (setS σ i v) j=if i=j/\i<σ.length then v else getS σ j
 |[],i,j,v=>by simp[setS,getS]
 |x::r,0,0,v=>by simp[setS,getS]
 |x::r,0,j+1,v=>by simp[setS,getS]
 |x::r,i+1,0,v=>by simp[setS,getS]
 |x::r,i+1,j+1,v=>by
  simp only[setS,getS,dU];rw[kJ r i j v];by_cases h:i=j/\i<r.length
  ·rw[if_pos h,if_pos (by lia)]
  ·rw[if_neg h,if_neg (by lia)]
theorem uz:∀(σ:Sto) (i:Nat) (v:Option Sl),(setS σ i v).length=σ.length
 |[],i,v=>rfl
 |_::_,0,v=>rfl
 |_::r,i+1,v=>by simp[setS,uz r i v]
def less(O:List Addr)(a:Addr):List Addr:=O.filter λb=>decide (b≠a)
theorem jZ{b:Addr}:b∈less O a ↔ b∈O/\b≠a:=by simp[less]
variable{i:Nat}{ds:List D}{vs:List V}
theorem Reps.share(r:Reps K O H σ τ)(g:getS σ i=some (.ow ds))(e1:τ[i]?=some (some (.ref a)))(e3:H a=some (.lst vs))(e4:Iss K (jd H O) ds vs) :
 Reps K (less O a) H (setS σ i (some (.sh (.lst ds)))) τ where
 len:=by rw[uz];exact r.len
 own:=λb hb=>r.own b (jZ.mp hb).1
 sh:=λj d h=>by
  have lessS:je (jd H O) (jd H (less O a)):=jE λb hb=>(jZ.mp hb).1
  rw[kJ]at h;by_cases hj:i=j/\i<σ.length
  ·rw[if_pos hj]at h;obtain⟨rfl,_⟩:=hj;cases h;refine⟨.ref a,e1,qJ (SqL.of ?_) (Iss.mono lessS ds e4)⟩;rw[kz λz=>(jZ.mp z).2 rfl];exact e3
  ·rw[if_neg hj]at h;obtain⟨v,h1,h2⟩:=r.sh j d h;exact⟨v,h1,Is.mono lessS d h2⟩
 ow:=λj es h=>by
  have lessS:je (jd H O) (jd H (less O a)):=jE λb hb=>(jZ.mp hb).1
  rw[kJ]at h;by_cases hj:i=j/\i<σ.length
  ·rw[if_pos hj]at h;cases h
  ·rw[if_neg hj]at h;obtain⟨b,ws,h1,h2,h3,h4⟩:=r.ow j es h;refine⟨b,ws,h1,jZ.mpr ⟨h2,λz=>?_⟩,h3,Iss.mono lessS es h4⟩;subst z
   have hij:i≠j:=λz=>by
    subst z
    have:i<σ.length:=by
     rcases b8 i σ.length with q|q
     ·exact q
     ·rw[r.len]at q;rw[bI q]at e1;cases e1
    exact hj ⟨rfl,this⟩
   exact r.dj i j ds es hij g h (e1.trans h1.symm)
 dj:=λj l es fs hjl g1 g2=>by
  rw[kJ]at g1 g2;by_cases hj:i=j/\i<σ.length
  ·rw[if_pos hj]at g1;cases g1
  ·rw[if_neg hj]at g1;by_cases hl:i=l/\i<σ.length
   ·rw[if_pos hl]at g2;cases g2
   ·rw[if_neg hl]at g2;exact r.dj j l es fs hjl g1 g2
 tt:=by
  have old:∀j z,getS (setS σ i (some (.sh (.lst ds)))) j=some z->(∀d,z ≠ .sh d)->getS σ j=some z:=λj z h n=>by
   rw[kJ]at h;by_cases hj:i=j/\i<σ.length
   ·rw[if_pos hj]at h;cases h;exact absurd rfl (n _)
   ·rw[if_neg hj]at h;exact h
  refine r.tt.step (λj rows h=>⟨old j _ h (λ_ z=>nomatch z),rfl⟩) (λj rows b as h q d t=>?_) λ_ _ _ _ j es b _ _ h q=>.inl ⟨es,old j _ h (λ_ z=>nomatch z),q⟩
  obtain⟨n1,n2⟩:=d i ds a g e1;refine⟨t.top,t.nd,⟨jZ.mpr ⟨t.inO.1,gV n1⟩,λc hc=>jZ.mpr ⟨t.inO.2 c hc,λz=>n2 (z ▸ hc)⟩⟩,t.rw.imp (jE λb hb=>(jZ.mp hb).1) λ_ _ _ z=>z⟩
theorem VC{b:Addr}{us:List V}(k:∀u,jd H O' b=some u->(∀vs,u ≠ .lst vs)->jd H O b=some u)(h:SqT K (jd H O') b us):SqT K (jd H O) b us:=by
 rcases h with(h|⟨o,h⟩)|h
 ·exact .inl (.inl (k _ h λ_ z=>nomatch z))
 ·exact .inl (.inr ⟨o,k _ h λ_ z=>nomatch z⟩)
 ·exact .inr h
mutual
theorem jav{K:bw}{O:List Addr}{H:Hp}{a:Addr}{vs:List V}(h:H a=some (.lst vs)):∀(d:D) {v:V},nol d=true->Is K (jd H (less O a)) d v->Is K (jd H O) d v
 |.non,v,_,i=>by cases zY i;exact JO
 |.bl b,v,_,i=>by cases qj i;exact j3 _
 |.int n,v,_,i=>by cases jr i;exact jK _
 |.str x,v,_,i=>by obtain⟨rfl,o⟩:=vS i;exact X9 o
 |.lst xs,v,n,i=>by simp[nol]at n
 |.tup xs,v,n,i=>by
  obtain⟨b,us,rfl,h1,h2⟩:=qu i;refine Ur (VC (λu hu nl=>?_) h1) (QE h xs (by simpa[nol]using n) h2);have hb:H b=some u:=jf _ _ _ _ hu;rw[kz]
  ·exact hb
  ·intro z
   have hne:b≠a:=λq=>by subst q;rw[h]at hb;cases hb;exact nl _ rfl
   have:jd H (less O a) b=none:=by unfold jd;rw[if_pos (jZ.mpr ⟨z,hne⟩)]
   rw[this]at hu;cases hu
theorem QE{K:bw}{O:List Addr}{H:Hp}{a:Addr}{vs:List V}(h:H a=some (.lst vs)):∀(ds:List D) {us:List V},Xb ds=true->Iss K (jd H (less O a)) ds us->Iss K (jd H O) ds us
 |[],us,_,i=>by unfold Iss at *;exact i
 |d::ds,us,n,i=>by
  simp only[Xb,bh]at n;unfold Iss at *;obtain⟨v,r,e,i1,i2⟩:=i;exact⟨v,r,e,jav h d n.1 i1,QE h ds n.2 i2⟩
end
def zG(O as:List Addr):List Addr:=O.filter λb=>decide (b ∉ as)
theorem jQ{b:Addr}:b∈zG O as ↔ b∈O/\b ∉ as:=by simp[zG]
theorem Rws.iss{K:bw}{O O':List Addr}{H:Hp}(s:je (jd H O) (jd H O')):∀ {rows:List (List D)} {as:List Addr},(∀b∈as,b ∉ O')->Rws K O H rows as->Iss K (jd H O') (rows.map .lst) (as.map .ref)
 |[],as,_,h=>by cases h;simp only[dR];unfold Iss;rfl
 |r::rs,as,n,h=>by
  obtain⟨b,bs,vs,rfl,h1,h2,h3⟩:=h;simp only[bq];unfold Iss;refine⟨_,_,rfl,qJ (SqL.of ?_) (Iss.mono s r h2),Rws.iss s (λc hc=>n c (bo _ hc)) h3⟩;rw[kz (n b (bC ..))];exact h1
theorem OwT.is{rows:List (List D)}(t:OwT K O H rows a as):Is K (jd H (zG O (a::as))) (kC rows) (.ref a):=by
 refine qJ (SqL.of ?_) (t.rw.iss (jE λb hb=>(jQ.mp hb).1) λb hb z=>(jQ.mp z).2 (bo _ hb));rw[kz λz=>(jQ.mp z).2 (bC ..)];exact t.top
theorem Reps.shareT(r:Reps K O H σ τ){rows:List (List D)}(g:getS σ i=some (.ot rows))(e1:τ[i]?=some (some (.ref a)))(t:OwT K O H rows a as)(d:∀j ds b,getS σ j=some (.ow ds)->τ[j]?=some (some (.ref b))->b≠a/\b ∉ as) :
 Reps K (zG O (a::as)) H (setS σ i (some (.sh (kC rows)))) τ:=by
 have lessS:je (jd H O) (jd H (zG O (a::as))):=jE λb hb=>(jQ.mp hb).1
 have old:∀j z,getS (setS σ i (some (.sh (kC rows)))) j=some z->(∀d,z ≠ .sh d)->getS σ j=some z:=λj z h n=>by
  rw[kJ]at h;by_cases hj:i=j/\i<σ.length
  ·rw[if_pos hj]at h;cases h;exact absurd rfl (n _)
  ·rw[if_neg hj]at h;exact h
 refine⟨by rw[uz];exact r.len,λb hb=>r.own b (jQ.mp hb).1,λj e h=>?_,λj es h=>?_,λj l es fs hjl g1 g2=>r.dj j l es fs hjl (old j _ g1 λ_ z=>nomatch z) (old l _ g2 λ_ z=>nomatch z),?_⟩
 ·rw[kJ]at h;by_cases hj:i=j/\i<σ.length
  ·rw[if_pos hj]at h;obtain⟨rfl,_⟩:=hj;cases h;exact⟨_,e1,t.is⟩
  ·rw[if_neg hj]at h;obtain⟨v,h1,h2⟩:=r.sh j e h;exact⟨v,h1,Is.mono lessS e h2⟩
 ·have h:=old j _ h λ_ z=>nomatch z
  obtain⟨b,ws,h1,h2,h3,h4⟩:=r.ow j es h;obtain⟨n1,n2⟩:=d j es b h h1;exact⟨b,ws,h1,jQ.mpr ⟨h2,by simp[n1,n2]⟩,h3,Iss.mono lessS es h4⟩
 ·refine⟨λj rs h=>?_,λj l rs qs h1 h2=>r.tt.2 j l rs qs (old j _ h1 λ_ z=>nomatch z) (old l _ h2 λ_ z=>nomatch z)⟩
  have h':=old j _ h λ_ z=>nomatch z
  have hij:=r.tt.2 i j _ _ g h';subst hij;exfalso
  have hl:i<σ.length:=by
   rw[r.len];rcases b8 i τ.length with q|q
   ·exact q
   ·rw[bI q]at e1;cases e1
  rw[kJ,if_pos ⟨rfl,hl⟩]at h;cases h
def Wd(K:bw)(O:List Addr)(H:Hp)(Q:VK)(d:D):Prop:=∀v H',je H H'->Is K (jd H' O) d v->Q v H'
def Wds(K:bw)(O:List Addr)(H:Hp)(Q:List V->Hp->Prop)(ds:List D):Prop:=∀vs H',je H H'->Iss K (jd H' O) ds vs->Q vs H'
variable{Q:VK}
theorem Wd.mono(e:je H H')(w:Wd K O H Q d):Wd K O H' Q d:=λv H'' e' i=>w v H'' (e.trans e') i
def tD(K:bw)(C:Cfg)(x:Ex):TE:=λτ H Q=>∃σ O,Reps K O H σ τ/\wpE C x σ (Wd K O H Q)
def tDs(K:bw)(C:Cfg)(xs:List Ex):TA:=λτ H Q=>∃σ O,Reps K O H σ τ/\wpEs C xs σ (Wds K O H Q)
def tDT(K:bw)(C:Cfg)(x:Ex):TT:=λτ H Q=>∃σ O,Reps K O H σ τ/\wpE C x σ (isB λc=>∀H',je H H'->Q c H')
def WdF(K:bw)(O:List Addr)(H:Hp)(Q:VK)(d:D):Prop:=∀xs a H' vs,d=.lst xs->je H H'->H a=none->H' a=some (.lst vs)->Iss K (jd H' (a::O)) xs vs->Q (.ref a) H'
def WdG(K:bw)(O:List Addr)(H:Hp)(Q:VK)(d:D):Prop:=∀rows a as H',d=kC rows->je H H'->(H a=none/\∀b∈as,H b=none)->OwT K (a::as++O) H' rows a as->Q (.ref a) H'
def Rw(K:bw)(fr g:Bool)(O:List Addr)(H:Hp)(Q:VK)(d:D):Prop:=if fr=true then WdF K O H Q d else if g=true then (WdG K O H Q d/\(nol d=true->Wd K O H Q d)) else Wd K O H Q d
theorem Wd.rw{K:bw}{fr g:Bool}{O:List Addr}{H:Hp}{Q:VK}{d:D}(ho:∀a∈O,H a≠none)(w:Wd K O H Q d):Rw K fr g O H Q d:=by
 unfold Rw;split
 ·intro xs a H' vs e s h0 h1 i;subst e
  have na:a ∉ O:=λz=>ho a z h0
  refine w _ _ s (qJ (SqL.of ?_) (Iss.mono (jE λb hb=>bo _ hb) xs i));rw[kz na];exact h1
 split
 ·refine⟨λrows a as H' e s h0 t=>?_,λ_=>w⟩;subst e;refine w _ _ s (Is.mono (jE λb hb=>jQ.mpr ⟨bX _ hb,λz=>?_⟩) _ t.is);rcases bz.mp z with rfl|z
  ·exact ho _ hb h0.1
  ·exact ho _ hb (h0.2 _ z)
 ·exact w
@[inline] def zA (x:Str):Str:=if x="Dependent" then "weights" else "at"
def Fld(K:bw)(O:List Addr)(y:XD)(H:Hp)(da:Option Addr):Prop:=∀d∈y.f,∃D v,da=some D/\H D=some (.xd [(zA y.t,v)])/\Is K (jd H O) d v
theorem Fld.less{y:XD}{da:Option Addr}(e:∀a∈O',a∈O)(h:Fld K O y H da):Fld K O' y H da:=λd hd=>by
 obtain⟨D,v,h1,h2,h3⟩:=h d hd;exact⟨D,v,h1,h2,Is.mono (jE e) d h3⟩
def spD(K:bw)(n:Nat)(fr g:Bool)(c:Ctr):Sp:=λvs H Q E=>∃O ds,ds.length=n/\(∀a∈O,H a≠none)/\Iss K (jd H O) ds vs/\c.wp ds (Rw K fr g O H Q) λy=>∀H' da,je H H'->Fld K O y H' da->E (.str y.t 0) da H'
def CXz(P:gj)(w:World)(mg:Str->Option bp):CXT:=λouter H s E e s'=>∃x C H1 da,E (.str x 0) da H1/\mg x=some (.ref C)/\zR P w C outer H s H1 da e s'
theorem XI:vT (CXz X.prog X.w X.mg) X E0:=λ_ _ _ _ _ _ _ ⟨_,_,_,_,z,_⟩=>z.elim
variable{t':TS}
theorem PE.imp{t t':TE}(h:∀τ H Q,t' τ H Q->t τ H Q)(p:PE X e t):PE X e t':=λpins s τ H Q I w=>p pins s τ H Q I (h τ H Q w)
theorem PA.imp{e:List Expr}{t t':TA}(h:∀τ H Q,t' τ H Q->t τ H Q)(p:PA X e t):PA X e t':=λpos pins s τ H Q I w=>p pos pins s τ H Q I (h τ H Q w)
theorem PT.imp{t t':TT}(h:∀τ H Q,t' τ H Q->t τ H Q)(p:PT X e t):PT X e t':=λpins s τ H Q I w=>p pins s τ H Q I (h τ H Q w)
theorem PS.imp{e:Stmt}(h:∀D τ H,t' D τ H->t D τ H)(p:PS X e t):PS X e t':=λpins s τ H D I w=>p pins s τ H D I (h D τ H w)
theorem PSs.imp{e:List Stmt}(h:∀D τ H,t' D τ H->t D τ H)(p:PSs X e t):PSs X e t':=λpins s τ H D I w=>p pins s τ H D I (h D τ H w)
variable{p:Addr}
theorem Xm(h:∀a∈O,H a≠none)(hp:H p=none):p ∉ O:=λz=>h p z hp
theorem jL(h:H p=none)(o:HO):je H (upd H p o):=λb u q=>by rw[jg (kW q h)];exact q
variable{i j:Int}{t:Tok}{v:V}{pins:List (Addr×nW)}{u:bp}{ws:List V}{ys:List D}{op:CmpOp}{S:Hp}{tk:Nat}{E:bp->Shared->Prop}
section
variable {X:Cx}
def rD(K:bw)(f:D->D->(D->Prop)->Prop):R2:=λxv yv H Q=>∃O x y,(∀a∈O,H a≠none)/\Is K (jd H O) x xv/\Is K (jd H O) y yv/\f x y (Wd K O H Q)
theorem qK{s:Shared}(I:Inv X pins τ H s)(w:Wd X.K O H Q d)(i:Is X.K (jd H O) d v)(r:jV v u):EP X pins τ Q u s :=
 ⟨v,H,I,r,w v H (je.refl H) i⟩
theorem mulOk(h:ku i j):IntMulOk i j:=by
 rcases h with h|h|h
 ·exact .of_left h
 ·exact .of_right h
 ·unfold IntMulOk
  have e:jd0 ((g7 i:Int)+(g7 j:Int))=false:=by
   unfold jd0;rw[bitsLine_eq];have h':g7 i+g7 j<=134217728:=h;exact decide_eq_false (by lia)
  intro z;simp[e]at z
theorem divOk(h:bits j<=9000):Builtin.divisionGoesByPylong i j=false:=by
 refine PyProof.noPylong_of_log2 ?_;have h':g7 j<=9000:=h;unfold g7 at h';by_cases e:j=0
 ·subst e;decide +kernel
 ·have e':(j == 0)=false:=by simpa using e
  rw[e']at h';simp only[dG,if_false]at h';lia
theorem Iss.minus_upd(hp:H p=none)(i:Iss K (jd H O) ds vs):Iss K (jd (upd H p o) O) ds vs:=Iss.mono (jc (jL hp o)) ds i
theorem yY(ho:∀a∈O,H a≠none)(hp:H p=none):jd (upd H p o) O p=some o:=by rw[kz (Xm ho hp),ju]
theorem ko(s:je H H')(h:H a=none):je (jd H O) (jd H' (a::O)):=λb o hb=>by
 have e:=jf _ _ _ _ hb
 have na:b≠a:=λz=>by subst z;rw[h]at e;cases e
 have nb:b ∉ O:=λz=>by unfold jd at hb;rw[if_pos z]at hb;cases hb
 rw[kz (by simp[na,nb])];exact s _ _ e
theorem Wd.wdF(ho:∀a∈O,H a≠none)(w:Wd K O H Q d):WdF K O H Q d:=by
 have:=w.rw (fr:=true) (g:=false) ho;unfold Rw at this;rw[if_pos rfl]at this;exact this
theorem WdF.mono(e:je H H')(w:WdF K O H Q d):WdF K O H' Q d:=λxs a H'' vs q s h0 h1 i=>w xs a H'' vs q (e.trans s) (by
 cases z:H a with
 |none=>rfl
 |some o=>rw[e a o z]at h0;cases h0) h1 i
theorem JJ{s:Shared}{b:Addr}(I:Inv X pins τ H s)(ho:∀a∈O,H a≠none)(w:xs.length+ys.length<=lim/\WdF X.K O H Q (.lst (xs++ys)))
 (ha:SqL X.K H a vs) (hb:SqL X.K H b ws) (ia:Iss X.K (jd H O) xs vs) (ib:Iss X.K (jd H O) ys ws):wpAny (model X.prog X.w) X.A (wB .Add (.ref a) (.ref b)) (EP X pins τ Q) X.xe s:=by
 obtain⟨its,r1,p1,z1⟩:=I.list ha;obtain⟨its2,r2,p2,z2⟩:=I.list hb;obtain⟨⟨cls,dd,data,sl⟩,h1,hc,n,hd⟩:=p1.isList;obtain⟨⟨cls2,dd2,data2,sl2⟩,h2,hc2,n2,hd2⟩:=p2.isList;simp only at hc hd hc2 hd2;subst hc hd hc2 hd2
 have hl:vs.length+ws.length<=sizeLine:=by rw[ia.length,ib.length,pF];exact w.1
 have l1:=r1.length;have l2:=r2.length;refine concat_meets ⟨_,h1,rfl⟩ ⟨_,h2,rfl⟩ noFill_list_add seq_list_add PySem.F.slot_list_add PySem.F.entry_list_add (PySem.F.args_list_add_2 _ _) (list_addW a b its.toArray its2.toArray n n2 dd dd2 sl sl2 (by simp only[dw];lia)) ⟨h1,h2,?_⟩
 have e:its.toArray++its2.toArray=(its++its2).toArray:=by simp
 rw[e];exact⟨.ref _,_,I.lnew (t':=s.toks) (r1.append r2) (by rw[b6];exact hl),rfl,w.2 _ _ _ _ rfl (jL I.fresh _) I.fresh (ju ..) (Iss.mono (ko (jL I.fresh _) I.fresh) _ (ia.append ib))⟩
theorem J0{s:Shared}{b:Addr}(I:Inv X pins τ H s)(ho:∀a∈O,H a≠none)(w:xs.length+ys.length<=lim/\Wd X.K O H Q (.lst (xs++ys)))
 (ha:SqL X.K H a vs) (hb:SqL X.K H b ws) (ia:Iss X.K (jd H O) xs vs) (ib:Iss X.K (jd H O) ys ws):wpAny (model X.prog X.w) X.A (wB .Add (.ref a) (.ref b)) (EP X pins τ Q) X.xe s:=JJ I ho ⟨w.1,w.2.wdF ho⟩ ha hb ia ib
theorem Iss.rep{K:bw}{S:Hp}{ds:List D}{vs:List V}(i:Iss K S ds vs):∀k:Nat,Iss K S (bR k ds).flatten (bR k vs).flatten
 |0=>by simp[Iss]
 |k+1=>by
  rw[dX,dX,ma,ma];exact i.append (Iss.rep i k)
theorem jcy{s:Shared}{k:Int}(I:Inv X pins τ H s)(ho:∀a∈O,H a≠none)(w:Uq xs.length k/\Wd X.K O H Q (.lst (bR k.toNat xs).flatten))
 (ha:SqL X.K H a vs) (ia:Iss X.K (jd H O) xs vs):wpAny (model X.prog X.w) X.A (wB .Mult (.ref a) (.int k t)) (EP X pins τ Q) X.xe s:=by
 obtain⟨its,r1,p1,z1⟩:=I.list ha;obtain⟨⟨cls,dd,data,sl⟩,h1,hc,n,hd⟩:=p1.isList;simp only at hc hd;subst hc hd;have l1:=r1.length;have l2:=ia.length;obtain⟨⟨⟨k1,k2⟩,hz⟩,w⟩:=w
 have hz':vs.length*k.toNat<=sizeLine:=by rw[l2,pF];exact hz
 have hlen:its.toArray.size*k.toNat<=sizeLine:=by rw[dw,<- l1];exact hz'
 have hcap:¬ its.toArray.size*k.toNat > (2^63-1) / 8:=by
  have:(sizeLine:Nat)<=(2^63-1) / 8:=by decide
  lia
 have hfit:¬ (!Builtin.List.listFitsIndex k)=true:=by
  rw[fitsIndex_both (by lia) (by lia)];exact dS
 have hlong:¬ mI (its.toArray.size*k.toNat)=true:=by
  rw[L2.notLongL hlen];exact dS
 have hnew:jfI (λx1 x2=>x1++x2) #[] (bR (if its.toArray.isEmpty=true then 0 else k.toNat) its.toArray)=(bR k.toNat its).flatten.toArray:=by
  have f0:∀m:Nat,jfI (λx1 x2=>x1++x2) #[] (bR m its.toArray)=(bR m its).flatten.toArray:=λm=>by
   have:=L2.foldl_rep its m [];rw[dz]at this;exact this
  rw[f0]
  cases its with
  |nil=>simp
  |cons a r'=>rw[if_neg (by simp)]
 refine wpAny_binaryOp_repeat_ref (T:="list") (U:="int") (by decide) ⟨_,h1,rfl⟩ (λs'=>typeIs_int s' k t) noFill_list_mul PySem.F.fills_int_mul jd1 repeat_list PySem.F.slot_int_index.lookup
  (jeH jd1 (typeIs_int s k t) PySem.F.entry_int_rmul (PySem.F.args_int_rmul_2 _ _) (lm_int_rmul_list_any k t a its.toArray n dd sl)
   ⟨h1,rfl,⟨_,h1,rfl⟩,jeH PySem.F.slot_list_mul ⟨_,h1,rfl⟩ PySem.F.entry_list_mul (PySem.F.args_list_mul_2 _ _) (lm_list_mul_any a its.toArray n dd sl k t hfit hcap hlong) ⟨h1,?_⟩⟩)
 rw[hnew];exact⟨.ref _,_,I.lnew (t':=s.toks) (r1.rep k.toNat) (by rw[L2.len_rep,Nat.mul_comm];exact hz'),rfl,w _ _ (jL I.fresh _) (qJ (SqL.of (yY ho I.fresh)) (Iss.minus_upd I.fresh (ia.rep k.toNat)))⟩
theorem kK{f:Int->Int->(D->Prop)->Prop}{x y:D}{Q:D->Prop}(w:yO f x y Q):∃i j,x=.int i/\y=.int j/\f i j Q:=by
 cases x<;>first|exact w.elim|(cases y<;>first|exact w.elim|exact⟨_,_,rfl,rfl,w⟩)
theorem op_bin{o:BOp}{op:je0}(h:opOk o op=true):OpR X (wB op) (rD X.K (x5 o)):=by
 intro pins s τ H xv yv v u Q I rx ry w;obtain⟨O,x,y,ho,ix,iy,w⟩:=w
 cases o with
 |add =>
  cases op<;>first|exact bG h|skip
  cases x<;>first|exact w.elim|(cases y<;>first|exact w.elim|skip)
  ·cases jr ix;cases jr iy;obtain⟨t,rfl⟩:=rx;obtain⟨t',rfl⟩:=ry;exact add_int (qK (I.tok _) w (jK _) ⟨_,rfl⟩)
  ·obtain⟨a,xs,rfl,hx,jx⟩:=jN ix;obtain⟨b,ys,rfl,hy,jy⟩:=jN iy;have hx':=(jf H O).seq hx;have hy':=(jf H O).seq hy;cases rx;cases ry
   exact J0 I ho w hx' hy' jx jy
 |mul =>
  cases op<;>first|exact bG h|skip
  cases x<;>first|exact w.elim|(cases y<;>first|exact w.elim|skip)
  ·cases jr ix;cases jr iy;obtain⟨t,rfl⟩:=rx;obtain⟨t',rfl⟩:=ry;exact mul_int (qK (I.tok _) w.2 (jK _) ⟨_,rfl⟩) (mulOk w.1)
  ·obtain⟨a,xs,rfl,hx,jx⟩:=jN ix;cases jr iy;have hx':=(jf H O).seq hx;cases rx;obtain⟨t',rfl⟩:=ry
   exact jcy I ho w hx' jx
 |sub =>
  cases op<;>first|exact bG h|skip
  obtain⟨i,j,rfl,rfl,w⟩:=kK w;cases jr ix;cases jr iy;obtain⟨t,rfl⟩:=rx;obtain⟨t',rfl⟩:=ry
  exact sub_int (qK (I.tok _) w (jK _) ⟨_,rfl⟩)
 |fdiv =>
  cases op<;>first|exact bG h|skip
  obtain⟨i,j,rfl,rfl,w⟩:=kK w;cases jr ix;cases jr iy;obtain⟨t,rfl⟩:=rx;obtain⟨t',rfl⟩:=ry
  exact floordiv_int w.1.1 (qK (I.tok _) w.2 (jK _) ⟨_,rfl⟩) (.inl (divOk w.1.2))
 |mod =>
  cases op<;>first|exact bG h|skip
  obtain⟨i,j,rfl,rfl,w⟩:=kK w;cases jr ix;cases jr iy;obtain⟨t,rfl⟩:=rx;obtain⟨t',rfl⟩:=ry
  exact mod_int' w.1 (qK (I.tok _) w.2 (jK _) ⟨_,rfl⟩)
 |shl =>
  cases op<;>first|exact bG h|skip
  obtain⟨i,j,rfl,rfl,w⟩:=kK w;cases jr ix;cases jr iy;obtain⟨t,rfl⟩:=rx;obtain⟨t',rfl⟩:=ry
  exact lshift_int w.1.1 (by have:=w.1.2;unfold bits at this;lia) (qK (I.tok _) w.2 (jK _) ⟨_,rfl⟩)
 |shr =>
  cases op<;>first|exact bG h|skip
  obtain⟨i,j,rfl,rfl,w⟩:=kK w;cases jr ix;cases jr iy
  exact op_shr pins s τ H _ _ v u Q I rx ry ⟨_,_,rfl,rfl,w.1,w.2 _ _ (je.refl H) (jK _)⟩
 |band =>
  cases op<;>first|exact bG h|skip
  obtain⟨i,j,rfl,rfl,w⟩:=kK w;cases jr ix;cases jr iy
  exact op_and pins s τ H _ _ v u Q I rx ry ⟨_,_,rfl,rfl,w _ _ (je.refl H) (jK _)⟩
 |pow =>
  cases op<;>first|exact bG h|skip
  obtain⟨i,j,rfl,rfl,w⟩:=kK w;cases jr ix;cases jr iy;obtain⟨t,rfl⟩:=rx;obtain⟨t',rfl⟩:=ry;exact PyProof.Rows.pow_int w.1.1 w.1.2 (qK (I.tok _) w.2 (jK _) ⟨_,rfl⟩)
theorem zq(ss:List Int):(ss.map V.int).all um=true:=by
 rw[ni];intro v hv;obtain⟨x,_,rfl⟩:=bH.mp hv;rfl
theorem uj(i:Int)(ss:List Int):ss.contains i=inV (.int i) (ss.map V.int):=by
 unfold inV;rw[List.any_map]
 induction ss with
 |nil=>rfl
 |cons x ss ih =>
  rw[tE,jeA,ih];congr 1;by_cases h:i=x
  ·subst h;simp[eqV]
  ·have h':x≠i:=λz=>h z.symm
   simp only[n5,eqV];rw[beq_eq_false_iff_ne.mpr h];simp[h']
theorem xq{K:bw}{S:Hp}:∀ {ns:List Int} {vs:List V},Iss K S (ns.map D.int) vs->vs=ns.map V.int
 |[],vs,h=>by simp only[dR]at h;unfold Iss at h;exact h
 |n::ns,vs,h=>by
  simp only[bq]at h;unfold Iss at h;obtain⟨v,r,rfl,i1,i2⟩:=h;rw[jr i1,xq i2];rfl
theorem bt(b:Bool):(b == true)=b:=by cases b<;>rfl
theorem bf(b:Bool):(b == false)=!b:=by cases b<;>rfl
theorem vR(h:Iss K S [d] vs):∃v,vs=[v]/\Is K S d v:=by
 unfold Iss at h;obtain⟨v,r,rfl,h1,h2⟩:=h;unfold Iss at h2;subst h2;exact⟨v,rfl,h1⟩
theorem iss2{e:D}(h:Iss K S [d,e] vs):∃v w,vs=[v,w]/\Is K S d v/\Is K S e w:=by
 unfold Iss at h;obtain⟨v,r,rfl,h1,h2⟩:=h;obtain⟨w,rfl,h3⟩:=vR h2;exact⟨v,w,rfl,h1,h3⟩
theorem jau{o:COp}(h:cOk o op e=true)(hu:X.A.units+100<cLine):OpR X (mS op) (rD X.K (yD o)):=by
 intro pins s τ H xv yv v u Q I rx ry w;obtain⟨O,x,y,ho,ix,iy,w⟩:=w
 have hu1:X.A.in1.units+2<cLine:=by rw[Around.in1_units];lia
 have reads:∀ {k:Bool},min (qF x) (qF y)<=100->(∀ {as bs:List Addr},Reads s.heap v (zJ x) as->Reads s.heap u (zJ y) bs->(zJ x).canLay0=true->(zJ y).canLay0=true->X.A.units+min (zJ x).depth (zJ y).depth<cLine->wpAny (model X.prog X.w) X.A (mS op v u) (EP X pins τ Q) X.xe s)->wpAny (model X.prog X.w) X.A (mS op v u) (EP X pins τ Q) X.xe s:=by
  intro k hd f;obtain⟨⟨as,ra⟩,ca⟩:=Is.reads I x (Is.mono (jf H O) x ix) rx;obtain⟨⟨bs,rb⟩,cb⟩:=Is.reads I y (Is.mono (jf H O) y iy) ry;exact f ra rb ca cb (by rw[vY,vY];lia)
 cases o with
 |eq =>
  cases op<;>first|exact bG h|skip
  have w':min (qF x) (qF y)<=100/\Wd X.K O H Q (.bl (eqD x y)):=w
  refine reads (k:=true) w'.1 λra rb ca cb hd=>SeqAt.compareEq_reads ra rb ca cb hd ?_
  rw[Jb]
  exact qK I w'.2 (j3 _) rfl
 |ne =>
  cases op<;>first|exact bG h|skip
  have w':min (qF x) (qF y)<=100/\Wd X.K O H Q (.bl (!eqD x y)):=w
  refine reads (k:=true) w'.1 λra rb ca cb hd=>SeqAt.compareNe_reads ra rb ca cb hd ?_
  rw[Jb]
  exact qK I w'.2 (j3 _) rfl
 |lt =>
  cases op<;>first|exact bG h|skip
  obtain⟨i,j,rfl,rfl,w⟩:=kK w;cases jr ix;cases jr iy
  exact op_lt pins s τ H _ _ v u Q I rx ry ⟨_,_,rfl,rfl,w _ _ (je.refl H) (j3 _)⟩
 |le =>
  cases op<;>first|exact bG h|skip
  obtain⟨i,j,rfl,rfl,w⟩:=kK w;cases jr ix;cases jr iy
  exact op_le pins s τ H _ _ v u Q I rx ry ⟨_,_,rfl,rfl,w _ _ (je.refl H) (j3 _)⟩
 |gt =>
  cases op<;>first|exact bG h|skip
  obtain⟨i,j,rfl,rfl,w⟩:=kK w;cases jr ix;cases jr iy
  exact op_gt pins s τ H _ _ v u Q I rx ry ⟨_,_,rfl,rfl,w _ _ (je.refl H) (j3 _)⟩
 |ge =>
  cases op<;>first|exact bG h|skip
  obtain⟨i,j,rfl,rfl,w⟩:=kK w;cases jr ix;cases jr iy
  exact op_ge pins s τ H _ _ v u Q I rx ry ⟨_,_,rfl,rfl,w _ _ (je.refl H) (j3 _)⟩
 |isN =>
  cases op<;>first|exact bG h|skip
  cases y<;>first|exact w.elim|skip
  cases zY iy;refine op_isN pins s τ H _ _ v u Q I rx ry ⟨rfl,w _ _ (je.refl H) ?_⟩
  cases x with
  |non=>cases zY ix;exact j3 _
  |bl b=>cases qj ix;exact j3 _
  |int i=>cases jr ix;exact j3 _
  |str z=>obtain⟨rfl,_⟩:=vS ix;exact j3 _
  |tup zs=>obtain⟨_,_,rfl,_⟩:=qu ix;exact j3 _
  |lst zs=>obtain⟨_,_,rfl,_⟩:=jN ix;exact j3 _
 |notN =>
  cases op<;>first|exact bG h|skip
  cases y<;>first|exact w.elim|skip
  cases zY iy;refine op_notN pins s τ H _ _ v u Q I rx ry ⟨rfl,w _ _ (je.refl H) ?_⟩
  cases x with
  |non=>cases zY ix;exact j3 _
  |bl b=>cases qj ix;exact j3 _
  |int i=>cases jr ix;exact j3 _
  |str z=>obtain⟨rfl,_⟩:=vS ix;exact j3 _
  |tup zs=>obtain⟨_,_,rfl,_⟩:=qu ix;exact j3 _
  |lst zs=>obtain⟨_,_,rfl,_⟩:=jN ix;exact j3 _
 |isT =>
  cases op<;>first|exact bG h|skip
  cases x<;>cases y<;>first|exact w.elim|skip
  next b b' =>
  cases qj ix;cases qj iy;cases rx;cases ry;refine wpAny_is_plain rfl ?_
  have e:(td b == td b')=(b == b'):=by cases b<;>cases b'<;>rfl
  rw[e]
  exact qK I w (j3 _) (by cases b<;>cases b'<;>rfl)
 |notT =>
  cases op<;>first|exact bG h|skip
  cases x<;>cases y<;>first|exact w.elim|skip
  next b b' =>
  cases qj ix;cases qj iy;cases rx;cases ry;refine wpAny_isNot_plain rfl ?_
  have e:(td b == td b')=(b == b'):=by cases b<;>cases b'<;>rfl
  rw[e]
  exact qK I w (j3 _) (by cases b<;>cases b'<;>rfl)
 |inn =>
  cases op<;>first|exact bG h|skip
  cases x<;>first|exact w.elim|(cases y<;>first|exact w.elim|skip)
  ·cases jr ix;obtain⟨ss,rfl,hl,w⟩:=w;obtain⟨a,vs,rfl,h1,h2⟩:=qu iy;cases xq h2;exact Ke pins s τ H _ _ v u Q I rx ry ⟨a,_,rfl,.inr (kG (jf H O) h1),rfl,zq ss,w _ _ (je.refl H) (by rw[bt,uj];exact j3 _)⟩
  ·cases jr ix;obtain⟨ss,rfl,hl,w⟩:=w;obtain⟨a,vs,rfl,h1,h2⟩:=jN iy;cases xq h2
   exact Ke pins s τ H _ _ v u Q I rx ry ⟨a,_,rfl,.inl ((jf H O).seq h1),rfl,zq ss,w _ _ (je.refl H) (by rw[bt,uj];exact j3 _)⟩
 |nin =>
  cases op<;>first|exact bG h|skip
  cases x<;>first|exact w.elim|(cases y<;>first|exact w.elim|skip)
  ·cases jr ix;obtain⟨ss,rfl,hl,w⟩:=w;obtain⟨a,vs,rfl,h1,h2⟩:=qu iy;cases xq h2;exact uy pins s τ H _ _ v u Q I rx ry ⟨a,_,rfl,.inr (kG (jf H O) h1),rfl,zq ss,w _ _ (je.refl H) (by rw[bf,uj];exact j3 _)⟩
  ·cases jr ix;obtain⟨ss,rfl,hl,w⟩:=w;obtain⟨a,vs,rfl,h1,h2⟩:=jN iy;cases xq h2;exact uy pins s τ H _ _ v u Q I rx ry ⟨a,_,rfl,.inl ((jf H O).seq h1),rfl,zq ss,w _ _ (je.refl H) (by rw[bf,uj];exact j3 _)⟩
def cD(K:bw)(f:List D->(D->Prop)->Prop):List V->Hp->VK->Prop:=λvs H Q=>∃O ds,(∀a∈O,H a≠none)/\Iss K (jd H O) ds vs/\f ds (Wd K O H Q)
def Bi.val:Bi->bp
 |.abs=>.builtin "abs"
 |.max=>.builtin "max"
 |.min=>.builtin "min"
 |.len=>.builtin "len"
 |.int=>.type "int"
 |.list=>.type "list"
 |.sum=>.builtin "sum"
 |.all=>.builtin "all"
theorem Inv.moved{s s':Shared}{o:nW}(I:Inv X pins τ H s)(m:jfN [s.heap.objs.size] (λa b=>b=a) { s with heap:=s.heap.push o,toks:=tk } s'):Inv X pins τ H s':=by
 have k:∀b u,s.heap.get? b=some u->s'.heap.get? b=some u:=λb u e=>m.heap b u (λz=>by
  have:b=s.heap.objs.size:=by simpa using z
  exact absurd (bP e) (by rw[this];exact gB _)) (bB _ e)
 exact I.call' (ch:=[]) m.os (Un.kept k) (I.hok.kept k) (by rw[m.gens];exact I.bare) λ_ z=>nomatch z
theorem Ky(ns:List Int)(f:Nat->Int)(h:∀i,i<ns.length->ns[i]?=some (f i)):∀k,k<=ns.length->preSum f k=(ns.take k).sum
 |0,_=>by simp[preSum]
 |k+1,hk=>by
  rw[preSum,Ky ns f h k (by lia),List.take_add_one,h k (by lia)];simp
theorem xQ:∀ {ns:List Int} {us:List bp},jH (ns.map V.int) us->∀i v,us[i]?=some v->∃t,v=jfi (ns.getD i 0) t
 |[],us,r,i,v,h=>by cases r;simp at h
 |n::ns,us,r,i,v,h=>by
  cases r with
  |cons r1 r2 =>
   cases i with
   |zero=>simp at h;subst h;obtain⟨t,e⟩:=r1;exact⟨t,by simpa using e⟩
   |succ i=>simpa using xQ r2 i v (by simpa using h)
theorem Vi(hc:X.calm=true):xI X (.builtin "sum") (λvs H Q=>∃(a:Addr) (ns:List Int),vs=[.ref a]/\SqL X.K H a (ns.map V.int)/\Q (.int ns.sum) H):=by
 intro pins s τ H vs us Q I r h;obtain⟨a,ns,rfl,hq,q⟩:=h;obtain⟨u,rfl,e⟩:=ua r;cases e;obtain⟨its,rv,p,hz⟩:=I.list hq;have hl:=rv.length;rw[bj]at hl;obtain⟨o,n,ho,_⟩:=id p;have hne:a≠s.heap.objs.size:=gI (bP ho);have W:=(jfO (prog:=X.prog) (w:=X.w) (A:=X.A.in1) (I.ok.hd hc) s.heap.objs.size a hne its.toArray).toS;refine call_sum_walkAnyS (pW p.isList ⟨s.heap.objs.size,_,_,_,_,_,_,λi=>ns.getD i 0,rfl,W,⟨⟨_,dJ _ rfl,rfl,rfl⟩,?_⟩,λb hb=>?_,λi v hv=>xQ rv i v (by simpa using hv),λs' t' m=>?_⟩)
 ·obtain⟨o,n,ho,h1,h2,h3⟩:=p;exact⟨o,bB _ ho,h1,n,h3⟩
 ·rw[tP];simp only[bz,bK,or_false]at hb;rcases hb with z|z
  ·rw[z];exact t9 _
  ·rw[z];exact je7 (bP ho)
 ·have e:preSum (λi=>ns.getD i 0) its.toArray.size=ns.sum:=by
   rw[dw,<- hl];rw[Ky ns _ (λi hi=>by simp[hi]) _ (df _),List.take_length]
  exact⟨.int ns.sum,H,Inv.moved (tk:=s.toks) I m,⟨t',by rw[e]⟩,q⟩
theorem ZM{K:bw}{S:Hp}:∀ {ns:List Bool} {vs:List V},Iss K S (ns.map D.bl) vs->vs=ns.map V.bl
 |[],vs,h=>by simp only[dR]at h;unfold Iss at h;exact h
 |n::ns,vs,h=>by
  simp only[bq]at h;unfold Iss at h;obtain⟨v,r,rfl,i1,i2⟩:=h;rw[qj i1,ZM i2];rfl
theorem Xl:∀ {ns:List Bool} {us:List bp},jH (ns.map V.bl) us->∀i v,us[i]?=some v->v=td (ns.getD i true)
 |[],us,r,i,v,h=>by cases r;simp at h
 |n::ns,us,r,i,v,h=>by
  cases r with
  |cons r1 r2 =>
   cases i with
   |zero=>simp at h;subst h;cases r1;rfl
   |succ i=>exact Xl r2 i v (by simpa using h)
theorem U5(bs:List Bool):(bE bs.length).all (λi=>bs.getD i true)=bs.all id:=by
 rw[pN,ni,ni];constructor
 ·intro h b hb;obtain⟨i,hi,rfl⟩:=jeg.mp hb;have:=h i (by simpa using hi);simpa[hi]using this
 ·intro h i hi
  have hi':i<bs.length:=by simpa using hi
  have:=h bs[i] (dP hi');simpa[hi']using this
theorem VJ(hc:X.calm=true):xI X (.builtin "all") (λvs H Q=>∃(a:Addr) (ns:List Bool),vs=[.ref a]/\SqL X.K H a (ns.map V.bl)/\Q (.bl (ns.all id)) H):=by
 intro pins s τ H vs us Q I r h;obtain⟨a,ns,rfl,hq,q⟩:=h;obtain⟨u,rfl,e⟩:=ua r;cases e;obtain⟨its,rv,p,hz⟩:=I.list hq;have hl:=rv.length;rw[bj]at hl;obtain⟨o,n,ho,_⟩:=id p;have hne:a≠s.heap.objs.size:=gI (bP ho);have W:=(jfO (prog:=X.prog) (w:=X.w) (A:=X.A.in1) (I.ok.hd hc) s.heap.objs.size a hne its.toArray).toS;refine call_all_walkS (pW p.isList ⟨s.heap.objs.size,_,_,_,_,_,_,λi=>ns.getD i true,rfl,W,⟨⟨_,dJ _ rfl,rfl,rfl⟩,?_⟩,λi v s Q E hv hQ=>?_,λs' m=>?_⟩)
 ·obtain⟨o,n,ho,h1,h2,h3⟩:=p;exact⟨o,bB _ ho,h1,n,h3⟩
 ·rw[Xl rv i v (by simpa using hv)];exact mB hQ
 ·have e:(bE its.toArray.size).all (λi=>ns.getD i true)=ns.all id:=by
   rw[dw,<- hl];exact U5 ns
  exact⟨.bl (ns.all id),H,Inv.moved (tk:=s.toks) I m,by rw[e];rfl,q⟩
theorem yn{f:D->(D->Prop)->Prop}{Q:D->Prop}(w:v8 f xs Q):∃x,xs=[x]/\f x Q:=by
 match xs,w with
 |[x],w=>exact⟨x,rfl,w⟩
theorem two2_of{Q:D->Prop}(w:two2 f xs Q):∃x y,xs=[x,y]/\f x y Q:=by
 match xs,w with
 |[x,y],w=>exact⟨x,y,rfl,w⟩
theorem Jo{f:List D->(D->Prop)->Prop}{x:D}{Q:D->Prop}(w:yB f x Q):∃xs,x=.lst xs/\f xs Q:=by
 cases x<;>first|exact w.elim|exact⟨_,rfl,w⟩
theorem minD_of{Q:D->Prop}(w:minD ds Q):(∃x,ds=[x]/\yB (λxs Q=>∃ns:List Int,xs=ns.map .int/\ns ≠ []/\Q (.int (mmF false 0 ns))) x Q)\/∃x y,ds=[x,y]/\yO (λi j Q=>Q (.int (if j<i then j else i))) x y Q:=by
 cases ds with
 |nil=>exact w.elim
 |cons x r=>cases r with
  |nil=>exact .inl ⟨x,rfl,w⟩
  |cons y r=>cases r with
   |nil=>exact .inr ⟨x,y,rfl,w⟩
   |cons z r=>exact w.elim
theorem call_bi{f:Bi}(hc:X.calm=true):xI X f.val (cD X.K (biD f)):=by
 intro pins s τ H vs us Q I r w;obtain⟨O,ds,ho,is,w⟩:=w
 cases f with
 |abs =>
  obtain⟨x,rfl,w⟩:=yn w;obtain⟨v,rfl,i1⟩:=vR is
  cases x<;>first|exact w.elim|skip
  cases jr i1
  exact jb1 pins s τ H _ us Q I r ⟨_,rfl,w _ _ (je.refl H) (jK _)⟩
 |max =>
  obtain⟨x,y,rfl,w⟩:=two2_of w;obtain⟨i,j,rfl,rfl,w⟩:=kK w;obtain⟨v,v',rfl,i1,i2⟩:=iss2 is;cases jr i1;cases jr i2
  exact Vz hc pins s τ H _ us Q I r ⟨_,_,rfl,w _ _ (je.refl H) (jK _)⟩
 |min =>
  rcases minD_of w with⟨x,rfl,w⟩|⟨x,y,rfl,w⟩
  ·obtain⟨xs,rfl,ns,rfl,hn,w⟩:=Jo w;obtain⟨v,rfl,i1⟩:=vR is;obtain⟨a,vs,rfl,h1,h2⟩:=jN i1
   cases ns with
   |nil=>exact absurd rfl hn
   |cons n ns =>
    obtain⟨u,rfl,e1⟩:=ua r;cases e1;cases xq h2;exact UZ hc I ((jf H O).seq h1) (w _ _ (je.refl H) (jK _))
  ·obtain⟨i,j,rfl,rfl,w⟩:=kK w;obtain⟨v,v',rfl,i1,i2⟩:=iss2 is;cases jr i1;cases jr i2
   exact UU hc pins s τ H _ us Q I r ⟨_,_,rfl,w _ _ (je.refl H) (jK _)⟩
 |len =>
  obtain⟨x,rfl,w⟩:=yn w;obtain⟨v,rfl,i1⟩:=vR is
  cases x<;>first|exact w.elim|skip
  ·obtain⟨a,vs,rfl,h1,h2⟩:=qu i1;refine uI pins s τ H _ us Q I r ⟨a,vs,rfl,.inr ((kG (jf H O) h1)),?_⟩;rw[h2.length];exact w _ _ (je.refl H) (jK _)
  ·obtain⟨a,vs,rfl,h1,h2⟩:=jN i1;refine uI pins s τ H _ us Q I r ⟨a,vs,rfl,.inl ((jf H O).seq h1),?_⟩;rw[h2.length]
   exact w _ _ (je.refl H) (jK _)
 |int =>
  obtain⟨x,rfl,w⟩:=yn w;obtain⟨v,rfl,i1⟩:=vR is
  cases x<;>first|exact w.elim|skip
  ·cases qj i1;exact Kw pins s τ H _ us Q I r (.inr ⟨_,rfl,w _ _ (je.refl H) (jK _)⟩)
  ·cases jr i1
   exact Kw pins s τ H _ us Q I r (.inl ⟨_,rfl,w _ _ (je.refl H) (jK _)⟩)
 |list =>
  obtain⟨x,rfl,w⟩:=yn w;obtain⟨v,rfl,i1⟩:=vR is
  cases x<;>first|exact w.elim|skip
  ·obtain⟨a,vs,rfl,h1,h2⟩:=qu i1;exact qV pins s τ H _ us Q I r ⟨a,vs,rfl,.inr ((kG (jf H O) h1)),λl hl=>w _ _ (jL hl _) (qJ (SqL.of (yY ho hl)) (Iss.minus_upd hl h2))⟩
  ·obtain⟨a,vs,rfl,h1,h2⟩:=jN i1
   exact qV pins s τ H _ us Q I r ⟨a,vs,rfl,.inl ((jf H O).seq h1),λl hl=>w _ _ (jL hl _) (qJ (SqL.of (yY ho hl)) (Iss.minus_upd hl h2))⟩
 |sum =>
  obtain⟨x,rfl,w⟩:=yn w;obtain⟨xs,rfl,w1⟩:=Jo w;obtain⟨v,rfl,i1⟩:=vR is;obtain⟨a,vs,rfl,h1,h2⟩:=jN i1;obtain⟨ns,rfl,w2⟩:=w1;cases xq h2
  exact Vi hc pins s τ H _ us Q I r ⟨a,ns,rfl,(jf H O).seq h1,w2 _ _ (je.refl H) (jK _)⟩
 |all =>
  obtain⟨x,rfl,w⟩:=yn w;obtain⟨xs,rfl,w1⟩:=Jo w;obtain⟨v,rfl,i1⟩:=vR is;obtain⟨a,vs,rfl,h1,h2⟩:=jN i1;obtain⟨ns,rfl,w2⟩:=w1;cases ZM h2;exact VJ hc pins s τ H _ us Q I r ⟨a,ns,rfl,(jf H O).seq h1,w2 _ _ (je.refl H) (j3 _)⟩
theorem jbx(is:Iss K S xs vs)(e:atD xs i=some d):∃v,atI vs i=some v/\Is K S d v:=by
 have hl:=is.length;unfold atD at e;unfold atI ixN;by_cases h0:0<=i
 ·rw[if_pos h0]at e ⊢
  have hlt:i.toNat<xs.length:=by
   rcases b8 i.toNat xs.length with z|z
   ·exact z
   ·rw[bI z]at e;cases e
  rw[if_pos (by lia)];exact is.get e
 ·rw[if_neg h0]at e ⊢;by_cases h1:-(xs.length:Int)<=i
  ·rw[if_pos h1]at e;rw[if_pos (by lia),hl];exact is.get e
  ·rw[if_neg h1]at e;cases e
theorem ix_D:IxR X (rD X.K ixD):=by
 intro value slice pins s τ H xv yv v u Q I rx ry w hs;obtain⟨O,x,y,ho,ix,iy,w⟩:=w;unfold ixD at w;split at w
 ·obtain⟨a,vs,rfl,h1,h2⟩:=jN ix;cases jr iy;obtain⟨d,e,w⟩:=w;obtain⟨z,e1,e2⟩:=jbx h2 e;exact L2.ix_list value slice pins s τ H _ _ v u Q I rx ry ⟨a,vs,_,z,rfl,rfl,(jf H O).seq h1,e1,w _ _ (je.refl H) e2⟩ hs
 ·obtain⟨a,vs,rfl,h1,h2⟩:=qu ix;cases jr iy;obtain⟨d,e,w⟩:=w;obtain⟨z,e1,e2⟩:=jbx h2 e;exact L2.ix_tup value slice pins s τ H _ _ v u Q I rx ry ⟨a,vs,_,z,rfl,rfl,(kG (jf H O) h1),e1,w _ _ (je.refl H) e2⟩ hs
 ·exact w.elim
def tyName:D->String
 |.non=>"NoneType"
 |.bl _=>"bool"
 |.int _=>"int"
 |.str _=>"str"
 |.tup _=>"tuple"
 |.lst _=>"list"
def Ty.val:Ty->bp
 |.int=>.type "int"
 |.bool=>.type "bool"
 |.tuple=>.type "tuple"
 |.list=>.type "list"
 |.str=>.type "str"
theorem kit_ty(K:bw)(d:D)(t:Ty):PySem.W.kitOne K (.type (tyName d)) t.val=some (tyD t d):=by
 cases d<;>cases t<;>with_unfolding_all rfl
theorem jbk{t:Ty}{s:Shared}{Q:bp->Shared->Prop}(I:Inv X pins τ H s)(i:Is X.K H d v)(r:jV v u)(h:∀tk,Q (.bool (tyD t d)) { s with toks:=tk }) :
 wpAny (model X.prog X.w) X.A (call (.builtin "isinstance") [u,t.val]) Q E s:=by
 have e:=kit_ty X.K d t
 cases d with
 |non=>cases zY i;cases r;exact nM PySem.W.kitx_none I.kIn jeQ e (λz=>nomatch z) h
 |bl b=>cases qj i;cases r;exact nM PySem.W.kitx_bool I.kIn jeQ e (λz=>nomatch z) h
 |int n=>cases jr i;obtain⟨t,rfl⟩:=r;exact nM PySem.W.kitx_int I.kIn jeQ e (λz=>nomatch z) h
 |str x=>obtain⟨rfl,_⟩:=vS i;obtain⟨t,rfl⟩:=r;exact nM PySem.W.kitx_str I.kIn jeQ e (λz=>nomatch z) h
 |tup xs =>
  obtain⟨a,vs,rfl,h1,h2⟩:=qu i;cases r;obtain⟨its,rv,⟨o,e1,e2,n,e3⟩,_⟩:=I.tuple h1
  exact nM PySem.W.kitx_tuple I.kIn ⟨o,e1,e2⟩ e (λz=>nomatch z) h
 |lst xs =>
  obtain⟨a,vs,rfl,h1,h2⟩:=jN i;cases r;obtain⟨its,rv,pl,_⟩:=I.list h1;obtain⟨o,e1,e2,n,e3⟩:=pl.isList;exact nM PySem.W.kitx_list I.kIn ⟨o,e1,e2⟩ e (λz=>nomatch z) h
end
variable{e:Ex}{p:Pos}{tg:Expr}{st:Stmt}{H1:Hp}{J:It}
section
variable {X:Cx} {k:Ck} {C:Cfg}
theorem xY{e:Expr}(h:jaY e=false)(env:Env)(v:bp):mU e env v=pure v:=by
 cases e<;>first|rfl|exact bG h
def Its(lo st:Int)(n:Nat):It:=⟨λi _=>i<n,λi H x H'=>H'=H/\x=.int (lo+i*st),λi _=>n<=i⟩
theorem Vb(it:Addr)(lo st:Int)(n:Nat):Turn P w K tg (Its lo st n) [it] it (λi h=>IsRangeIter h it (lo+(i:Nat)*st) ((n:Int)-(i:Nat)) st) where
 mem:=by simp
 obj:=λi h s b hb=>by
  have e:b=it:=by simpa using hb
  subst e
  exact⟨_,s,λv z=>by
   have z':Data.fields _=Data.cell v:=z
   cases z'⟩
 keep:=λi h h' s k=>k it (by simp) _ s
 item:=by
  intro X hP hw hK hc i pins s σ H E I hf s1 hg;subst hP hw hK;obtain⟨f0,f1,f2,f3,f4,f5⟩:=hf it (by simp);have W:=Walks.range (prog:=X.prog) (w:=X.w) (I.ok.hd hc) it lo st n
  refine W.item i s _ _ hg s1 λv h' tk hv s2 kk=>?_
  obtain⟨t,rfl⟩:=hv;have I1:Inv X pins σ H { s with heap:=h',toks:=tk }:=I.turned (λb o hb e=>kk b o (by simpa using hb) e) f0 f1 f3 f4 f5;exact⟨_,rfl,jbt (s:={ s with heap:=h',toks:=tk }) (n:="range_iterator") s2 rfl rfl (by decide) ⟨.int (lo+i*st),H,I1,⟨t,rfl⟩,⟨rfl,rfl⟩,s2,λb hb=>(hf b hb).1⟩⟩
 done:=by
  intro X hP hw hK hc i pins s σ H E I hf s1 hg;subst hP hw hK;obtain⟨f0,f1,f2,f3,f4,f5⟩:=hf it (by simp)
  exact wpAny_pyNext_range_end (I.ok.hd hc) s1 (by have:n<=i:=hg;lia) λh' eb=>⟨rfl,I.turned (t':=s.toks) (λb o hb e=>eb b o hb e) f0 f1 f3 f4 f5⟩
 self:=λ_ _ _ _ _ s h=>wpAny_pyIter_rangeiter s h
theorem Y8{a b c:Int}(ha:qT a)(hb:qT b)(hc:0<c)(hc2:c<1000):jex a b c=true:=by
 unfold jex tL;unfold qT at ha hb;have h1:(b-a-1) / c*c<=b-a-1:=jdV _ (by lia)
 have h2:a<b->0<=(b-a-1) / c:=λh=>jdT (by lia) (by lia)
 have h3:a<b->(b-a-1) / c<=b-a-1:=λh=>Int.ediv_le_self _ (by lia)
 simp only[Builtin.Range.rangeFitsLong,bh,sW,decide_eq_true_eq,beq_iff_eq,show c > 0 from hc,if_true];by_cases h:a<b
 ·rw[if_pos h];generalize hq:(b-a-1) / c=q at *
  have e:(q+1)*c=q*c+c:=by rw[Int.add_mul,tK]
  have h2':=h2 h;have h3':=h3 h;lia
 ·rw[if_neg h];lia
theorem Qd{σ:L2.St}{s:Shared}{R:It->Hp->Prop}{lo hi st:Int}{u v:Tok}(I:Inv X pins σ H s)(h1:qT lo)(h2:qT hi)(h3:0<st)(h4:st<1000)
 (q:R (Its lo st (if lo<hi then (hi-lo-1) / st+1 else 0).toNat) H):wpAny (model X.prog X.w) X.A (pyIter (.ref s.heap.objs.size)) (PIE X pins σ tg R) E { s with heap:=s.heap.push { cls:=.type "range",data:=.fields #[.int lo t,.int hi u,.int st v] },toks:=tk }:=by
 refine wpAny_pyIter_range (IsRange.new ..) (Y8 h1 h2 h3 h4) ?_
 have I1:Inv X pins σ H { s with heap:=s.heap.push { cls:=.type "range",data:=.fields #[.int lo t,.int hi u,.int st v] },toks:=tk }:=I.kept λb o e=>bB _ e
 refine⟨(s.heap.push { cls:=.type "range",data:=.fields #[.int lo t,.int hi u,.int st v] }).objs.size,[(s.heap.push { cls:=.type "range",data:=.fields #[.int lo t,.int hi u,.int st v] }).objs.size],_,_,H,rfl,
  I1.kept (t':=tk) λb o e=>bB _ e,Vb _ lo st (if lo<hi then (hi-lo-1) / st+1 else 0).toNat,?_,λb hb=>?_,q⟩
 ·have e1:lo+((0:Nat):Int)*st=lo:=by simp
  have e2:(((if lo<hi then (hi-lo-1) / st+1 else 0).toNat:Nat):Int)-((0:Nat):Int)=tL lo hi st:=by
   unfold tL;rw[if_pos h3]
   have:lo<hi->0<=(hi-lo-1) / st:=λh=>jdT (by lia) (by lia)
   split<;>lia
  show IsRangeIter _ _ (lo+((0:Nat):Int)*st) ((((if lo<hi then (hi-lo-1) / st+1 else 0).toNat:Nat):Int)-((0:Nat):Int)) st;rw[e1,e2];exact dJ _ rfl
 ·have e:b=(s.heap.push { cls:=.type "range",data:=.fields #[.int lo t,.int hi u,.int st v] }).objs.size:=by simpa using hb
  subst e;exact I1.fpOk (df _) (I1.hok.fresh (df _))
def iRg(ta:TA):TI:=λσ H R=>ta σ H λvs H1=>∃lo hi st:Int,(vs=[.int hi]/\lo=0/\st=1\/vs=[.int lo,.int hi]/\st=1\/vs=[.int lo,.int hi,.int st])/\(qT lo/\qT hi/\0<st/\st<1000)/\R (Its lo st (if lo<hi then (hi-lo-1) / st+1 else 0).toNat) H1
theorem Ku{a:Expr}{as:List Expr}(hg:Gl X "range")(hm:X.mg "range"=none)(ha:PA X (a::as) ta)(hs:bU (a::as) X.env=(false,eval a X.env)::bU as X.env)(hpl:(backTo pos (bU as X.env)).any (·.1)=false):PI X tg (.Call (.Name "range" p) (a::as) [] pos) (iRg ta):=by
 intro pins s σ H R I h;refine Call_ (uV I hg hm boot_range (m8 (thn (ha pos pins s σ H _ I h) λus s1 ⟨vs,H1,I1,r1,q1⟩=>?_) hs hpl));obtain⟨lo,hi,st,e,⟨q1,q2,q3,q4⟩,q⟩:=q1;rcases e with⟨rfl,rfl,rfl⟩|⟨rfl,rfl⟩|rfl
 ·cases r1 with
  |cons r rr =>
   cases rr;obtain⟨t,rfl⟩:=r;exact call_range_1 (Qd I1 q1 q2 q3 q4 q)
 ·cases r1 with
  |cons r rr =>
   cases rr with
   |cons r' rr =>
    cases rr;obtain⟨t,rfl⟩:=r;obtain⟨t',rfl⟩:=r';exact call_range_2 (Qd I1 q1 q2 q3 q4 q)
 ·cases r1 with
  |cons r rr =>
   cases rr with
   |cons r' rr =>
    cases rr with
    |cons r'' rr =>
     cases rr;obtain⟨t,rfl⟩:=r;obtain⟨t',rfl⟩:=r';obtain⟨t'',rfl⟩:=r'';exact call_range_3 (by lia) (Qd I1 q1 q2 q3 q4 q) (.inl (PyProof.noPylong_small (by lia)))
theorem kX:∀(n:Nat) (lo st:Int) (i:Nat),i<n->(jW lo st n)[i]?=some (.int (lo+i*st))
 |0,lo,st,i,h=>by lia
 |n+1,lo,st,0,h=>by simp[jW]
 |n+1,lo,st,i+1,h=>by
  simp only[jW,List.getElem?_cons_succ];rw[kX n (lo+st) st i (by lia)];congr 2
  have:((i+1:Nat):Int)*st=i*st+st:=by rw[Int.natCast_add,Int.add_mul];simp
  lia
theorem jq:∀(n:Nat) (lo st:Int),(jW lo st n).length=n
 |0,lo,st=>rfl
 |n+1,lo,st=>by simp[jW,jq n]
theorem uZ{P:List D->Prop}(i:Iss K S ds vs)(w:rgD ds P) :
 ∃lo hi st:Int,(vs=[.int hi]/\lo=0/\st=1\/vs=[.int lo,.int hi]/\st=1\/vs=[.int lo,.int hi,.int st])/\(qT lo/\qT hi/\0<st/\st<1000)/\P (jW lo st (if lo<hi then (hi-lo-1) / st+1 else 0).toNat):=by
 unfold rgD at w;split at w
 ·next hi =>
  obtain⟨v,rfl,i1⟩:=vR i;cases jr i1;refine⟨0,hi,1,.inl ⟨rfl,rfl,rfl⟩,⟨by unfold qT;lia,w.1,by decide,by decide⟩,?_⟩
  have e:(if (0:Int)<hi then (hi-0-1) / 1+1 else 0).toNat=hi.toNat:=by
   rw[Int.ediv_one];split<;>lia
  rw[e];exact w.2
 ·exact w.elim
def Wlk(K:bw)(x:V)(H:Hp)(J:It):Prop:=∃a,x=.ref a/\((∃xs,SqL K H a xs)/\J=Itl K a\/(∃xs,SqT K H a xs)/\J=Itt K a)
def iSeq(K:bw)(tl:TE):TI:=λσ H R=>tl σ H λx H1=>∃J,Wlk K x H1 J/\R J H1
theorem z6{tl:TE}(hl:PE X l tl):PI X tg l (iSeq X.K tl):=by
 intro pins s σ H R I h
 refine thn (hl pins s σ H _ I h) λv s1 ⟨x,H1,I1,r1,J,hw,q⟩=>?_
 have fp:∀b ∈ [s1.heap.objs.size],vh X pins H1 b:=λb hb=>by
  have e:b=s1.heap.objs.size:=by simpa using hb
  subst e;exact I1.fpOk (df _) (I1.hok.fresh (df _))
 rcases hw with⟨a,rfl,⟨⟨xs,hq⟩,rfl⟩|⟨⟨xs,hq⟩,rfl⟩⟩
 ·cases r1;obtain⟨its,rv,p,hz⟩:=I1.list hq;exact pW p.isList ⟨s1.heap.objs.size,[s1.heap.objs.size],_,_,H1,rfl,I1.kept (t':=s1.toks) λb o e=>bB _ e,Vu a _,⟨_,dJ _ rfl,rfl,rfl⟩,fp,q⟩
 ·cases r1;obtain⟨its,rv,p,hz⟩:=I1.tuple hq;exact wpAny_pyIter_tuple (show s1.heap.IsTuple a its.toArray from p) ⟨s1.heap.objs.size,[s1.heap.objs.size],_,_,H1,rfl,I1.kept (t':=s1.toks) λb o e=>bB _ e,Zw a _,⟨_,dJ _ rfl,rfl,rfl⟩,fp,q⟩
theorem walk_of(e:itemsD d=some xs)(i:Is K (jd H1 O) d v):∃J,Wlk K v H1 J /\
 (∀j H O',je (jd H1 O) (jd H O')->j<xs.length->J.go j H)/\(∀j H O',je (jd H1 O) (jd H O')->xs.length<=j->J.stop j H) /\
 (∀j H O' v H' d,je (jd H1 O) (jd H O')->J.yld j H v H'->xs[j]?=some d->H'=H/\Is K (jd H O') d v):=by
 cases d with
 |lst ys =>
  cases e;obtain⟨a,vs,rfl,h5,h6⟩:=jN i;have hl:=h6.length
  have sq:∀ {H:Hp} {O':List Addr},je (jd H1 O) (jd H O')->SqL K H a vs:=λsm=>(jf _ _).seq (sm.seq h5)
  refine⟨_,⟨a,rfl,.inl ⟨⟨vs,(jf _ _).seq h5⟩,rfl⟩⟩,?_,?_,?_⟩
  ·intro j H O' sm hj;exact⟨vs,vs[j],sq sm,bD (by omega)⟩
  ·intro j H O' sm hj;exact⟨vs,sq sm,by omega⟩
  ·intro j H O' v H' d sm y hd;obtain⟨e2,y⟩:=y;obtain⟨z,e3,e4⟩:=h6.get hd;have:=y vs (sq sm);rw[e3]at this;cases this
   exact⟨e2,Is.mono sm d e4⟩
 |tup ys =>
  cases e;obtain⟨a,vs,rfl,h5,h6⟩:=qu i;have hl:=h6.length
  have sq:∀ {H:Hp} {O':List Addr},je (jd H1 O) (jd H O')->SqT K H a vs:=λsm=>kG (jf _ _) (kG sm h5)
  refine⟨_,⟨a,rfl,.inr ⟨⟨vs,(kG (jf _ _) h5)⟩,rfl⟩⟩,?_,?_,?_⟩
  ·intro j H O' sm hj;exact⟨vs,vs[j],sq sm,bD (by omega)⟩
  ·intro j H O' sm hj;exact⟨vs,sq sm,by omega⟩
  ·intro j H O' v H' d sm y hd;obtain⟨e2,y⟩:=y;obtain⟨z,e3,e4⟩:=h6.get hd;have:=y vs (sq sm);rw[e3]at this;cases this
   exact⟨e2,Is.mono sm d e4⟩
 |_=>cases e
theorem xE{z:Option Sl}:∀(i:Nat),getS (σ ++ [z]) i=if i<σ.length then getS σ i else if i=σ.length then z else none:=by
 induction σ with
 |nil =>
  intro i
  cases i with
  |zero=>rfl
  |succ i=>simp[getS]
 |cons a r ih =>
  intro i
  cases i with
  |zero=>simp[getS]
  |succ i =>
   show getS (r ++ [z]) i=_;rw[ih i];simp only[dU,Nat.add_lt_add_iff_right,Nat.add_right_cancel_iff];rfl
theorem Reps.snoc(R:Reps K O H σ τ)(h:Is K (jd H O) d v):Reps K O H (σ ++ [some (.sh d)]) (τ ++ [some v]) where
 len:=by simp[R.len]
 own:=R.own
 sh:=λi e g=>by
  rw[xE]at g;split at g
  ·next hi =>
   obtain⟨u,e1,e2⟩:=R.sh i e g;exact⟨u,by rw[dM (by rw[<- R.len];exact hi)];exact e1,e2⟩
  ·split at g
   ·next hi =>
    cases g;subst hi;exact⟨v,by rw[dN (by rw[R.len];exact df _),R.len];simp,h⟩
   ·cases g
 ow:=λi ds g=>by
  rw[xE]at g;split at g
  ·next hi =>
   obtain⟨a,vs,e1,e2⟩:=R.ow i ds g;exact⟨a,vs,by rw[dM (by rw[<- R.len];exact hi)];exact e1,e2⟩
  ·split at g<;>cases g
 dj:=λi j ds es hij g1 g2=>by
  rw[xE]at g1 g2;split at g1
  ·next hi =>
   split at g2
   ·next hj =>
    rw[dM (by rw[<- R.len];exact hi),dM (by rw[<- R.len];exact hj)];exact R.dj i j ds es hij g1 g2
   ·split at g2<;>cases g2
  ·split at g1<;>cases g1
 tt:=by
  have old:∀j z,getS (σ ++ [some (.sh d)]) j=some z->(∀d,z ≠ .sh d)->getS σ j=some z/\(τ ++ [some v])[j]?=τ[j]?:=λj z g n=>by
   rw[xE]at g;split at g
   ·next hj=>exact⟨g,dM (by rw[<- R.len];exact hj)⟩
   ·split at g
    ·cases g;exact absurd rfl (n _)
    ·cases g
  exact R.tt.step (λj rows g=>old j _ g λ_ z=>nomatch z) (λ_ _ _ _ _ _ _ t=>t) λ_ _ _ _ j ds b _ _ g q=>by
   obtain⟨g1,e⟩:=old j _ g λ_ z=>nomatch z
   exact .inl ⟨ds,g1,by rw[<- e];exact q⟩
theorem Iss.snoc(h:Iss K S ds vs)(g:Is K S d v):Iss K S (ds ++ [d]) (vs ++ [v]) :=
 h.append (by unfold Iss;exact⟨v,[],rfl,g,by unfold Iss;rfl⟩)
theorem comp_turnsGF(R1:Reps K O H1 σ τ)(hx:xs.length<=lim)
 (hgo:∀j H,je H1 H->j<xs.length->J.go j H) (hst:∀j H,je H1 H->xs.length<=j->J.stop j H)
 (hy:∀j H v H' d,je H1 H->J.yld j H v H'->xs[j]?=some d->je H H'/\Is K (jd H' O) d v)
 (w:kD (λd Q=>wpE C e (σ ++ [some (.sh d)]) Q) xs λys=>WdF K O H1 Q (.lst ys)) :
 ∃W:Nat->Nat->List V->Hp->Prop,(∃m,W 0 m [] H1)/\∀i m ys H,W i m ys H ->
  (J.stop i H/\ys.length<=sizeLine/\∀p,H p=none->Q (.ref p) (upd H p (.lst ys)))\/(J.go i H/\ys.length<sizeLine/\∀x H',J.yld i H x H'->tD K C e (τ ++ [some x]) H' λy H2=>∃m',m'<m/\W (i+1) m' (ys ++ [y]) H2):=by
 refine⟨λj m ys H=>m=xs.length-j/\j<=xs.length/\je H1 H/\∃ds,ds.length=j/\Iss K (jd H O) ds ys/\kD (λd Q=>wpE C e (σ ++ [some (.sh d)]) Q) (xs.drop j) λrest=>WdF K O H1 Q (.lst (ds++rest)),
  ⟨_,rfl,mL _,je.refl _,[],rfl,by unfold Iss;rfl,by simpa using w⟩,?_⟩
 rintro j m ys H ⟨rfl,hj,sm,ds,hd,is,w⟩
 have hl:ys.length=j:=by rw[is.length,hd]
 have R:=R1.mono sm
 have hlim:lim<=sizeLine:=by decide
 by_cases hlt:j<xs.length
 ·refine .inr ⟨hgo j H sm hlt,by lia,λx H' y=>?_⟩;obtain⟨e1,ix⟩:=hy j H x H' xs[j] sm y (bD hlt);rw[gC hlt]at w;rw[kD]at w;refine⟨_,O,(R.mono e1).snoc ix,ja e (λyd wy v H2 s2 i2=>?_) w⟩;refine⟨xs.length-(j+1),by lia,rfl,hlt,(sm.trans e1).trans s2,ds ++ [yd],by simp[hd],(Iss.mono (jc (e1.trans s2)) ds is).snoc i2,?_⟩;simpa using wy
 ·have e1:j=xs.length:=by lia
  refine .inl ⟨hst _ H sm (by lia),by lia,λp hp=>?_⟩;rw[tW (by lia)]at w;rw[kD]at w;rw[di]at w
  have h1:H1 p=none:=by
   cases q:H1 p with
   |none=>rfl
   |some o=>rw[sm p o q]at hp;cases hp
  exact w ds p _ ys rfl (sm.trans (jL hp _)) h1 (ju ..) (Iss.mono (ko (jL hp _) hp) ds is)
theorem comp_turnsG(R1:Reps K O H1 σ τ)(hx:xs.length<=lim)
 (hgo:∀j H,je H1 H->j<xs.length->J.go j H) (hst:∀j H,je H1 H->xs.length<=j->J.stop j H)
 (hy:∀j H v H' d,je H1 H->J.yld j H v H'->xs[j]?=some d->je H H'/\Is K (jd H' O) d v)
 (w:kD (λd Q=>wpE C e (σ ++ [some (.sh d)]) Q) xs λys=>Wd K O H1 Q (.lst ys)) :
 ∃W:Nat->Nat->List V->Hp->Prop,(∃m,W 0 m [] H1)/\∀i m ys H,W i m ys H ->
  (J.stop i H/\ys.length<=sizeLine/\∀p,H p=none->Q (.ref p) (upd H p (.lst ys)))\/(J.go i H/\ys.length<sizeLine/\∀x H',J.yld i H x H'->tD K C e (τ ++ [some x]) H' λy H2=>∃m',m'<m/\W (i+1) m' (ys ++ [y]) H2) :=
 comp_turnsGF R1 hx hgo hst hy (jU (f:=λd Q=>wpE C e (σ ++ [some (.sh d)]) Q) (λd _ _ hq=>ja e hq) _ (λys wy=>wy.wdF R1.own) w)
theorem ym(R1:Reps K O H1 σ τ)(hx:xs.length<=lim)
 (hgo:∀j H,je H1 H->j<xs.length->J.go j H) (hst:∀j H,je H1 H->xs.length<=j->J.stop j H)
 (hy:∀j H v H' d,je H1 H->J.yld j H v H'->xs[j]?=some d->H'=H/\Is K (jd H O) d v)
 (w:kD (λd Q=>wpE C e (σ ++ [some (.sh d)]) Q) xs λys=>Wd K O H1 Q (.lst ys)) :
 ∃W:Nat->Nat->List V->Hp->Prop,(∃m,W 0 m [] H1)/\∀i m ys H,W i m ys H ->
  (J.stop i H/\ys.length<=sizeLine/\∀p,H p=none->Q (.ref p) (upd H p (.lst ys)))\/(J.go i H/\ys.length<sizeLine/\∀x H',J.yld i H x H'->tD K C e (τ ++ [some x]) H' λy H2=>∃m',m'<m/\W (i+1) m' (ys ++ [y]) H2) :=
 comp_turnsG R1 hx hgo hst (λj H v H' d s y e=>by obtain⟨q,i⟩:=hy j H v H' d s y e;subst q;exact⟨je.refl _,i⟩) w
theorem Qi{c:Ex}(R1:Reps K O H1 σ τ)(hx:xs.length<=lim)
 (hgo:∀j H,je H1 H->j<xs.length->J.go j H) (hst:∀j H,je H1 H->xs.length<=j->J.stop j H)
 (hy:∀j H v H' d,je H1 H->J.yld j H v H'->xs[j]?=some d->H'=H/\Is K (jd H O) d v)
 (w:qN (λd Q=>wpE C c (σ ++ [some (.sh d)]) (isB Q)) (λd Q=>wpE C e (σ ++ [some (.sh d)]) Q) xs λys=>WdF K O H1 Q (.lst ys)) :
 ∃W:Nat->Nat->List V->Hp->Prop,(∃m,W 0 m [] H1)/\∀i m ys H,W i m ys H ->
  (J.stop i H/\ys.length<=sizeLine/\∀p,H p=none->Q (.ref p) (upd H p (.lst ys)))\/(J.go i H/\ys.length<sizeLine/\∀x H',J.yld i H x H'->tDT K C c (τ ++ [some x]) H' λb H1 =>
   if b=true then tD K C e (τ ++ [some x]) H1 λy H2=>∃m',m'<m/\W (i+1) m' (ys ++ [y]) H2 else ∃m',m'<m/\W (i+1) m' ys H1):=by
 refine⟨λj m ys H=>m=xs.length-j/\j<=xs.length/\je H1 H/\∃ds,ds.length<=j/\Iss K (jd H O) ds ys/\qN (λd Q=>wpE C c (σ ++ [some (.sh d)]) (isB Q)) (λd Q=>wpE C e (σ ++ [some (.sh d)]) Q) (xs.drop j) λrest=>WdF K O H1 Q (.lst (ds++rest)),
  ⟨_,rfl,mL _,je.refl _,[],df _,by unfold Iss;rfl,by simpa using w⟩,?_⟩
 rintro j m ys H ⟨rfl,hj,sm,ds,hd,is,w⟩;have hl:ys.length=ds.length:=is.length;have R:=R1.mono sm
 have hlim:lim<=sizeLine:=by decide
 by_cases hlt:j<xs.length
 ·refine .inr ⟨hgo j H sm hlt,by lia,λx H' y=>?_⟩;obtain⟨rfl,ix⟩:=hy j H x H' xs[j] sm y (bD hlt);rw[gC hlt]at w;rw[qN]at w;refine⟨_,O,R.snoc ix,ja c (λcd=>ka λb wb H2 s2=>?_) w⟩
  cases b with
  |true =>
   refine⟨_,O,(R.snoc ix).mono s2,ja e (λyd wy v H3 s3 i3=>?_) wb⟩;refine⟨xs.length-(j+1),by lia,rfl,hlt,(sm.trans s2).trans s3,ds ++ [yd],by simp;lia,(Iss.mono (jc (s2.trans s3)) ds is).snoc i3,?_⟩
   simpa using wy
  |false=>exact⟨xs.length-(j+1),by lia,rfl,hlt,sm.trans s2,ds,by lia,Iss.mono (jc s2) ds is,wb⟩
 ·have e1:j=xs.length:=by lia
  refine .inl ⟨hst _ H sm (by lia),by lia,λp hp=>?_⟩;rw[tW (by lia)]at w;rw[qN]at w;rw[di]at w
  have h1:H1 p=none:=by
   cases q:H1 p with
   |none=>rfl
   |some o=>rw[sm p o q]at hp;cases hp
  exact w ds p _ ys rfl (sm.trans (jL hp _)) h1 (ju ..) (Iss.mono (ko (jL hp _) hp) ds is)
theorem Kl{l1 l2:Addr}(R1:Reps K O H1 σ τ)(hx:(zD xs ys).length<=lim)
 (q1:SqL K H1 l1 vs) (q2:SqL K H1 l2 ws) (i1:Iss K (jd H1 O) xs vs) (i2:Iss K (jd H1 O) ys ws) (w:kD (λd Q=>wpE C e (σ ++ [some (.sh d)]) Q) (zD xs ys) λys=>Wd K O H1 Q (.lst ys)) :
 ∃W:Nat->Nat->List V->Hp->Prop,(∃m,W 0 m [] H1)/\∀i m ys H,W i m ys H ->
  ((Itz K l1 l2).stop i H/\ys.length<=sizeLine/\∀p,H p=none->Q (.ref p) (upd H p (.lst ys)))\/((Itz K l1 l2).go i H/\ys.length<sizeLine/\∀x H',(Itz K l1 l2).yld i H x H'->tD K C e (τ ++ [some x]) H' λy H2=>∃m',m'<m/\W (i+1) m' (ys ++ [y]) H2):=by
 have n1:=i1.length;have n2:=i2.length
 have ln:(zD xs ys).length=min xs.length ys.length:=by unfold zD;simp
 refine comp_turnsG R1 hx (λj H s hj=>?_) (λj H s hj=>?_) (λj H v H' d s y hd=>?_) w
 ·rw[ln]at hj;exact⟨vs,ws,vs[j]'(by lia),ws[j]'(by lia),s.seq q1,s.seq q2,bD _,bD _⟩
 ·rw[ln]at hj;exact⟨vs,ws,s.seq q1,s.seq q2,by lia⟩
 ·obtain⟨T,x,y,rfl,hT,hx',hy',rfl⟩:=y;have hz:(zD xs ys)[j]?=some d:=hd;unfold zD at hz;rw[bY]at hz
  cases hzz:(xs.zip ys)[j]? with
  |none=>rw[hzz]at hz;cases hz
  |some p =>
   rw[hzz]at hz;simp only[wU,gc]at hz;subst hz;obtain⟨a,b⟩:=p;obtain⟨e1,e2⟩:=List.getElem?_zip_eq_some.mp hzz;obtain⟨u1,g1,k1⟩:=i1.get e1;obtain⟨u2,g2,k2⟩:=i2.get e2;rw[hx' vs (s.seq q1)]at g1;rw[hy' ws (s.seq q2)]at g2;cases g1;cases g2;have s':=jL hT (.tup [x,y]);refine⟨s',Zy (yY (R1.mono s).own hT) ?_⟩;have sm:=jc (O:=O) (s.trans s');unfold Iss;refine⟨x,[y],rfl,Is.mono sm a k1,?_⟩;unfold Iss;exact⟨y,[],rfl,Is.mono sm b k2,by unfold Iss;rfl⟩
end
def blts:List Str:=["abs","max","min","len","int","list","isinstance","range","bool","tuple","str","sum","all","zip","any","divmod","reversed","sorted","enumerate"]
structure Ok (X:Cx) (k:Ck) (C:Cfg):Prop where
 N:X.N=k.N
 nd:X.N.Nodup
 names:X.env.scope.names=k.names
 kd:X.env.scope.kind=.function
 calm:X.calm=true
 xe:X.xe=λ_ _=>False
 units:X.A.units+100<cLine
 fns:∀i x n,k.fns[i]?=some (x,n)->∃f fd ps lv,FnOk X.prog X.w X.K X.mg X.base (CXz X.prog X.w X.mg) lv f fd ps (spD X.K n (C.fr i) (C.f2 i) (C.ct i))/\Room lv X.A/\X.mg x=some (.ref f)/\nr X.K (.ref f)=true/\uq X.K fd ps []
 cns:∀i x,k.cns[i]?=some x->∃u v,X.mg x=some u/\jV v u/\∀S,Is X.K S (C.cn i) v
 blt:∀x∈blts,X.mg x=none
 E:∀x,¬ C.E x
variable{i:Nat}{e t:Expr}{l:Addr}{sc:Scope}{env:Env}
section
variable {X:Cx} {k:Ck} {C:Cfg}
theorem jw{x:Ex}(h:chkE k x e=true)(es:List Expr)(env:Env):bU (e::es) env=(false,eval e env)::bU es env:=by
 have p:=uT h
 cases e<;>first|rfl|exact bG p
theorem kc:∀ {xs:List Ex} {es:List Expr} (h:kP k xs es=true) (pos:Pos) (env:Env),(backTo pos (bU es env)).any (·.1)=false
 |[],es,h,pos,env=>by rw[jR h];rfl
 |x::xs,es,h,pos,env=>by
  obtain⟨y,ys,rfl,h1,h2⟩:=jJ h;rw[jw h1];have:=kc h2 pos env;simpa[backTo]using this
theorem yh:∀ {xs:List Ex} {es:List Expr} (h:kP k xs es=true),xs.length=es.length
 |[],es,h=>by rw[jR h];rfl
 |x::xs,es,h=>by
  obtain⟨y,ys,rfl,h1,h2⟩:=jJ h;simp[yh h2]
theorem qi{C:Cfg}:∀(es:List Ex) {σ:Sto} {Q:List D->Prop},wpEs C es σ Q->wpEs C es σ λds=>ds.length=es.length/\Q ds
 |[],σ,Q,w=>by unfold wpEs at *;exact⟨rfl,w⟩
 |e::es,σ,Q,w=>by
  unfold wpEs at *;exact ja e (λd wd=>jm es (λds ⟨h1,h2⟩=>⟨by simp[h1],h2⟩) (qi es wd)) w
theorem Ok.vis(ok:Ok X k C)(h:k.loc i x=true):X.N[i]?=some x/\L2.Loc X.env.scope x/\(x == ("__debug__":Str))=false/\(x == ("__classdict__":Str))=false:=by
 unfold Ck.loc at h;simp only[bh,sW,decide_eq_true_eq,dE]at h;obtain⟨⟨⟨h1,h2⟩,h3⟩,h4⟩:=h;refine⟨by rw[ok.N];exact h1,?_,h3,h4⟩;unfold L2.Loc;rw[ok.names];exact h2
theorem Ok.gl(ok:Ok X k C)(h:k.gl x=true):Gl X x/\(x == ("__debug__":Str))=false/\x≠("__name__":Str):=by
 unfold Ck.gl at h;simp only[bh,decide_eq_true_eq,dE]at h;exact⟨by unfold Gl jfP;rw[ok.names];exact h.1.1,h.1.2,h.2⟩
theorem qW(h:L2.Loc sc x):Vis sc x:=h.elim .inl λz=>.inr (.inl z)
theorem QA{a b:Ex}(hm:∀ {x y:D} {Q Q':D->Prop},(∀d,Q d->Q' d)->f x y Q->f x y Q')(R:Reps K O H σ τ)
 (w:wpE C a σ λx=>wpE C b σ λy=>f x y (Wd K O H Q)):tOp (rD K f) (tD K C a) (tD K C b) τ H Q :=
 ⟨σ,O,R,ja a (λx wx xv H1 s1 i1=>⟨σ,O,R.mono s1,ja b (λy wy yv H2 s2 i2=>⟨O,x,y,(R.mono (s1.trans s2)).own,Is.mono (jc s2) x i1,i2,hm (λd=>Wd.mono (s1.trans s2)) wy⟩) wx⟩) w⟩
theorem tD_test{x:Ex}{Q:Bool->Hp->Prop}(h:tDT K C x τ H Q):tB (tD K C x) τ H Q:=by
 obtain⟨σ,O,R,w⟩:=h;refine⟨σ,O,R,ja x (λd wd v H1 s1 i1=>?_) w⟩
 cases d with
 |bl c=>exact⟨c,qj i1,wd H1 s1⟩
 |_=>exact wd.elim
def mtI(x:V)(xs:List V)(H:Hp)(Q:VK):Prop:=xs=[]/\∃i,x=.int i/\Q (.int (bits i)) H
theorem jb2:MtR X "int.bit_length" mtI:=by
 rintro pins s τ H x xs v us Q I rx rs ⟨rfl,i,rfl,q⟩;cases rs;obtain⟨t,rfl⟩:=rx;exact call_int_bit_length ⟨.int _,H,I.tok _,⟨_,rfl⟩,q⟩
def isiR(K:bw)(t:Ty)(n:String)(vs:List V)(H:Hp)(Q:VK):Prop:=∃O d v,vs=[v,.ty n]/\Is K (jd H O) d v/\Wd K O H Q (.bl (tyD t d))
def Ty.s:Ty->String
 |.int=>"int"
 |.bool=>"bool"
 |.tuple=>"tuple"
 |.list=>"list"
 |.str=>"str"
theorem Vr{t:Ty}:xI X (.builtin "isinstance") (isiR X.K t t.s):=by
 rintro pins s τ H vs us Q I r ⟨O,d,v,rfl,i,w⟩;obtain⟨u,w',rfl,r1,r2⟩:=Xc r
 have e:w'=t.val:=by
  have r2':w'=Value.type t.s:=r2
  rw[r2'];cases t<;>rfl
 subst e
 exact jbk I (Is.mono (jf H O) d i) r1 λtk=>qK (I.tok tk) w (j3 _) rfl
theorem ty_boot(t:Ty):si t.nm=some (.type t.s):=by
 cases t
 ·exact jd2
 ·exact PyProof.Rows.boot_bool
 ·exact PyProof.Rows.boot_tuple
 ·exact pJ
 ·exact PyProof.Rows.boot_str
theorem ty_blt(t:Ty):t.nm∈blts:=by cases t<;>decide
theorem jaW(f:Bi):f.nm∈blts:=by cases f<;>decide
theorem ja4{x:Ex}(h:chkE k x e=true):nX op e=false:=by
 have p:=uT h
 cases e<;>first|rfl|exact bG p
theorem ZS(h:zv e=false):ZO e:=by
 intro o i
 cases e<;>first|rfl|(exact bG h)
theorem UY{o:Expr}{n:Str}(h:jam o=true):jdj o n env (eval o env)=eval o env:=by
 cases o<;>first|rfl|skip
 next f as ks p =>
 cases f<;>first|rfl|skip
 cases as<;>first|rfl|skip
 cases ks<;>first|rfl|exact bG h
theorem kh{x:Ex}(p:PE X e (tD X.K C x))(he:∀whole,isTrue e X.env whole=(do let v <- whole;jeZ e.pos;sR [v] (truthy v))):PT X e (tDT X.K C x):=PT.imp (λ_ _ _=>tD_test) (pt_val p he)
theorem pw_of{op:BoolOp}{vs:List Expr}{t:TT}(h:PT X (.BoolOp op vs pos) t):PW X (.BoolOp op vs pos) t:=λwhole pins s τ H Q I w=>h pins s τ H Q I w
def KZ(cells:List (Str×Addr)):List (Str×nu)->List (Str×Addr)->List (Str×Addr)
 |[],cs=>cs
 |(n,kd)::r,cs=>KZ cells r (if kd == .free then (match cells.lookup n with|some c=>(n,c)::cs|none=>cs) else cs)
theorem Xf{cells:List (Str×Addr)}:∀(l:List (Str×nu)) (cs:List (Str×Addr)),(∀y c,(y,c)∈cs->cells.lookup y=some c)->∀y c,(y,c)∈KZ cells l cs->cells.lookup y=some c
 |[],cs,h,y,c,m=>h y c m
 |(n,kd)::r,cs,h,y,c,m=>by
  refine Xf r _ (λz d hz=>?_) y c m;split at hz
  ·split at hz
   ·next q =>
    rcases bz.mp hz with e|e
    ·cases e;exact q
    ·exact h z d e
   ·exact h z d hz
  ·exact h z d hz
theorem Q6{cells:List (Str×Addr)}:∀(l:List (Str×nu)) (cs:List (Str×Addr)) (z:Str×Addr),z∈cs->z∈KZ cells l cs
 |[],cs,z,h=>h
 |(n,kd)::r,cs,z,h=>by
  refine Q6 r _ z ?_;split
  ·split
   ·exact bo _ h
   ·exact h
  ·exact h
theorem Q9{cells:List (Str×Addr)}:∀(l:List (Str×nu)) (cs:List (Str×Addr)) (y:Str) (c:Addr),(y,.free)∈l->cells.lookup y=some c->(y,c)∈KZ cells l cs
 |[],cs,y,c,h,e=>nomatch h
 |(n,kd)::r,cs,y,c,h,e=>by
  rcases bz.mp h with z|z
  ·cases z;refine Q6 r _ _ ?_;simp only[beq_self_eq_true,if_true,e];exact bC ..
  ·exact Q9 r _ y c z e
theorem v5{l:List (Str×α)}{c:α}(h:l.lookup y=some c):(y,c)∈l:=mZ h
theorem YD{l:List (Str×α)}{c:α}(h:(y,c)∈l):∃d,l.lookup y=some d:=by
 induction l with
 |nil=>cases h
 |cons a r ih =>
  obtain⟨n,b⟩:=a;by_cases e:y=n
  ·subst e;exact⟨b,by simp[gF]⟩
  ·rcases bz.mp h with z|z
   ·cases z;exact absurd rfl e
   ·obtain⟨d,q⟩:=ih z;refine⟨d,?_⟩
    have:(y == n)=false:=by simpa using e
    rw[gF,this];exact q
theorem clos_of(h:∀y∈sc.names,y.2=.free->∃c,env.cells.lookup y.1=some c):closureFor sc env=pure (KZ env.cells sc.names []):=by
 simp only[closureFor];generalize ([]:List (Str×Addr))=cs;generalize sc.names=l at h
 induction l generalizing cs with
 |nil=>rfl
 |cons a r ih =>
  obtain⟨n,kd⟩:=a
  have ih':=λcs=>ih cs λy hy=>h y (bo _ hy)
  rw[sV];by_cases e:kd=.free
  ·subst e;obtain⟨c,hc⟩:=h (n,.free) (bC ..) rfl
   have e1:cellOf env n=pure c:=by unfold cellOf;rw[hc]
   simp only[beq_self_eq_true,if_true,e1,KZ];rw[hc];exact ih' _
  ·have e1:(kd == wj)=false:=by simpa using e
   simp only[e1,dG,if_false,KZ];exact ih' _
theorem Ok.rel(ok:Ok X k C)(sc:Scope):(jcQ sc X.env).names=XO sc.names k.names:=by
 unfold jcQ XO jfP;rw[ok.names,ok.kd];simp
theorem Ok.comp_nE(ok:Ok X k C)(h:xC k x sc=true):dum X.N ∉ X.N:=by
 unfold xC at h;simp only[bh,dE,jeh,decide_eq_false_iff_not]at h;rw[ok.N];exact h.2
theorem Ja{names out:List (Str×nu)}{kd:nu}(h:(XO names out).lookup y=some kd):∃kd',(y,kd')∈names/\(kd=kd'\/(kd'=.free/\kd=.cell)):=by
 have m:=v5 h;unfold XO at m;obtain⟨⟨n,q⟩,hq,e⟩:=bH.mp m;simp only at e;split at e
 ·next hc =>
  simp only[bh,beq_iff_eq]at hc;cases e;exact⟨q,hq,.inr ⟨hc.1,rfl⟩⟩
 ·cases e;exact⟨kd,hq,.inl rfl⟩
theorem Ok.comp(ok:Ok X k C)(h:xC k x sc=true)(xo:X.Ok):∃cl,CompOk X x sc cl:=by
 unfold xC at h;simp only[bh,dE,ni,decide_eq_true_eq,sW,beq_iff_eq,beq_eq_false_iff_ne,ne_eq]at h;obtain⟨⟨⟨⟨⟨⟨⟨⟨h1,h2⟩,h3⟩,h4⟩,h5⟩,h6⟩,h7⟩,h8⟩,h9⟩:=h
 have hc:∀y∈sc.names,y.2=.free->∃c,X.env.cells.lookup y.1=some c:=λy hy e=>by
  refine xo.has y.1 ?_;unfold jfP;rw[ok.names];rcases h6 y hy with(z|z)|z
  ·exact absurd e z
  ·exact .inl z
  ·exact .inr z
 have sub:∀y c,(KZ X.env.cells sc.names []).lookup y=some c->X.env.cells.lookup y=some c:=λy c e=>Xf _ _ (λ_ _ z=>absurd z (by simp)) y c (v5 e)
 refine⟨KZ X.env.cells sc.names [],clos_of hc,h1,h2,λy hy e=>?_,h4,λy e=>?_,λy hyx e=>?_,sub,by rw[ok.N];exact h7,by rw[ok.names,ok.N];exact h8⟩
 ·rcases h3 y hy with z|z
  ·exact absurd e z
  ·exact z
 ·rw[ok.rel]at e;obtain⟨kd,m,z|⟨_,z⟩⟩:=Ja e
  ·rcases h5 _ m with(q|q)|q
   ·exact absurd z.symm q
   ·exact .inl q
   ·refine .inr ⟨?_,by rw[ok.N];exact q.2⟩;rw[ok.N];simpa using q.1
  ·cases z
 ·rw[ok.rel]at e
  have m:(y,wj)∈sc.names:=by
   rcases e with e|e
   ·obtain⟨kd,m,z|⟨z,_⟩⟩:=Ja e
    ·exfalso;rw[<- z]at m
     have q:(y,sH)∈sc.names.filter λy=>y.2 == .cell:=sQ.mpr ⟨m,rfl⟩
     rw[h2]at q;split at q
     ·simp only[bz,wg,bK,or_false]at q;exact hyx q.1
     ·cases q
    ·rw[<- z];exact m
   ·obtain⟨kd,m,z|⟨_,z⟩⟩:=Ja e
    ·rw[z];exact m
    ·cases z
  obtain⟨c,hcc⟩:=hc _ m rfl;have k6:=h6 _ m;refine⟨?_,?_,YD (Q9 _ _ y c m hcc)⟩
  ·unfold Vis;rw[ok.names];rcases k6 with(z|z)|z
   ·exact absurd rfl z
   ·exact .inr (.inl z)
   ·exact .inr (.inr z)
  ·rw[ok.names];rcases k6 with(z|z)|z
   ·exact absurd rfl z
   ·intro q;simp only at z;rw[z]at q;cases q
   ·intro q;simp only at z;rw[z]at q;cases q
theorem Ok.block(ok:Ok X k C){cl:List (Str×Addr)}(h:xC k x sc=true)(co:CompOk X x sc cl)(s:Shared)(H:Hp)(fp:List Addr)(Ca:Addr):Ok (qf X s H fp x sc cl Ca) (k.block x sc) C where
 N:=by show qg X.N x=qg k.N x;rw[ok.N]
 nd:=Kg ok.nd (ok.comp_nE h) co.ne
 names:=ok.rel sc
 kd:=co.kind
 calm:=ok.calm
 xe:=rfl
 units:=ok.units
 fns:=ok.fns
 cns:=ok.cns
 blt:=ok.blt
 E:=ok.E
def tPt(K:bw)(C:Cfg)(l:Ex):TO:=λτ H R=>∃σ O,Reps K O H σ τ/\prt (kL l) (λQ=>wpE C l σ Q) λo=>∀H',je H H'->R o H'
theorem po_D{l:Ex}{lo:Option Expr}(h:(lo.isNone == kL l)=true)(p:∀x,lo=some x->kL l=false->PE X x (tD X.K C l)):PO X lo (tPt X.K C l):=by
 cases lo with
 |none =>
  have e:kL l=true:=by simpa using h
  intro pins s τ H R I w;obtain⟨σ,O,r,w⟩:=w;unfold prt at w;rw[if_pos e]at w
  exact po_none pins s τ H R I (w _ (je.refl H))
 |some x =>
  have e:kL l=false:=by simpa using h
  intro pins s τ H R I w;refine po_some (p x rfl e) pins s τ H R I ?_;obtain⟨σ,O,r,w⟩:=w;unfold prt at w;rw[if_neg (by rw[e];decide)]at w;refine⟨σ,O,r,ja l (λd wd v H1 s1 i1=>?_) w⟩
  cases d<;>first|exact wd.elim|(cases jr i1;exact⟨_,rfl,wd _ s1⟩)
theorem Iss.drop{K:bw}{S:Hp}:∀ {ds:List D} {vs:List V} (n:Nat),Iss K S ds vs->Iss K S (ds.drop n) (vs.drop n)
 |ds,vs,0,i=>i
 |[],vs,n+1,i=>by
  have:vs=[]:=by have:=i.length;simpa using this
  subst this
  simpa using i
 |d::ds,vs,n+1,i=>by
  unfold Iss at i;obtain⟨v,ws,rfl,_,i2⟩:=i;simpa using Iss.drop n i2
theorem Iss.take{K:bw}{S:Hp}:∀ {ds:List D} {vs:List V} (n:Nat),Iss K S ds vs->Iss K S (ds.take n) (vs.take n)
 |ds,vs,0,i=>by simp only[nE];unfold Iss;rfl
 |[],vs,n+1,i=>by
  have:vs=[]:=by have:=i.length;simpa using this
  subst this
  simpa using i
 |d::ds,vs,n+1,i=>by
  unfold Iss at i;obtain⟨v,ws,rfl,i1,i2⟩:=i;simp only[g9];unfold Iss;exact⟨v,_,rfl,i1,Iss.take n i2⟩
theorem jal(n d:Nat)(o:Option Int):sIx n d o=HT.sIx n d o:=by cases o<;>rfl
theorem Iss.cut(lo hi:Option Int)(i:Iss K S ds vs):Iss K S (yr ds lo hi) (Va vs lo hi):=by
 have l:=i.length;unfold yr Va;rw[jal,jal,<- l];exact(i.drop _).take _
theorem jct{f:List (List D)->Prop}{o:Option Sl}(w:otD f o):∃rows,o=some (.ot rows)/\f rows:=by
 match o,w with
 |some (.ot rows),w=>exact⟨rows,rfl,w⟩
mutual
theorem sB:∀ {X:Cx} {k:Ck} (ok:Ok X k C) (x:Ex) (e:Expr),chkE k x e=true->PE X e (tD X.K C x)/\PT X e (tDT X.K C x)
 |X,k,ok,.var i,e,h=>by
  replace h:=jb h;obtain⟨x,hx,h⟩:=h;obtain⟨pos,rfl⟩:=js hx;obtain⟨h1,h2,h3,h4⟩:=ok.vis h
  have p:PE X (.Name x pos) (tD X.K C (.var i)):=by
   refine PE.imp (λτ H Q w=>?_) (kB h1 (qW h2) h3 h4);obtain⟨σ,O,R,w⟩:=w;rw[wE_var]at w
   cases g:getS σ i with
   |none=>rw[g]at w;exact w.elim
   |some z =>
    rw[g]at w
    cases z with
    |sh d =>
     obtain⟨v,e1,e2⟩:=R.sh i d g
     exact⟨v,e1,w v H (je.refl H) e2⟩
    |ow ds=>exact w.elim
    |ot _=>exact w.elim
  exact⟨p,kh p λ_=>rfl⟩
 |X,k,ok,.cst d,e,h=>by
  replace h:=jb h;obtain⟨c,hx,h⟩:=h;obtain⟨j,pos,rfl⟩:=xR hx
  have p:PE X (.Constant c j pos) (tD X.K C (.cst d)):=by
   cases d with
   |non =>
    cases c<;>first|exact bG h|skip
    exact PE.imp (λτ H Q ⟨σ,O,R,w⟩=>by exact w _ _ (je.refl H) JO) jaP
   |bl b =>
    cases c<;>first|exact bG h|skip
    have e:_=_:=eq_of_beq h;subst e
    exact PE.imp (λτ H Q ⟨σ,O,R,w⟩=>by exact w _ _ (je.refl H) (j3 _)) V6
   |int i =>
    cases c<;>first|exact bG h|skip
    have e:_=_:=of_decide_eq_true h;subst e
    exact PE.imp (λτ H Q ⟨σ,O,R,w⟩=>by exact w _ _ (je.refl H) (jK _)) Y9
   |str x =>
    cases c<;>first|exact bG h|skip
    have h':=(bh _ _).mp h;have e:_=_:=of_decide_eq_true h'.1;subst e
    exact PE.imp (λτ H Q ⟨σ,O,R,w⟩=>by exact w _ _ (je.refl H) (X9 h'.2)) Ym
   |tup xs=>cases c<;>exact bG h
   |lst xs=>cases c<;>exact bG h
  exact⟨p,kh p λ_=>rfl⟩
 |X,k,ok,.con i,e,h=>by
  replace h:=jb h;obtain⟨x,hx,h⟩:=h;obtain⟨pos,rfl⟩:=js hx;rw[bh,decide_eq_true_eq]at h;obtain⟨u,v,h1,h2,h3⟩:=ok.cns i x h.1;obtain⟨g1,g2,g3⟩:=ok.gl h.2;have p:PE X (.Name x pos) (tD X.K C (.con i)):=PE.imp (λτ H Q ⟨σ,O,R,w⟩=>by exact w _ _ (je.refl H) (h3 _)) (K7 g1 h1 h2 g2)
  exact⟨p,kh p λ_=>rfl⟩
 |X,k,ok,.bin o a b,e,h=>by
  replace h:=jb h;obtain⟨⟨l,op,r⟩,hx,h⟩:=h;obtain⟨pos,rfl⟩:=JE hx;rw[bh,bh]at h;have p:PE X (.BinOp l op r pos) (tD X.K C (.bin o a b)):=PE.imp (t':=tD X.K C (.bin o a b)) (λτ H Q ⟨σ,O,R,w⟩=>by exact QA (f:=x5 o) Kb R w) (jaR (op_bin h.1.1) (sB ok a _ h.1.2).1 (sB ok b _ h.2).1)
  exact⟨p,kh p λ_=>rfl⟩
 |X,k,ok,.neg a,e,h=>by
  replace h:=jb h;obtain⟨⟨op,x⟩,hx,h⟩:=h;obtain⟨pos,rfl⟩:=jcF hx;rw[bh,decide_eq_true_eq]at h;obtain⟨ho,h⟩:=h;simp only at ho h;subst ho
  have p:PE X (.UnaryOp .USub x pos) (tD X.K C (.neg a)):=by
   refine PE.imp (λτ H Q w=>?_) (pe_un un_neg (sB ok a _ h).1);obtain⟨σ,O,R,w⟩:=w;refine⟨σ,O,R,ja a (λd wd v H1 s1 i1=>?_) w⟩
   cases d with
   |int i=>exact⟨i,jr i1,wd _ _ s1 (jK _)⟩
   |_=>exact wd.elim
  exact⟨p,kh p λ_=>rfl⟩
 |X,k,ok,.not a,e,h=>by
  replace h:=jb h;obtain⟨⟨op,x⟩,hx,h⟩:=h;obtain⟨pos,rfl⟩:=jcF hx;rw[bh,decide_eq_true_eq]at h;obtain⟨ho,h⟩:=h;simp only at ho h;subst ho;obtain⟨pa,ta⟩:=sB ok a _ h;refine⟨PE.imp (λτ H Q w=>?_) (pe_not pa),PT.imp (λτ H Q w=>?_) (pt_not ta)⟩
  ·obtain⟨σ,O,R,w⟩:=w;refine⟨σ,O,R,ja a (λd wd v H1 s1 i1=>?_) w⟩
   cases d with
   |bl c=>exact⟨c,qj i1,wd _ _ s1 (j3 _)⟩
   |_=>exact wd.elim
  ·obtain⟨σ,O,R,w⟩:=w;refine⟨σ,O,R,ja a (λd wd=>?_) w⟩
   cases d with
   |bl c=>exact λH' s'=>wd H' s'
   |_=>exact wd.elim
 |X,k,ok,.cmp o a b,e,h=>by
  replace h:=jb h;obtain⟨⟨l,ops,cs⟩,hx,h⟩:=h;obtain⟨pos,rfl⟩:=K9 hx;simp only[bh,decide_eq_true_eq]at h;obtain⟨⟨⟨⟨n1,n2⟩,h1⟩,h2⟩,h3⟩:=h
  match ops,n1,cs,n2,h1,h3 with
  |[op],_,[r],_,h1,h3 =>
   have h:(cOk o op r=true/\chkE k a l=true)/\chkE k b r=true:=⟨⟨h1,h2⟩,h3⟩
   have pa:=(sB ok a _ h.1.2).1;have pb:=(sB ok b _ h.2).1;refine⟨PE.imp (λτ H Q w=>?_) (UM (jau h.1.1 ok.units) pa pb (ja4 h.2)),PT.imp (λτ H Q w=>?_) (jcH (jau h.1.1 ok.units) pa pb (ja4 h.2))⟩
   ·obtain⟨σ,O,R,w⟩:=w;exact QA (f:=yD o) xZ R w
   ·obtain⟨σ,O,R,w⟩:=w;refine QA (f:=yD o) xZ R (ja a (λx wx=>ja b (λy wy=>xZ (o:=o) (λd wd v H1 s1 i1=>?_) wy) wx) w)
    cases d with
    |bl c=>exact⟨c,qj i1,wd H1 s1⟩
    |_=>exact wd.elim
 |X,k,ok,.and a b,e,h=>by
  replace h:=jb h;obtain⟨⟨op,vs,pos⟩,hx,h⟩:=h;have ee:=vC hx;subst ee;simp only[bh,decide_eq_true_eq]at h;obtain⟨⟨⟨ho,n1⟩,h1⟩,h2⟩:=h;subst ho
  match vs,n1,h1,h2 with
  |x::y::r,_,h1,h2 =>
   have h:chkE k a x=true/\(if r.isEmpty then chkE k b y else chkE k b (.BoolOp .And (y::r) pos))=true:=by
    refine⟨h1,?_⟩
    cases r with
    |nil=>simpa using h2
    |cons z r=>simpa using h2
   obtain⟨pa,ta⟩:=sB ok a _ h.1
   have hb:PE X (.BoolOp .And (y::r) pos) (tD X.K C b)/\PW X (.BoolOp .And (y::r) pos) (tDT X.K C b):=by
    cases r with
    |nil =>
     have:=sB ok b y h.2
     exact⟨Zi this.1,pw_and1 this.2⟩
    |cons z r =>
     have:=sB ok b (.BoolOp .And (y::z::r) pos) h.2;exact⟨this.1,pw_of this.2⟩
   refine⟨PE.imp (λτ H Q w=>?_) (X8 pa hb.1),PT.imp (λτ H Q w=>?_) (pw_and ta hb.2).pt⟩
   ·obtain⟨σ,O,R,w⟩:=w;refine⟨σ,O,R,ja a (λd wd v H1 s1 i1=>?_) w⟩
    cases d with
    |bl c =>
     refine⟨c,qj i1,?_⟩
     cases c with
     |true=>exact⟨σ,O,R.mono s1,ja b (λd=>Wd.mono s1) wd⟩
     |false=>exact wd _ _ s1 (j3 _)
    |_=>exact wd.elim
   ·obtain⟨σ,O,R,w⟩:=w;refine⟨σ,O,R,ja a (λd wd=>?_) w⟩
    cases d with
    |bl c =>
     intro H1 s1
     cases c with
     |true=>exact⟨σ,O,R.mono s1,ja b (λd=>ka λc q H' s'=>q H' (s1.trans s')) wd⟩
     |false=>exact wd H1 s1
    |_=>exact wd.elim
 |X,k,ok,.or a b,e,h=>by
  replace h:=jb h;obtain⟨⟨op,vs,pos⟩,hx,h⟩:=h;have ee:=vC hx;subst ee;simp only[bh,decide_eq_true_eq]at h;obtain⟨⟨⟨ho,n1⟩,h1⟩,h2⟩:=h;subst ho
  match vs,n1,h1,h2 with
  |x::y::r,_,h1,h2 =>
   have h:chkE k a x=true/\(if r.isEmpty then chkE k b y else chkE k b (.BoolOp .Or (y::r) pos))=true:=by
    refine⟨h1,?_⟩
    cases r with
    |nil=>simpa using h2
    |cons z r=>simpa using h2
   obtain⟨pa,ta⟩:=sB ok a _ h.1
   have hb:PE X (.BoolOp .Or (y::r) pos) (tD X.K C b)/\PW X (.BoolOp .Or (y::r) pos) (tDT X.K C b):=by
    cases r with
    |nil =>
     have:=sB ok b y h.2
     exact⟨Zi this.1,pw_or1 this.2⟩
    |cons z r =>
     have:=sB ok b (.BoolOp .Or (y::z::r) pos) h.2;exact⟨this.1,pw_of this.2⟩
   refine⟨PE.imp (λτ H Q w=>?_) (pe_or pa hb.1),PT.imp (λτ H Q w=>?_) (pw_or ta hb.2).pt⟩
   ·obtain⟨σ,O,R,w⟩:=w;refine⟨σ,O,R,ja a (λd wd v H1 s1 i1=>?_) w⟩
    cases d with
    |bl c =>
     refine⟨c,qj i1,?_⟩
     cases c with
     |false=>exact⟨σ,O,R.mono s1,ja b (λd=>Wd.mono s1) wd⟩
     |true=>exact wd _ _ s1 (j3 _)
    |_=>exact wd.elim
   ·obtain⟨σ,O,R,w⟩:=w;refine⟨σ,O,R,ja a (λd wd=>?_) w⟩
    cases d with
    |bl c =>
     intro H1 s1
     cases c with
     |false=>exact⟨σ,O,R.mono s1,ja b (λd=>ka λc q H' s'=>q H' (s1.trans s')) wd⟩
     |true=>exact wd H1 s1
    |_=>exact wd.elim
 |X,k,ok,.ife c a b,e,h=>by
  replace h:=jb h;obtain⟨⟨t,x,y⟩,hx,h⟩:=h;obtain⟨pos,rfl⟩:=jbQ hx;simp only[bh]at h;obtain⟨pc,tc⟩:=sB ok c _ h.1.1;obtain⟨pa,ta⟩:=sB ok a _ h.1.2;obtain⟨pb,tb⟩:=sB ok b _ h.2;refine⟨PE.imp (λτ H Q w=>?_) (XW tc pa pb),λpins s τ H Q I w=>?_⟩
  ·obtain⟨σ,O,R,w⟩:=w;refine⟨σ,O,R,ja c (λd wd=>?_) w⟩
   cases d with
   |bl k =>
    intro H1 s1
    cases k with
    |true=>exact⟨σ,O,R.mono s1,ja a (λd=>Wd.mono s1) wd⟩
    |false=>exact⟨σ,O,R.mono s1,ja b (λd=>Wd.mono s1) wd⟩
   |_=>exact wd.elim
  ·obtain⟨σ,O,R,w⟩:=w;refine isTrue_IfExp (thn (tc pins s τ H (λd H1=>if d=true then tDT X.K C a τ H1 Q else tDT X.K C b τ H1 Q) I ⟨σ,O,R,ja c (λd wd=>?_) w⟩) λd s1 ⟨H1,I1,q1⟩=>?_)
   ·cases d with
    |bl k =>
     intro H1 s1
     cases k with
     |true=>exact⟨σ,O,R.mono s1,ja a (λd=>ka λc q H' s'=>q H' (s1.trans s')) wd⟩
     |false=>exact⟨σ,O,R.mono s1,ja b (λd=>ka λc q H' s'=>q H' (s1.trans s')) wd⟩
    |_=>exact wd.elim
   ·cases d with
    |true=>exact ta pins s1 τ H1 Q I1 q1
    |false=>exact tb pins s1 τ H1 Q I1 q1
 |X,k,ok,.tup es,e,h=>by
  replace h:=jb h;obtain⟨xs,hx,h⟩:=h;obtain⟨j,pos,rfl⟩:=Zc hx;rw[bh,decide_eq_true_eq]at h
  have p:PE X (.Tuple xs j pos) (tD X.K C (.tup es)):=by
   refine PE.imp (λτ H Q w=>?_) (pe_tup (sA ok es xs h.2));obtain⟨σ,O,R,w⟩:=w;refine⟨σ,O,R,jm es (λds ⟨hl,wd⟩ vs H1 s1 i1=>⟨?_,λp hp=>?_⟩) (qi es w)⟩
   ·rw[i1.length,hl,yh h.2,pF];lia
   ·exact wd _ _ (s1.trans (jL hp _)) (Zy (yY (R.mono s1).own hp) (Iss.minus_upd hp i1))
  exact⟨p,kh p λ_=>rfl⟩
 |X,k,ok,.lst es,e,h=>by
  replace h:=jb h;obtain⟨xs,hx,h⟩:=h;obtain⟨pos,rfl⟩:=zV hx;rw[bh,decide_eq_true_eq]at h
  have p:PE X (.List xs pos) (tD X.K C (.lst es)):=by
   refine PE.imp (λτ H Q w=>?_) (KJ (sA ok es xs h.2));obtain⟨σ,O,R,w⟩:=w;refine⟨σ,O,R,jm es (λds ⟨hl,wd⟩ vs H1 s1 i1=>⟨?_,λp hp=>?_⟩) (qi es w)⟩
   ·rw[i1.length,hl,yh h.2,pF];lia
   ·exact wd _ _ (s1.trans (jL hp _)) (qJ (SqL.of (yY (R.mono s1).own hp)) (Iss.minus_upd hp i1))
  exact⟨p,kh p λ_=>rfl⟩
 |X,k,ok,.slc a l u,e,h=>by
  replace h:=jb h;obtain⟨⟨v,i⟩,hx,h⟩:=h;obtain⟨pos,rfl⟩:=zT hx;replace h:=jb h;obtain⟨⟨lo,hi⟩,hs,h⟩:=h;obtain⟨p2,e2⟩:=Xi hs;simp only at e2;subst e2;simp only[bh]at h;obtain⟨⟨⟨⟨ha,hl1⟩,hu1⟩,hl2⟩,hu2⟩:=h
  have pl:PO X lo (tPt X.K C l):=po_D hl1 λx ex nl=>by
   subst ex;rw[nl]at hl2;exact(sB ok l x hl2).1
  have pu:PO X hi (tPt X.K C u):=po_D hu1 λx ex nl=>by
   subst ex;rw[nl]at hu2;exact(sB ok u x hu2).1
  have p:PE X (.Subscript v (.Slice lo hi none p2) pos) (tD X.K C (.slc a l u)):=by
   refine PE.imp (λτ H Q w=>?_) (Xk ZV (sB ok a v ha).1 pl pu);obtain⟨σ,O,R,w⟩:=w;refine⟨σ,O,R,ja a (λd wd x H1 s1 i1=>⟨σ,O,R.mono s1,xS (λhq=>ja l hq) (λlo' wl H2 s2=>⟨σ,O,(R.mono s1).mono s2,xS (λhq=>ja u hq) (λhi' wh H3 s3=>?_) wl⟩) wd⟩) w⟩;have ss:=s2.trans s3
   cases d<;>first|exact wh.elim|skip
   next xs =>
   obtain⟨b,vs,rfl,h1,h2⟩:=jN i1;exact⟨b,vs,rfl,(jf _ _).seq ((jc ss).seq h1),λp hp=>wh _ _ ((s1.trans ss).trans (jL hp _)) (qJ (SqL.of (yY (((R.mono s1).mono s2).mono s3).own hp)) (Iss.minus_upd hp (Iss.cut lo' hi' (Iss.mono (jc ss) xs h2))))⟩
  exact⟨p,kh p λ_=>rfl⟩
 |X,k,ok,.ix a b,e,h=>by
  replace h:=jb h;obtain⟨⟨v,i⟩,hx,h⟩:=h;obtain⟨pos,rfl⟩:=zT hx;simp only[bh,dE]at h;have p:PE X (.Subscript v i pos) (tD X.K C (.ix a b)):=PE.imp (t':=tD X.K C (.ix a b)) (λτ H Q ⟨σ,O,R,w⟩=>by exact QA (f:=ixD) yL R w) (pe_ix ix_D (sB ok a _ h.1.2).1 (sB ok b _ h.2).1 (ZS h.1.1))
  exact⟨p,kh p λ_=>rfl⟩
 |X,k,ok,.call f es,e,h=>by
  replace h:=jb h;obtain⟨⟨x,xs,pos⟩,hx,h⟩:=h;obtain⟨q,rfl⟩:=jG hx;simp only[bh,decide_eq_true_eq]at h;obtain⟨⟨⟨h1,h2⟩,hne⟩,h4⟩:=h;obtain⟨y,ys,rfl⟩:=k8 hne;obtain⟨g1,g2,g3⟩:=ok.gl h2;obtain⟨fa,fd,ps,lv,F,hr,hm,hk,hb⟩:=ok.fns f x _ h1
  have hs:bU (y::ys) X.env=(false,eval y X.env)::bU ys X.env/\(backTo pos (bU ys X.env)).any (·.1)=false:=by
   cases es with
   |nil=>have:=jR h4;cases this
   |cons z zs =>
    obtain⟨y',ys',e',h5,h6⟩:=jJ h4;cases e';exact⟨jw h5 _ _,kc h6 _ _⟩
  have p:PE X (.Call (.Name x q) (y::ys) [] pos) (tD X.K C (.call f es)):=by
   refine PE.imp (λτ H Q w=>?_) (zh (CX:=CXz X.prog X.w X.mg) (E:=E0) (dvs:=[]) F hr g1 hm hk hb .nil XI (sA ok es _ h4) g2 hs.1 hs.2);obtain⟨σ,O,R,w⟩:=w;refine⟨σ,O,R,jm es (λds ⟨hl,wd⟩ vs H1 s1 i1=>?_) (qi es w)⟩;show spD X.K (y::ys).length (C.fr f) (C.f2 f) (C.ct f) (vs ++ []) H1 Q E0;rw[di];exact⟨O,ds,by rw[hl,yh h4],(R.mono s1).own,i1,wd.1,λd r=>((wd.2.1 d r).mono s1).rw (R.mono s1).own,λx hx=>(ok.E x (wd.2.2 x hx)).elim⟩
  exact⟨p,kh p λ_=>rfl⟩
 |X,k,ok,.bi f es,e,h=>by
  replace h:=jb h;obtain⟨⟨x,xs,pos⟩,hx,h⟩:=h;obtain⟨q,rfl⟩:=jG hx;simp only[bh,decide_eq_true_eq]at h;obtain⟨⟨⟨h1,h2⟩,hne⟩,h4⟩:=h;obtain⟨y,ys,rfl⟩:=k8 hne;subst h1;obtain⟨g1,g2,g3⟩:=ok.gl h2;have hm:=ok.blt _ (jaW f)
  have hs:bU (y::ys) X.env=(false,eval y X.env)::bU ys X.env/\(backTo pos (bU ys X.env)).any (·.1)=false:=by
   cases es with
   |nil=>have:=jR h4;cases this
   |cons z zs =>
    obtain⟨y',ys',e',h5,h6⟩:=jJ h4;cases e';exact⟨jw h5 _ _,kc h6 _ _⟩
  have w':∀τ H Q,tD X.K C (.bi f es) τ H Q->tCB (cD X.K (biD f)) (tDs X.K C es) τ H Q:=by
   rintro τ H Q ⟨σ,O,R,w⟩;exact⟨σ,O,R,jm es (λds wd vs H1 s1 i1=>⟨O,ds,(R.mono s1).own,i1,QT (λd=>Wd.mono s1) wd⟩) w⟩
  have cb:xI X f.val (cD X.K (biD f)):=call_bi ok.calm
  have p:PE X (.Call (.Name f.nm q) (y::ys) [] pos) (tD X.K C (.bi f es)):=by
   cases f with
   |abs=>exact PE.imp w' (kN (id:="abs") cb g1 hm PyProof.Rows.boot_abs (sA ok es _ h4) g3 g2 hs.1 hs.2)
   |max=>exact PE.imp w' (kN (id:="max") cb g1 hm PyProof.Rows.boot_max (sA ok es _ h4) g3 g2 hs.1 hs.2)
   |min=>exact PE.imp w' (kN (id:="min") cb g1 hm PyProof.Rows.boot_min (sA ok es _ h4) g3 g2 hs.1 hs.2)
   |len=>exact PE.imp w' (kN (id:="len") cb g1 hm PySem.boot_len (sA ok es _ h4) g3 g2 hs.1 hs.2)
   |int=>exact PE.imp w' (zw (T:="int") cb g1 hm jd2 (sA ok es _ h4) g3 g2 hs.1 hs.2)
   |list=>exact PE.imp w' (zw (T:="list") cb g1 hm pJ (sA ok es _ h4) g3 g2 hs.1 hs.2)
   |sum=>exact PE.imp w' (kN (id:="sum") cb g1 hm PyProof.Rows.boot_sum (sA ok es _ h4) g3 g2 hs.1 hs.2)
   |all=>exact PE.imp w' (kN (id:="all") cb g1 hm PyProof.Rows.boot_all (sA ok es _ h4) g3 g2 hs.1 hs.2)
  exact⟨p,kh p λ_=>rfl⟩
 |X,k,ok,.meth m o,e,h=>by
  replace h:=jb h;obtain⟨⟨fe,xs,ks,pos⟩,hx,h⟩:=h;have ee:=xH hx;subst ee;simp only[bh]at h;obtain⟨⟨n1,n2⟩,h⟩:=h;replace h:=jb h;obtain⟨⟨v,x,ap⟩,hy,h⟩:=h;have ee:=yk hy;subst ee;simp only[bh,decide_eq_true_eq]at h
  match xs,n1,ks,n2 with
  |[],_,[],_ =>
   obtain⟨⟨⟨h1,h2⟩,h3⟩,h4⟩:=h;subst h1
   have p:PE X (.Call (.Attribute v m.nm ap) [] [] pos) (tD X.K C (.meth m o)):=by
    cases m with
    |bitlen =>
     refine PE.imp (λτ H Q w=>?_) (pe_bm0 (T:="int") PySem.F.plainAttrs_int PySem.F.slot_int_bit_length PySem.F.type_int_bit_length jb2 (sB ok o _ h4).1 (UY h2) h3);obtain⟨σ,O,R,w⟩:=w;refine⟨σ,O,R,ja o (λd wd v H1 s1 i1=>?_) w⟩
     cases d with
     |int i=>cases jr i1;exact⟨rfl,rfl,i,rfl,wd _ _ s1 (jK _)⟩
     |_=>exact wd.elim
   exact⟨p,kh p λ_=>rfl⟩
 |X,k,ok,.isi a t,e,h=>by
  replace h:=jb h;obtain⟨⟨x,xs,pos⟩,hx,h⟩:=h;obtain⟨q,rfl⟩:=jG hx;simp only[bh,decide_eq_true_eq]at h;obtain⟨⟨⟨⟨⟨h1,h2⟩,n1⟩,h3⟩,h4⟩,h5⟩:=h;obtain⟨y,ny,rfl⟩:=xx n1;obtain⟨q',rfl⟩:=js h3;have h5:chkE k a y=true:=h5
  try simp only at h1 h2
  subst h1;obtain⟨g1,g2,g3⟩:=ok.gl h2;obtain⟨k1,k2,k3⟩:=ok.gl h4;have pn:PE X (.Name t.nm q') (tC (.ty t.s)):=ZI k1 (ok.blt _ (ty_blt t)) (ty_boot t) rfl k3 k2
  have p:PE X (.Call (.Name "isinstance" q) [y,.Name t.nm q'] [] pos) (tD X.K C (.isi a t)):=by
   refine PE.imp (λτ H Q w=>?_) (kN (Vr (t:=t)) g1 (ok.blt _ (by decide)) mX (jM (sB ok a _ h5).1 (jM pn kH rfl) (jw h5 _ _)) g3 g2 (jw h5 _ _) rfl);obtain⟨σ,O,R,w⟩:=w;exact⟨σ,O,R,ja a (λd wd v H1 s1 i1=>⟨O,d,v,rfl,i1,wd.mono s1⟩) w⟩
  exact⟨p,kh p λ_=>rfl⟩
 |X,k,ok,.compR es b,e,h=>by
  replace h:=jb h;obtain⟨⟨elt,x,iter,sc⟩,hz,h⟩:=h;obtain⟨px,pos,rfl⟩:=kU hz;simp only[bh]at h;obtain⟨⟨h1,h2⟩,h3⟩:=h;replace h2:=jb h2;obtain⟨⟨f,args,p2⟩,hcn,h2⟩:=h2;obtain⟨q,e2⟩:=jG hcn;subst e2;simp only[bh,decide_eq_true_eq,dE]at h2;obtain⟨⟨⟨hf,hg⟩,hne⟩,ha⟩:=h2;subst hf;obtain⟨g1,_,_⟩:=ok.gl hg
  have p:PE X (.ListComp elt [⟨.Name x px,.Call (.Name "range" q) args [] p2,[],0⟩] sc pos) (tD X.K C (.compR es b)):=by
   cases args with
   |nil=>simp at hne
   |cons y ys =>
    have hs:bU (y::ys) X.env=(false,eval y X.env)::bU ys X.env/\(backTo p2 (bU ys X.env)).any (·.1)=false:=by
     cases es with
     |nil=>have:=jR ha;cases this
     |cons z zs =>
      obtain⟨y',ys',e',h5,h6⟩:=jJ ha;cases e';exact⟨jw h5 _ _,kc h6 _ _⟩
    intro pins s τ H Q I w;obtain⟨cl,co⟩:=ok.comp h1 I.ok;refine yb (te:=tD X.K C b) ok.calm ok.nd (ok.comp_nE h1) co (Ku g1 (ok.blt _ (by decide)) (sA ok es _ ha) hs.1 hs.2) (λ_ _ _ _=>qy) (λs H fp Ca=>(sB (ok.block h1 co s H fp Ca) b elt h3).1) (λ_=>rfl) pins s τ H Q I ?_;obtain⟨σ,O,R,w⟩:=w;refine⟨σ,O,R,jm es (λds wd vs H1 s1 i1=>?_) w⟩;obtain⟨lo,hi,st,e,c,hx,wd⟩:=uZ i1 wd;refine⟨lo,hi,st,e,c,?_⟩;refine ym (R.mono s1) hx ?_ ?_ ?_ (jU (f:=λd Q=>wpE C b (σ ++ [some (.sh d)]) Q) (λd _ _ hq=>ja b hq) _ (λys wy=>wy.mono s1) wd)
    ·intro j H _ hj;rw[jq]at hj;exact hj
    ·intro j H _ hj;rw[jq]at hj;exact hj
    ·intro j H v H' d _ y hd;obtain⟨e1,e2⟩:=y
     have hj:j<(if lo<hi then (hi-lo-1) / st+1 else 0).toNat:=by
      rcases b8 j (if lo<hi then (hi-lo-1) / st+1 else 0).toNat with z|z
      ·exact z
      ·rw[bI (by rw[jq];exact z)]at hd;cases hd
     rw[kX _ _ _ _ hj]at hd;cases hd;exact⟨e1,by rw[e2];exact jK _⟩
  exact⟨p,kh p λ_=>rfl⟩
 |X,k,ok,.compE a b,e,h=>by
  replace h:=jb h;obtain⟨⟨elt,x,iter,sc⟩,hz,h⟩:=h;obtain⟨px,pos,rfl⟩:=kU hz;simp only[bh,dE]at h;obtain⟨⟨⟨h1,hn⟩,ha⟩,h3⟩:=h
  have p:PE X (.ListComp elt [⟨.Name x px,iter,[],0⟩] sc pos) (tD X.K C (.compE a b)):=by
   intro pins s τ H Q I w;obtain⟨cl,co⟩:=ok.comp h1 I.ok;refine yb (te:=tD X.K C b) ok.calm ok.nd (ok.comp_nE h1) co (z6 (sB ok a iter ha).1) (λ_ _ _ _=>qy) (λs H fp Ca=>(sB (ok.block h1 co s H fp Ca) b elt h3).1) (xY hn _) pins s τ H Q I ?_;obtain⟨σ,O,R,w⟩:=w;refine⟨σ,O,R,ja a (λd wd v H1 s1 i1=>?_) w⟩;obtain⟨xs,e1,hx,wd⟩:=wd;have wd':=jU (f:=λd Q=>wpE C b (σ ++ [some (.sh d)]) Q) (λd _ _ hq=>ja b hq) _ (λys (wy:Wd X.K O H Q (.lst ys))=>wy.mono s1) wd;obtain⟨J,hw,g1,g2,g3⟩:=walk_of e1 i1;exact⟨J,hw,ym (R.mono s1) hx (λj H2 s2=>g1 j H2 O (jc s2)) (λj H2 s2=>g2 j H2 O (jc s2)) (λj H2 v H' d s2=>g3 j H2 O v H' d (jc s2)) wd'⟩
  exact⟨p,kh p λ_=>rfl⟩
 |X,k,ok,.oix i a,e,h=>by
  replace h:=jb h;obtain⟨⟨ob,ix⟩,hx,h⟩:=h;obtain⟨pos,rfl⟩:=zT hx;simp only[bh,dE]at h;obtain⟨⟨h1,h2⟩,h3⟩:=h;replace h2:=jb h2;obtain⟨x,hn,h2⟩:=h2;obtain⟨q,rfl⟩:=js hn;obtain⟨k1,k2,k3,k4⟩:=ok.vis h2
  have p:PE X (.Subscript (.Name x q) ix pos) (tD X.K C (.oix i a)):=by
   refine PE.imp (λτ H Q w=>?_) (pe_ix L2.ix_list (kB k1 (qW k2) k3 k4) (sB ok a ix h3).1 (ZS h1));obtain⟨σ,O,R,w⟩:=w;rw[wE_oix]at w
   cases g:getS σ i with
   |none=>rw[g]at w;exact w.elim
   |some z =>
    rw[g]at w
    cases z with
    |sh d=>exact w.elim
    |ot _=>exact w.elim
    |ow ds =>
     obtain⟨ad,vs,e1,e2,e3,e4⟩:=R.ow i ds g;refine⟨.ref ad,e1,σ,O,R,ja a (λy wy v H1 s1 i1=>?_) w⟩
     cases y with
     |int n =>
      obtain⟨d,e5,wd⟩:=wy;cases jr i1;obtain⟨u,e6,i6⟩:=jbx e4 e5
      exact⟨ad,vs,n,u,rfl,rfl,SqL.of (s1 _ _ e3),e6,wd u H1 s1 (Is.mono (jc s1) d i6)⟩
     |_=>exact wy.elim
  exact⟨p,kh p λ_=>rfl⟩
 |X,k,ok,.compZ a b c,e,h=>by
  replace h:=jb h;obtain⟨⟨elt,x,iter,sc⟩,hz,h⟩:=h;obtain⟨px,pos,rfl⟩:=kU hz;simp only[bh]at h;obtain⟨⟨h1,h2⟩,h3⟩:=h;replace h2:=jb h2;obtain⟨⟨f,args,p2⟩,hcn,h2⟩:=h2;obtain⟨q,e2⟩:=jG hcn;subst e2;simp only[bh,decide_eq_true_eq]at h2;obtain⟨⟨⟨⟨hf,hg⟩,hn⟩,ha⟩,hb⟩:=h2;subst hf;obtain⟨g1,_,_⟩:=ok.gl hg;obtain⟨y1,y2,rfl⟩:=xx hn;have ha:chkE k a y1=true:=ha;have hb:chkE k b y2=true:=hb
  have p:PE X (.ListComp elt [⟨.Name x px,.Call (.Name "zip" q) [y1,y2] [] p2,[],0⟩] sc pos) (tD X.K C (.compZ a b c)):=by
   intro pins s τ H Q I w;obtain⟨cl,co⟩:=ok.comp h1 I.ok;refine yb (te:=tD X.K C c) ok.calm ok.nd (ok.comp_nE h1) co (jcD g1 (ok.blt _ (by decide)) (jM (sB ok a y1 ha).1 (jM (sB ok b y2 hb).1 kH (jw hb _ _)) (jw ha _ _)) (jw ha _ _) (by rw[jw hb];rfl)) (λ_ _ _ _=>qy) (λs H fp Ca=>(sB (ok.block h1 co s H fp Ca) c elt h3).1) (λ_=>rfl) pins s τ H Q I ?_;obtain⟨σ,O,R,w⟩:=w;refine⟨σ,O,R,ja a (λd wd v H1 s1 i1=>⟨σ,O,R.mono s1,ja b (λd2 wd2 v2 H2 s2 i2=>?_) wd⟩) w⟩;obtain⟨xs,ys,⟨rfl,rfl⟩,hx,wz⟩:=wd2;have i1':=Is.mono (jc s2) _ i1;obtain⟨ad,vs,rfl,hq,hv⟩:=jN i1';obtain⟨ad2,ws,rfl,hq2,hv2⟩:=jN i2;have hq':=(jf _ _).seq hq;have hq2':=(jf _ _).seq hq2;have s12:=s1.trans s2;exact⟨ad,ad2,rfl,⟨vs,hq'⟩,⟨ws,hq2'⟩,Kl (R.mono s12) hx hq' hq2' hv hv2 (jU (f:=λd Q=>wpE C c (σ ++ [some (.sh d)]) Q) (λd _ _ hq=>ja c hq) _ (λys wy=>wy.mono s12) wz)⟩
  exact⟨p,kh p λ_=>rfl⟩
theorem sA:∀ {X:Cx} {k:Ck} (ok:Ok X k C) (xs:List Ex) (es:List Expr),kP k xs es=true->PA X es (tDs X.K C xs)
 |X,k,ok,[],es,h=>by
  rw[jR h]
  exact PA.imp (λτ H Q ⟨σ,O,R,w⟩=>by unfold wpEs at w;exact w _ _ (je.refl H) (by unfold Iss;rfl)) kH
 |X,k,ok,x::xs,es,h=>by
  obtain⟨e,es,rfl,h1,h2⟩:=jJ h;refine PA.imp (λτ H Q w=>?_) (jM (sB ok x e h1).1 (sA ok xs es h2) (jw h1 _ _));obtain⟨σ,O,R,w⟩:=w;unfold wpEs at w;exact⟨σ,O,R,ja x (λd wd v H1 s1 i1=>⟨σ,O,R.mono s1,jm xs (λds wds vs H2 s2 i2=>wds _ _ (s1.trans s2) (by unfold Iss;exact⟨v,vs,rfl,Is.mono (jc s2) d i1,i2⟩)) wd⟩) w⟩
end
def uY(e:Expr):Bool:=(U1 e).isSome
theorem Zx(ok:Ok X k C)(z:Ex)(e:Expr)(h:chkE k z e=true)(hc:uY e=true):∃(x:Str) (px:Pos) (iter elt:Expr) (ifs:List Expr) (sc:Scope) (pos:Pos) (wi:TI) (tt:TT) (te:TE),e=.ListComp elt [⟨.Name x px,iter,ifs,0⟩] sc pos/\xC k x sc=true/\PI X (.Name x px) iter wi/\(∀v,mU iter X.env v=pure v) /\
 (∀cl,CompOk X x sc cl->(∀s H fp Ca,PTs (qf X s H fp x sc cl Ca) ifs tt)/\∀s H fp Ca,PE (qf X s H fp x sc cl Ca) elt te)/\∀τ H Q,tD X.K C z τ H Q->zQ wi tt te τ H Q:=by
 cases z with
 |compR es b =>
  replace h:=jb h;obtain⟨⟨elt,x,iter,sc⟩,hz,h⟩:=h;obtain⟨px,pos,rfl⟩:=kU hz;simp only[bh]at h;obtain⟨⟨h1,h2⟩,h3⟩:=h;replace h2:=jb h2;obtain⟨⟨f,args,p2⟩,hcn,h2⟩:=h2;obtain⟨q,e2⟩:=jG hcn;subst e2;simp only[bh,decide_eq_true_eq,dE]at h2;obtain⟨⟨⟨hf,hg⟩,hne⟩,ha⟩:=h2;subst hf;obtain⟨g1,_,_⟩:=ok.gl hg
  cases args with
  |nil=>simp at hne
  |cons y ys =>
   have hs:bU (y::ys) X.env=(false,eval y X.env)::bU ys X.env/\(backTo p2 (bU ys X.env)).any (·.1)=false:=by
    cases es with
    |nil=>have:=jR ha;cases this
    |cons z zs =>
     obtain⟨y',ys',e',h5,h6⟩:=jJ ha;cases e';exact⟨jw h5 _ _,kc h6 _ _⟩
   refine⟨x,px,_,elt,[],sc,pos,_,tYes,tD X.K C b,rfl,h1,Ku g1 (ok.blt _ (by decide)) (sA ok es _ ha) hs.1 hs.2,λ_=>rfl,λcl co=>⟨λ_ _ _ _=>qy,λs H fp Ca=>(sB (ok.block h1 co s H fp Ca) b elt h3).1⟩,λτ H Q w=>?_⟩;obtain⟨σ,O,R,w⟩:=w;refine⟨σ,O,R,jm es (λds wd vs H1 s1 i1=>?_) w⟩;obtain⟨lo,hi,st,e,c,hx,wd⟩:=uZ i1 wd;refine⟨lo,hi,st,e,c,?_⟩;refine ym (R.mono s1) hx ?_ ?_ ?_ (jU (f:=λd Q=>wpE C b (σ ++ [some (.sh d)]) Q) (λd _ _ hq=>ja b hq) _ (λys wy=>wy.mono s1) wd)
   ·intro j H _ hj;rw[jq]at hj;exact hj
   ·intro j H _ hj;rw[jq]at hj;exact hj
   ·intro j H v H' d _ y hd;obtain⟨e1,e2⟩:=y
    have hj:j<(if lo<hi then (hi-lo-1) / st+1 else 0).toNat:=by
     rcases b8 j (if lo<hi then (hi-lo-1) / st+1 else 0).toNat with z|z
     ·exact z
     ·rw[bI (by rw[jq];exact z)]at hd;cases hd
    rw[kX _ _ _ _ hj]at hd;cases hd
    exact⟨e1,by rw[e2];exact jK _⟩
 |compE a b =>
  replace h:=jb h;obtain⟨⟨elt,x,iter,sc⟩,hz,h⟩:=h;obtain⟨px,pos,rfl⟩:=kU hz;simp only[bh,dE]at h;obtain⟨⟨⟨h1,hn⟩,ha⟩,h3⟩:=h;refine⟨x,px,iter,elt,[],sc,pos,_,tYes,tD X.K C b,rfl,h1,z6 (sB ok a iter ha).1,xY hn _,λcl co=>⟨λ_ _ _ _=>qy,λs H fp Ca=>(sB (ok.block h1 co s H fp Ca) b elt h3).1⟩,λτ H Q w=>?_⟩;obtain⟨σ,O,R,w⟩:=w;refine⟨σ,O,R,ja a (λd wd v H1 s1 i1=>?_) w⟩;obtain⟨xs,e1,hx,wd⟩:=wd;have wd':=jU (f:=λd Q=>wpE C b (σ ++ [some (.sh d)]) Q) (λd _ _ hq=>ja b hq) _ (λys (wy:Wd X.K O H Q (.lst ys))=>wy.mono s1) wd;obtain⟨J,hw,g1,g2,g3⟩:=walk_of e1 i1
  exact⟨J,hw,ym (R.mono s1) hx (λj H2 s2=>g1 j H2 O (jc s2)) (λj H2 s2=>g2 j H2 O (jc s2)) (λj H2 v H' d s2=>g3 j H2 O v H' d (jc s2)) wd'⟩
 |compZ a b c =>
  replace h:=jb h;obtain⟨⟨elt,x,iter,sc⟩,hz,h⟩:=h;obtain⟨px,pos,rfl⟩:=kU hz;simp only[bh]at h;obtain⟨⟨h1,h2⟩,h3⟩:=h;replace h2:=jb h2;obtain⟨⟨f,args,p2⟩,hcn,h2⟩:=h2;obtain⟨q,e2⟩:=jG hcn;subst e2;simp only[bh,decide_eq_true_eq]at h2;obtain⟨⟨⟨⟨hf,hg⟩,hn⟩,ha⟩,hb⟩:=h2;subst hf;obtain⟨g1,_,_⟩:=ok.gl hg;obtain⟨y1,y2,rfl⟩:=xx hn;have ha:chkE k a y1=true:=ha;have hb:chkE k b y2=true:=hb;refine⟨x,px,_,elt,[],sc,pos,_,tYes,tD X.K C c,rfl,h1,jcD g1 (ok.blt _ (by decide)) (jM (sB ok a y1 ha).1 (jM (sB ok b y2 hb).1 kH (jw hb _ _)) (jw ha _ _)) (jw ha _ _) (by rw[jw hb];rfl),λ_=>rfl,λcl co=>⟨λ_ _ _ _=>qy,λs H fp Ca=>(sB (ok.block h1 co s H fp Ca) c elt h3).1⟩,λτ H Q w=>?_⟩;obtain⟨σ,O,R,w⟩:=w;refine⟨σ,O,R,ja a (λd wd v H1 s1 i1=>⟨σ,O,R.mono s1,ja b (λd2 wd2 v2 H2 s2 i2=>?_) wd⟩) w⟩;obtain⟨xs,ys,⟨rfl,rfl⟩,hx,wz⟩:=wd2;have i1':=Is.mono (jc s2) _ i1;obtain⟨ad,vs,rfl,hq,hv⟩:=jN i1';obtain⟨ad2,ws,rfl,hq2,hv2⟩:=jN i2;have hq':=(jf _ _).seq hq;have hq2':=(jf _ _).seq hq2;have s12:=s1.trans s2
  exact⟨ad,ad2,rfl,⟨vs,hq'⟩,⟨ws,hq2'⟩,Kl (R.mono s12) hx hq' hq2' hv hv2 (jU (f:=λd Q=>wpE C c (σ ++ [some (.sh d)]) Q) (λd _ _ hq=>ja c hq) _ (λys wy=>wy.mono s12) wz)⟩
 |_ =>
  exfalso;obtain⟨⟨a,b,c⟩,q⟩:=jdi.mp hc;obtain⟨p,rfl⟩:=jaT q
  first|exact bG (show false=true from h)|(obtain⟨y,hy,_⟩:=jb h;first|cases hy|(simp[ke,xO]at hy))
end
def xW:Stmt->Option (List Expr×Expr)
 |.Assign ts v _=>some (ts,v)
 |_=>none
def XS:Stmt->Option (Option Expr)
 |.Return v _=>some v
 |_=>none
def Uu:Stmt->Option (Expr×List Stmt×List Stmt)
 |.If t x y _=>some (t,x,y)
 |_=>none
def asWhl:Stmt->Option (Expr×List Stmt×List Stmt)
 |.While t x y _=>some (t,x,y)
 |_=>none
def Ks:Stmt->Option (Expr×Expr×List Stmt×List Stmt)
 |.For t i x y _=>some (t,i,x,y)
 |_=>none
def isBrk:Stmt->Bool
 |.Break _=>true
 |_=>false
def isCnt:Stmt->Bool
 |.Continue _=>true
 |_=>false
def Xg:Stmt->Option Expr
 |.Expr e _=>some e
 |_=>none
local macro_rules | `(tactic|exists $r,$h:ident,$e:ident)=>`(tactic|(refine Z.inv $r $h ?_;clear $h;(first|induction $e:ident using jeO|induction $e:ident using jeP)<;>first|exact Z.nI rfl|(intro x h;cases h;first|rfl|exact⟨_,rfl⟩|exact⟨_,_,rfl⟩)))
theorem K3{s:Stmt}(h:Xg s=some e):∃p,s=.Expr e p:=by exists (λx e=>∃p,e=.Expr x p),h,s
def uB:Sm->Bool
 |.shr _=>true
 |.shrT _=>true
 |.hlfT _=>true
 |_=>false
theorem isShr_{s:Sm}(h:uB s=true):∃i,s=.shr i\/s=.shrT i\/s=.hlfT i:=by cases s<;>first|exact⟨_,.inl rfl⟩|exact⟨_,.inr (.inl rfl)⟩|exact⟨_,.inr (.inr rfl)⟩|exact bG h
variable{ts:List Expr}
theorem xf{s:Stmt}{v:Expr}(h:xW s=some (ts,v)):∃p,s=.Assign ts v p:=by exists (λx e=>∃p,e=.Assign x.1 x.2 p),h,s
theorem Qb{s:Stmt}{v:Option Expr}(h:XS s=some v):∃p,s=.Return v p:=by exists (λx e=>∃p,e=.Return x p),h,s
variable{x y:List Stmt}
theorem X3{s:Stmt}(h:Uu s=some (t,x,y)):∃p,s=.If t x y p:=by exists (λx e=>∃p,e=.If x.1 x.2.1 x.2.2 p),h,s
theorem asWhl_{s:Stmt}(h:asWhl s=some (t,x,y)):∃p,s=.While t x y p:=by exists (λx e=>∃p,e=.While x.1 x.2.1 x.2.2 p),h,s
theorem vW{s:Stmt}{i:Expr}(h:Ks s=some (t,i,x,y)):∃p,s=.For t i x y p:=by exists (λx e=>∃p,e=.For x.1 x.2.1 x.2.2.1 x.2.2.2 p),h,s
theorem isBrk_{s:Stmt}:isBrk s=true->∃p,s=.Break p:=by induction s using Stmt.casesOn<;>first|exact bG|exact λ_=>⟨_,rfl⟩
theorem isCnt_{s:Stmt}:isCnt s=true->∃p,s=.Continue p:=by induction s using Stmt.casesOn<;>first|exact bG|exact λ_=>⟨_,rfl⟩
def uG(ts:List Expr):Option Expr:=if ts.length=1 then ts[0]? else none
theorem yS(h:uG ts=some t):ts=[t]:=by
 unfold uG at h
 match ts with
 |[]=>simp at h
 |[a]=>simp at h;rw[h]
 |_::_::_=>simp at h
def ZU(ts:List Stmt):Option Stmt:=if ts.length=1 then ts[0]? else none
theorem V9{ts:List Stmt}{t:Stmt}(h:ZU ts=some t):ts=[t]:=by
 unfold ZU at h;split at h
 ·next hl =>
  match ts,hl with
  |[x],_=>simp at h;rw[h]
 ·cases h
def frE:Ex->Bool
 |.bin .add _ _=>true
 |.bi .list _=>true
 |_=>false
def frL:Ex->Bool
 |.compR _ _=>true
 |.compE _ _=>true
 |.slc _ _ _=>true
 |x=>frE x
def frI:Ex->Bool
 |.call _ _=>true
 |x=>frL x
def frG:Ex->Bool
 |.compR _ b=>frI b
 |.compE _ b=>frI b
 |_=>false
def Jd(k:Ck):List Nat->List Expr->Bool
 |[],es=>es.isEmpty
 |i::is,es=>!es.isEmpty&&((jv (es.getD 0 (.Tuple [] 0 ⟨0,0,0,0⟩))).any λx=>k.loc i x)&&Jd k is (es.drop 1)
theorem Zf{is:List Nat}(h:Jd k (i::is) es=true):∃x p ys,es=.Name x p::ys/\k.loc i x=true/\Jd k is ys=true:=by
 rw[Jd]at h
 cases es with
 |nil=>simp at h
 |cons y ys =>
  simp only[bh,d6,gk]at h;obtain⟨x,hx,hl⟩:=jb h.1.2;have hx':jv y=some x:=hx;obtain⟨p,rfl⟩:=js hx';exact⟨x,p,ys,rfl,hl,h.2⟩
def vo(k:Ck)(j:Nat):RSt->Stmt->Bool
 |.app v,s=>(Xg s).any λz=>(xO z).any λc=>c.2.2.1.isEmpty&&decide (c.2.1.length=1)&&((yE c.1).any λy=>decide (y.2.1=("append":Str))&&((jv y.1).any λx=>k.loc j x)&&(y.2.2.endLine == c.2.2.2.line))&&chkE k v (c.2.1.getD 0 z)
 |.sto none e v,s=>(xW s).any λz=>(uG z.1).any λt=>(Jz t).any λu=>!zv u.2 && !uY z.2&&((jv u.1).any λx=>k.loc j x)&&chkE k e u.2&&chkE k v z.2
 |.sto (some c) e v,s=>(Uu s).any λy=>y.2.2.isEmpty&&chkE k c y.1&&(ZU y.2.1).any λs=>(xW s).any λz=>(uG z.1).any λt=>(Jz t).any λu=>!zv u.2 && !uY z.2&&((jv u.1).any λx=>k.loc j x)&&chkE k e u.2&&chkE k v z.2
def jbW(k:Ck)(j:Nat):List RSt->List Stmt->Bool
 |[],ss=>ss.isEmpty
 |r::rs,ss=>!ss.isEmpty&&vo k j r (ss.getD 0 (.Pass ⟨0,0,0,0⟩))&&jbW k j rs (ss.drop 1)
mutual
noncomputable def xw(k:Ck):Sm->Stmt->Bool
 |.set i e,s=>(xW s).any λz=>(uG z.1).any λt=>(jv t).any λx=>k.loc i x&&chkE k e z.2
 |.unp is e,s=>(xW s).any λz=>(uG z.1).any λt=>(UK t).any λts=>Jd k is ts&&(UK z.2).isNone&&chkE k e z.2
 |.ret e,s=>(XS s).any λv=>v.any λv=>chkE k e v
 |.ite c a b,s=>(Uu s).any λz=>chkE k c z.1&&yC k a z.2.1&&yC k b z.2.2
 |.whl c b,s=>(asWhl s).any λz=>z.2.2.isEmpty&&chkE k c z.1&&yC k b z.2.1
 |.forR i es b,s=>(Ks s).any λz=>(jv z.1).any λx=>(ke z.2.1).any λc=>z.2.2.2.isEmpty&&k.loc i x&&decide (c.1=("range":Str))&&k.gl c.1 && !c.2.1.isEmpty&&kP k es c.2.1&&yC k b z.2.2.1
 |.forE i e b,s=>(Ks s).any λz=>(jv z.1).any λx=>z.2.2.2.isEmpty&&k.loc i x && !jaY z.2.1&&chkE k e z.2.1&&yC k b z.2.2.1
 |.brk,s=>isBrk s
 |.cnt,s=>isCnt s
 |.never,_=>true
 |.new i,s=>(xW s).any λz=>(uG z.1).any λt=>(jv t).any λx=>k.loc i x&&(Xw z.2).any (·.isEmpty)
 |.app i e,s=>(Xg s).any λz=>(xO z).any λc=>c.2.2.1.isEmpty&&decide (c.2.1.length=1)&&((yE c.1).any λy=>decide (y.2.1=("append":Str))&&((jv y.1).any λx=>k.loc i x)&&(y.2.2.endLine == c.2.2.2.line))&&chkE k e (c.2.1.getD 0 z)
 |.sto i e v,s=>(xW s).any λz=>(uG z.1).any λt=>(Jz t).any λu=>!zv u.2&&((jv u.1).any λx=>k.loc i x)&&chkE k e u.2&&chkE k v z.2
 |.shr _,_=>false
 |.retX _ _ _,_=>false
 |.raiseA _ _,_=>false
 |.tryR _ _ _,_=>false
 |.ext i e,s=>(Xg s).any λz=>(xO z).any λc=>c.2.2.1.isEmpty&&decide (c.2.1.length=1)&&((yE c.1).any λy=>decide (y.2.1=("extend":Str))&&((jv y.1).any λx=>k.loc i x)&&(y.2.2.endLine == c.2.2.2.line))&&chkE k e (c.2.1.getD 0 z)
 |.forN i e b,s=>(Ks s).any λz=>(jv z.1).any λx=>(ke z.2.1).any λc=>z.2.2.2.isEmpty&&k.loc i x&&decide (c.1=("enumerate":Str))&&k.gl c.1&&decide (c.2.1.length=1)&&chkE k e (c.2.1.getD 0 z.2.1)&&yC k b z.2.2.1
 |.forU i j m e,s=>(Ks s).any λz=>(jv z.1).any λx=>(jv z.2.1).any λy=>z.2.2.2.isEmpty&&k.loc i x&&k.loc j y&&decide (i≠j)&&decide (m≠j)&&(ZU z.2.2.1).any λb=>(xW b).any λq=>(uG q.1).any λt=>(jv t).any λu=>k.loc m u && !uY q.2&&chkE k e q.2
 |.retG e,s=>(XS s).any λv=>v.any λv=>frG e&&chkE k e v
 |.setG i f es,s=>(xW s).any λz=>(uG z.1).any λt=>(jv t).any λx=>k.loc i x&&((ke z.2).any λc=>decide (k.fns[f]?=some (c.1,c.2.1.length))&&k.gl c.1 && !c.2.1.isEmpty&&kP k es c.2.1)
 |.ownG i e,s=>(xW s).any λz=>(uG z.1).any λt=>(jv t).any λx=>k.loc i x&&frG e&&chkE k e z.2
 |.cpO _ i es c b,s=>(xW s).any λy=>(uG y.1).any λt=>(jv t).any λx=>k.loc i x&&((Qj y.2).any λz=>xC k z.2.1 z.2.2.2.1&&((ke z.2.2.1).any λc=>decide (c.1=("range":Str))&&k.gl c.1 && !c.2.1.isEmpty&&kP k es c.2.1)&&chkE (k.block z.2.1 z.2.2.2.1) c z.2.2.2.2&&chkE (k.block z.2.1 z.2.2.2.1) b z.1)
 |.forT j i ss,s=>(Ks s).any λz=>(jv z.1).any λx=>(jv z.2.1).any λy=>z.2.2.2.isEmpty&&k.loc j x&&k.loc i y&&decide (i≠j)&&jbW k j ss z.2.2.1
 |.shrT _,_=>false
 |.hlfT _,_=>false
 |.nop,_=>false
 |.seq _ _,_=>false
noncomputable def yC(k:Ck):Sm->List Stmt->Bool
 |.nop,ss=>ss.isEmpty
 |.seq a b,ss=>if uB a then yC k b ss else !ss.isEmpty&&xw k a (ss.getD 0 (.Pass ⟨0,0,0,0⟩))&&yC k b (ss.drop 1)
 |_,_=>false
end
variable{ss:List Stmt}
theorem jbe{a b:Sm}(hs:uB a=true)(h:yC k (.seq a b) ss=true):yC k b ss=true:=by
 rw[yC,if_pos hs]at h;exact h
theorem Vg{a b:Sm}(hs:uB a=false)(h:yC k (.seq a b) ss=true):∃s r,ss=s::r/\xw k a s=true/\yC k b r=true:=by
 rw[yC,if_neg (by rw[hs];decide)]at h
 cases ss with
 |nil=>simp at h
 |cons s r =>
  simp only[bh,d6,gk]at h;exact⟨s,r,rfl,h.1.2,h.2⟩
structure Good (O₀:List Addr) (H₀:Hp) (O:List Addr) (H:Hp):Prop where
 same:je H₀ H
 sub:∀a∈O₀,a∈O
 new:∀a∈O,a∈O₀\/H₀ a=none
variable{O₀:List Addr}{H₀:Hp}
theorem Good.mono(g:Good O₀ H₀ O H)(e:je H H'):Good O₀ H₀ O H':=⟨g.same.trans e,g.sub,g.new⟩
def MT(O₀:List Addr)(H:Hp)(σ:Sto)(τ:L2.St):Prop:=∀(i:Nat) (rows:List (List D)) (a:Addr) (as:List Addr),getS σ i=some (.ot rows)->τ[i]?=some (some (.ref a))->H a=some (.lst (as.map .ref))->a ∉ O₀/\∀b∈as,b ∉ O₀
theorem MT.step(h:MT O₀ H σ τ)(hT:∀i rows,getS σ' i=some (.ot rows)->getS σ i=some (.ot rows)/\τ'[i]?=τ[i]?)
 (hH:∀i rows a,getS σ i=some (.ot rows)->τ[i]?=some (some (.ref a))->H' a=H a):MT O₀ H' σ' τ':=λi rows a as g e t=>by
 obtain⟨g0,e0⟩:=hT i rows g;rw[e0]at e;rw[hH i rows a g0 e]at t;exact h i rows a as g0 e t
theorem OT.same(h:OT K O H σ τ)(e:je H H'):∀i rows a,getS σ i=some (.ot rows)->τ[i]?=some (some (.ref a))->H' a=H a:=λi rows a g q=>by
 obtain⟨b,as,e1,t,_⟩:=h.1 i rows g;rw[q]at e1;cases e1;rw[t.top];exact e _ _ t.top
structure RepS (O₀:List Addr) (K:bw) (O:List Addr) (H:Hp) (σ:Sto) (τ:L2.St):Prop extends Reps K O H σ τ where
 mine:∀i ds a,getS σ i=some (.ow ds)->τ[i]?=some (some (.ref a))->a ∉ O₀
 mineT:MT O₀ H σ τ
theorem RepS.mono(r:RepS O₀ K O H σ τ)(e:je H H'):RepS O₀ K O H' σ τ:=⟨r.toReps.mono e,r.mine,r.mineT.step (λ_ _ g=>⟨g,rfl⟩) (r.tt.same e)⟩
def zB(K:bw)(O₀:List Addr)(H₀:Hp)(ex:XD->Prop)(D:Ends)(O:List Addr)(H:Hp):DE where
 xn:=ex
 nx σ':=∀τ' H' O',Good O₀ H₀ O' H'->je (jd H O) (jd H' O')->RepS O₀ K O' H' σ' τ'->D.nx τ' H'
 rt d:=∀v H',je H₀ H'->Is K (jd H' O₀) d v->D.rt v H'
 bk σ':=∀τ' H' O',Good O₀ H₀ O' H'->je (jd H O) (jd H' O')->RepS O₀ K O' H' σ' τ'->D.bk τ' H'
 ct σ':=∀τ' H' O',Good O₀ H₀ O' H'->je (jd H O) (jd H' O')->RepS O₀ K O' H' σ' τ'->D.ct τ' H'
 rf ds:=∀a H' vs,je H₀ H'->H₀ a=none->H' a=some (.lst vs)->Iss K (jd H' (a::O₀)) ds vs->D.rt (.ref a) H'
 rg rows:=∀a as H',je H₀ H'->(H₀ a=none/\∀b∈as,H₀ b=none)->OwT K (a::as++O₀) H' rows a as->D.rt (.ref a) H'
variable{ex:XD->Prop}
theorem kS{D:Ends}(e:je (jd H O) (jd H' O')):DE.le (zB K O₀ H₀ ex D O H) (zB K O₀ H₀ ex D O' H') where
 nx:=λ_ q τ' H'' O'' g s r=>q τ' H'' O'' g (e.trans s) r
 rt:=λ_ q=>q
 bk:=λ_ q τ' H'' O'' g s r=>q τ' H'' O'' g (e.trans s) r
 ct:=λ_ q τ' H'' O'' g s r=>q τ' H'' O'' g (e.trans s) r
 rf:=λ_ q=>q
def tS(K:bw)(C:Cfg)(O₀:List Addr)(H₀:Hp)(ex:XD->Prop)(s:Sm):TS:=λD τ H=>∃σ O,Good O₀ H₀ O H/\RepS O₀ K O H σ τ/\wpS C s (zB K O₀ H₀ ex D O H) σ
theorem jz(σ:Sto)(i:Nat)(v:Option Sl):(setS σ i v).length=σ.length:=uz σ i v
theorem jj(σ:Sto)(i j:Nat)(v:Option Sl):getS (setS σ i v) j=if i=j/\i<σ.length then v else getS σ j:=kJ σ i j v
section
variable {K:bw} {O:List Addr} {H:Hp} {σ:Sto} {τ:L2.St}
theorem Reps.set(R:Reps K O H σ τ)(h:Is K (jd H O) d v):Reps K O H (setS σ i (some (.sh d))) (τ.set i (some v)) where
 len:=by rw[jz,gX];exact R.len
 own:=R.own
 sh:=λj e g=>by
  rw[jj]at g;by_cases hj:i=j/\i<σ.length
  ·rw[if_pos hj]at g;obtain⟨rfl,hl⟩:=hj;cases g;exact⟨v,by rw[dO (by rw[<- R.len];exact hl)],h⟩
  ·rw[if_neg hj]at g;obtain⟨w,e1,e2⟩:=R.sh j e g;refine⟨w,?_,e2⟩;by_cases hij:i=j
   ·subst hij
    have:¬ i<τ.length:=by rw[<- R.len];lia
    rw[bI (by lia)]at e1;cases e1
   ·rw[dg hij];exact e1
 ow:=λj ds g=>by
  rw[jj]at g;by_cases hj:i=j/\i<σ.length
  ·rw[if_pos hj]at g;cases g
  ·rw[if_neg hj]at g;obtain⟨a,vs,e1,e2⟩:=R.ow j ds g;refine⟨a,vs,?_,e2⟩;by_cases hij:i=j
   ·subst hij
    have:¬ i<τ.length:=by rw[<- R.len];lia
    rw[bI (by lia)]at e1;cases e1
   ·rw[dg hij];exact e1
 dj:=λj l ds es hjl g1 g2=>by
  rw[jj]at g1 g2;by_cases hj:i=j/\i<σ.length
  ·rw[if_pos hj]at g1;cases g1
  ·rw[if_neg hj]at g1;by_cases hl:i=l/\i<σ.length
   ·rw[if_pos hl]at g2;cases g2
   ·rw[if_neg hl]at g2;have hd:=R.dj j l ds es hjl g1 g2;obtain⟨a,_,e1,_⟩:=R.ow j ds g1;obtain⟨b,_,e2,_⟩:=R.ow l es g2
    have nj:i≠j:=λz=>by
     subst z
     have:¬ i<τ.length:=by rw[<- R.len];lia
     rw[bI (by lia)]at e1;cases e1
    have nl:i≠l:=λz=>by
     subst z
     have:¬ i<τ.length:=by rw[<- R.len];lia
     rw[bI (by lia)]at e2;cases e2
    rw[dg nj,dg nl];exact hd
 tt:=by
  refine R.tt.step (λj rows g=>?_) (λ_ _ _ _ _ _ _ t=>t) λ_ _ _ _ j ds b _ _ g q=>?_
  ·rw[jj]at g;by_cases hj:i=j/\i<σ.length
   ·rw[if_pos hj]at g;cases g
   ·rw[if_neg hj]at g;obtain⟨a,as,e1,_⟩:=R.tt.1 j rows g
    have hij:i≠j:=λz=>by
     subst z
     have:¬ i<τ.length:=by rw[<- R.len];lia
     rw[bI (by lia)]at e1;cases e1
    exact⟨g,dg hij⟩
  ·rw[jj]at g;by_cases hj:i=j/\i<σ.length
   ·rw[if_pos hj]at g;cases g
   ·rw[if_neg hj]at g;obtain⟨a,vs,e1,_⟩:=R.ow j ds g
    have hij:i≠j:=λz=>by
     subst z
     have:¬ i<τ.length:=by rw[<- R.len];lia
     rw[bI (by lia)]at e1;cases e1
    rw[dg hij]at q;exact .inl ⟨ds,g,q⟩
end
variable{j:Nat}
theorem YQ{v w:Option V}(h:(τ.set i v)[j]?=some w):(i=j/\w=v)\/(i≠j/\τ[j]?=some w):=by
 by_cases hij:i=j
 ·subst hij;rcases b8 i τ.length with z|z
  ·rw[dO z]at h;cases h;exact .inl ⟨rfl,rfl⟩
  ·rw[bI (by rw[gX];exact z)]at h;cases h
 ·rw[dg hij]at h;exact .inr ⟨hij,h⟩
section
variable {K:bw} {O₀ O:List Addr} {H H':Hp} {σ:Sto} {τ:L2.St}
theorem RepS.set(R:RepS O₀ K O H σ τ)(h:Is K (jd H O) d v):RepS O₀ K O H (setS σ i (some (.sh d))) (τ.set i (some v)):=by
 refine⟨R.toReps.set h,λj ds a g e=>?_,R.mineT.step (λj rows g=>?_) λ_ _ _ _ _=>rfl⟩
 rotate_left
 ·rw[jj]at g;by_cases hj:i=j/\i<σ.length
  ·rw[if_pos hj]at g;cases g
  ·rw[if_neg hj]at g;obtain⟨a,as,e1,_⟩:=R.tt.1 j rows g
   have hij:i≠j:=λz=>by
    subst z
    have:¬ i<τ.length:=by rw[<- R.len];lia
    rw[bI (by lia)]at e1;cases e1
   exact⟨g,dg hij⟩
 rw[jj]at g;by_cases hj:i=j/\i<σ.length
 ·rw[if_pos hj]at g;cases g
 ·rw[if_neg hj]at g;rcases YQ e with⟨q,_⟩|⟨_,q⟩
  ·exfalso;subst q;obtain⟨_,_,e1,_⟩:=R.ow i ds g
   have:i<τ.length:=by
    rcases b8 i τ.length with z|z
    ·exact z
    ·rw[bI z]at e1;cases e1
   exact hj ⟨rfl,by rw[R.len];exact this⟩
  ·exact R.mine j ds a g q
theorem Good.fresh(g:Good O₀ H₀ O H)(s:je H H')(h:H a=none):Good O₀ H₀ (a::O) H':=by
 refine⟨g.same.trans s,λb hb=>bo _ (g.sub b hb),λb hb=>?_⟩;rcases bz.mp hb with rfl|hb
 ·right
  cases q:H₀ b with
  |none=>rfl
  |some o=>rw[g.same b o q]at h;cases h
 ·exact g.new b hb
theorem Us(hi:i<τ.length)(R:RepS O₀ K O H σ τ):∀j rows,getS (setS σ i (some (.ow xs))) j=some (.ot rows)->getS σ j=some (.ot rows)/\(τ.set i (some (.ref a)))[j]?=τ[j]?:=λj rows g=>by
 rw[jj]at g;by_cases hj:i=j/\i<σ.length
 ·rw[if_pos hj]at g;cases g
 ·rw[if_neg hj]at g
  have hij:i≠j:=λz=>hj ⟨z,by rw[R.len];exact hi⟩
  exact⟨g,dg hij⟩
theorem RepS.fresh(R:RepS O₀ K O H σ τ)(sub:∀b∈O₀,b∈O)(s:je H H')(h:H a=none)(h1:H' a=some (.lst vs))(is:Iss K (jd H' (a::O)) xs vs)(hi:i<τ.length) :
 RepS O₀ K (a::O) H' (setS σ i (some (.ow xs))) (τ.set i (some (.ref a))) where
 len:=by rw[jz,gX];exact R.len
 own:=λb hb=>by
  rcases bz.mp hb with rfl|hb
  ·rw[h1];exact λz=>nomatch z
  ·exact(R.toReps.mono s).own b hb
 sh:=λj d g=>by
  rw[jj]at g;by_cases hj:i=j/\i<σ.length
  ·rw[if_pos hj]at g;cases g
  ·rw[if_neg hj]at g;obtain⟨v,e1,e2⟩:=R.sh j d g
   have hij:i≠j:=λz=>hj ⟨z,by rw[R.len];exact hi⟩
   exact⟨v,by rw[dg hij];exact e1,Is.mono (ko s h) d e2⟩
 ow:=λj ds g=>by
  rw[jj]at g;by_cases hj:i=j/\i<σ.length
  ·rw[if_pos hj]at g;obtain⟨rfl,_⟩:=hj;cases g;exact⟨a,vs,dO hi,bC ..,h1,is⟩
  ·rw[if_neg hj]at g;obtain⟨b,ws,e1,e2,e3,e4⟩:=R.ow j ds g
   have hij:i≠j:=λz=>hj ⟨z,by rw[R.len];exact hi⟩
   exact⟨b,ws,by rw[dg hij];exact e1,bo _ e2,s _ _ e3,Iss.mono (ko s h) ds e4⟩
 dj:=λj l ds es hjl g1 g2=>by
  have key:∀j ds,i≠j->getS σ j=some (.ow ds)->τ[j]? ≠ some (some (.ref a)):=λj ds _ g e=>by
   obtain⟨b,_,e1,e2,e3,_⟩:=R.ow j ds g;rw[e1]at e;cases e;rw[h]at e3;cases e3
  rw[jj]at g1 g2;by_cases hj:i=j/\i<σ.length
  ·obtain⟨rfl,_⟩:=hj;rw[if_neg λz=>hjl z.1]at g2;rw[dO hi,dg hjl]
   exact λz=>key l es hjl g2 z.symm
  ·rw[if_neg hj]at g1
   have hij:i≠j:=λz=>hj ⟨z,by rw[R.len];exact hi⟩
   by_cases hl:i=l/\i<σ.length
   ·obtain⟨rfl,_⟩:=hl;rw[dO hi,dg hij];exact key j ds hij g1
   ·rw[if_neg hl]at g2
    have hil:i≠l:=λz=>hl ⟨z,by rw[R.len];exact hi⟩
    rw[dg hij,dg hil];exact R.dj j l ds es hjl g1 g2
 mine:=λj ds b g e=>by
  rw[jj]at g;rcases YQ e with⟨rfl,q⟩|⟨hij,q⟩
  ·cases q
   exact λz=>R.own _ (sub _ z) h
  ·rw[if_neg λz=>hij z.1]at g;exact R.mine j ds b g q
 tt:=by
  refine R.tt.step (Us hi R) (λj rows b as g e d t=>⟨s _ _ t.top,t.nd,⟨bo _ t.inO.1,λc hc=>bo _ (t.inO.2 c hc)⟩,t.rw.imp (ko s h) λc _ vs q=>s _ _ q⟩) λ_ _ b as j ds c _ t g q=>?_
  rw[jj]at g;rcases YQ q with⟨rfl,q'⟩|⟨hij,q⟩
  ·cases q';refine .inr ⟨λz=>?_,λz=>?_⟩
   ·subst z;rw[t.top]at h;cases h
   ·obtain⟨_,e⟩:=t.rw.isL _ z;rw[e]at h;cases h
  ·rw[if_neg λz=>hij z.1]at g;exact .inl ⟨ds,g,q⟩
 mineT:=R.mineT.step (Us hi R) (R.tt.same s)
theorem jT(h:a∈O):jd (upd H a o) O=jd H O:=by
 funext b;unfold jd;by_cases hb:b∈O
 ·rw[if_pos hb,if_pos hb]
 ·rw[if_neg hb,if_neg hb,jg λz=>hb (by rw[z];exact h)]
theorem Good.write(g:Good O₀ H₀ O H)(h:a∈O)(hn:a ∉ O₀):Good O₀ H₀ O (upd H a o):=by
 refine⟨λb u q=>?_,g.sub,g.new⟩;have h0:H₀ a=none:=(g.new a h).resolve_left hn;rw[jg λz=>by subst z;rw[h0]at q;cases q];exact g.same b u q
theorem UG(es:List D):∀j rows,getS (setS σ i (some (.ow es))) j=some (.ot rows)->getS σ j=some (.ot rows)/\τ[j]?=τ[j]?:=λj rows g=>by
 rw[jj]at g;by_cases hj:i=j/\i<σ.length
 ·rw[if_pos hj]at g;cases g
 ·rw[if_neg hj]at g;exact⟨g,rfl⟩
theorem RepS.write{vs:List V}{es:List D}(R:RepS O₀ K O H σ τ)(g:getS σ i=some (.ow ds))(e1:τ[i]?=some (some (.ref a)))(e2:a∈O)(is:Iss K (jd H O) es ws) :
 RepS O₀ K O (upd H a (.lst ws)) (setS σ i (some (.ow es))) τ where
 len:=by rw[jz];exact R.len
 own:=λb hb=>by
  by_cases z:b=a
  ·subst z;rw[ju];exact λz=>nomatch z
  ·rw[jg z];exact R.own b hb
 sh:=λj d h=>by
  rw[jj]at h;by_cases hj:i=j/\i<σ.length
  ·rw[if_pos hj]at h;cases h
  ·rw[if_neg hj]at h;rw[jT e2];exact R.sh j d h
 ow:=λj fs h=>by
  rw[jj]at h;rw[jT e2];by_cases hj:i=j/\i<σ.length
  ·rw[if_pos hj]at h;obtain⟨rfl,_⟩:=hj;cases h;exact⟨a,ws,e1,e2,ju ..,is⟩
  ·rw[if_neg hj]at h;obtain⟨b,us,h1,h2,h3,h4⟩:=R.ow j fs h
   have hij:i≠j:=λz=>hj ⟨z,by
    rw[R.len];rcases b8 i τ.length with q|q
    ·exact q
    ·rw[bI q]at e1;cases e1⟩
   have hb:b≠a:=λz=>by subst z;exact R.dj i j ds fs hij g h (e1.trans h1.symm)
   exact⟨b,us,h1,h2,by rw[jg hb];exact h3,h4⟩
 dj:=λj l fs gs hjl g1 g2=>by
  have old:∀j fs,getS (setS σ i (some (.ow es))) j=some (.ow fs)->∃fs',getS σ j=some (.ow fs'):=λj fs h=>by
   rw[jj]at h;by_cases hj:i=j/\i<σ.length
   ·obtain⟨rfl,_⟩:=hj;exact⟨_,g⟩
   ·rw[if_neg hj]at h;exact⟨_,h⟩
  obtain⟨_,k1⟩:=old j fs g1;obtain⟨_,k2⟩:=old l gs g2;exact R.dj j l _ _ hjl k1 k2
 mine:=λj fs b h e=>by
  rw[jj]at h;by_cases hj:i=j/\i<σ.length
  ·obtain⟨rfl,_⟩:=hj;exact R.mine i ds b g e
  ·rw[if_neg hj]at h;exact R.mine j fs b h e
 tt:=by
  refine R.tt.step (UG es) (λj rows b as q e d t=>?_) λ_ _ _ _ j fs c _ _ q e=>?_
  ·obtain⟨n1,n2⟩:=d i ds a g e1;exact⟨by rw[jg (gV n1)];exact t.top,t.nd,t.inO,t.rw.imp (by rw[jT e2];exact je.refl _) λc hc vs z=>by rw[jg (show c≠a from λy=>n2 (by rw[<- y];exact hc))];exact z⟩
  ·rw[jj]at q;by_cases hj:i=j/\i<σ.length
   ·obtain⟨rfl,_⟩:=hj;exact .inl ⟨ds,g,e⟩
   ·rw[if_neg hj]at q;exact .inl ⟨fs,q,e⟩
 mineT:=R.mineT.step (UG es) λj rows b q e=>by
  obtain⟨b',as,e3,t,d⟩:=R.tt.1 j rows q;rw[e]at e3;cases e3;exact jg (gV (d i ds a g e1).1)
theorem RepS.share(R:RepS O₀ K O H σ τ)(g:getS σ i=some (.ow ds))(e1:τ[i]?=some (some (.ref a)))(e3:H a=some (.lst vs))(e4:Iss K (jd H O) ds vs):RepS O₀ K (less O a) H (setS σ i (some (.sh (.lst ds)))) τ:=by
 refine⟨R.toReps.share g e1 e3 e4,λj fs b h e=>?_,R.mineT.step (λj rows q=>?_) λ_ _ _ _ _=>rfl⟩
 rotate_left
 ·rw[jj]at q;by_cases hj:i=j/\i<σ.length
  ·rw[if_pos hj]at q;cases q
  ·rw[if_neg hj]at q;exact⟨q,rfl⟩
 rw[jj]at h;by_cases hj:i=j/\i<σ.length
 ·rw[if_pos hj]at h;cases h
 ·rw[if_neg hj]at h;exact R.mine j fs b h e
theorem Good.share(g:Good O₀ H₀ O H)(hn:a ∉ O₀):Good O₀ H₀ (less O a) H :=
 ⟨g.same,λb hb=>jZ.mpr ⟨g.sub b hb,λz=>hn (z ▸ hb)⟩,λb hb=>g.new b (jZ.mp hb).1⟩
end
section
variable {X:Cx} {k:Ck} {C:Cfg} {O₀:List Addr} {H₀:Hp}
theorem vJ{x:Ex}(h:chkE k x e=true)(hc:uY e=false)(t:Option Expr)(n:Nat)(env:Env):tI e t n env=pure false:=by
 have p:=uT h
 cases e<;>first|rfl|exact bG p|exact bG hc
theorem VW(e o i:Expr)(n:Nat)(env:Env):tI e (some (.Subscript o i p)) n env=pure false:=by
 cases e<;>rfl
theorem VE(e:Expr)(n:Nat)(env:Env):tI e (some (.Tuple es j p)) n env=pure false:=by
 cases e<;>rfl
theorem zU{elt:Expr}{gs:List jeB}{py:Pos}{y:Str}(n:Nat)(env:Env):∃b,tI (.ListComp elt gs sc pos) (some (.Name y py)) n env=pure b:=⟨_,rfl⟩
structure OkS (X:Cx) (k:Ck) (C:Cfg):Prop extends Ok X k C where
 fn:∀x,X.fn x=true
def YV:List Nat->TGs
 |[]=>gNil
 |i::is=>gCons (vj i) (YV is)
theorem J9(ok:OkS X k C):∀(is:List Nat) (ts:List Expr),Jd k is ts=true->PGs X ts (YV is)/\(nk ts X.env).length=is.length/\(nk ts X.env).findIdx? (·.1)=none
 |[],ts,h=>by
  have e:ts=[]:=by rw[Jd]at h;simpa using h
  subst e
  exact⟨pgs_nil,rfl,rfl⟩
 |i::is,ts,h=>by
  obtain⟨x,pos,ts,rfl,h1,h2⟩:=Zf h;obtain⟨h1,h3,h4,h5⟩:=ok.vis h1;obtain⟨p,l,f⟩:=J9 ok is ts h2;refine⟨jbp (zt ok.nd h1 h3 (.inl (ok.fn _))) p,?_,?_⟩
  ·show (nk ts X.env).length+1=is.length+1;rw[l]
  ·show List.findIdx? _ ((false,assign (.Name x pos) X.env)::nk ts X.env)=none;rw[List.findIdx?_cons,f];rfl
theorem uO{K:bw}{O₀ O:List Addr}{H:Hp}{Q:L2.St->Hp->Prop}:∀(is:List Nat) {ds:List D} {vs:List V} {σ σ':Sto} {τ:L2.St},RepS O₀ K O H σ τ->Iss K (jd H O) ds vs->setAll is ds σ=some σ'->(∀τ',RepS O₀ K O H σ' τ'->Q τ' H)->YV is vs τ H Q
 |[],ds,vs,σ,σ',τ,R,i,e,q=>by
  cases ds with
  |nil =>
   unfold Iss at i;simp only[setAll,gc]at e;subst e
   exact⟨i,q τ R⟩
  |cons d ds=>simp[setAll]at e
 |n::is,ds,vs,σ,σ',τ,R,i,e,q=>by
  cases ds with
  |nil=>simp[setAll]at e
  |cons d ds =>
   unfold Iss at i;obtain⟨v,r,rfl,i1,i2⟩:=i;simp only[setAll]at e;exact⟨v,r,rfl,uO is (R.set i1) i2 e q⟩
theorem zW:∀(is:List Nat) {ds:List D} {σ σ':Sto},setAll is ds σ=some σ'->ds.length=is.length
 |[],ds,σ,σ',e=>by cases ds with|nil=>rfl|cons d ds=>simp[setAll]at e
 |n::is,ds,σ,σ',e=>by
  cases ds with
  |nil=>simp[setAll]at e
  |cons d ds=>simp only[setAll]at e;simp[zW is e]
end
def IsRv(h:gQ)(it l:Addr)(j:Int):Prop:=∃o,h.get? it=some o/\o.cls=.type "list_reverseiterator" /\ o.data=.fields #[.ref l,.int j 0]
theorem IsRv.ty{s:Shared}{j:Int}(x:IsRv s.heap it l j):s.TypeIs (.ref it) "list_reverseiterator":=let ⟨o,ho,hc,_⟩:=x;⟨o,ho,hc⟩
def tDL(K:bw)(C:Cfg)(x:Ex):TE:=λτ H Q=>∃σ O,Reps K O H σ τ/\wpE C x σ (isL λxs=>WdF K O H Q (.lst xs))
def rCat(K:bw):R2:=λxv yv H Q=>∃O xs ys,(∀a∈O,H a≠none)/\Is K (jd H O) (.lst xs) xv/\Is K (jd H O) (.lst ys) yv/\xs.length+ys.length<=lim/\WdF K O H Q (.lst (xs++ys))
theorem op_catL:OpR X (wB .Add) (rCat X.K):=by
 intro pins s τ H x y v u Q I rx ry h;obtain⟨O,xs,ys,ho,ix,iy,w⟩:=h;obtain⟨a,vs,rfl,h1,h2⟩:=jN ix;obtain⟨b,ws,rfl,h3,h4⟩:=jN iy;cases rx;cases ry;exact JJ I ho w ((jf H O).seq h1) ((jf H O).seq h3) h2 h4
theorem V8{x y:D}{f:List D->Prop}(w:addD x y (isL f)):∃xs ys,x=.lst xs/\y=.lst ys/\xs.length+ys.length<=lim/\f (xs++ys):=by
 cases x<;>cases y<;>first|exact w.elim|exact w.2.elim|exact⟨_,_,rfl,rfl,w.1,w.2⟩
theorem Jj(w:WdF K O H Q (.lst xs))(hl:H l=none)(i:Iss K (jd H O) xs vs):Q (.ref l) (upd H l (.lst vs)) :=
 w xs l _ vs rfl (jL hl _) hl (ju ..) (Iss.mono (ko (jL hl _) hl) xs i)
theorem sF{C:Cfg}(ok:Ok X k C)(x:Ex)(e:Expr)(hf:frE x=true)(h:chkE k x e=true):PE X e (tDL X.K C x):=by
 cases x with
 |bin o a b =>
  cases o<;>first|exact bG hf|skip
  replace h:=jb h;obtain⟨⟨l,op,r⟩,hx,h⟩:=h;obtain⟨pos,rfl⟩:=JE hx;rw[bh,bh]at h
  have hop:op=.Add:=by
   have:=h.1.1
   cases op<;>first|rfl|exact bG this
  subst hop;refine PE.imp (λτ H Q w=>?_) (jaR op_catL (sB ok a _ h.1.2).1 (sB ok b _ h.2).1);obtain⟨σ,O,R,w⟩:=w;refine⟨σ,O,R,ja a (λx wx xv H1 s1 i1=>⟨σ,O,R.mono s1,ja b (λy wy yv H2 s2 i2=>?_) wx⟩) w⟩;obtain⟨xs,ys,rfl,rfl,hl,q⟩:=V8 wy
  exact⟨O,xs,ys,(R.mono (s1.trans s2)).own,Is.mono (jc s2) _ i1,i2,hl,q.mono (s1.trans s2)⟩
 |bi f es =>
  cases f<;>first|exact bG hf|skip
  replace h:=jb h;obtain⟨⟨x,xs,pos⟩,hx,h⟩:=h;obtain⟨q,rfl⟩:=jG hx;simp only[bh,decide_eq_true_eq]at h;obtain⟨⟨⟨h1,h2⟩,hne⟩,h4⟩:=h
  match xs,hne,h1,h4 with
  |y::ys,_,h1,h4 =>
   subst h1;obtain⟨g1,g2,g3⟩:=ok.gl h2
   have hs:bU (y::ys) X.env=(false,eval y X.env)::bU ys X.env/\(backTo pos (bU ys X.env)).any (·.1)=false:=by
    cases es with
    |nil=>have:=jR h4;cases this
    |cons z zs =>
     obtain⟨y',ys',e',h5,h6⟩:=jJ h4;cases e';exact⟨jw h5 _ _,kc h6 _ _⟩
   refine PE.imp (λτ H Q w=>?_) (zw (T:="list") qV g1 (ok.blt _ (jaW .list)) pJ (sA ok es _ h4) g3 g2 hs.1 hs.2);obtain⟨σ,O,R,w⟩:=w;refine⟨σ,O,R,jm es (λds wd vs H1 s1 i1=>?_) w⟩;obtain⟨x,rfl,wd⟩:=yn wd;obtain⟨v,rfl,j1⟩:=vR i1;clear i1
   cases x<;>first|exact wd.elim|skip
   ·obtain⟨a,vs,rfl,h1,h2⟩:=qu j1;exact⟨a,vs,rfl,.inr ((kG (jf H1 O) h1)),λl hl=>Jj (WdF.mono s1 wd) hl h2⟩
   ·obtain⟨a,vs,rfl,h1,h2⟩:=jN j1
    exact⟨a,vs,rfl,.inl ((jf H1 O).seq h1),λl hl=>Jj (WdF.mono s1 wd) hl h2⟩
 |_=>exact bG hf
variable{e v:Ex}{l:Nat}{r:List D}{Dd:Ends}
section
variable {X:Cx} {k:Ck} {C:Cfg}
theorem sL(ok:Ok X k C)(x:Ex)(e:Expr)(hf:frL x=true)(h:chkE k x e=true):PE X e (tDL X.K C x):=by
 cases x with
 |compE a b =>
  replace h:=jb h;obtain⟨⟨elt,x,iter,sc⟩,hz,h⟩:=h;obtain⟨px,pos,rfl⟩:=kU hz;simp only[bh,dE]at h;obtain⟨⟨⟨h1,hn⟩,ha⟩,h3⟩:=h;intro pins s τ H Q I w;obtain⟨cl,co⟩:=ok.comp h1 I.ok;refine yb (te:=tD X.K C b) ok.calm ok.nd (ok.comp_nE h1) co (z6 (sB ok a iter ha).1) (λ_ _ _ _=>qy) (λs H fp Ca=>(sB (ok.block h1 co s H fp Ca) b elt h3).1) (xY hn _) pins s τ H Q I ?_;obtain⟨σ,O,R,w⟩:=w;refine⟨σ,O,R,ja a (λd wd v H1 s1 i1=>?_) w⟩;obtain⟨xs,e1,hx,wd⟩:=wd;have wd':=jU (f:=λd Q=>wpE C b (σ ++ [some (.sh d)]) Q) (λd _ _ hq=>ja b hq) _ (λys (wy:WdF X.K O H Q (.lst ys))=>WdF.mono s1 wy) wd;obtain⟨J,hw,g1,g2,g3⟩:=walk_of e1 i1
  exact⟨J,hw,comp_turnsGF (R.mono s1) hx (λj H2 s2=>g1 j H2 O (jc s2)) (λj H2 s2=>g2 j H2 O (jc s2)) (λj H2 v H' d s2 y e=>by obtain⟨q,i⟩:=g3 j H2 O v H' d (jc s2) y e;subst q;exact⟨je.refl _,i⟩) wd'⟩
 |compR es b =>
  replace h:=jb h;obtain⟨⟨elt,x,iter,sc⟩,hz,h⟩:=h;obtain⟨px,pos,rfl⟩:=kU hz;simp only[bh]at h;obtain⟨⟨h1,h2⟩,h3⟩:=h;replace h2:=jb h2;obtain⟨⟨f,args,p2⟩,hcn,h2⟩:=h2;obtain⟨q,e2⟩:=jG hcn;subst e2;simp only[bh,decide_eq_true_eq,dE]at h2;obtain⟨⟨⟨hf,hg⟩,hne⟩,ha⟩:=h2;subst hf;obtain⟨g1,_,_⟩:=ok.gl hg
  cases args with
  |nil=>simp at hne
  |cons y ys =>
   have hs:bU (y::ys) X.env=(false,eval y X.env)::bU ys X.env/\(backTo p2 (bU ys X.env)).any (·.1)=false:=by
    cases es with
    |nil=>have:=jR ha;cases this
    |cons z zs =>
     obtain⟨y',ys',e',h5,h6⟩:=jJ ha;cases e';exact⟨jw h5 _ _,kc h6 _ _⟩
   intro pins s τ H Q I w;obtain⟨cl,co⟩:=ok.comp h1 I.ok;refine yb (te:=tD X.K C b) ok.calm ok.nd (ok.comp_nE h1) co (Ku g1 (ok.blt _ (by decide)) (sA ok es _ ha) hs.1 hs.2) (λ_ _ _ _=>qy) (λs H fp Ca=>(sB (ok.block h1 co s H fp Ca) b elt h3).1) (λ_=>rfl) pins s τ H Q I ?_;obtain⟨σ,O,R,w⟩:=w;refine⟨σ,O,R,jm es (λds wd vs H1 s1 i1=>?_) w⟩;obtain⟨lo,hi,st,e,c,hx,wd⟩:=uZ i1 wd;refine⟨lo,hi,st,e,c,?_⟩;refine comp_turnsGF (R.mono s1) hx ?_ ?_ ?_ (jU (f:=λd Q=>wpE C b (σ ++ [some (.sh d)]) Q) (λd _ _ hq=>ja b hq) _ (λys (wy:WdF X.K O H Q (.lst ys))=>WdF.mono s1 wy) wd)
   ·intro j H _ hj;rw[jq]at hj;exact hj
   ·intro j H _ hj;rw[jq]at hj;exact hj
   ·intro j H v H' d _ y hd;obtain⟨e1,e2⟩:=y
    have hj:j<(if lo<hi then (hi-lo-1) / st+1 else 0).toNat:=by
     rcases b8 j (if lo<hi then (hi-lo-1) / st+1 else 0).toNat with z|z
     ·exact z
     ·rw[bI (by rw[jq];exact z)]at hd;cases hd
    rw[kX _ _ _ _ hj]at hd;cases hd;subst e1
    exact⟨je.refl _,by rw[e2];exact jK _⟩
 |slc a l u =>
  replace h:=jb h;obtain⟨⟨v,i⟩,hx,h⟩:=h;obtain⟨pos,rfl⟩:=zT hx;replace h:=jb h;obtain⟨⟨lo,hi⟩,hs,h⟩:=h;obtain⟨p2,e2⟩:=Xi hs;simp only at e2;subst e2;simp only[bh]at h;obtain⟨⟨⟨⟨ha,hl1⟩,hu1⟩,hl2⟩,hu2⟩:=h
  have pl:PO X lo (tPt X.K C l):=po_D hl1 λx ex nl=>by
   subst ex;rw[nl]at hl2;exact(sB ok l x hl2).1
  have pu:PO X hi (tPt X.K C u):=po_D hu1 λx ex nl=>by
   subst ex;rw[nl]at hu2;exact(sB ok u x hu2).1
  refine PE.imp (λτ H Q w=>?_) (Xk ZV (sB ok a v ha).1 pl pu);obtain⟨σ,O,R,w⟩:=w;refine⟨σ,O,R,ja a (λd wd x H1 s1 i1=>⟨σ,O,R.mono s1,xS (λhq=>ja l hq) (λlo' wl H2 s2=>⟨σ,O,(R.mono s1).mono s2,xS (λhq=>ja u hq) (λhi' wh H3 s3=>?_) wl⟩) wd⟩) w⟩;have ss:=s2.trans s3
  cases d<;>first|exact wh.elim|exact wh.2.elim|skip
  next xs =>
  obtain⟨b,vs,rfl,h1,h2⟩:=jN i1;have wh:WdF X.K O H Q (.lst (yr xs lo' hi')):=wh
  exact⟨b,vs,rfl,(jf _ _).seq ((jc ss).seq h1),λp hp=>Jj (WdF.mono (s1.trans ss) wh) hp (Iss.cut lo' hi' (Iss.mono (jc ss) xs h2))⟩
 |bin o a b=>exact sF ok _ e hf h
 |bi f es=>exact sF ok _ e hf h
 |_=>exact bG hf
def tIt(K:bw)(C:Cfg)(b:Ex):TE:=λτ H Q=>frIt C b=true/\tDL K C b τ H Q
theorem sI(ok:Ok X k C)(x:Ex)(e:Expr)(hf:frI x=true)(h:chkE k x e=true):PE X e (tIt X.K C x):=by
 cases x with
 |call f es =>
  replace h:=jb h;obtain⟨⟨x,xs,pos⟩,hx,h⟩:=h;obtain⟨q,rfl⟩:=jG hx;simp only[bh,decide_eq_true_eq]at h;obtain⟨⟨⟨k1,k2⟩,hne⟩,k4⟩:=h;obtain⟨y,ys,rfl⟩:=k8 hne;obtain⟨g1,g2,g3⟩:=ok.gl k2;obtain⟨fa,fd,ps,lv,F,hr,hm,hk,hb⟩:=ok.fns f x _ k1
  have hs:bU (y::ys) X.env=(false,eval y X.env)::bU ys X.env/\(backTo pos (bU ys X.env)).any (·.1)=false:=by
   cases es with
   |nil=>have:=jR k4;cases this
   |cons z zs =>
    obtain⟨y',ys',e',h5,h6⟩:=jJ k4;cases e';exact⟨jw h5 _ _,kc h6 _ _⟩
  refine PE.imp (λτ H Q w=>?_) (zh (CX:=CXz X.prog X.w X.mg) (E:=E0) (dvs:=[]) F hr g1 hm hk hb .nil XI (sA ok es _ k4) g2 hs.1 hs.2);obtain⟨hfr,σ,O,R,w⟩:=w;have hfr:C.fr f=true:=hfr;refine⟨σ,O,R,jm es (λds ⟨hl,wd⟩ vs H1 s1 i1=>?_) (qi es w)⟩;show spD X.K (y::ys).length (C.fr f) (C.f2 f) (C.ct f) (vs ++ []) H1 _ E0;rw[di];refine⟨O,ds,by rw[hl,yh k4],(R.mono s1).own,i1,wd.1,λd r=>?_,λx hx=>(ok.E x (wd.2.2 x hx)).elim⟩;unfold Rw;rw[if_pos hfr]
  obtain⟨xs,rfl,q⟩:∃xs,d=.lst xs/\WdF X.K O H Q (.lst xs):=by
   have:=wd.2.1 d r
   cases d<;>first|exact this.elim|exact⟨_,rfl,this⟩
  exact q.mono s1
 |_=>exact PE.imp (λτ H Q w=>w.2) (sL ok _ e hf h)
theorem qd(s:je H H')(h:∀b∈as,H b=none):je (jd H O) (jd H' (as++O)):=λb o hb=>by
 have e:=jf _ _ _ _ hb
 have na:b ∉ as:=λz=>by rw[h b z]at e;cases e
 have nb:b ∉ O:=λz=>by unfold jd at hb;rw[if_pos z]at hb;cases hb
 rw[kz (by simp[na,nb])];exact s _ _ e
theorem Reps.grow(R:Reps K O H σ τ)(s:je H H')(hn:∀b∈as,H b=none)(hs:∀b∈as,H' b≠none):Reps K (as++O) H' σ τ where
 len:=R.len
 own:=λb hb=>by
  rcases dI.mp hb with z|z
  ·exact hs b z
  ·exact(R.mono s).own b z
 sh:=λi d g=>by
  obtain⟨v,e1,e2⟩:=R.sh i d g;exact⟨v,e1,Is.mono (qd s hn) d e2⟩
 ow:=λi ds g=>by
  obtain⟨a,vs,e1,e2,e3,e4⟩:=R.ow i ds g;exact⟨a,vs,e1,bX _ e2,s _ _ e3,Iss.mono (qd s hn) ds e4⟩
 dj:=R.dj
 tt:=R.tt.step (λ_ _ g=>⟨g,rfl⟩) (λ_ _ _ _ _ _ _ t=>⟨s _ _ t.top,t.nd,⟨bX _ t.inO.1,λb hb=>bX _ (t.inO.2 b hb)⟩,t.rw.imp (qd s hn) λb _ vs h=>s _ _ h⟩) λ_ _ _ _ j ds b _ _ g q=>.inl ⟨ds,g,q⟩
theorem jbj(h:∀b,b∈O ↔ b∈O'):jd H O=jd H O':=by
 funext b;unfold jd;by_cases z:b∈O
 ·rw[if_pos z,if_pos ((h b).mp z)]
 ·rw[if_neg z,if_neg λy=>z ((h b).mpr y)]
theorem Rws.snoc{K:bw}{O:List Addr}{H:Hp}{r:List D}{b:Addr}{vs:List V}(h1:H b=some (.lst vs))(h2:Iss K (jd H O) r vs):∀ {rows:List (List D)} {as:List Addr},Rws K O H rows as->Rws K O H (rows ++ [r]) (as ++ [b])
 |[],as,h=>by cases h;exact⟨b,[],vs,rfl,h1,h2,rfl⟩
 |q::rows,as,h=>by
  obtain⟨c,bs,us,rfl,e1,e2,e3⟩:=h;exact⟨c,bs ++ [b],us,rfl,e1,e2,Rws.snoc h1 h2 e3⟩
theorem Rws.own{rows:List (List D)}(h:∀b,b∈O ↔ b∈O')(r:Rws K O H rows as):Rws K O' H rows as:=r.imp (by rw[jbj h];exact je.refl _) λ_ _ _ z=>z
theorem vq(R1:Reps K O H1 σ τ)(hx:xs.length<=lim)(hb:frIt C e=true)
 (hgo:∀j H O',je (jd H1 O) (jd H O')->j<xs.length->J.go j H) (hst:∀j H O',je (jd H1 O) (jd H O')->xs.length<=j->J.stop j H)
 (hy:∀j H O' v H' d,je (jd H1 O) (jd H O')->J.yld j H v H'->xs[j]?=some d->H'=H/\Is K (jd H O') d v)
 (w:qI (λd Q=>wpE C e (σ ++ [some (.sh d)]) (isL Q)) xs λrows=>WdG K O H1 Q (kC rows)) :
 ∃W:Nat->Nat->List V->Hp->Prop,(∃m,W 0 m [] H1)/\∀i m ys H,W i m ys H ->
  (J.stop i H/\ys.length<=sizeLine/\∀p,H p=none->Q (.ref p) (upd H p (.lst ys)))\/(J.go i H/\ys.length<sizeLine/\∀x H',J.yld i H x H'->tIt K C e (τ ++ [some x]) H' λy H2=>∃m',m'<m/\W (i+1) m' (ys ++ [y]) H2):=by
 refine⟨λj m ys H=>m=xs.length-j/\j<=xs.length/\je H1 H/\∃rows as,as.length=j/\ys=as.map V.ref/\(∀b∈as,H1 b=none)/\as.Nodup/\Rws K (as++O) H rows as/\qI (λd Q=>wpE C e (σ ++ [some (.sh d)]) (isL Q)) (xs.drop j) λrest=>WdG K O H1 Q (kC (rows++rest)),
  ⟨_,rfl,mL _,je.refl _,[],[],rfl,rfl,(λ_ z=>nomatch z),List.nodup_nil,rfl,by simpa using w⟩,?_⟩
 rintro j m ys H ⟨rfl,hj,sm,rows,as,hd,rfl,fr,nd,rw',w⟩
 have hl:(as.map V.ref).length=j:=by rw[bj,hd]
 have hs:∀b∈as,H b≠none:=λb hb=>by obtain⟨vs,q⟩:=rw'.isL b hb;rw[q];exact λz=>nomatch z
 have R:=R1.grow sm fr hs;have sO:=qd (O:=O) sm fr
 have hlim:lim<=sizeLine:=by decide
 by_cases hlt:j<xs.length
 ·refine .inr ⟨hgo j H _ sO hlt,by lia,λx H' y=>?_⟩;obtain⟨e1,ix⟩:=hy j H _ x H' xs[j] sO y (bD hlt);subst e1;rw[gC hlt]at w;rw[qI]at w;refine⟨hb,_,as++O,R.snoc ix,ja e (λyd=>x6 λr wr r' a H2 vs q s2 h0 h1 is=>?_) w⟩;cases q
  have na:a ∉ as:=λz=>hs a z h0
  have h01:H1 a=none:=by
   cases q:H1 a with
   |none=>rfl
   |some o=>rw[sm a o q]at h0;cases h0
  have mem:∀b,b∈a::(as++O) ↔ b∈(as ++ [a])++O:=λb=>by
   simp only[bz,dI,bK,or_false];constructor
   ·rintro(z|z|z)
    ·exact .inl (.inr z)
    ·exact .inl (.inl z)
    ·exact .inr z
   ·rintro((z|z)|z)
    ·exact .inr (.inl z)
    ·exact .inl z
    ·exact .inr (.inr z)
  refine⟨xs.length-(j+1),by lia,rfl,hlt,sm.trans s2,rows ++ [r],as ++ [a],by simp[hd],by simp,λb hb=>?_,?_,?_,?_⟩
  ·rcases dI.mp hb with z|z
   ·exact fr b z
   ·rw[gv.mp z];exact h01
  ·rw[je5];exact⟨nd,by simp,λb hb c hc z=>by rw[gv.mp hc]at z;exact na (z ▸ hb)⟩
  ·refine Rws.own mem (Rws.snoc h1 is (rw'.imp (λb o hb=>?_) λb hb vs q=>s2 _ _ q));have q:=jf _ _ _ _ hb
   have nb:b ∉ as++O:=λz=>by unfold jd at hb;rw[if_pos z]at hb;cases hb
   rw[kz (λz=>(bz.mp z).elim (λy=>by rw[y,h0]at q;cases q) nb)];exact s2 _ _ q
  ·simpa using wr
 ·have e1:j=xs.length:=by lia
  refine .inl ⟨hst _ H _ sO (by lia),by lia,λp hp=>?_⟩;rw[tW (by lia)]at w;rw[qI,di]at w
  have np:p ∉ as:=λz=>hs p z hp
  have s2:=jL hp (.lst (as.map V.ref))
  have h01:H1 p=none:=by
   cases q:H1 p with
   |none=>rfl
   |some o=>rw[sm p o q]at hp;cases hp
  refine w rows p as _ rfl (sm.trans s2) ⟨h01,fr⟩ ⟨ju ..,⟨np,nd⟩,⟨bC ..,λb hb=>bo _ (dh _ hb)⟩,?_⟩
  exact rw'.imp (ko s2 hp) λb hb vs q=>s2 _ _ q
def tDG(K:bw)(C:Cfg)(x:Ex):TE:=λτ H Q=>∃σ O,Reps K O H σ τ/\wpG C x σ λrows=>WdG K O H Q (kC rows)
theorem WdG.mono(e:je H H')(w:WdG K O H Q d):WdG K O H' Q d:=λrows a as H'' q s h0 t=>by
 have old:∀b,H' b=none->H b=none:=λb h=>by
  cases z:H b with
  |none=>rfl
  |some o=>rw[e b o z]at h;cases h
 exact w rows a as H'' q (e.trans s) ⟨old _ h0.1,λb hb=>old _ (h0.2 b hb)⟩ t
theorem gcomp(ok:Ok X k C)(z:Ex)(e:Expr)(hf:frG z=true)(h:chkE k z e=true):∃(x:Str) (px:Pos) (iter elt:Expr) (sc:Scope) (pos:Pos) (wi:TI) (b:Ex),e=.ListComp elt [⟨.Name x px,iter,[],0⟩] sc pos/\xC k x sc=true/\PI X (.Name x px) iter wi/\(∀v,mU iter X.env v=pure v) /\
 (∀cl,CompOk X x sc cl->∀s H fp Ca,PE (qf X s H fp x sc cl Ca) elt (tIt X.K C b))/\∀τ H Q,tDG X.K C z τ H Q->tComp wi (tIt X.K C b) τ H Q:=by
 cases z with
 |compE a b =>
  replace h:=jb h;obtain⟨⟨elt,x,iter,sc⟩,hz,h⟩:=h;obtain⟨px,pos,rfl⟩:=kU hz;simp only[bh,dE]at h;obtain⟨⟨⟨h1,hn⟩,ha⟩,h3⟩:=h;refine⟨x,px,iter,elt,sc,pos,_,b,rfl,h1,z6 (sB ok a iter ha).1,xY hn _,λcl co s H fp Ca=>sI (ok.block h1 co s H fp Ca) b elt hf h3,λτ H Q w=>?_⟩;obtain⟨σ,O,R,hb,w⟩:=w;refine⟨σ,O,R,ja a (λd wd v H1 s1 i1=>?_) w⟩;obtain⟨xs,e1,hx,wd⟩:=wd;have wd':=qD (f:=λd Q=>wpE C b (σ ++ [some (.sh d)]) (isL Q)) (λd _ _ hq=>ja b λ_=>x6 hq) _ (λys (wy:WdG X.K O H Q (kC ys))=>WdG.mono s1 wy) wd;obtain⟨J,hw,g1,g2,g3⟩:=walk_of e1 i1
  exact⟨J,hw,vq (R.mono s1) hx hb g1 g2 g3 wd'⟩
 |compR es b =>
  replace h:=jb h;obtain⟨⟨elt,x,iter,sc⟩,hz,h⟩:=h;obtain⟨px,pos,rfl⟩:=kU hz;simp only[bh]at h;obtain⟨⟨h1,h2⟩,h3⟩:=h;replace h2:=jb h2;obtain⟨⟨f,args,p2⟩,hcn,h2⟩:=h2;obtain⟨q,e2⟩:=jG hcn;subst e2;simp only[bh,decide_eq_true_eq,dE]at h2;obtain⟨⟨⟨hfn,hg⟩,hne⟩,ha⟩:=h2;subst hfn;obtain⟨g1,_,_⟩:=ok.gl hg
  cases args with
  |nil=>simp at hne
  |cons y ys =>
   have hs:bU (y::ys) X.env=(false,eval y X.env)::bU ys X.env/\(backTo p2 (bU ys X.env)).any (·.1)=false:=by
    cases es with
    |nil=>have:=jR ha;cases this
    |cons z zs =>
     obtain⟨y',ys',e',h5,h6⟩:=jJ ha;cases e';exact⟨jw h5 _ _,kc h6 _ _⟩
   refine⟨x,px,_,elt,sc,pos,_,b,rfl,h1,Ku g1 (ok.blt _ (by decide)) (sA ok es _ ha) hs.1 hs.2,λ_=>rfl,λcl co s H fp Ca=>sI (ok.block h1 co s H fp Ca) b elt hf h3,λτ H Q w=>?_⟩;obtain⟨σ,O,R,hb,w⟩:=w;refine⟨σ,O,R,jm es (λds wd vs H1 s1 i1=>?_) w⟩;obtain⟨lo,hi,st,e,c,hx,wd⟩:=uZ i1 wd;refine⟨lo,hi,st,e,c,?_⟩;refine vq (R.mono s1) hx hb ?_ ?_ ?_ (qD (f:=λd Q=>wpE C b (σ ++ [some (.sh d)]) (isL Q)) (λd _ _ hq=>ja b λ_=>x6 hq) _ (λys (wy:WdG X.K O H Q (kC ys))=>WdG.mono s1 wy) wd)
   ·intro j H _ _ hj;rw[jq]at hj;exact hj
   ·intro j H _ _ hj;rw[jq]at hj;exact hj
   ·intro j H O' v H' d _ y hd;obtain⟨e1,e2⟩:=y
    have hj:j<(if lo<hi then (hi-lo-1) / st+1 else 0).toNat:=by
     rcases b8 j (if lo<hi then (hi-lo-1) / st+1 else 0).toNat with z|z
     ·exact z
     ·rw[bI (by rw[jq];exact z)]at hd;cases hd
    rw[kX _ _ _ _ hj]at hd;cases hd
    exact⟨e1,by rw[e2];exact jK _⟩
 |_=>exact bG hf
theorem sG(ok:Ok X k C)(z:Ex)(e:Expr)(hf:frG z=true)(h:chkE k z e=true):PE X e (tDG X.K C z):=by
 obtain⟨x,px,iter,elt,sc,pos,wi,b,rfl,hck,hpi,hfo,hel,hco⟩:=gcomp ok z e hf h;intro pins s τ H Q I w;obtain⟨cl,co⟩:=ok.comp hck I.ok;exact yb ok.calm ok.nd (ok.comp_nE hck) co hpi (λ_ _ _ _=>qy) (hel cl co) hfo pins s τ H Q I (hco τ H Q w)
variable {K:bw} {O₀ O O':List Addr} {H H' H₀:Hp} {σ:Sto} {τ:L2.St}
theorem Xp:∀ {σ:Sto} {j:Nat} {rows:List (List D)},σ.all notT=true->getS σ j≠some (.ot rows)
 |[],j,rows,_=>λz=>nomatch z
 |x::r,0,rows,h=>λz=>by
  have z:x=some (.ot rows):=z;subst z
  simp[notT]at h
 |x::r,j+1,rows,h=>by
  simp only[jez,bh]at h;exact Xp (σ:=r) h.2
theorem za:∀ {σ:Sto} {i j:Nat} {rows:List (List D)},noT σ i=true->j≠i->getS σ j≠some (.ot rows)
 |[],i,j,rows,_,_=>λz=>nomatch z
 |x::r,0,0,rows,_,n=>absurd rfl n
 |x::r,0,j+1,rows,h,n=>Xp (σ:=r) h
 |x::r,i+1,0,rows,h,n=>λz=>by
  have z:x=some (.ot rows):=z;subst z
  simp[noT,notT]at h
 |x::r,i+1,j+1,rows,h,n=>by
  simp only[noT,bh]at h;exact za (σ:=r) h.2 (by lia)
theorem ur{bs:List Addr}(h:(HO.lst (as.map V.ref))=HO.lst (bs.map V.ref)):as=bs:=by
 injection h with h
 induction as generalizing bs with
 |nil=>cases bs<;>simp at h;rfl
 |cons a as ih =>
  cases bs with
  |nil=>simp at h
  |cons b bs =>
   simp only[bq,bO]at h;injection h.1 with e;rw[e,ih h.2]
theorem Good.freshT(g:Good O₀ H₀ O H)(s:je H H')(h:H a=none/\∀b∈as,H b=none):Good O₀ H₀ (a::as++O) H':=by
 have old:∀b,H b=none->H₀ b=none:=λb h=>by
  cases q:H₀ b with
  |none=>rfl
  |some o=>rw[g.same b o q]at h;cases h
 refine⟨g.same.trans s,λb hb=>bX _ (g.sub b hb),λb hb=>?_⟩;rcases dI.mp hb with hb|hb
 ·rcases bz.mp hb with rfl|hb
  ·exact .inr (old _ h.1)
  ·exact .inr (old _ (h.2 b hb))
 ·exact g.new b hb
theorem RepS.freshT{rows:List (List D)}(R:RepS O₀ K O H σ τ)(sub:∀b∈O₀,b∈O)(s:je H H')(h:H a=none/\∀b∈as,H b=none)(t:OwT K (a::as++O) H' rows a as)(nt:noT σ i=true)(hi:i<τ.length) :
 RepS O₀ K (a::as++O) H' (setS σ i (some (.ot rows))) (τ.set i (some (.ref a))):=by
 have hn:∀b∈a::as,H b=none:=λb hb=>(bz.mp hb).elim (λz=>by rw[z];exact h.1) (h.2 b)
 have G:Reps K (a::as++O) H' σ τ:=R.toReps.grow s hn λb hb=>by
  rcases bz.mp hb with rfl|hb
  ·rw[t.top];exact λz=>nomatch z
  ·obtain⟨vs,q⟩:=t.rw.isL b hb;rw[q];exact λz=>nomatch z
 have at_:∀j z,getS (setS σ i (some (.ot rows))) j=some z->(j=i/\z=.ot rows)\/(i≠j/\getS σ j=some z/\(τ.set i (some (.ref a)))[j]?=τ[j]?):=λj z g=>by
  rw[jj]at g;by_cases hj:i=j/\i<σ.length
  ·rw[if_pos hj]at g;cases g;exact .inl ⟨hj.1.symm,rfl⟩
  ·rw[if_neg hj]at g
   have hij:i≠j:=λz=>hj ⟨z,by rw[R.len];exact hi⟩
   exact .inr ⟨hij,g,dg hij⟩
 have own_ne:∀j ds b,getS σ j=some (.ow ds)->τ[j]?=some (some (.ref b))->b≠a/\b ∉ as:=λj ds b g e=>by
  obtain⟨b',vs,e1,_,e3,_⟩:=R.ow j ds g;rw[e]at e1;cases e1;exact⟨λz=>(by rw[z,h.1]at e3;cases e3),λz=>(by rw[h.2 b z]at e3;cases e3)⟩
 refine⟨⟨by rw[jz,gX];exact R.len,G.own,λj d g=>?_,λj ds g=>?_,λj l ds es hjl g1 g2=>?_,⟨λj rs g=>?_,λj l rs qs g1 g2=>?_⟩⟩,λj ds b g e=>?_,λj rs b bs g e q=>?_⟩
 ·rcases at_ j _ g with⟨_,z⟩|⟨_,g,e⟩
  ·cases z
  ·obtain⟨v,e1,e2⟩:=G.sh j d g;exact⟨v,e.trans e1,e2⟩
 ·rcases at_ j _ g with⟨_,z⟩|⟨_,g,e⟩
  ·cases z
  ·obtain⟨b,vs,e1,e2⟩:=G.ow j ds g;exact⟨b,vs,e.trans e1,e2⟩
 ·rcases at_ j _ g1 with⟨_,z⟩|⟨_,g1,e1⟩
  ·cases z
  rcases at_ l _ g2 with⟨_,z⟩|⟨_,g2,e2⟩
  ·cases z
  rw[e1,e2];exact G.dj j l ds es hjl g1 g2
 ·rcases at_ j _ g with⟨rfl,z⟩|⟨hij,g,e⟩
  ·cases z;refine⟨a,as,dO hi,t,λl ds b g2 e2=>?_⟩;rcases at_ l _ g2 with⟨_,z⟩|⟨_,g2,e⟩
   ·cases z
   ·rw[e]at e2;exact own_ne l ds b g2 e2
  ·exact absurd g (za nt (gV hij))
 ·rcases at_ j _ g1 with⟨rfl,z⟩|⟨hij,g1,e⟩
  ·rcases at_ l _ g2 with⟨rfl,z⟩|⟨hij,g2,e⟩
   ·rfl
   ·exact absurd g2 (za nt (gV hij))
  ·exact absurd g1 (za nt (gV hij))
 ·rcases at_ j _ g with⟨_,z⟩|⟨_,g,e'⟩
  ·cases z
  ·rw[e']at e;exact R.mine j ds b g e
 ·rcases at_ j _ g with⟨rfl,z⟩|⟨hij,g,e'⟩
  ·rw[dO hi]at e;cases e;rw[t.top]at q;have:=ur (gD q);subst this;exact⟨λz=>R.own _ (sub _ z) h.1,λb hb z=>R.own _ (sub _ z) (h.2 b hb)⟩
  ·exact absurd g (za nt (gV hij))
theorem XX{rows:List (List D)}(g:Good O₀ H₀ O H)(R:RepS O₀ K O H σ τ)(s:je H H')(h:H a=none/\∀b∈as,H b=none)(t:OwT K (a::as++O) H' rows a as)(nt:noT σ i=true)
 (nx:(zB K O₀ H₀ ex Dd O H).nx (setS σ i (some (.ot rows)))):Dd.nx (τ.set i (some (.ref a))) H':=by
 have hn:∀b∈a::as,H b=none:=λb hb=>(bz.mp hb).elim (λz=>by rw[z];exact h.1) (h.2 b)
 rcases b8 i τ.length with hi|hi
 ·exact nx _ _ (a::as++O) (g.freshT s h) (qd s hn) (R.freshT g.sub s h t nt hi)
 ·have e1:setS σ i (some (.ot rows))=σ:=by
   have out:∀ {σ:Sto} {i:Nat} (v:Option Sl),σ.length<=i->setS σ i v=σ:=by
    intro σ
    induction σ with
    |nil=>intro i v _;rfl
    |cons x r ih =>
     intro i v hl
     cases i with
     |zero=>simp at hl
     |succ i=>simp only[setS];rw[ih v (by simpa using hl)]
   exact out _ (by rw[R.len];exact hi)
  have e2:τ.set i (some (.ref a))=τ:=sJ hi;rw[e1]at nx;rw[e2];exact nx _ _ O (g.mono s) (jc s) (R.mono s)
theorem RepS.reT{as':List Addr}{rows rows':List (List D)}(R:RepS O₀ K O H σ τ)(g:getS σ i=some (.ot rows))(e1:τ[i]?=some (some (.ref a)))(t:OwT K O H rows a as)(hS:je (jd H O) (jd H' O'))(hK:∀b∈O,b ∉ a::as->H' b=H b/\b∈O')(hO:∀b∈O',H' b≠none)
 (t':OwT K O' H' rows' a as') (hn:∀b∈as',b∈as\/H b=none) (hm:∀b∈as',b ∉ O₀):RepS O₀ K O' H' (setS σ i (some (.ot rows'))) τ:=by
 have hi:i<σ.length:=by
  rw[R.len];rcases b8 i τ.length with q|q
  ·exact q
  ·rw[bI q]at e1;cases e1
 obtain⟨a',as0,e1',t0,d⟩:=R.tt.1 i rows g;rw[e1]at e1';cases e1'
 have eas:as0=as:=by
  have:=t0.top;rw[t.top]at this;exact(ur (gD this)).symm
 subst eas
 have at_:∀j z,getS (setS σ i (some (.ot rows'))) j=some z->(j=i/\z=.ot rows')\/(i≠j/\getS σ j=some z):=λj z g=>by
  rw[jj]at g;by_cases hj:i=j/\i<σ.length
  ·rw[if_pos hj]at g;cases g;exact .inl ⟨hj.1.symm,rfl⟩
  ·rw[if_neg hj]at g;exact .inr ⟨λz=>hj ⟨z,hi⟩,g⟩
 refine⟨⟨by rw[jz];exact R.len,hO,λj e gg=>?_,λj ds gg=>?_,λj l ds es hjl g1 g2=>?_,⟨λj rs gg=>?_,λj l rs qs g1 g2=>?_⟩⟩,λj ds b gg e=>?_,λj rs b bs gg e q=>?_⟩
 ·rcases at_ j _ gg with⟨_,z⟩|⟨_,gg⟩
  ·cases z
  ·obtain⟨v,e2,e3⟩:=R.sh j e gg;exact⟨v,e2,Is.mono hS e e3⟩
 ·rcases at_ j _ gg with⟨_,z⟩|⟨_,gg⟩
  ·cases z
  ·obtain⟨b,vs,e2,e3,e4,e5⟩:=R.ow j ds gg;obtain⟨n1,n2⟩:=d j ds b gg e2;obtain⟨k1,k2⟩:=hK b e3 (by simp[n1,n2]);exact⟨b,vs,e2,k2,by rw[k1];exact e4,Iss.mono hS ds e5⟩
 ·rcases at_ j _ g1 with⟨_,z⟩|⟨_,g1⟩
  ·cases z
  rcases at_ l _ g2 with⟨_,z⟩|⟨_,g2⟩
  ·cases z
  exact R.dj j l ds es hjl g1 g2
 ·rcases at_ j _ gg with⟨rfl,z⟩|⟨hij,g'⟩
  ·cases z;refine⟨a,as',e1,t',λl ds b g2 e2=>?_⟩;rcases at_ l _ g2 with⟨_,z⟩|⟨_,g2⟩
   ·cases z
   ·obtain⟨n1,n2⟩:=d l ds b g2 e2;refine⟨n1,λz=>?_⟩;rcases hn b z with y|y
    ·exact n2 y
    ·obtain⟨b',vs,e3,_,e4,_⟩:=R.ow l ds g2;rw[e2]at e3;cases e3;rw[y]at e4;cases e4
  ·exact absurd (R.tt.2 i j _ _ g g') hij
 ·rcases at_ j _ g1 with⟨rfl,_⟩|⟨hij,g'⟩
  ·rcases at_ l _ g2 with⟨rfl,_⟩|⟨hij,g'⟩
   ·rfl
   ·exact absurd (R.tt.2 j l _ _ g g') hij
  ·exact absurd (R.tt.2 i j _ _ g g') hij
 ·rcases at_ j _ gg with⟨_,z⟩|⟨_,gg⟩
  ·cases z
  ·exact R.mine j ds b gg e
 ·rcases at_ j _ gg with⟨rfl,_⟩|⟨hij,g'⟩
  ·rw[e1]at e;cases e;rw[t'.top]at q;have:=ur (gD q);subst this;exact⟨(R.mineT _ rows a as0 g e1 t.top).1,hm⟩
  ·exact absurd (R.tt.2 i j _ _ g g') hij
theorem Iss.setAt:∀ {ds:List D} {vs:List V} {i:Nat} {d:D} {v:V},Iss K S ds vs->Is K S d v->Iss K S (ds.set i d) (vs.set i v)
 |[],vs,i,d,v,h,g=>by unfold Iss at h;subst h;simp;unfold Iss;rfl
 |x::ds,vs,i,d,v,h,g=>by
  unfold Iss at h;obtain⟨u,r,rfl,h1,h2⟩:=h
  cases i with
  |zero=>simp only[jeR];unfold Iss;exact⟨v,r,rfl,g,h2⟩
  |succ i=>simp only[jeS];unfold Iss;exact⟨u,_,rfl,h1,h2.setAt g⟩
theorem Rws.get{H:Hp}:∀ {rows:List (List D)} {as:List Addr} {n:Nat} {r:List D},Rws K O H rows as->rows[n]?=some r->∃b vs,as[n]?=some b/\H b=some (.lst vs)/\Iss K (jd H O) r vs
 |[],as,n,r,_,e=>by simp at e
 |q::rows,as,n,r,h,e=>by
  obtain⟨b,bs,vs,rfl,h1,h2,h3⟩:=h
  cases n with
  |zero=>simp at e;subst e;exact⟨b,vs,rfl,h1,h2⟩
  |succ n=>exact Rws.get (n:=n) h3 (by simpa using e)
theorem Rws.write{H:Hp}{b:Addr}{r:List D}{ws:List V}(hb:b∈O)(is:Iss K (jd H O) r ws):∀ {rows:List (List D)} {as:List Addr} {n:Nat},Rws K O H rows as->as.Nodup->as[n]?=some b->Rws K O (upd H b (.lst ws)) (rows.set n r) as
 |[],as,n,h,_,e=>by cases h;simp at e
 |q::rows,as,n,h,nd,e=>by
  obtain⟨c,bs,vs,rfl,h1,h2,h3⟩:=h;have nd':=nL.mp nd
  cases n with
  |zero =>
   simp at e;subst e;refine⟨c,bs,ws,rfl,ju ..,by rw[jT hb];exact is,h3.imp (by rw[jT hb];exact je.refl _) λx hx us z=>?_⟩
   rw[jg λy=>nd'.1 (by rw[<- y];exact hx)];exact z
  |succ n =>
   have e':bs[n]?=some b:=by simpa using e
   have ne:c≠b:=λy=>nd'.1 (by rw[y];exact gn e')
   exact⟨c,bs,vs,rfl,by rw[jg ne];exact h1,by rw[jT hb];exact h2,Rws.write hb is h3 nd'.2 e'⟩
theorem RepS.rowT{b:Addr}{rows:List (List D)}{n:Nat}(R:RepS O₀ K O H σ τ)(g:getS σ i=some (.ot rows))(e1:τ[i]?=some (some (.ref a)))(t:OwT K O H rows a as)(hb:as[n]?=some b)(is:Iss K (jd H O) r ws) :
 RepS O₀ K O (upd H b (.lst ws)) (setS σ i (some (.ot (rows.set n r)))) τ:=by
 have hm:=gn hb;have hbO:=t.inO.2 b hm
 refine R.reT g e1 t (by rw[jT hbO];exact je.refl _) (λc hc n=>⟨jg λz=>n (by rw[z];exact bo _ hm),hc⟩) (λc hc=>?_) ⟨?_,t.nd,t.inO,t.rw.write hbO is t.nd.2 hb⟩ (λc hc=>.inl hc) λc hc=>(R.mineT i rows a as g e1 t.top).2 c hc
 ·by_cases z:c=b
  ·subst z;rw[ju];exact λz=>nomatch z
  ·rw[jg z];exact R.own c hc
 ·rw[jg λz=>t.nd.1 (by rw[z];exact hm)];exact t.top
theorem RepS.shareT{rows:List (List D)}(R:RepS O₀ K O H σ τ)(g:getS σ i=some (.ot rows))(e1:τ[i]?=some (some (.ref a)))(t:OwT K O H rows a as)(d:∀j ds b,getS σ j=some (.ow ds)->τ[j]?=some (some (.ref b))->b≠a/\b ∉ as) :
 RepS O₀ K (zG O (a::as)) H (setS σ i (some (.sh (kC rows)))) τ:=by
 have old:∀j z,getS (setS σ i (some (.sh (kC rows)))) j=some z->(∀d,z ≠ .sh d)->getS σ j=some z:=λj z h n=>by
  rw[jj]at h;by_cases hj:i=j/\i<σ.length
  ·rw[if_pos hj]at h;cases h;exact absurd rfl (n _)
  ·rw[if_neg hj]at h;exact h
 exact⟨R.toReps.shareT g e1 t d,λj ds b h e=>R.mine j ds b (old j _ h (λ_ z=>nomatch z)) e,R.mineT.step (λj rs h=>⟨old j _ h (λ_ z=>nomatch z),rfl⟩) λ_ _ _ _ _=>rfl⟩
theorem Good.shareT(g:Good O₀ H₀ O H)(hn:∀b∈as,b ∉ O₀):Good O₀ H₀ (zG O as) H :=
 ⟨g.same,λb hb=>jQ.mpr ⟨g.sub b hb,λz=>hn b z hb⟩,λb hb=>g.new b (jQ.mp hb).1⟩
theorem RepS.halfT{rows:List (List D)}(R:RepS O₀ K O H σ τ)(g:getS σ i=some (.ot rows))(e1:τ[i]?=some (some (.ref a)))(t:OwT K O H rows a as)(d:∀j ds b,getS σ j=some (.ow ds)->τ[j]?=some (some (.ref b))->b≠a/\b ∉ as) :
 RepS O₀ K (zG O as) H (setS σ i (some (.ow (rows.map .lst)))) τ:=by
 have lessS:je (jd H O) (jd H (zG O as)):=jE λb hb=>(jQ.mp hb).1
 have hi:i<σ.length:=by
  rw[R.len];rcases b8 i τ.length with q|q
  ·exact q
  ·rw[bI q]at e1;cases e1
 have at_:∀j z,getS (setS σ i (some (.ow (rows.map .lst)))) j=some z->(j=i/\z=.ow (rows.map .lst))\/(i≠j/\getS σ j=some z):=λj z g=>by
  rw[jj]at g;by_cases hj:i=j/\i<σ.length
  ·rw[if_pos hj]at g;cases g;exact .inl ⟨hj.1.symm,rfl⟩
  ·rw[if_neg hj]at g;exact .inr ⟨λz=>hj ⟨z,hi⟩,g⟩
 have aO:a∈zG O as:=jQ.mpr ⟨t.inO.1,t.nd.1⟩;refine⟨⟨by rw[jz];exact R.len,λb hb=>R.own b (jQ.mp hb).1,λj e h=>?_,λj es h=>?_,λj l es fs hjl g1 g2=>?_,⟨λj rs h=>?_,λj l rs qs g1 g2=>?_⟩⟩,λj ds b h e=>?_,λj rs b bs h e q=>?_⟩
 ·rcases at_ j _ h with⟨_,z⟩|⟨_,h⟩
  ·cases z
  ·obtain⟨v,h1,h2⟩:=R.sh j e h;exact⟨v,h1,Is.mono lessS e h2⟩
 ·rcases at_ j _ h with⟨rfl,z⟩|⟨_,h⟩
  ·cases z;exact⟨a,_,e1,aO,t.top,t.rw.iss lessS λb hb z=>(jQ.mp z).2 hb⟩
  ·obtain⟨b,ws,h1,h2,h3,h4⟩:=R.ow j es h;exact⟨b,ws,h1,jQ.mpr ⟨h2,(d j es b h h1).2⟩,h3,Iss.mono lessS es h4⟩
 ·rcases at_ j _ g1 with⟨rfl,z⟩|⟨_,g1'⟩
  ·rcases at_ l _ g2 with⟨rfl,z⟩|⟨_,g2⟩
   ·exact absurd rfl hjl
   ·intro q;rw[e1]at q;exact(d l fs a g2 q.symm).1 rfl
  ·rcases at_ l _ g2 with⟨rfl,z⟩|⟨_,g2⟩
   ·intro q;rw[e1]at q;exact(d j es a g1' q).1 rfl
   ·exact R.dj j l es fs hjl g1' g2
 ·rcases at_ j _ h with⟨_,z⟩|⟨hij,h⟩
  ·cases z
  ·exact absurd (R.tt.2 i j _ _ g h) hij
 ·rcases at_ j _ g1 with⟨_,z⟩|⟨hij,h⟩
  ·cases z
  ·exact absurd (R.tt.2 i j _ _ g h) hij
 ·rcases at_ j _ h with⟨rfl,z⟩|⟨_,h⟩
  ·rw[e1]at e;cases e;exact(R.mineT _ rows a as g e1 t.top).1
  ·exact R.mine j ds b h e
 ·rcases at_ j _ h with⟨_,z⟩|⟨hij,h⟩
  ·cases z
  ·exact absurd (R.tt.2 i j _ _ g h) hij
theorem Reps.ofGet(R:Reps K O H σ τ)(hl:σ'.length=σ.length)(h:∀j z,getS σ' j=some z->getS σ j=some z):Reps K O H σ' τ where
 len:=by rw[hl];exact R.len
 own:=R.own
 sh:=λj d g=>R.sh j d (h j _ g)
 ow:=λj ds g=>R.ow j ds (h j _ g)
 dj:=λj l ds es n g1 g2=>R.dj j l ds es n (h j _ g1) (h l _ g2)
 tt:=R.tt.step (λj rows g=>⟨h j _ g,rfl⟩) (λ_ _ _ _ _ _ _ t=>t) λ_ _ _ _ j ds b _ _ g q=>.inl ⟨ds,h j _ g,q⟩
theorem RepS.ofGet(R:RepS O₀ K O H σ τ)(hl:σ'.length=σ.length)(h:∀j z,getS σ' j=some z->getS σ j=some z):RepS O₀ K O H σ' τ :=
 ⟨R.toReps.ofGet hl h,λj ds a g e=>R.mine j ds a (h j _ g) e,R.mineT.step (λj rows g=>⟨h j _ g,rfl⟩) λ_ _ _ _ _=>rfl⟩
theorem RepS.lose(R:RepS O₀ K O H σ τ)(j:Nat)(v:Option V):RepS O₀ K O H (setS σ j none) (τ.set j v):=by
 have at_:∀i z,getS (setS σ j none) i=some z->getS σ i=some z/\∀w,τ[i]?=some w->(τ.set j v)[i]?=τ[i]?:=λi z g=>by
  rw[jj]at g;by_cases hj:j=i/\j<σ.length
  ·rw[if_pos hj]at g;cases g
  ·rw[if_neg hj]at g;refine⟨g,λw e=>?_⟩;by_cases hij:j=i
   ·subst hij
    have hl:j<τ.length:=by
     rcases b8 j τ.length with q|q
     ·exact q
     ·rw[bI q]at e;cases e
    exact absurd ⟨rfl,by rw[R.len];exact hl⟩ hj
   ·exact dg hij
 have back:∀i z w,getS (setS σ j none) i=some z->(τ.set j v)[i]?=some w->τ[i]?=some w:=λi z w g e=>by
  rcases b8 i τ.length with q|q
  ·obtain⟨_,k⟩:=at_ i z g;have:=k _ (bD q);rw[this]at e;exact e
  ·rw[bI (by rw[gX];exact q)]at e;cases e
 refine⟨⟨by rw[jz,gX];exact R.len,R.own,λi d g=>?_,λi ds g=>?_,λi l ds es n g1 g2=>?_,⟨λi rows g=>?_,λi l rs qs g1 g2=>R.tt.2 i l rs qs (at_ i _ g1).1 (at_ l _ g2).1⟩⟩,λi ds a g e=>R.mine i ds a (at_ i _ g).1 (back i _ _ g e),λi rows a as g e t=>R.mineT i rows a as (at_ i _ g).1 (back i _ _ g e) t⟩
 ·obtain⟨u,e1,e2⟩:=R.sh i d (at_ i _ g).1;exact⟨u,((at_ i _ g).2 _ e1).trans e1,e2⟩
 ·obtain⟨a,vs,e1,e2⟩:=R.ow i ds (at_ i _ g).1;exact⟨a,vs,((at_ i _ g).2 _ e1).trans e1,e2⟩
 ·obtain⟨a,vs,e1,_⟩:=R.ow i ds (at_ i _ g1).1;obtain⟨b,ws,e2,_⟩:=R.ow l es (at_ l _ g2).1;rw[(at_ i _ g1).2 _ e1,(at_ l _ g2).2 _ e2];exact R.dj i l ds es n (at_ i _ g1).1 (at_ l _ g2).1
 ·obtain⟨a,as,e1,t,d⟩:=R.tt.1 i rows (at_ i _ g).1;exact⟨a,as,((at_ i _ g).2 _ e1).trans e1,t,λl ds b g2 e2=>d l ds b (at_ l _ g2).1 (back l _ _ g2 e2)⟩
def yq(σ:Sto)(i j:Nat)(rows:List (List D)):Sto:=setS (setS σ i (some (.ot rows))) j none
structure RowAt (K:bw) (O₀:List Addr) (H₀:Hp) (σ:Sto) (i j l:Nat) (a:Addr) (as:List Addr) (rows:List (List D)) (O:List Addr) (H:Hp) (τ:L2.St):Prop where
 g:Good O₀ H₀ O H
 R:RepS O₀ K O H (yq σ i j rows) τ
 ia:τ[i]?=some (some (.ref a))
 top:H a=some (.lst (as.map V.ref))
 row:∃b,as[l]?=some b/\τ[j]?=some (some (.ref b))
theorem ug{rows:List (List D)}(hij:i≠j)(hi:i<σ.length):getS (yq σ i j rows) i=some (.ot rows):=by
 unfold yq;rw[jj,if_neg λz=>hij z.1.symm,jj,if_pos ⟨rfl,hi⟩]
theorem RowAt.get{rows:List (List D)}{row:List D}(A:RowAt K O₀ H₀ σ i j l a as rows O H τ)(hij:i≠j)(hi:i<σ.length)(hr:rows[l]?=some row) :
 ∃b vs,OwT K O H rows a as/\as[l]?=some b/\τ[j]?=some (some (.ref b))/\H b=some (.lst vs)/\Iss K (jd H O) row vs/\b∈O:=by
 obtain⟨a',as',e1,t,d⟩:=A.R.tt.1 i rows (ug hij hi);rw[A.ia]at e1;cases e1
 have eas:as'=as:=by
  have:=t.top;rw[A.top]at this;exact(ur (gD this)).symm
 subst eas;obtain⟨b,hb,ej⟩:=A.row;obtain⟨b',vs,hb',e3,e4⟩:=t.rw.get hr;rw[hb]at hb';cases hb';exact⟨b,vs,t,hb,ej,e3,e4,t.inO.2 b (gn hb)⟩
theorem RowAt.mono{rows:List (List D)}(A:RowAt K O₀ H₀ σ i j l a as rows O H τ)(s:je H H'):RowAt K O₀ H₀ σ i j l a as rows O H' τ:=⟨A.g.mono s,A.R.mono s,A.ia,s _ _ A.top,A.row⟩
theorem RowAt.rest{rows:List (List D)}(A:RowAt K O₀ H₀ σ i j l a as rows O H τ)(hij:i≠j):Reps K O H (setS (setS σ i none) j none) τ:=by
 refine A.R.toReps.ofGet (by unfold yq;simp only[jz]) λm z g=>?_
 unfold yq;rw[jj]at g ⊢;simp only[jz]at g ⊢;split at g
 ·cases g
 ·next h1 =>
  rw[if_neg h1];rw[jj]at g ⊢;split at g
  ·cases g
  ·next h2=>rw[if_neg h2];exact g
theorem RowAt.seen{rows:List (List D)}{row:List D}{b:Addr}(A:RowAt K O₀ H₀ σ i j l a as rows O H τ)(hij:i≠j)(hi:i<σ.length)(t:OwT K O H rows a as)(hb:as[l]?=some b)(ej:τ[j]?=some (some (.ref b)))(e3:H b=some (.lst vs))(e4:Iss K (jd H O) row vs) :
 Reps K (less O b) H (setS (setS σ i none) j (some (.sh (.lst row)))) τ:=by
 have lessS:je (jd H O) (jd H (less O b)):=jE λc hc=>(jZ.mp hc).1
 have at_:∀m z,getS (setS (setS σ i none) j (some (.sh (.lst row)))) m=some z->(m=j/\z=.sh (.lst row))\/(m≠i/\getS (yq σ i j rows) m=some z):=λm z g=>by
  rw[jj]at g;simp only[jz]at g;split at g
  ·next h=>cases g;exact .inl ⟨h.1.symm,rfl⟩
  ·next h1 =>
   rw[jj]at g;split at g
   ·cases g
   ·next h2 =>
    have hm:m≠i:=λz=>h2 ⟨z.symm,by rw[<- z]at hi;rw[z]at hi;exact hi⟩
    refine .inr ⟨hm,?_⟩;unfold yq;rw[jj];simp only[jz];rw[if_neg h1,jj,if_neg λz=>hm z.1.symm];exact g
 obtain⟨a',as',e1',t',d⟩:=A.R.tt.1 i rows (ug hij hi);rw[A.ia]at e1';cases e1'
 have eas:as'=as:=by
  have:=t'.top;rw[t.top]at this;exact(ur (gD this)).symm
 subst eas;refine⟨by simp only[jz];have:=A.R.len;unfold yq at this;simp only[jz]at this;exact this,λc hc=>A.R.own c (jZ.mp hc).1,λm d' g=>?_,λm ds g=>?_,λm n ds es hmn g1 g2=>?_,⟨λm rs g=>?_,λm n rs qs g1 g2=>?_⟩⟩
 ·rcases at_ m _ g with⟨rfl,z⟩|⟨_,g⟩
  ·cases z;refine⟨.ref b,ej,qJ (SqL.of ?_) (Iss.mono lessS row e4)⟩;rw[kz λz=>(jZ.mp z).2 rfl];exact e3
  ·obtain⟨v,q1,q2⟩:=A.R.sh m d' g;exact⟨v,q1,Is.mono lessS d' q2⟩
 ·rcases at_ m _ g with⟨_,z⟩|⟨_,g⟩
  ·cases z
  ·obtain⟨c,ws,q1,q2,q3,q4⟩:=A.R.ow m ds g;refine⟨c,ws,q1,jZ.mpr ⟨q2,λz=>(d m ds c g q1).2 ?_⟩,q3,Iss.mono lessS ds q4⟩;rw[z];exact gn hb
 ·rcases at_ m _ g1 with⟨_,z⟩|⟨_,g1⟩
  ·cases z
  rcases at_ n _ g2 with⟨_,z⟩|⟨_,g2⟩
  ·cases z
  exact A.R.dj m n ds es hmn g1 g2
 ·rcases at_ m _ g with⟨_,z⟩|⟨hm,g⟩
  ·cases z
  ·exact absurd (A.R.tt.2 m i _ _ g (ug hij hi)) hm
 ·rcases at_ m _ g1 with⟨_,z⟩|⟨hm,g⟩
  ·cases z
  ·exact absurd (A.R.tt.2 m i _ _ g (ug hij hi)) hm
theorem RowAt.write{rows:List (List D)}{b:Addr}(A:RowAt K O₀ H₀ σ i j l a as rows O H τ)(hij:i≠j)(hi:i<σ.length)(t:OwT K O H rows a as)(hb:as[l]?=some b)(ej:τ[j]?=some (some (.ref b)))(is:Iss K (jd H O) r ws) :
 RowAt K O₀ H₀ σ i j l a as (rows.set l r) O (upd H b (.lst ws)) τ:=by
 have hm:=gn hb;have gi:=ug (rows:=rows) hij hi;have e1:=A.ia;have hn:=(A.R.mineT i rows a as gi e1 t.top).2 b hm;refine⟨A.g.write (t.inO.2 b hm) hn,(A.R.rowT gi e1 t hb is).ofGet (by unfold yq;simp only[jz]) λm z g=>?_,A.ia,?_,b,hb,ej⟩
 ·unfold yq at *;rw[jj]at g;rw[jj];simp only[jz]at g ⊢;by_cases him:i=m/\i<σ.length
  ·rw[if_pos him];rw[if_neg λz=>hij (him.1.trans z.1.symm),jj,if_pos him]at g;exact g
  ·rw[if_neg him,jj];simp only[jz];split at g
   ·cases g
   ·next h1 =>
    rw[if_neg h1];rw[jj,if_neg him]at g;rw[jj,if_neg him];exact g
 ·rw[jg λz=>t.nd.1 (by rw[z];exact hm)];exact t.top
def tR1(K:bw)(C:Cfg)(O₀:List Addr)(H₀:Hp)(i j:Nat)(r:RSt):TS:=λD τ H=>∃σ l a as rows row O,(i≠j/\i<σ.length)/\RowAt K O₀ H₀ σ i j l a as rows O H τ/\rows[l]?=some row /\
 Vd C j (setS σ i none) r row λrow'=>∀H',je (jd H O) (jd H' O)->RowAt K O₀ H₀ σ i j l a as (rows.set l row') O H' τ->D.nx τ H'
def tR(K:bw)(C:Cfg)(O₀:List Addr)(H₀:Hp)(i j:Nat)(rs:List RSt):TS:=λD τ H=>∃σ l a as rows row O,(i≠j/\i<σ.length)/\RowAt K O₀ H₀ σ i j l a as rows O H τ/\rows[l]?=some row /\
 wpR C j (setS σ i none) rs row λrow'=>∀H',je (jd H O) (jd H' O)->RowAt K O₀ H₀ σ i j l a as (rows.set l row') O H' τ->D.nx τ H'
theorem sR_app(ok:OkS X k C)(h:vo k j (.app v) st=true):PS X st (tR1 X.K C O₀ H₀ i j (.app v)):=by
 unfold vo at h;replace h:=jb h;obtain⟨z,hz,h⟩:=h;obtain⟨pos,rfl⟩:=K3 hz;replace h:=jb h;obtain⟨⟨fe,xs,ks,cp⟩,hc,h⟩:=h;have ee:=xH hc;subst ee;simp only[bh,decide_eq_true_eq,gG]at h;obtain⟨⟨⟨hk,hl1⟩,hat⟩,he⟩:=h;replace hat:=jb hat;obtain⟨⟨ob,at',ap⟩,hy,hat⟩:=hat;have ee:=yk hy;subst ee;simp only[bh,decide_eq_true_eq]at hat;obtain⟨⟨ha1,ha2⟩,ha3⟩:=hat;subst ha1 hk;replace ha2:=jb ha2;obtain⟨x,hx,hloc⟩:=ha2;obtain⟨q,rfl⟩:=js hx;obtain⟨y,rfl⟩:=qA hl1;have he:chkE k v y=true:=he;obtain⟨h1,h2,h3,h4⟩:=ok.vis hloc;refine PS.imp (λD τ H w=>?_) (vA (UC pB jdm PySem.F.type_list_append Ka (kB h1 (qW h2) h3 h4) (jM (sB ok.toOk v y he).1 kH (jw he _ _)) rfl (by rw[jw he];rfl) ha3 (jw he _ _) rfl));obtain⟨σ,l,a,as,rows,row,O,⟨hij,hi⟩,A,hr,hlim,w⟩:=w;obtain⟨b,vs,t,hb,ej,e3,e4,hbO⟩:=A.get hij hi hr;refine⟨.ref b,ej,.inl ⟨rfl,vs,SqL.of e3⟩,_,O,A.rest hij,ja v (λd wd u H1 s1 i1=>?_) w⟩;have hl:=e4.length;refine⟨b,vs,u,rfl,rfl,s1 _ _ e3,by rw[pF];unfold lim at hlim;lia,?_⟩;refine wd _ ?_ ((A.mono s1).write hij hi (t.mono s1) hb ej ((Iss.mono (jc s1) row e4).append (by unfold Iss;exact⟨u,[],rfl,i1,by unfold Iss;rfl⟩)));rw[jT hbO];exact jc s1
theorem jbE(ok:OkS X k C)(h:vo k j (.sto none e v) st=true):PS X st (tR1 X.K C O₀ H₀ i j (.sto none e v)):=by
 unfold vo at h;replace h:=jb h;obtain⟨⟨ts,vE⟩,ha,h⟩:=h;obtain⟨pos,rfl⟩:=xf ha;replace h:=jb h;obtain⟨t,ht,h⟩:=h;have et:=yS ht;simp only at et;subst et;replace h:=jb h;obtain⟨⟨ob,ix⟩,hx,h⟩:=h;obtain⟨p,rfl⟩:=zT hx;simp only[bh,dE]at h;obtain⟨⟨⟨⟨hsl,hcm⟩,hloc⟩,he⟩,hv⟩:=h;replace hloc:=jb hloc;obtain⟨x,hn,hloc⟩:=hloc;obtain⟨q,rfl⟩:=js hn;obtain⟨h1,h2,h3,h4⟩:=ok.vis hloc
 have hasg:∀u,assign (.Subscript (.Name x q) ix p) X.env u=(do
  let ov <- sR [u] (eval (.Name x q) X.env)
  let iv <- sR [u,ov] (eval ix X.env)
  jeZ p
  sR [u,ov,iv] (setItem ov iv u)
  release [u,ov,iv] []):=by
  intro u
  cases ix<;>first|rfl|exact bG hsl
 refine PS.imp (λD τ H w=>?_) (Yi (sB ok.toOk v vE hv).1 (jbN (kB h1 (qW h2) h3 h4) (sB ok.toOk e ix he).1 XM hasg) (by unfold jdh;exact vJ hv hcm _ _ _) (by cases vE<;>rfl) rfl);obtain⟨σ,l,a,as,rows,row,O,⟨hij,hi⟩,A,hr,w⟩:=w;obtain⟨b,vs,t,hb,ej,e3,e4,hbO⟩:=A.get hij hi hr;refine⟨_,_,A.seen hij hi t hb ej e3 e4,ja v (λd wd u H1 s1 i1=>?_) w⟩;have i1:=jav (s1 _ _ e3) d wd.1 i1;refine⟨.ref b,ej,_,O,(A.mono s1).rest hij,ja e (λy wy yv H2 s2 i2=>?_) wd.2⟩
 cases y with
 |int n =>
  cases jr i2;obtain⟨⟨n0,n1⟩,q⟩:=wy;have s12:=s1.trans s2;have hl:=e4.length;refine⟨b,vs,n,n.toNat,rfl,rfl,s12 _ _ e3,by unfold ixN;rw[if_pos n0,if_pos (by lia)],?_⟩;have i3:Iss X.K (jd H2 O) (row.set n.toNat d) (vs.set n.toNat u):=(Iss.mono (jc s12) row e4).setAt (Is.mono (jc s2) d i1);refine q _ ?_ ((A.mono s12).write hij hi (t.mono s12) hb ej i3);rw[jT hbO]
  exact jc s12
 |_=>exact wy.elim
theorem sR1(ok:OkS X k C)(r:RSt)(st:Stmt)(h:vo k j r st=true):PS X st (tR1 X.K C O₀ H₀ i j r):=by
 cases r with
 |app v=>exact sR_app ok h
 |sto c e v =>
  cases c with
  |none=>exact jbE ok h
  |some c =>
   unfold vo at h;replace h:=jb h;obtain⟨⟨t,xs,ys⟩,hz,h⟩:=h;obtain⟨pos,rfl⟩:=X3 hz;simp only[bh,gG]at h;obtain⟨⟨h0,hc⟩,h⟩:=h;subst h0;replace h:=jb h;obtain⟨s,hs,h⟩:=h;have es:=V9 hs;subst es;refine PS.imp (λD τ H w=>?_) (jbH (sB ok.toOk c t hc).2 (Ui (jbE (O₀:=O₀) (H₀:=H₀) (i:=i) ok (e:=e) (v:=v) (show vo k j (.sto none e v) s=true from h))) qU);obtain⟨σ,l,a,as,rows,row,O,⟨hij,hi⟩,A,hr,w⟩:=w;refine⟨_,O,A.rest hij,ja c (λd=>ka λb wb H1 s1=>?_) w⟩
   cases b with
   |true=>exact⟨σ,l,a,as,rows,row,O,⟨hij,hi⟩,A.mono s1,hr,va (s:=.sto none e v) (λrow' q H' s' A'=>q H' ((jc s1).trans s') A') wb⟩
   |false =>
    have hset:rows.set l row=rows:=by
     apply jfb;intro m;rw[jfc];split
     ·next e=>subst e;split
              ·exact hr.symm
              ·next hh=>rw[bI (by lia)]
     ·rfl
    exact wb H1 (jc s1) (by rw[hset];exact A.mono s1)
theorem sRs(ok:OkS X k C){i j:Nat}:∀(rs:List RSt) (ss:List Stmt),jbW k j rs ss=true->PSs X ss (tR X.K C O₀ H₀ i j rs)
 |[],ss,h=>by
  have e:ss=[]:=by rw[jbW]at h;simpa using h
  subst e;refine PSs.imp (λD τ H w=>?_) qU;obtain⟨σ,l,a,as,rows,row,O,hh,A,hr,w⟩:=w
  have hset:rows.set l row=rows:=by
   apply jfb;intro m;rw[jfc];split
   ·next e=>subst e;split
            ·exact hr.symm
            ·next hh=>rw[bI (by lia)]
   ·rfl
  exact w H (je.refl _) (by rw[hset];exact A)
 |r::rs,ss,h=>by
  rw[jbW]at h
  cases ss with
  |nil=>simp at h
  |cons s ss =>
   simp only[bh,d6,gk]at h;refine PSs.imp (λD τ H w=>?_) (kA (sR1 (i:=i) (O₀:=O₀) (H₀:=H₀) ok r s h.1.2) (sRs (i:=i) ok rs ss h.2));obtain⟨σ,l,a,as,rows,row,O,hh,A,hr,w⟩:=w;refine⟨σ,l,a,as,rows,row,O,hh,A,hr,va (λrow' q H' s' A'=>?_) w⟩;have hl:l<rows.length:=(g6.mp hr).1;refine⟨σ,l,a,as,rows.set l row',row',O,hh,A',by rw[dO hl],uk rs (λrow2 q2 H2 s2 A2=>q2 H2 (s'.trans s2) ?_) q⟩;rw[List.set_set]at A2;exact A2
theorem Zq{ss:List RSt}{rows:List (List D)}(hij:i≠j)(hjl:j<σ.length)(g:Good O₀ H₀ O H)(R:RepS O₀ K O H σ τ)(gs:getS σ i=some (.ot rows))(ea:τ[i]?=some (some (.ref a)))(t:OwT K O H rows a as)
 (w:uM (wpR C j (setS σ i none) ss) rows λrows'=>(zB K O₀ H₀ ex Dd O H).nx (setS (setS σ i (some (.ot rows'))) j none)) :
 ∃W:Nat->Nat->L2.St->Hp->Prop,(∃m,W 0 m τ H)/\∀l m τ H,W l m τ H->((Itl K a).stop l H/\Dd.nx τ H)\/((Itl K a).go l H/\∃N:L2.St->Hp->Prop,(∀τ' H',N τ' H'->∃m',m'<m/\W (l+1) m' τ' H') /\
  ∀x H',(Itl K a).yld l H x H'->vj j x τ H' λτ2 H2=>tR K C O₀ H₀ i j ss { Dd with nx:=N,ct:=N,bk:=Dd.nx } τ2 H2):=by
 have hi:i<σ.length:=by
  rw[R.len];rcases b8 i τ.length with q|q
  ·exact q
  ·rw[bI q]at ea;cases ea
 have hlen:=t.rw.len
 have R0:RepS O₀ K O H (yq σ i j rows) τ:=by
  refine R.ofGet (by unfold yq;simp only[jz]) λm z q=>?_
  unfold yq at q;rw[jj]at q;split at q
  ·cases q
  ·rw[jj]at q;split at q
   ·next h=>rw[<- h.1,gs];exact q
   ·exact q
 let P:Nat->L2.St->Hp->Prop:=λl τ' H'=>∃dn rest,dn.length=l/\dn.length+rest.length=as.length/\Good O₀ H₀ O H'/\je (jd H O) (jd H' O)/\RepS O₀ K O H' (yq σ i j (dn++rest)) τ'/\τ'[i]?=some (some (.ref a))/\H' a=some (.lst (as.map V.ref)) /\
  uM (wpR C j (setS σ i none) ss) rest λrest'=>(zB K O₀ H₀ ex Dd O H).nx (setS (setS σ i (some (.ot (dn++rest')))) j none)
 refine⟨λl m τ' H'=>m=as.length-l/\l<=as.length/\P l τ' H',⟨_,rfl,mL _,[],rows,rfl,by simp[hlen],g,je.refl _,R0,ea,t.top,w⟩,?_⟩;rintro l m τ1 H1 ⟨rfl,hl,dn,rest,hd,hsum,g1,s1,R1,ea1,top1,w1⟩
 cases rest with
 |nil =>
  refine .inl ⟨⟨as.map V.ref,SqL.of top1,by rw[bj];simp at hsum;lia⟩,?_⟩;rw[di]at R1;have w1:(zB K O₀ H₀ ex Dd O H).nx (setS (setS σ i (some (.ot (dn ++ [])))) j none):=w1;rw[di]at w1
  exact w1 τ1 H1 O g1 s1 R1
 |cons row rest =>
  have hlt:l<as.length:=by simp only[dU]at hsum;lia
  refine .inr ⟨⟨as.map V.ref,.ref as[l],SqL.of top1,by rw[bY,bD hlt];rfl⟩,λτ' H'=>l+1<=as.length/\P (l+1) τ' H',λτ' H' q=>⟨as.length-(l+1),by lia,rfl,q.1,q.2⟩,λx H2 y=>?_⟩;obtain⟨e2,y⟩:=y;subst e2;have hx:=y _ (SqL.of top1);rw[bY,bD hlt]at hx;cases hx
  have hrow:(dn++row::rest)[l]?=some row:=by rw[dN (by lia),hd,tX];rfl
  have R2:=R1.lose j (some (.ref as[l]))
  have R3:RepS O₀ K O H2 (yq σ i j (dn++row::rest)) (τ1.set j (some (.ref as[l]))):=by
   refine R2.ofGet (by unfold yq;simp only[jz]) λm z q=>?_
   rw[jj];split
   ·next h =>
    unfold yq at q;rw[jj]at q;unfold yq at h;simp only[jz]at h q;rw[if_pos h]at q;exact q
   ·exact q
  have ei:(τ1.set j (some (.ref as[l])))[i]?=some (some (.ref a)):=by rw[dg (gV hij)];exact ea1
  have hj:j<τ1.length:=by
   have:=R1.len;unfold yq at this;simp only[jz]at this;lia
  refine⟨σ,l,a,as,_,row,O,⟨hij,hi⟩,⟨g1,R3,ei,top1,as[l],bD hlt,dO hj⟩,hrow,uk ss (λrow' q H' s' A'=>⟨hlt,dn ++ [row'],rest,by simp[hd],by simp only[b6,dU,mF]at hsum ⊢;lia,A'.g,s1.trans s',?_,ei,A'.top,by simpa using q⟩) w1⟩
  have e:(dn++row::rest).set l row'=dn ++ [row']++rest:=by rw[List.set_append_right _ _ (by lia),hd,tX];simp
  have:=A'.R;rw[e]at this;exact this
end
end Z
namespace Z
open PySem PySem.Spec PySem.Calls PyProof.Rows PySem.W L2
def Y6(D:Addr)(σ:L2.St)(H:Hp):Prop:=∃ea oe u,σ[0]?=some (some (.ref ea))/\H ea=some (.frz oe u)/\oe.cls=.ref D
def tIx(D:Addr)(b:Bool):TE:=λσ H Q=>Y6 D σ H/\Q (.bl b) H
def isiOk(e:Expr)(c:Str):Bool:=(ke e).any λz=>decide (z.1=("isinstance":Str))&&decide (z.2.1.length=2)&&decide (jv (z.2.1.getD 0 e)=some ("_law_e":Str))&&decide (jv (z.2.1.getD 1 e)=some c)
variable{e:Expr}{c:Str}
theorem YE(h:isiOk e c=true):∃q qe qc p,e=.Call (.Name "isinstance" q) [.Name "_law_e" qe,.Name c qc] [] p:=by
 unfold isiOk at h;obtain⟨⟨x,xs,pos⟩,hx,h⟩:=jb h;obtain⟨q,rfl⟩:=jG hx;simp only[bh,decide_eq_true_eq]at h;obtain⟨⟨⟨h1,h2⟩,h3⟩,h4⟩:=h;subst h1;obtain⟨a,b,rfl⟩:=xx h2;obtain⟨qe,rfl⟩:=js (show jv a=_ from h3);obtain⟨qc,rfl⟩:=js (show jv b=_ from h4);exact⟨q,qe,qc,pos,rfl⟩
def z5:List Str->List Expr->Bool
 |[],es=>es.isEmpty
 |c::cs,es=>!es.isEmpty&&isiOk (es.getD 0 (.Name "" ⟨0,0,0,0⟩)) c&&z5 cs (es.drop 1)
def Ua(cs:List Str)(e:Expr):Bool:=(Xw e).any λes=>z5 cs es
def QS(s:Stmt)(p:Expr->Bool):Bool:=(xW s).any λz=>(uG z.1).any λt=>decide (jv t=some ("_law_flags":Str))&&p z.2
def jbc(cs:List Str)(e:Expr):Bool:=(jcf e).any λz=>decide (z.2.1=.Add)&&decide (jv z.1=some ("_law_flags":Str))&&Ua cs z.2.2
variable{p:Pos}
theorem X5{s:Stmt}{p:Expr->Bool}(h:QS s p=true):∃q v pos,s=.Assign [.Name "_law_flags" q] v pos/\p v=true:=by
 unfold QS at h;replace h:=jb h;obtain⟨⟨ts,v⟩,ha,h⟩:=h;obtain⟨pos,rfl⟩:=xf ha;replace h:=jb h;obtain⟨t,ht,h⟩:=h;have et:=yS ht;simp only at et;subst et;simp only[bh,decide_eq_true_eq]at h;obtain⟨q,rfl⟩:=js h.1;exact⟨q,v,pos,rfl,h.2⟩
structure AX (X:Cx):Prop where
 n0:X.N[0]?=some ("_law_e":Str)
 n1:X.N[1]?=some ("_law_flags":Str)
 nd:X.N.Nodup
 l0:X.env.scope.names.lookup ("_law_e":Str)=some .local
 l1:X.env.scope.names.lookup ("_law_flags":Str)=some .local
 gl:∀c∈("isinstance":Str)::("TrueError":Str)::("ValueError":Str)::jF,Gl X c
 fn:∀x,X.fn x=true
variable{q qe qc:Pos}{cs:List Str}{es:List Expr}
section
variable {X:Cx} {D:Addr} {y:Str}
theorem JD(e:ExcIn X.K D):xI X (.builtin "isinstance") (λvs H Q=>∃ea oe u cv cu b,vs=[.ref ea,cv]/\H ea=some (.frz oe u)/\oe.cls=.ref D/\(∀u',jV cv u'->u'=cu)/\kitOne X.K (.ref D) cu=some b/\Q (.bl b) H):=by
 rintro pins s τ H vs us Q I r ⟨ea,oe,u,cv,cu,b,rfl,he,hc,hr,hk,q⟩;obtain⟨u1,u2,rfl,r1,r2⟩:=Xc r;cases hr u2 r2;cases (show u1=mf ea from r1);have ob:=I.hok ea _ he
 exact nM (jci e) I.kIn ⟨oe,ob.1,hc⟩ hk (λz=>nomatch z) λtk=>⟨.bl b,H,I.tok tk,rfl,q⟩
theorem pe_isx(a:AX X)(F:AloneF X.K X.mg y D)(hc:c∈jF):PE X (.Call (.Name "isinstance" q) [.Name "_law_e" qe,.Name c qc] [] p) (tIx D (decide (c=y))):=by
 obtain⟨Ca,hm,hk⟩:=F.cls c hc;have g:=a.gl c (by simp[hc])
 have hdb:(c == ("__debug__":Str))=false:=by
  have:∀c∈jF,(c == ("__debug__":Str))=false:=by decide +kernel
  exact this c hc
 have pn:PE X (.Name c qc) (tC (.ref Ca)):=K7 g hm rfl hdb;refine PE.imp (λτ H Q w=>?_) (kN (JD F.ex) (a.gl _ (by simp)) F.isi mX (jM (kB a.n0 (.inl a.l0)) (jM pn kH)));obtain⟨⟨ea,oe,u,h1,h2,h3⟩,w⟩:=w;exact⟨_,h1,ea,oe,u,_,_,_,rfl,h2,h3,λu' r=>r,hk,w⟩
theorem pe_isT(a:AX X)(F:AloneF X.K X.mg y D):PE X (.Call (.Name "isinstance" q) [.Name "_law_e" qe,.Name "TrueError" qc] [] p) (tIx D true):=by
 obtain⟨Ca,hm,hk⟩:=F.te;have pn:PE X (.Name "TrueError" qc) (tC (.ref Ca)):=K7 (a.gl _ (by simp)) hm rfl;refine PE.imp (λτ H Q w=>?_) (kN (JD F.ex) (a.gl _ (by simp)) F.isi mX (jM (kB a.n0 (.inl a.l0)) (jM pn kH)));obtain⟨⟨ea,oe,u,h1,h2,h3⟩,w⟩:=w;exact⟨_,h1,ea,oe,u,_,_,_,rfl,h2,h3,λu' r=>r,hk,w⟩
theorem pe_isV(a:AX X)(F:AloneF X.K X.mg y D):PE X (.Call (.Name "isinstance" q) [.Name "_law_e" qe,.Name "ValueError" qc] [] p) (tIx D true):=by
 have pn:PE X (.Name "ValueError" qc) (tC (.ty "ValueError")):=ZI (a.gl _ (by simp)) F.vn PyProof.Rows.Boot.«ValueError» rfl;refine PE.imp (λτ H Q w=>?_) (kN (JD F.ex) (a.gl _ (by simp)) F.isi mX (jM (kB a.n0 (.inl a.l0)) (jM pn kH)));obtain⟨⟨ea,oe,u,h1,h2,h3⟩,w⟩:=w;exact⟨_,h1,ea,oe,u,_,_,_,rfl,h2,h3,λu' r=>r,F.ve,w⟩
def fl(y:Str)(cs:List Str):List Bool:=cs.map λc=>decide (c=y)
theorem Ub(a:AX X)(F:AloneF X.K X.mg y D):∀(cs:List Str) (es:List Expr),z5 cs es=true->(∀c∈cs,c∈jF)->PA X es (λσ H Q=>Y6 D σ H/\Q ((fl y cs).map .bl) H)
 |[],es,h,_=>by
  have e:es=[]:=by rw[z5]at h;simpa using h
  subst e
  exact PA.imp (λτ H Q w=>w.2) kH
 |c::cs,es,h,hc=>by
  rw[z5]at h
  cases es with
  |nil=>simp at h
  |cons e r =>
   simp only[bh,d6,gk]at h;obtain⟨q,qe,qc,p,rfl⟩:=YE (show isiOk e c=true from h.1.2);refine PA.imp (λτ H Q w=>?_) (jM (pe_isx a F (hc c (bC ..))) (Ub a F cs r h.2 λz hz=>hc z (bo _ hz)));exact⟨w.1,w.1,w.2⟩
theorem QJ(a:AX X)(F:AloneF X.K X.mg y D)(h:z5 cs es=true)(hc:∀c∈cs,c∈jF)(hl:cs.length<=100) :
 PE X (.List es p) (λσ H Q=>Y6 D σ H/\∀p H',je H H'->SqL X.K H' p ((fl y cs).map .bl)->Q (.ref p) H'):=by
 refine PE.imp (λτ H Q w=>?_) (KJ (Ub a F cs es h hc));refine⟨w.1,?_,λp hp=>w.2 p _ (jL hp _) (SqL.of (ju ..))⟩
 have:100<=sizeLine:=by decide
 simp[fl];exact bS hl this
theorem Yn{K:Frag}{S:Hp}:∀bs:List Bool,Iss K S (bs.map Z.D.bl) (bs.map V.bl)
 |[]=>by unfold Iss;rfl
 |b::bs=>by
  simp only[bq];unfold Iss;exact⟨_,_,rfl,j3 b,Yn bs⟩
theorem UP{K:Frag}{S:Hp}:∀ {bs:List Bool} {vs:List V},Iss K S (bs.map Z.D.bl) vs->vs=bs.map V.bl
 |[],vs,h=>by unfold Iss at h;exact h
 |b::bs,vs,h=>by
  simp only[bq]at h;unfold Iss at h;obtain⟨v,r,rfl,h1,h2⟩:=h;rw[qj h1,UP h2];rfl
theorem op_cat:OpR X (wB .Add) (λx z H Q=>∃(p1 p2:Addr) (bs cs:List Bool),x=.ref p1/\z=.ref p2/\SqL X.K H p1 (bs.map .bl)/\SqL X.K H p2 (cs.map .bl)/\bs.length+cs.length<=lim/\∀p H',je H H'->SqL X.K H' p ((bs++cs).map .bl)->Q (.ref p) H'):=by
 rintro pins s τ H x z v u Q I rx ry ⟨p1,p2,bs,cs,rfl,rfl,h1,h2,hl,q⟩;cases (show v=mf p1 from rx);cases (show u=mf p2 from ry);refine J0 (O:=[]) (xs:=bs.map Z.D.bl) (ys:=cs.map Z.D.bl) I (λ_ z=>nomatch z) ⟨by simpa using hl,λv H' sm i=>?_⟩ h1 h2 (Yn bs) (Yn cs);rw[<- de]at i;obtain⟨p,vs,rfl,sq,is⟩:=jN i;rw[UP is]at sq;exact q p H' sm ((jf _ _).seq sq)
theorem ZT(a:AX X)(F:AloneF X.K X.mg y D){pos:Pos}(h:z5 cs es=true)(hc:∀c∈cs,c∈jF)(hl:cs.length<=100) :
 PE X (.BinOp (.Name "_law_flags" q) .Add (.List es p) pos) (λσ H Q=>Y6 D σ H/\∃(p1:Addr) (bs:List Bool),σ[1]?=some (some (.ref p1))/\SqL X.K H p1 (bs.map .bl)/\bs.length<=1000/\∀p H',je H H'->SqL X.K H' p ((bs++fl y cs).map .bl)->Q (.ref p) H'):=by
 refine PE.imp (λτ H Q w=>?_) (jaR op_cat (kB a.n1 (.inl a.l1)) (QJ a F h hc hl));obtain⟨hx,p1,bs,e1,sq,hb,w⟩:=w;refine⟨.ref p1,e1,hx,λp2 H' sm sq2=>⟨p1,p2,bs,fl y cs,rfl,rfl,sm.seq sq,sq2,?_,λp H2 s2 sq3=>w p H2 (sm.trans s2) sq3⟩⟩;simp[fl];unfold lim;lia
theorem Xj{h:gQ}:∀ {bs:List Bool} {its:List bp},jH (bs.map V.bl) its->∃as,ReadsAll h its (bs.map wJ) as
 |[],its,r=>by cases r;exact⟨_,.nil⟩
 |b::bs,its,r=>by
  cases r with
  |cons r1 r2 =>
   cases r1;obtain⟨as,ra⟩:=Xj r2;exact⟨_,.cons (.bool b) ra⟩
theorem jcm(bs:List Bool):Spec.countIn (.bool true) (bs.map wJ)=(bs.countP id:Nat):=by
 induction bs with
 |nil=>rfl
 |cons b bs ih =>
  rw[bq,Spec.countIn,ih];cases b
  ·rw[show (if Spec.same (wJ false) (wJ true)=true then (1:Int) else 0)=0 from rfl];simp
  ·rw[show (if Spec.same (wJ true) (wJ true)=true then (1:Int) else 0)=1 from rfl];simp;lia
theorem jaH:MtR X "list.count" (λx xs H Q=>∃(p:Addr) (bs:List Bool),x=.ref p/\xs=[.bl true]/\SqL X.K H p (bs.map .bl)/\Q (.int (bs.countP id:Nat)) H):=by
 rintro pins s τ H x xs v us Q I rx rs ⟨p,bs,rfl,rfl,sq,q⟩;cases (show v=mf p from rx);obtain⟨u,rfl,ru⟩:=rs.one;cases (show u=td true from ru);obtain⟨its,r,pl,_⟩:=I.list sq;obtain⟨as,ra⟩:=Xj (h:=s.heap) r;refine count_list_bools pl.isList ra (by simp[Shape.has]) ?_;rw[jcm];exact⟨.int _,H,I.tok _,⟨_,rfl⟩,q⟩
def endC(e:Expr):Bool:=(xO e).any λf=>f.2.2.1.isEmpty&&decide (f.2.1.length=1)&&decide (qx (f.2.1.getD 0 e)=some (.bool true))&&(yE f.1).any λo=>decide (o.2.1=("count":Str))&&decide (jv o.1=some ("_law_flags":Str))&&(o.2.2.endLine == f.2.2.2.line)
def endE(e:Expr):Bool:=(Uh e).any λc=>decide (c.2.1=[.Eq])&&decide (c.2.2.length=1)&&decide (qx (c.2.2.getD 0 e)=some (.int 1))&&endC c.1
def jb5(s:Stmt):Bool:=(XS s).any λv=>v.any λv=>(Qu v).any λz=>decide (z.1=.And)&&decide (z.2.1.length=3)&&isiOk (z.2.1.getD 1 v) "TrueError" && isiOk (z.2.1.getD 2 v) "ValueError" && endE (z.2.1.getD 0 v)
theorem endC_(h:endC e=true):∃q ap cp j p,e=.Call (.Attribute (.Name "_law_flags" q) "count" ap) [.Constant (.bool true) j p] [] cp/\(ap.endLine == cp.line)=true:=by
 unfold endC at h;replace h:=jb h;obtain⟨⟨f,xs,ks,cp⟩,h1,h⟩:=h;cases xH h1;simp only[bh,decide_eq_true_eq,gG]at h;obtain⟨⟨⟨rfl,h2⟩,h3⟩,h⟩:=h;obtain⟨x,rfl⟩:=qA h2;obtain⟨j,p,rfl⟩:=xR (show qx x=_ from h3);replace h:=jb h;obtain⟨⟨o,nm,ap⟩,h4,h⟩:=h;cases yk h4;simp only[bh,decide_eq_true_eq]at h;obtain⟨⟨rfl,h5⟩,h6⟩:=h;obtain⟨q,rfl⟩:=js h5;exact⟨_,_,_,_,_,rfl,h6⟩
theorem endE_(h:endE e=true):∃q ap cp j p j2 p2 p3,e=.Compare (.Call (.Attribute (.Name "_law_flags" q) "count" ap) [.Constant (.bool true) j p] [] cp) [.Eq] [.Constant (.int 1) j2 p2] p3/\(ap.endLine == cp.line)=true:=by
 unfold endE at h;replace h:=jb h;obtain⟨⟨l,ops,rs⟩,h1,h⟩:=h;obtain⟨p3,rfl⟩:=K9 h1;simp only[bh,decide_eq_true_eq]at h;obtain⟨⟨⟨rfl,h2⟩,h3⟩,h⟩:=h;obtain⟨r,rfl⟩:=qA h2;obtain⟨j2,p2,rfl⟩:=xR (show qx r=_ from h3);obtain⟨q,ap,cp,j,p,rfl,h4⟩:=endC_ h;exact⟨_,_,_,_,_,_,_,_,rfl,h4⟩
theorem Zu{α:Type}{xs:List α}(h:xs.length=3):∃a b c,xs=[a,b,c]:=by
 match xs,h with
 |[a,b,c],_=>exact⟨a,b,c,rfl⟩
theorem endOk_{s:Stmt}(h:jb5 s=true):∃e1 e2 q ap cp j p j2 p2 p3 p4 p5,s=.Return (some (.BoolOp .And [.Compare (.Call (.Attribute (.Name "_law_flags" q) "count" ap) [.Constant (.bool true) j p] [] cp) [.Eq] [.Constant (.int 1) j2 p2] p3,e1,e2] p4)) p5 /\
 isiOk e1 "TrueError"=true/\isiOk e2 "ValueError"=true/\(ap.endLine == cp.line)=true:=by
 unfold jb5 at h;replace h:=jb h;obtain⟨ov,h1,h⟩:=h;obtain⟨p5,rfl⟩:=Qb h1;replace h:=jb h;obtain⟨v,rfl,h⟩:=h;replace h:=jb h;obtain⟨⟨op,vs,p4⟩,h2,h⟩:=h;cases vC h2;simp only[bh,decide_eq_true_eq]at h;obtain⟨⟨⟨⟨rfl,h4⟩,h5⟩,h6⟩,h⟩:=h;obtain⟨c,e1,e2,rfl⟩:=Zu h4;obtain⟨_,_,_,_,_,_,_,_,rfl,h7⟩:=endE_ (e:=c) h;exact⟨_,_,_,_,_,_,_,_,_,_,_,_,rfl,h5,h6,h7⟩
def vH:List Stmt->Bool
 |[s1,s2,s3,s4]=>QS s1 (Ua (jF.take 4))&&QS s2 (jbc ((jF.drop 4).take 4))&&QS s3 (jbc (jF.drop 8))&&jb5 s4
 |_=>false
theorem sum1{y:Str}(h:y∈jF):(((fl y (jF.take 4)++fl y ((jF.drop 4).take 4))++fl y (jF.drop 8)).countP id)=1:=by
 have:∀y∈jF,(((fl y (jF.take 4)++fl y ((jF.drop 4).take 4))++fl y (jF.drop 8)).countP id)=1:=by decide +kernel
 exact this y h
theorem xV{σ:L2.St}{H H':Hp}{v:V}{D:Addr}(h:Y6 D σ H)(sm:je H H'):Y6 D (σ.set 1 (some v)) H':=by
 obtain⟨ea,oe,u,h1,h2,h3⟩:=h;exact⟨ea,oe,u,by rw[dg (by decide)];exact h1,sm _ _ h2,h3⟩
theorem VI(a:AX X)(F:AloneF X.K X.mg y D)(hN:1<X.N.length){body:List Stmt}(h:vH body=true):PSs X body (λE σ H=>Y6 D σ H/\σ.length=X.N.length/\∀H',je H H'->E.rt (.bl true) H'):=by
 unfold vH at h;split at h
 ·next s1 s2 s3 s4 =>
  simp only[bh]at h;obtain⟨⟨⟨h1,h2⟩,h3⟩,h4⟩:=h;obtain⟨q1,v1,p1,rfl,g1⟩:=X5 h1;obtain⟨q2,v2,p2,rfl,g2⟩:=X5 h2;obtain⟨q3,v3,p3,rfl,g3⟩:=X5 h3;obtain⟨e1,e2,q,ap,cp,j,p,j2,p2',p3',p4,p5,rfl,i1,i2,hl⟩:=endOk_ h4;obtain⟨es1,f1,g1⟩:=jb g1;obtain⟨lp1,rfl⟩:=zV f1;replace g2:=jb g2;obtain⟨⟨l2,o2,r2⟩,b2,g2⟩:=g2;obtain⟨bp2,rfl⟩:=JE b2;simp only[bh,decide_eq_true_eq]at g2;obtain⟨⟨z2,y2⟩,g2⟩:=g2;subst z2;obtain⟨nq2,rfl⟩:=js y2;replace g2:=jb g2;obtain⟨es2,f2,g2⟩:=g2;obtain⟨lp2,rfl⟩:=zV f2;replace g3:=jb g3;obtain⟨⟨l3,o3,r3⟩,b3,g3⟩:=g3;obtain⟨bp3,rfl⟩:=JE b3;simp only[bh,decide_eq_true_eq]at g3;obtain⟨⟨z3,y3⟩,g3⟩:=g3;subst z3;obtain⟨nq3,rfl⟩:=js y3;replace g3:=jb g3;obtain⟨es3,f3,g3⟩:=g3;obtain⟨lp3,rfl⟩:=zV f3;obtain⟨a1,a2,a3,a4,rfl⟩:=YE i1;obtain⟨b1',b2',b3',b4',rfl⟩:=YE i2
  have m1:∀c∈jF.take 4,c∈jF:=λc hc=>nS hc
  have m2:∀c∈(jF.drop 4).take 4,c∈jF:=λc hc=>gJ (nS hc)
  have m3:∀c∈jF.drop 8,c∈jF:=λc hc=>gJ hc
  refine PSs.imp (λE σ H w=>?_) (kA (ye a.nd a.n1 (.inl a.l1) (QJ a F g1 m1 (by decide)) rfl (.inl (a.fn _))) (kA (ye a.nd a.n1 (.inl a.l1) (ZT a F g2 m2 (by decide)) rfl (.inl (a.fn _))) (kA (ye a.nd a.n1 (.inl a.l1) (ZT a F g3 m3 (by decide)) rfl (.inl (a.fn _))) (kA
   (Jq (X8 (UM op_eq (UC pB PySem.F.slot_list_count PySem.F.type_list_count jaH (kB a.n1 (.inl a.l1)) (jM V6 kH) rfl rfl hl) Y9 (nomark _)) (X8 (pe_isT a F) (Zi (pe_isV a F))))) qU))))
  obtain⟨hx,hln,w⟩:=w
  have h1l:1<σ.length:=by rw[hln];exact hN
  refine⟨hx,λp1 H1 s1 sq1=>?_⟩;refine⟨xV hx s1,p1,_,dO h1l,sq1,by simp[fl,jF],λp2 H2 s2 sq2=>?_⟩;refine⟨xV (xV hx s1) s2,p2,_,dO (by rw[gX];exact h1l),sq2,by simp[fl,jF],λp3 H3 s3 sq3=>?_⟩;have hx3:=xV (v:=.ref p3) (xV (v:=.ref p2) (xV (v:=.ref p1) hx s1) s2) s3;refine⟨.ref p3,dO (by rw[gX,gX];exact h1l),.inl ⟨rfl,_,sq3⟩,p3,_,rfl,rfl,sq3,?_⟩;rw[sum1 F.mem];refine⟨rfl,true,rfl,?_⟩;rw[if_pos rfl];refine⟨hx3,true,rfl,?_⟩;rw[if_pos rfl];exact⟨hx3,w H3 ((s1.trans s2).trans s3)⟩
 ·cases h
end
end Z
namespace Z
open PySem PySem.Spec PyProof.Rows L2
variable{K:bw}{J:It}{i:Nat}{body:Sm}{τ:L2.St}{H1 H:Hp}{σ:Sto}{O1 O:List Addr}{Dd:Ends}{a:Addr}{xs:List D}{us vs:List V}{f:List D->Prop}{o:Option Sl}
section
variable {X:Cx} {k:Ck} {C:Cfg} {O₀:List Addr} {H₀:Hp} {ex:XD->Prop}
theorem Jm:∀ {σ:Sto} {i:Nat} (v:Option Sl),σ.length<=i->setS σ i v=σ
 |[],i,v,_=>rfl
 |x::r,0,v,h=>by simp at h
 |x::r,i+1,v,h=>by simp only[setS];rw[Jm v (by simpa using h)]
theorem Iss.set{S:Hp}:∀ {ds:List D} {vs:List V} {i:Nat} {d:D} {v:V},Iss K S ds vs->Is K S d v->Iss K S (ds.set i d) (vs.set i v)
 |[],vs,i,d,v,h,g=>by unfold Iss at h;subst h;simp;unfold Iss;rfl
 |x::ds,vs,i,d,v,h,g=>by
  unfold Iss at h;obtain⟨u,r,rfl,h1,h2⟩:=h
  cases i with
  |zero=>simp only[jeR];unfold Iss;exact⟨v,r,rfl,g,h2⟩
  |succ i=>simp only[jeS];unfold Iss;exact⟨u,_,rfl,h1,h2.set g⟩
theorem for_turnsG{xs:List D}{S:Hp}{D:Ends}(g1:Good O₀ H₀ O1 H1)(R1:RepS O₀ X.K O1 H1 σ τ)
 (hgo:∀j H O,je (jd H1 O1) (jd H O)->j<xs.length->J.go j H) (hst:∀j H O,je (jd H1 O1) (jd H O)->xs.length<=j->J.stop j H)
 (hy:∀j H O v H' d,(∀a∈O,H a≠none)->je (jd H1 O1) (jd H O)->J.yld j H v H'->xs[j]?=some d->je H H'/\Is X.K (jd H' O) d v)
 (w:forL (λK σ=>wpS C body K σ) i (zB X.K O₀ H₀ ex D O1 H1) xs σ) :
 ∃W:Nat->Nat->L2.St->Hp->Prop,(∃m,W 0 m τ H1)/\∀j m τ H,W j m τ H->(J.stop j H/\D.nx τ H)\/(J.go j H/\∃N:L2.St->Hp->Prop,(∀τ' H',N τ' H'->∃m',m'<m/\W (j+1) m' τ' H') /\
  ∀x H',J.yld j H x H'->vj i x τ H' λτ2 H2=>tS X.K C O₀ H₀ ex body { D with nx:=N,ct:=N,bk:=D.nx } τ2 H2):=by
 refine⟨λj m τ H=>m=xs.length-j/\j<=xs.length/\∃σ O,Good O₀ H₀ O H/\je (jd H1 O1) (jd H O)/\RepS O₀ X.K O H σ τ/\forL (λK σ=>wpS C body K σ) i (zB X.K O₀ H₀ ex D O1 H1) (xs.drop j) σ,
  ⟨_,rfl,mL _,σ,O1,g1,je.refl _,R1,by simpa using w⟩,?_⟩
 rintro j m τ H ⟨rfl,hj,σ,O,g,sm,R,w⟩;by_cases hlt:j<xs.length
 ·refine .inr ⟨hgo j H O sm hlt,λτ' H'=>j+1<=xs.length/\∃σ O,Good O₀ H₀ O H'/\je (jd H1 O1) (jd H' O)/\RepS O₀ X.K O H' σ τ'/\forL (λK σ=>wpS C body K σ) i (zB X.K O₀ H₀ ex D O1 H1) (xs.drop (j+1)) σ,
   λτ' H' ⟨h1,h2⟩=>⟨xs.length-(j+1),by lia,rfl,h1,h2⟩,λx H' y=>?_⟩
  obtain⟨e,is⟩:=hy j H O x H' xs[j] R.own sm y (bD hlt);rw[gC hlt]at w;rw[forL]at w;refine⟨_,O,g.mono e,(R.mono e).set is,jn body ?_ w⟩;exact⟨λσ' q τ' H' O' g' s' r'=>⟨hlt,σ',O',g',(sm.trans (jc e)).trans s',r',q⟩,λ_ q=>q,λσ' q τ' H' O' g' s' r'=>q τ' H' O' g' ((sm.trans (jc e)).trans s') r',λσ' q τ' H' O' g' s' r'=>⟨hlt,σ',O',g',(sm.trans (jc e)).trans s',r',q⟩,λ_ q=>q,λ_ q=>q,λ_ q=>q⟩
 ·have e:j=xs.length:=by lia
  subst e;refine .inl ⟨hst _ H O sm (df _),?_⟩;rw[jfr]at w;exact w τ H O g sm R
theorem JX{xs:List D}{S:Hp}{D:Ends}(g1:Good O₀ H₀ O1 H1)(R1:RepS O₀ X.K O1 H1 σ τ)
 (hgo:∀j H O,je (jd H1 O1) (jd H O)->j<xs.length->J.go j H) (hst:∀j H O,je (jd H1 O1) (jd H O)->xs.length<=j->J.stop j H)
 (hy:∀j H O v H' d,je (jd H1 O1) (jd H O)->J.yld j H v H'->xs[j]?=some d->H'=H/\Is X.K (jd H O) d v)
 (w:forL (λK σ=>wpS C body K σ) i (zB X.K O₀ H₀ ex D O1 H1) xs σ) :
 ∃W:Nat->Nat->L2.St->Hp->Prop,(∃m,W 0 m τ H1)/\∀j m τ H,W j m τ H->(J.stop j H/\D.nx τ H)\/(J.go j H/\∃N:L2.St->Hp->Prop,(∀τ' H',N τ' H'->∃m',m'<m/\W (j+1) m' τ' H') /\
  ∀x H',J.yld j H x H'->vj i x τ H' λτ2 H2=>tS X.K C O₀ H₀ ex body { D with nx:=N,ct:=N,bk:=D.nx } τ2 H2) :=
 for_turnsG (S:=S) g1 R1 hgo hst (λj H O v H' d _ s y e=>by obtain⟨q,i⟩:=hy j H O v H' d s y e;subst q;exact⟨je.refl _,i⟩) w
theorem UW(l:Addr)(items:Array bp)(n:Nat)(b:Addr)(items2:Array bp)(n2:Nat)(sl:Array (Option bp))(hc0:¬(!items.isEmpty&&mI (items.size+items2.size))=true)(hc1:items.size<=sizeLine)(hs2:items.size+items2.size<=sizeLine+1) :
 Meets (tU.«list.extend» ⟨[.ref l,.ref b],[]⟩) (λ_ R s=>s.heap.get? l=some { cls:=.type "list",dict:=none,data:=.seq items n,slots:=#[] }/\s.heap.get? b=some { cls:=.type "list",dict:=none,data:=.seq items2 n2,slots:=sl }/\R (.ok (.ret pY)) { s with heap:=s.heap.update l (t8 λx=>x++items2),toks:=s.toks }) :=
 .of_wp λprog w A R s h=>by
  obtain⟨hp,g,d,tk,os⟩:=s;obtain⟨hl,hb,h⟩:=h;have f1:=AutoSeq1.idx_int;have f2:=AutoSeq1.sub_tuple_tuple;have f3:=AutoSeq1.sub_list_list;have f4:=AutoSeq1.sub_tuple_list;have f5:=AutoSeq1.sub_list_tuple
  have hz':(items++items2).size<=sizeLine+1:=by rw[Array.size_append];exact hs2
  wp_walk using(wW hl rfl (hz:=hc1) (_hz':=hz')),jdo hl,jdo hb;exact⟨_,rfl,h⟩
def rExtS(K:bw):V->List V->Hp->VK->Prop:=λx vs H Q=>∃l b xs zs,x=.ref l/\vs=[.ref b]/\H l=some (.lst xs)/\SqL K H b zs/\xs.length+zs.length<=sizeLine/\Q .non (upd H l (.lst (xs++zs)))
theorem mt_extS{X:Cx}:MtM X "list.extend" (rExtS X.K):=by
 intro pins s σ H x vs v us Q I rx rv h;obtain⟨l,b,xs,zs,rfl,rfl,hH,hB,hz,q⟩:=h;cases rx;obtain⟨u,rfl,ru⟩:=rv.one;cases ru;obtain⟨z,its,n,r,hl,e⟩:=I.lstM hH;obtain⟨its2,r2,⟨⟨cl,dd,dt,sl⟩,n2,e2,hc,hd,hs⟩,z2⟩:=I.list hB;simp only at hc hd hs;subst hc hd hs;have hl2:=r2.length
 have hsz:its.toArray.size+its2.toArray.size<=sizeLine:=by rw[dw,dw];lia
 have hlong:¬ (!its.toArray.isEmpty&&mI (its.toArray.size+its2.toArray.size))=true:=by
  rw[notLongL hsz,Bool.and_false];exact dS
 refine jeH jdp ⟨_,e,rfl⟩ PySem.F.entry_list_extend (PySem.F.args_list_extend_2 _ _)
  (UW l its.toArray n b its2.toArray n2 sl hlong (by rw[dw];lia) (by lia)) ⟨e,e2,?_⟩
 refine⟨.non,_,I.lset (its':=its++its2) hH e (by simp) (r.append r2) ?_,rfl,q⟩;rw[b6];lia
theorem put_new{H':Hp}(g:Good O₀ H₀ O H)(R:RepS O₀ X.K O H σ τ)(s:je H H')(h0:H a=none)(h1:H' a=some (.lst us))(is:Iss X.K (jd H' (a::O)) xs us)
 (nx:(zB X.K O₀ H₀ ex Dd O H).nx (setS σ i (some (.ow xs)))):Dd.nx (τ.set i (some (.ref a))) H':=by
 rcases b8 i τ.length with hi|hi
 ·exact nx _ _ (a::O) (g.fresh s h0) (ko s h0) (R.fresh g.sub s h0 h1 is hi)
 ·have e1:setS σ i (some (.ow xs))=σ:=Jm _ (by rw[R.len];exact hi);have e2:τ.set i (some (.ref a))=τ:=sJ hi;rw[e1]at nx;rw[e2];exact nx _ _ O (g.mono s) (jc s) (R.mono s)
theorem jbL{p:Addr}(h:H a=some (.lst vs))(hp:p≠a)(n:Xb xs=true)(is:Iss K (jd H (p::less O a)) xs us):Iss K (jd H (p::O)) xs us:=by
 refine QE (a:=a) h xs n ?_
 have e:less (p::O) a=p::less O a:=by unfold less;simp[hp]
 rw[e];exact is
theorem oc_of{g:List (List D)->Prop}(w:ocD f g o):(∃ds,o=some (.ow ds)/\f ds)\/∃rows,o=some (.ot rows)/\g rows:=by
 match o,w with
 |some (.ow ds),w=>exact .inl ⟨ds,rfl,w⟩
 |some (.ot rows),w=>exact .inr ⟨rows,rfl,w⟩
theorem jb0(w:JM f o):∃ds,o=some (.ow ds)/\f ds:=by
 match o,w with
 |some (.ow ds),w=>exact⟨ds,rfl,w⟩
theorem isL_of{d:D}(w:isL f d):∃xs,d=.lst xs/\f xs:=by
 cases d<;>first|exact w.elim|exact⟨_,rfl,w⟩
theorem Y0{c:Ex}{j m0:Nat}{ds:List D}(hij:i≠j)(g:Good O₀ H₀ O H)(R:RepS O₀ X.K O H σ τ)(gs:getS σ j=some (.ow ds))(ea:τ[j]?=some (some (.ref a)))(h1:H a=some (.lst vs))(is:Iss X.K (jd H O) ds vs)
 (w:uh (λσ Q=>wpE C c σ Q) i m0 (zB X.K O₀ H₀ ex Dd O H) ds σ) :
 ∃W:Nat->Nat->L2.St->Hp->Prop,(∃m,W 0 m τ H)/\∀l m τ H,W l m τ H->((Itl X.K a).stop l H/\Dd.nx τ H)\/((Itl X.K a).go l H/\∃N:L2.St->Hp->Prop,(∀τ' H',N τ' H'->∃m',m'<m/\W (l+1) m' τ' H') /\
  ∀x H',(Itl X.K a).yld l H x H'->vj i x τ H' λτ2 H2=>tAsg (tD X.K C c) (vj m0) { Dd with nx:=N,ct:=N,bk:=Dd.nx } τ2 H2):=by
 have hl:=is.length
 refine⟨λl m τ' H'=>m=ds.length-l/\l<=ds.length/\je H H'/\∃σ',RepS O₀ X.K O H' σ' τ'/\uh (λσ Q=>wpE C c σ Q) i m0 (zB X.K O₀ H₀ ex Dd O H) (ds.drop l) σ',
  ⟨_,rfl,mL _,je.refl _,σ,R,by simpa using w⟩,?_⟩
 rintro l m τ' H' ⟨rfl,hlt,sm,σ',R',w⟩
 have sq:∀ {H2:Hp},je H H2->SqL X.K H2 a vs:=λs2=>SqL.of (s2 _ _ h1)
 by_cases hl2:l<ds.length
 ·refine .inr ⟨⟨vs,vs[l],sq sm,bD (by lia)⟩,λτ2 H2=>l+1<=ds.length/\je H H2/\∃σ',RepS O₀ X.K O H2 σ' τ2/\uh (λσ Q=>wpE C c σ Q) i m0 (zB X.K O₀ H₀ ex Dd O H) (ds.drop (l+1)) σ',
   λτ2 H2 q=>⟨ds.length-(l+1),by lia,rfl,q.1,q.2.1,q.2.2⟩,λx H2 y=>?_⟩
  obtain⟨e2,y⟩:=y;subst e2;obtain⟨z,e3,e4⟩:=is.get (bD hl2);have:=y vs (sq sm);rw[e3]at this;cases this;rw[gC hl2]at w;have R2:=R'.set (i:=i) (Is.mono (jc sm) _ e4);exact⟨_,O,R2.toReps,ja c (λd wb v H3 s3 i3=>⟨hl2,sm.trans s3,_,(R2.mono s3).set i3,wb⟩) w⟩
 ·have e:l=ds.length:=by lia
  subst e;refine .inl ⟨⟨vs,sq sm,by lia⟩,?_⟩;rw[jfr]at w;exact w τ' H' O (g.mono sm) (jc sm) R'
theorem u9{r s:List (List D)}(h:kC r=kC s):r=s:=by
 unfold kC at h;injection h with h
 induction r generalizing s with
 |nil=>cases s<;>simp at h;rfl
 |cons a r ih =>
  cases s with
  |nil=>simp at h
  |cons b s =>
   simp only[bq,bO]at h;injection h.1 with e;rw[e,ih h.2]
theorem jcl{C:Cfg}{O₀:List Addr}{H₀:Hp}{ex:XD->Prop}{a b:Sm}{D:Ends}(hs:uB a=true)(w:tS K C O₀ H₀ ex (.seq a b) D τ H):tS K C O₀ H₀ ex b D τ H:=by
 obtain⟨i,e⟩:=isShr_ hs;obtain⟨σ,O,g,R,w⟩:=w;rcases e with rfl|rfl|rfl
 rotate_left
 ·obtain⟨rows,gs,w⟩:=jct w;obtain⟨a,as,e1,t,dj⟩:=R.tt.1 i rows gs;have m:=R.mineT i rows a as gs e1 t.top;exact⟨_,_,g.shareT (λb hb=>(bz.mp hb).elim (λz=>by rw[z];exact m.1) (m.2 b)),R.shareT gs e1 t dj,jn b (kS (jE λx hx=>(jQ.mp hx).1)) w⟩
 ·rcases oc_of w with⟨ds,_,w⟩|⟨rows,gs,w⟩
  ·exact⟨_,_,g,R,w⟩
  obtain⟨a,as,e1,t,dj⟩:=R.tt.1 i rows gs;have m:=R.mineT i rows a as gs e1 t.top;exact⟨_,_,g.shareT m.2,R.halfT gs e1 t dj,jn b (kS (jE λx hx=>(jQ.mp hx).1)) w⟩
 rw[wS_seq,Zd]at w
 cases gs:getS σ i with
 |none=>rw[gs]at w;exact w.elim
 |some u =>
  rw[gs]at w
  cases u with
  |sh d=>exact w.elim
  |ot _=>exact w.elim
  |ow ds =>
   obtain⟨a,vs,e1,e2,e3,e4⟩:=R.ow i ds gs;exact⟨_,_,g.share (R.mine i ds a gs e1),R.share gs e1 e3 e4,jn b (kS (jE λx hx=>(jZ.mp hx).1)) w⟩
mutual
theorem sS(ok:OkS X k C):∀(s:Sm) (st:Stmt),xw k s st=true->PS X st (tS X.K C O₀ H₀ ex s)
 |.nop,st,h=>zff h
 |.seq a b,st,h=>zff h
 |.set i e,st,h=>by
  replace h:=jb h;obtain⟨⟨ts,v⟩,ha,h⟩:=h;obtain⟨pos,rfl⟩:=xf ha;replace h:=jb h;obtain⟨t,ht,h⟩:=h;have et:=yS ht;simp only at et;subst et;replace h:=jb h;obtain⟨x,hx,h⟩:=h;obtain⟨p,rfl⟩:=js hx
  ·rw[bh]at h;obtain⟨h1,h2,h3,h4⟩:=ok.vis h.1
   have plain:tI v (some (.Name x p)) pos.line X.env=pure false->PS X (.Assign [.Name x p] v pos) (tS X.K C O₀ H₀ ex (.set i e)):=λhsw=>by
    refine PS.imp (λD τ H w=>?_) (ye ok.nd h1 h2 (sB ok.toOk e v h.2).1 hsw (.inl (ok.fn _)));obtain⟨σ,O,g,R,w⟩:=w;exact⟨σ,O,R.toReps,ja e (λd wd v H1 s1 i1=>wd _ H1 O (g.mono s1) (jc s1) ((R.mono s1).set i1)) w⟩
   cases hq:uY v with
   |false=>exact plain (vJ h.2 hq _ _ _)
   |true =>
    obtain⟨y,py,iter,elt,ifs,sc,ps,wi,tt,te,rfl,hck,hpi,hfo,hel,hco⟩:=Zx ok.toOk e v h.2 hq;obtain⟨b,hb⟩:=zU (elt:=elt) (gs:=[⟨.Name y py,iter,ifs,0⟩]) (sc:=sc) (pos:=ps) (py:=p) (y:=x) pos.line X.env
    cases b with
    |false=>exact plain hb
    |true =>
     intro pins s τ H D I w;obtain⟨cl,co⟩:=ok.toOk.comp hck I.ok;refine KS ok.calm ok.nd (ok.toOk.comp_nE hck) co hpi (hel cl co).1 (hel cl co).2 hfo hb h1 h2 (.inl (ok.fn _)) pins s τ H D I (hco τ H _ ?_);obtain⟨σ,O,g,R,w⟩:=w
     exact⟨σ,O,R.toReps,ja e (λd wd v H1 s1 i1=>wd _ H1 O (g.mono s1) (jc s1) ((R.mono s1).set i1)) w⟩
 |.unp is e,st,h=>by
  replace h:=jb h;obtain⟨⟨ts,v⟩,ha,h⟩:=h;obtain⟨pos,rfl⟩:=xf ha;replace h:=jb h;obtain⟨t,ht,h⟩:=h;have et:=yS ht;simp only at et;subst et;replace h:=jb h;obtain⟨es,hx,h⟩:=h;obtain⟨j,p,rfl⟩:=Zc hx
  ·simp only[bh]at h;obtain⟨⟨h1,h2⟩,h3⟩:=h;obtain⟨pg,hl,hf⟩:=J9 ok is es h1
   have hsw:swappedStores [.Tuple es j p] v X.env=pure none:=by
    cases v<;>first|rfl|exact bG h2
   refine PS.imp (λD τ H w=>?_) (Yi (sB ok.toOk e v h3).1 (pg_sq ok.calm pg hl hf) (by unfold jdh;exact VE _ _ _) hsw rfl);obtain⟨σ,O,g,R,w⟩:=w;refine⟨σ,O,R.toReps,ja e (λd wd v H1 s1 i1=>?_) w⟩
   cases d with
   |tup ds =>
    obtain⟨σ',e1,q⟩:=wd;obtain⟨a,vs,rfl,h4,h5⟩:=qu i1
    exact .inl ⟨a,vs,rfl,(kG (jf _ _) h4),by rw[h5.length,zW is e1],uO is (R.mono s1) h5 e1 λτ' R'=>q τ' H1 O (g.mono s1) (jc s1) R'⟩
   |lst ds =>
    obtain⟨σ',e1,q⟩:=wd;obtain⟨a,vs,rfl,h4,h5⟩:=jN i1
    exact .inr ⟨a,vs,rfl,(jf _ _).seq h4,by rw[h5.length,zW is e1],uO is (R.mono s1) h5 e1 λτ' R'=>q τ' H1 O (g.mono s1) (jc s1) R'⟩
   |_=>exact wd.elim
 |.ret e,st,h=>by
  replace h:=jb h;obtain⟨ov,ho,h⟩:=h;replace h:=jb h;obtain⟨v,hv,h⟩:=h;subst hv;obtain⟨pos,rfl⟩:=Qb ho
  ·refine PS.imp (λD τ H w=>?_) (Jq (sB ok.toOk e v h).1);obtain⟨σ,O,g,R,w⟩:=w
   exact⟨σ,O,R.toReps,ja e (λd wd v H1 s1 i1=>wd v H1 (g.same.trans s1) (Is.mono (jE g.sub) d i1)) w⟩
 |.ite c a b,st,h=>by
  replace h:=jb h;obtain⟨⟨t,x,y⟩,hz,h⟩:=h;obtain⟨pos,rfl⟩:=X3 hz;simp only[bh]at h;refine PS.imp (λD τ H w=>?_) (jbH (sB ok.toOk c t h.1.1).2 (sK ok a x h.1.2) (sK ok b y h.2));obtain⟨σ,O,g,R,w⟩:=w;refine⟨σ,O,R.toReps,ja c (λd=>ka λt wt H1 s1=>?_) w⟩
  cases t with
  |true=>exact⟨σ,O,g.mono s1,R.mono s1,jn a (kS (jc s1)) wt⟩
  |false=>exact⟨σ,O,g.mono s1,R.mono s1,jn b (kS (jc s1)) wt⟩
 |.whl c b,st,h=>by
  replace h:=jb h;obtain⟨⟨t,x,oe⟩,hz,h⟩:=h;obtain⟨pos,rfl⟩:=asWhl_ hz;simp only[bh,gG]at h;obtain⟨⟨he,h1⟩,h2⟩:=h;subst he
  ·have h:chkE k c t=true/\yC k b x=true:=⟨h1,h2⟩
   refine PS.imp (λD τ H w=>?_) (jbi (by rw[ok.xe];exact pO) (sB ok.toOk c t h.1).2 (sK ok b x h.2));obtain⟨σ,O,g,R,w⟩:=w;obtain⟨W,⟨m,w0⟩,turn⟩:=w;refine⟨λm τ' H'=>∃σ' O',Good O₀ H₀ O' H'/\je (jd H O) (jd H' O')/\RepS O₀ X.K O' H' σ' τ'/\W m σ',⟨m,σ,O,g,je.refl _,R,w0⟩,?_⟩;rintro m τ1 H1 ⟨σ1,O1,g1,s1,R1,w1⟩;refine⟨σ1,O1,R1.toReps,ja c (λd=>ka λt wt H2 s2=>?_) (turn m σ1 w1)⟩;have s12:je (jd H O) (jd H2 O1):=s1.trans (jc s2)
   cases t with
   |true =>
    refine⟨λτ' H'=>∃m',m'<m/\∃σ' O',Good O₀ H₀ O' H'/\je (jd H O) (jd H' O')/\RepS O₀ X.K O' H' σ' τ'/\W m' σ',λτ' H' q=>q,σ1,O1,g1.mono s2,R1.mono s2,jn b ?_ wt⟩
    exact⟨λσ' ⟨m',l,q⟩ τ' H' O' g' s' r'=>⟨m',l,σ',O',g',s12.trans s',r',q⟩,λ_ q=>q,λσ' q τ' H' O' g' s' r'=>q τ' H' O' g' (s12.trans s') r',λσ' ⟨m',l,q⟩ τ' H' O' g' s' r'=>⟨m',l,σ',O',g',s12.trans s',r',q⟩,λ_ q=>q,λ_ q=>q,λ_ q=>q⟩
   |false=>exact wt τ1 H2 O1 (g1.mono s2) s12 (R1.mono s2)
 |.forR i es b,st,h=>by
  replace h:=jb h;obtain⟨⟨tg,it,body,oe⟩,hz,h⟩:=h;obtain⟨pos,rfl⟩:=vW hz;replace h:=jb h;obtain⟨x,hxn,h⟩:=h;obtain⟨p,e1⟩:=js hxn;clear hxn;simp only at e1;subst e1;replace h:=jb h;obtain⟨⟨f,args,p2⟩,hc,h⟩:=h;obtain⟨q,e2⟩:=jG hc;simp only at e2;subst e2;simp only[bh,decide_eq_true_eq,gG]at h;obtain⟨⟨⟨⟨⟨⟨he,hx⟩,hf⟩,hg⟩,hne⟩,ha⟩,hb⟩:=h;subst he hf
  ·skip
   obtain⟨h1,h2,h3,h4⟩:=ok.vis hx;obtain⟨g1,_,_⟩:=ok.gl hg
   cases args with
   |nil=>simp at hne
   |cons y ys =>
    have hs:bU (y::ys) X.env=(false,eval y X.env)::bU ys X.env/\(backTo p2 (bU ys X.env)).any (·.1)=false:=by
     cases es with
     |nil=>have:=jR ha;cases this
     |cons z zs =>
      obtain⟨y',ys',e',h5,h6⟩:=jJ ha;cases e';exact⟨jw h5 _ _,kc h6 _ _⟩
    refine PS.imp (λD τ H w=>?_) (JC (by rw[ok.xe];exact pO) ok.calm (Ku g1 (ok.blt _ (by decide)) (sA ok.toOk es _ ha) hs.1 hs.2) (zt ok.nd h1 h2 (.inl (ok.fn _))) (sK ok b body hb) (λ_=>rfl));obtain⟨σ,O,g,R,w⟩:=w;refine⟨σ,O,R.toReps,jm es (λds wd vs H1 s1 i1=>?_) w⟩;obtain⟨lo,hi,st,e,c,wd⟩:=uZ i1 wd;refine⟨lo,hi,st,e,c,?_⟩;refine JX (S:=H1) (g.mono s1) (R.mono s1) (xs:=jW lo st (if lo<hi then (hi-lo-1) / st+1 else 0).toNat) ?_ ?_ ?_ (qa (body:=λK σ=>wpS C b K σ) (λK K' σ h w=>jn b h w) (kS (jc s1)) _ wd)
    ·intro j H O _ hj;rw[jq]at hj;exact hj
    ·intro j H O _ hj;rw[jq]at hj;exact hj
    ·intro j H O v H' d _ y hd;obtain⟨e1,e2⟩:=y
     have hj:j<(if lo<hi then (hi-lo-1) / st+1 else 0).toNat:=by
      rcases b8 j (if lo<hi then (hi-lo-1) / st+1 else 0).toNat with z|z
      ·exact z
      ·rw[bI (by rw[jq];exact z)]at hd;cases hd
     rw[kX _ _ _ _ hj]at hd;cases hd
     exact⟨e1,by rw[e2];exact jK _⟩
 |.forE i e b,st,h=>by
  replace h:=jb h;obtain⟨⟨tg,it,body,oe⟩,hz,h⟩:=h;obtain⟨pos,rfl⟩:=vW hz;replace h:=jb h;obtain⟨x,hxn,h⟩:=h;obtain⟨p,e1⟩:=js hxn;clear hxn;simp only at e1;subst e1;simp only[bh,dE,gG]at h;obtain⟨⟨⟨⟨he0,hx⟩,hn⟩,he⟩,hb⟩:=h;subst he0
  ·skip
   obtain⟨h1,h2,h3,h4⟩:=ok.vis hx;have pe:=(sB ok.toOk e it he).1;refine PS.imp (λD τ H w=>?_) (JC (by rw[ok.xe];exact pO) ok.calm (z6 pe) (zt ok.nd h1 h2 (.inl (ok.fn _))) (sK ok b body hb) (xY hn _));obtain⟨σ,O,g,R,w⟩:=w;refine⟨σ,O,R.toReps,ja e (λd wd v H1 s1 i1=>?_) w⟩;obtain⟨xs,e1,wd⟩:=wd;have wd':=qa (body:=λK σ=>wpS C b K σ) (λK K' σ h w=>jn b h w) (kS (K:=X.K) (O₀:=O₀) (H₀:=H₀) (ex:=ex) (D:=D) (jc (O:=O) s1)) _ wd;obtain⟨J,hw,g1,g2,g3⟩:=walk_of e1 i1
   exact⟨J,hw,JX (S:=H1) (g.mono s1) (R.mono s1) g1 g2 g3 wd'⟩
 |.brk,st,h=>by
  obtain⟨pos,rfl⟩:=isBrk_ h;refine PS.imp (λD τ H w=>?_) jbP;obtain⟨σ,O,g,R,w⟩:=w
  exact w τ H O g (je.refl _) R
 |.cnt,st,h=>by
  obtain⟨pos,rfl⟩:=isCnt_ h;refine PS.imp (λD τ H w=>?_) XN;obtain⟨σ,O,g,R,w⟩:=w
  exact w τ H O g (je.refl _) R
 |.never,st,h=>by
  refine PS.imp (λD τ H w=>?_) jbf;obtain⟨σ,O,g,R,w⟩:=w
  exact w
 |.new i,st,h=>by
  replace h:=jb h;obtain⟨⟨ts,v⟩,ha,h⟩:=h;obtain⟨pos,rfl⟩:=xf ha;replace h:=jb h;obtain⟨t,ht,h⟩:=h;have et:=yS ht;simp only at et;subst et;replace h:=jb h;obtain⟨x,hx,h⟩:=h;obtain⟨p,rfl⟩:=js hx;rw[bh]at h;obtain⟨h1,h2,h3,h4⟩:=ok.vis h.1;obtain⟨es,he,h5⟩:=jb h.2
  have hes:es=[]:=by simpa using h5
  subst hes;obtain⟨lp,e2⟩:=zV he;simp only at e2;subst e2;refine PS.imp (λD τ H w=>?_) (ye ok.nd h1 h2 (KJ kH) rfl (.inl (ok.fn _)));obtain⟨σ,O,g,R,w⟩:=w;rw[wS_new]at w;refine⟨by decide,λl hl=>?_⟩;have hi:i<τ.length\/τ.length<=i:=b8 ..;have s1:je H (upd H l (.lst [])):=jL hl _;rcases hi with hi|hi
  ·exact w _ _ (l::O) (g.fresh s1 hl) (ko s1 hl) (R.fresh g.sub s1 hl (ju ..) (by unfold Iss;rfl) hi)
  ·have e1:setS σ i (some (.ow []))=σ:=Jm _ (by rw[R.len];exact hi);have e2:τ.set i (some (.ref l))=τ:=sJ hi;rw[e1]at w;show D.nx (τ.set i (some (.ref l))) _;rw[e2]
   exact w _ _ O (g.mono s1) (jc s1) (R.mono s1)
 |.app i e,st,h=>by
  replace h:=jb h;obtain⟨z,hz,h⟩:=h;obtain⟨pos,rfl⟩:=K3 hz;replace h:=jb h;obtain⟨⟨fe,xs,ks,cp⟩,hc,h⟩:=h;have ee:=xH hc;subst ee;simp only[bh,decide_eq_true_eq,gG]at h;obtain⟨⟨⟨hk,hl1⟩,hat⟩,he⟩:=h;replace hat:=jb hat;obtain⟨⟨ob,at',ap⟩,hy,hat⟩:=hat;have ee:=yk hy;subst ee;simp only[bh,decide_eq_true_eq]at hat;obtain⟨⟨ha1,ha2⟩,ha3⟩:=hat;subst ha1 hk;replace ha2:=jb ha2;obtain⟨x,hx,hloc⟩:=ha2;obtain⟨q,rfl⟩:=js hx;obtain⟨y,rfl⟩:=qA hl1;have he:chkE k e y=true:=he;obtain⟨h1,h2,h3,h4⟩:=ok.vis hloc;refine PS.imp (λD τ H w=>?_) (vA (UC pB jdm PySem.F.type_list_append Ka (kB h1 (qW h2) h3 h4) (jM (sB ok.toOk e y he).1 kH (jw he _ _)) rfl (by rw[jw he];rfl) ha3 (jw he _ _) rfl));obtain⟨σ,O,g,R,w⟩:=w;rw[Za]at w
  cases gs:getS σ i with
  |none=>rw[gs]at w;exact w.elim
  |some u =>
   rw[gs]at w
   cases u with
   |sh d=>exact w.elim
   |ot _=>exact w.elim
   |ow ds =>
    obtain⟨a,vs,e1,e2,e3,e4⟩:=R.ow i ds gs;refine⟨.ref a,e1,.inl ⟨rfl,vs,SqL.of e3⟩,σ,O,R.toReps,ja e (λd wd v H1 s1 i1=>?_) w.2⟩;have hl:=e4.length;have hlim:=w.1;refine⟨a,vs,v,rfl,rfl,s1 _ _ e3,by rw[pF];unfold lim at hlim;lia,?_⟩;have i2:Iss X.K (jd H1 O) (ds ++ [d]) (vs ++ [v]):=(Iss.mono (jc s1) ds e4).append (by unfold Iss;exact⟨v,[],rfl,i1,by unfold Iss;rfl⟩);refine wd τ _ O ((g.mono s1).write e2 (R.mine i ds a gs e1)) ?_ ((R.mono s1).write (vs:=vs) gs e1 e2 i2);rw[jT e2]
    exact jc s1
 |.sto i e v,st,h=>by
  replace h:=jb h;obtain⟨⟨ts,vE⟩,ha,h⟩:=h;obtain⟨pos,rfl⟩:=xf ha;replace h:=jb h;obtain⟨t,ht,h⟩:=h;have et:=yS ht;simp only at et;subst et;replace h:=jb h;obtain⟨⟨ob,ix⟩,hx,h⟩:=h;obtain⟨p,rfl⟩:=zT hx;simp only[bh,dE]at h;obtain⟨⟨⟨hsl,hloc⟩,he⟩,hv⟩:=h;replace hloc:=jb hloc;obtain⟨x,hn,hloc⟩:=hloc;obtain⟨q,rfl⟩:=js hn;obtain⟨h1,h2,h3,h4⟩:=ok.vis hloc
  have hasg:∀u,assign (.Subscript (.Name x q) ix p) X.env u=(do
   let ov <- sR [u] (eval (.Name x q) X.env)
   let iv <- sR [u,ov] (eval ix X.env)
   jeZ p
   sR [u,ov,iv] (setItem ov iv u)
   release [u,ov,iv] []):=by
   intro u
   cases ix<;>first|rfl|exact bG hsl
  refine PS.imp (λD τ H w=>?_) (Yi (sB ok.toOk v vE hv).1 (jbN (kB h1 (qW h2) h3 h4) (sB ok.toOk e ix he).1 XM hasg) (by unfold jdh;exact VW _ _ _ _ _) (by cases vE<;>rfl) rfl);obtain⟨σ,O,g,R,w⟩:=w;rw[YB]at w
  cases gs:getS σ i with
  |none=>rw[gs]at w;exact w.elim
  |some u =>
   rw[gs]at w
   cases u with
   |sh d=>exact w.elim
   |ot _=>exact w.elim
   |ow ds =>
    obtain⟨a,vs,e1,e2,e3,e4⟩:=R.ow i ds gs;refine⟨σ,O,R.toReps,ja v (λd wd vv H1 s1 i1=>⟨.ref a,e1,σ,O,(R.mono s1).toReps,ja e (λy wy yv H2 s2 i2=>?_) wd⟩) w⟩
    cases y with
    |int n =>
     cases jr i2;obtain⟨⟨n0,n1⟩,q⟩:=wy;have s12:=s1.trans s2;have hl:=e4.length;refine⟨a,vs,n,n.toNat,rfl,rfl,s12 _ _ e3,by unfold ixN;rw[if_pos n0,if_pos (by lia)],?_⟩;have i3:Iss X.K (jd H2 O) (ds.set n.toNat d) (vs.set n.toNat vv):=(Iss.mono (jc s12) ds e4).set (Is.mono (jc s2) d i1);refine q τ _ O ((g.mono s12).write e2 (R.mine i ds a gs e1)) ?_ ((R.mono s12).write (vs:=vs) gs e1 e2 i3);rw[jT e2]
     exact jc s12
    |_=>exact wy.elim
 |.shr _,_,h=>zff h
 |.retX _ _ _,_,h=>zff h
 |.raiseA _ _,_,h=>zff h
 |.tryR _ _ _,_,h=>zff h
 |.ext i e,st,h=>by
  replace h:=jb h;obtain⟨z,hz,h⟩:=h;obtain⟨pos,rfl⟩:=K3 hz;replace h:=jb h;obtain⟨⟨fe,xs,ks,cp⟩,hc,h⟩:=h;have ee:=xH hc;subst ee;simp only[bh,decide_eq_true_eq,gG]at h;obtain⟨⟨⟨hk,hl1⟩,hat⟩,he⟩:=h;replace hat:=jb hat;obtain⟨⟨ob,at',ap⟩,hy,hat⟩:=hat;have ee:=yk hy;subst ee;simp only[bh,decide_eq_true_eq]at hat;obtain⟨⟨ha1,ha2⟩,ha3⟩:=hat;subst ha1 hk;replace ha2:=jb ha2;obtain⟨x,hx,hloc⟩:=ha2;obtain⟨q,rfl⟩:=js hx;obtain⟨y,rfl⟩:=qA hl1;have he:chkE k e y=true:=he;obtain⟨h1,h2,h3,h4⟩:=ok.vis hloc;refine PS.imp (λD τ H w=>?_) (vA (UC pB jdp PySem.F.type_list_extend mt_extS (kB h1 (qW h2) h3 h4) (jM (sB ok.toOk e y he).1 kH (jw he _ _)) rfl (by rw[jw he];rfl) ha3 (jw he _ _) rfl));obtain⟨σ,O,g,R,w⟩:=w;rw[jck]at w
  cases gs:getS σ i with
  |none=>rw[gs]at w;exact w.elim
  |some u =>
   rw[gs]at w
   cases u with
   |sh d=>exact w.elim
   |ot _=>exact w.elim
   |ow ds =>
    obtain⟨a,vs,e1,e2,e3,e4⟩:=R.ow i ds gs;refine⟨.ref a,e1,.inl ⟨rfl,vs,SqL.of e3⟩,σ,O,R.toReps,ja e (λd wd v H1 s1 i1=>?_) w⟩
    cases d with
    |lst zs =>
     obtain⟨hlim,wd⟩:=wd;obtain⟨b,ws,rfl,h5,h6⟩:=jN i1;have hl:=e4.length;have hl2:=h6.length;refine⟨a,b,vs,ws,rfl,rfl,s1 _ _ e3,(jf _ _).seq h5,by rw[pF];unfold lim at hlim;lia,?_⟩;have i2:Iss X.K (jd H1 O) (ds++zs) (vs++ws):=(Iss.mono (jc s1) ds e4).append h6;refine wd τ _ O ((g.mono s1).write e2 (R.mine i ds a gs e1)) ?_ ((R.mono s1).write (vs:=vs) gs e1 e2 i2);rw[jT e2]
     exact jc s1
    |_=>exact wd.elim
 |.forN i e b,st,h=>by
  replace h:=jb h;obtain⟨⟨tg,it,body,oe⟩,hz,h⟩:=h;obtain⟨pos,rfl⟩:=vW hz;replace h:=jb h;obtain⟨x,hxn,h⟩:=h;obtain⟨p,e1⟩:=js hxn;clear hxn;simp only at e1;subst e1;replace h:=jb h;obtain⟨⟨f,args,p2⟩,hc,h⟩:=h;obtain⟨q,e2⟩:=jG hc;simp only at e2;subst e2;simp only[bh,decide_eq_true_eq,gG]at h;obtain⟨⟨⟨⟨⟨⟨he,hx⟩,hf⟩,hg⟩,hne⟩,ha⟩,hb⟩:=h;subst he hf;obtain⟨y,rfl⟩:=qA hne;have ha:chkE k e y=true:=ha;obtain⟨h1,h2,h3,h4⟩:=ok.vis hx;obtain⟨g1,_,_⟩:=ok.gl hg;refine PS.imp (λD τ H w=>?_) (JC (by rw[ok.xe];exact pO) ok.calm (pi_enum g1 (ok.blt _ (by decide)) (sA ok.toOk [e] [y] (by simp[kP,ha])) (jw ha _ _) rfl) (zt ok.nd h1 h2 (.inl (ok.fn _))) (sK ok b body hb) (λ_=>rfl));obtain⟨σ,O,g,R,w⟩:=w;refine⟨σ,O,R.toReps,?_⟩;simp only[wpEs];refine ja e (λd wd us H1 s1 i1=>?_) w;obtain⟨ys,rfl,wd⟩:=isL_of wd;obtain⟨v,rfl,j1⟩:=vR i1;have wd':=qa (body:=λK σ=>wpS C b K σ) (λK K' σ h w=>jn b h w) (kS (K:=X.K) (O₀:=O₀) (H₀:=H₀) (ex:=ex) (D:=D) (jc (O:=O) s1)) _ wd;obtain⟨a,vs,rfl,h5,h6⟩:=jN j1;have hl:=h6.length
  have ln:(QM ys).length=ys.length:=by unfold QM;simp
  have sq:∀ {H:Hp} {O':List Addr},je (jd H1 O) (jd H O')->SqL X.K H a vs:=λsm=>(jf _ _).seq (sm.seq h5)
  refine⟨a,rfl,⟨vs,(jf _ _).seq h5⟩,for_turnsG (S:=H1) (g.mono s1) (R.mono s1) ?_ ?_ ?_ wd'⟩
  ·intro j H O' sm hj;rw[ln]at hj;exact⟨vs,vs[j]'(by lia),sq sm,bD _⟩
  ·intro j H O' sm hj;rw[ln]at hj;exact⟨vs,sq sm,by lia⟩
  ·intro j H O' v H' d ho sm y hd;obtain⟨T,x,rfl,hT,hx',rfl⟩:=y;have hz:(QM ys)[j]?=some d:=hd;unfold QM at hz;rw[bY,List.getElem?_zipIdx]at hz
   cases hzz:ys[j]? with
   |none=>rw[hzz]at hz;cases hz
   |some a1 =>
    rw[hzz]at hz;simp only[wU,gc,Nat.zero_add]at hz;subst hz;obtain⟨u1,g2,k1⟩:=h6.get hzz;rw[hx' vs (sq sm)]at g2;cases g2;have s':=jL hT (.tup [.int j,x]);refine⟨s',Zy (yY ho hT) ?_⟩
    ·have sm2:=sm.trans (jc (O:=O') s');unfold Iss;refine⟨.int j,[x],rfl,jK _,?_⟩;unfold Iss
     exact⟨x,[],rfl,Is.mono sm2 a1 k1,by unfold Iss;rfl⟩
 |.forU i j m e,st,h=>by
  replace h:=jb h;obtain⟨⟨tg,it,body,oe⟩,hz,h⟩:=h;obtain⟨pos,rfl⟩:=vW hz;replace h:=jb h;obtain⟨x,hxn,h⟩:=h;obtain⟨p,e1⟩:=js hxn;clear hxn;simp only at e1;subst e1;replace h:=jb h;obtain⟨y,hyn,h⟩:=h;obtain⟨q,e1⟩:=js hyn;clear hyn;simp only at e1;subst e1;simp only[bh,decide_eq_true_eq,gG]at h;obtain⟨⟨⟨⟨⟨he,hx⟩,hy⟩,hij⟩,hmj⟩,hb⟩:=h;subst he;replace hb:=jb hb;obtain⟨b,hb1,hb⟩:=hb;have e2:=V9 hb1
  try simp only at e2
  subst e2;replace hb:=jb hb;obtain⟨⟨ts,v⟩,ha,hb⟩:=hb;obtain⟨ap,rfl⟩:=xf ha;replace hb:=jb hb;obtain⟨t,ht,hb⟩:=hb;have e3:=yS ht
  try simp only at e3
  subst e3;replace hb:=jb hb;obtain⟨u,hu,hb⟩:=hb;obtain⟨up,rfl⟩:=js hu;simp only[bh,dE]at hb;obtain⟨⟨hm,hc⟩,hb⟩:=hb;obtain⟨h1,h2,h3,h4⟩:=ok.vis hx;obtain⟨h5,h6,h7,h8⟩:=ok.vis hy;obtain⟨m1,m2,m3,m4⟩:=ok.vis hm;refine PS.imp (λD τ H w=>?_) (JC (by rw[ok.xe];exact pO) ok.calm (z6 (kB h5 (qW h6) h7 h8)) (zt ok.nd h1 h2 (.inl (ok.fn _))) (Ui (ye ok.nd m1 m2 (sB ok.toOk e v hb).1 (vJ hb hc _ _ _) (.inl (ok.fn _)))) (λ_=>rfl));obtain⟨σ,O,g,R,w⟩:=w;obtain⟨ds,gs,w⟩:=jb0 w;obtain⟨a,vs,e1,e2,e3,e4⟩:=R.ow j ds gs
  exact⟨.ref a,e1,_,⟨a,rfl,.inl ⟨⟨vs,SqL.of e3⟩,rfl⟩⟩,Y0 hij g R gs e1 e3 e4 w⟩
 |.retG e,st,h=>by
  replace h:=jb h;obtain⟨ov,ho,h⟩:=h;replace h:=jb h;obtain⟨v,hv,h⟩:=h;subst hv;obtain⟨pos,rfl⟩:=Qb ho;rw[bh]at h;refine PS.imp (λD τ H w=>?_) (Jq (sG ok.toOk e v h.1 h.2));obtain⟨σ,O,g,R,w⟩:=w;refine⟨σ,O,R.toReps,uw (λrows nx rows' a as H1 e' s1 h0 t=>?_) w⟩;have e':=u9 e';subst e'
  have old:∀b,H b=none->H₀ b=none:=λb h=>by
   cases q:H₀ b with
   |none=>rfl
   |some o=>rw[g.same b o q]at h;cases h
  exact nx a as H1 (g.same.trans s1) ⟨old _ h0.1,λb hb=>old _ (h0.2 b hb)⟩ ⟨t.top,t.nd,⟨bC ..,λb hb=>bo _ (dh _ hb)⟩,t.rw.imp (jE λb hb=>by
   rcases dI.mp hb with hb|hb
   ·exact dh _ hb
   ·exact bX _ (g.sub b hb)) λ_ _ _ z=>z⟩
 |.setG i f es,st,h=>by
  replace h:=jb h;obtain⟨⟨ts,v⟩,ha,h⟩:=h;obtain⟨pos,rfl⟩:=xf ha;replace h:=jb h;obtain⟨t,ht,h⟩:=h;have et:=yS ht;simp only at et;subst et;replace h:=jb h;obtain⟨x,hx,h⟩:=h;obtain⟨p,rfl⟩:=js hx;rw[bh]at h;obtain⟨h1,h2,h3,h4⟩:=ok.vis h.1;replace h:=jb h.2;obtain⟨⟨fx,xs,cp⟩,hc,h⟩:=h;obtain⟨q,rfl⟩:=jG hc;simp only[bh,decide_eq_true_eq]at h;obtain⟨⟨⟨k1,k2⟩,hne⟩,k4⟩:=h;obtain⟨y,ys,rfl⟩:=k8 hne;obtain⟨g1,g2,g3⟩:=ok.gl k2;obtain⟨fa,fd,ps,lv,F,hr,hm,hk,hb⟩:=ok.fns f fx _ k1
  have hs:bU (y::ys) X.env=(false,eval y X.env)::bU ys X.env/\(backTo cp (bU ys X.env)).any (·.1)=false:=by
   cases es with
   |nil=>have:=jR k4;cases this
   |cons z zs =>
    obtain⟨y',ys',e',h5,h6⟩:=jJ k4;cases e';exact⟨jw h5 _ _,kc h6 _ _⟩
  refine PS.imp (λD τ H w=>?_) (ye ok.nd h1 h2 (zh (CX:=CXz X.prog X.w X.mg) (E:=E0) (dvs:=[]) F hr g1 hm hk hb .nil XI (sA ok.toOk es _ k4) g2 hs.1 hs.2) rfl (.inl (ok.fn _)));obtain⟨σ,O,g,R,w⟩:=w;refine⟨σ,O,R.toReps,jm es (λds ⟨hl,wd⟩ vs H1 s1 i1=>?_) (qi es w)⟩;show spD X.K (y::ys).length (C.fr f) (C.f2 f) (C.ct f) (vs ++ []) H1 _ E0;rw[di];refine⟨O,ds,by rw[hl,yh k4],(R.mono s1).own,i1,wd.2.1,λd r=>?_,λx hx=>(ok.E x (wd.2.2.2 x hx)).elim⟩;unfold Rw;rw[if_neg (by rw[wd.1.1.1];decide),if_pos wd.1.1.2];refine⟨λrows a as H' e s2 h0 t=>?_,λhn=>?_⟩
  rotate_left
  ·obtain⟨rows',e',_⟩:=wd.2.2.1 _ r;rw[e']at hn;exact bG hn
  obtain⟨rows',e',nx⟩:=wd.2.2.1 _ r;rw[e]at e';have e':=u9 e';subst e'
  have old:∀b,H1 b=none->H b=none:=λb h=>by
   cases q:H b with
   |none=>rfl
   |some o=>rw[s1 b o q]at h;cases h
  exact XX g R (s1.trans s2) ⟨old _ h0.1,λb hb=>old _ (h0.2 b hb)⟩ t wd.1.2 nx
 |.ownG i e,st,h=>by
  replace h:=jb h;obtain⟨⟨ts,v⟩,ha,h⟩:=h;obtain⟨pos,rfl⟩:=xf ha;replace h:=jb h;obtain⟨t,ht,h⟩:=h;have et:=yS ht;simp only at et;subst et;replace h:=jb h;obtain⟨x,hx,h⟩:=h;obtain⟨p,rfl⟩:=js hx;simp only[bh]at h;obtain⟨⟨h0,hfr⟩,he⟩:=h;obtain⟨h1,h2,h3,h4⟩:=ok.vis h0
  have key:∀(D:Ends) (τ:L2.St) (H:Hp),tS X.K C O₀ H₀ ex (.ownG i e) D τ H->tDG X.K C e τ H λu H'=>D.nx (τ.set i (some u)) H':=λD τ H w=>by
   obtain⟨σ,O,g,R,w⟩:=w;refine⟨σ,O,R.toReps,uw (λrows nx rows' a as H1 e' s1 h0 t=>?_) w.2⟩;have e':=u9 e';subst e';exact XX g R s1 h0 t w.1 nx
  obtain⟨y,py,iter,elt,sc,ps,wi,b',rfl,hck,hpi,hfo,hel,hco⟩:=gcomp ok.toOk e v hfr he;obtain⟨b,hb⟩:=zU (elt:=elt) (gs:=[⟨.Name y py,iter,[],0⟩]) (sc:=sc) (pos:=ps) (py:=p) (y:=x) pos.line X.env
  cases b with
  |false=>exact PS.imp key (ye ok.nd h1 h2 (sG ok.toOk e _ hfr he) hb (.inl (ok.fn _)))
  |true =>
   intro pins s τ H D I w;obtain⟨cl,co⟩:=ok.toOk.comp hck I.ok
   exact KS ok.calm ok.nd (ok.toOk.comp_nE hck) co hpi (λ_ _ _ _=>qy) (hel cl co) hfo hb h1 h2 (.inl (ok.fn _)) pins s τ H D I (hco τ H _ (key D τ H w))
 |.cpO j i es c b,st,h=>by
  replace h:=jb h;obtain⟨⟨ts,v⟩,ha,h⟩:=h;obtain⟨pos,rfl⟩:=xf ha;replace h:=jb h;obtain⟨t,ht,h⟩:=h;have et:=yS ht;simp only at et;subst et;replace h:=jb h;obtain⟨x,hx,h⟩:=h;obtain⟨p,rfl⟩:=js hx;rw[bh]at h;obtain⟨h0,h⟩:=h;obtain⟨h1,h2,h3,h4⟩:=ok.vis h0;replace h:=jb h;obtain⟨⟨elt,y,iter,sc,cnd⟩,hz,h⟩:=h;obtain⟨py,ps,e0⟩:=QU hz;simp only at e0;subst e0;simp only[bh]at h;obtain⟨⟨⟨hck,k2⟩,hcd⟩,k3⟩:=h;replace k2:=jb k2;obtain⟨⟨f,args,p2⟩,hcn,k2⟩:=k2;obtain⟨q,e2⟩:=jG hcn;subst e2;simp only[bh,decide_eq_true_eq,dE]at k2;obtain⟨⟨⟨hf,hg⟩,hne⟩,hes⟩:=k2;subst hf;obtain⟨g1,_,_⟩:=ok.gl hg
  cases args with
  |nil=>simp at hne
  |cons y1 ys =>
   have hs:bU (y1::ys) X.env=(false,eval y1 X.env)::bU ys X.env/\(backTo p2 (bU ys X.env)).any (·.1)=false:=by
    cases es with
    |nil=>have:=jR hes;cases this
    |cons z zs =>
     obtain⟨y',ys',e',h5,h6⟩:=jJ hes;cases e';exact⟨jw h5 _ _,kc h6 _ _⟩
   have pi:=Ku (tg:=.Name y py) (p:=q) g1 (ok.blt _ (by decide)) (sA ok.toOk es _ hes) hs.1 hs.2
   have key:∀(D:Ends) (τ:L2.St) (H:Hp),tS X.K C O₀ H₀ ex (.cpO j i es c b) D τ H->zQ (iRg (tDs X.K C es)) (tDT X.K C c) (tD X.K C b) τ H λu H'=>D.nx (τ.set i (some u)) H':=λD τ H w=>by
    obtain⟨σ,O,g,R,w⟩:=w;obtain⟨ds,gs,w⟩:=jb0 w;obtain⟨a,vs,e1,e2,e3,e4⟩:=R.ow j ds gs;refine⟨_,_,R.toReps.share gs e1 e3 e4,jm es (λdd wd us H1 s1 i1=>?_) w⟩;obtain⟨lo,hi,st,e,cc,hx,wd⟩:=uZ i1 wd;refine⟨lo,hi,st,e,cc,?_⟩;refine Qi (Q:=λu H'=>D.nx (τ.set i (some u)) H') (J:=Its lo st (if lo<hi then (hi-lo-1) / st+1 else 0).toNat) ((R.toReps.share gs e1 e3 e4).mono s1) hx ?_ ?_ ?_ (xJ (p:=λd Q=>wpE C c (setS σ j (some (.sh (.lst ds))) ++ [some (.sh d)]) (isB Q)) (f:=λd Q=>wpE C b (setS σ j (some (.sh (.lst ds))) ++ [some (.sh d)]) Q) (λd _ _ hq=>ja c λ_=>ka hq) (λd _ _ hq=>ja b hq) _ (λys nx xs' p' H2 us e' s2 h0 hl is=>?_) wd)
    ·intro j H _ hj;rw[jq]at hj;exact hj
    ·intro j H _ hj;rw[jq]at hj;exact hj
    ·intro j H v H' d _ y hd;obtain⟨e1,e2⟩:=y
     have hj:j<(if lo<hi then (hi-lo-1) / st+1 else 0).toNat:=by
      rcases b8 j (if lo<hi then (hi-lo-1) / st+1 else 0).toNat with z|z
      ·exact z
      ·rw[bI (by rw[jq];exact z)]at hd;cases hd
     rw[kX _ _ _ _ hj]at hd;cases hd;exact⟨e1,by rw[e2];exact jK _⟩
    ·cases e'
     have h0':H p'=none:=by
      cases q:H p' with
      |none=>rfl
      |some o=>rw[s1 p' o q]at h0;cases h0
     exact put_new g R (s1.trans s2) h0' hl (jbL ((s1.trans s2) _ _ e3) (λz=>by subst z;rw[e3]at h0';cases h0') nx.1 is) nx.2
   obtain⟨bb,hb⟩:=zU (elt:=elt) (gs:=[⟨.Name y py,.Call (.Name "range" q) (y1::ys) [] p2,[cnd],0⟩]) (sc:=sc) (pos:=ps) (py:=p) (y:=x) pos.line X.env
   cases bb with
   |false =>
    refine PS.imp key (ye (te:=zQ (iRg (tDs X.K C es)) (tDT X.K C c) (tD X.K C b)) ok.nd h1 h2 (λpins s τ H Q I w=>?_) hb (.inl (ok.fn _)));obtain⟨cl,co⟩:=ok.toOk.comp hck I.ok
    exact yb ok.calm ok.nd (ok.toOk.comp_nE hck) co pi (λs H fp Ca=>Uc (sB (ok.toOk.block hck co s H fp Ca) c cnd hcd).2) (λs H fp Ca=>(sB (ok.toOk.block hck co s H fp Ca) b elt k3).1) (λ_=>rfl) pins s τ H Q I w
   |true =>
    intro pins s τ H D I w;obtain⟨cl,co⟩:=ok.toOk.comp hck I.ok
    exact KS ok.calm ok.nd (ok.toOk.comp_nE hck) co pi (λs H fp Ca=>Uc (sB (ok.toOk.block hck co s H fp Ca) c cnd hcd).2) (λs H fp Ca=>(sB (ok.toOk.block hck co s H fp Ca) b elt k3).1) (λ_=>rfl) hb h1 h2 (.inl (ok.fn _)) pins s τ H D I (key D τ H w)
 |.forT j i ss,st,h=>by
  replace h:=jb h;obtain⟨⟨tg,it,body,oe⟩,hz,h⟩:=h;obtain⟨pos,rfl⟩:=vW hz;replace h:=jb h;obtain⟨x,hxn,h⟩:=h;obtain⟨p,e1⟩:=js hxn;clear hxn;simp only at e1;subst e1;replace h:=jb h;obtain⟨y,hyn,h⟩:=h;obtain⟨q,e1⟩:=js hyn;clear hyn;simp only at e1;subst e1;simp only[bh,decide_eq_true_eq,gG]at h;obtain⟨⟨⟨⟨he,hx⟩,hy⟩,hij⟩,hb⟩:=h;subst he;obtain⟨h1,h2,h3,h4⟩:=ok.vis hx;obtain⟨h5,h6,h7,h8⟩:=ok.vis hy;intro pins s τ H D I w;refine JC (by rw[ok.xe];exact pO) ok.calm (z6 (kB h5 (qW h6) h7 h8)) (zt ok.nd h1 h2 (.inl (ok.fn _))) (sRs (O₀:=O₀) (H₀:=H₀) (i:=i) (j:=j) ok ss body hb) (λ_=>rfl) pins s τ H D I ?_;obtain⟨σ,O,g,R,w⟩:=w;obtain⟨rows,gs,w⟩:=jct w;obtain⟨a,as,e1,t,_⟩:=R.tt.1 i rows gs
  have hjl:j<σ.length:=by
   rw[R.len,I.len];exact(g6.mp h1).1
  exact⟨.ref a,e1,_,⟨a,rfl,.inl ⟨⟨_,SqL.of t.top⟩,rfl⟩⟩,Zq hij hjl g R gs e1 t w⟩
 |.shrT _,_,h=>zff h
 |.hlfT _,_,h=>zff h
theorem sK(ok:OkS X k C):∀(s:Sm) (st:List Stmt),yC k s st=true->PSs X st (tS X.K C O₀ H₀ ex s)
 |.nop,st,h=>by
  have e:st=[]:=by rw[yC]at h;simpa using h
  subst e;refine PSs.imp (λD τ H w=>?_) qU;obtain⟨σ,O,g,R,w⟩:=w
  exact w τ H O g (je.refl _) R
 |.seq a b,st,h=>by
  by_cases hs:uB a=true
  ·exact PSs.imp (λD τ H w=>jcl hs w) (sK ok b st (jbe hs h))
  ·have hs:uB a=false:=by simpa using hs
   obtain⟨s,r,rfl,h1,h2⟩:=Vg hs h;refine PSs.imp (λD τ H w=>?_) (kA (sS ok a s h1) (sK ok b r h2));obtain⟨σ,O,g,R,w⟩:=w;refine⟨σ,O,g,R,jn a ?_ w⟩
   exact⟨λσ' q τ' H' O' g' s' r'=>⟨σ',O',g',r',jn b (kS s') q⟩,λ_ q=>q,λ_ q=>q,λ_ q=>q,λ_ q=>q,λ_ q=>q,λ_ q=>q⟩
 |.set _ _,_,h=>zff h
 |.unp _ _,_,h=>zff h
 |.ret _,_,h=>zff h
 |.ite _ _ _,_,h=>zff h
 |.whl _ _,_,h=>zff h
 |.forR _ _ _,_,h=>zff h
 |.forE _ _ _,_,h=>zff h
 |.brk,_,h=>zff h
 |.cnt,_,h=>zff h
 |.never,_,h=>zff h
 |.new _,_,h=>zff h
 |.app _ _,_,h=>zff h
 |.sto _ _ _,_,h=>zff h
 |.shr _,_,h=>zff h
 |.retX _ _ _,_,h=>zff h
 |.raiseA _ _,_,h=>zff h
 |.tryR _ _ _,_,h=>zff h
 |.retG _,_,h=>zff h
 |.setG _ _ _,_,h=>zff h
 |.ownG _ _,_,h=>zff h
 |.cpO _ _ _ _ _,_,h=>zff h
 |.forT _ _ _,_,h=>zff h
 |.shrT _,_,h=>zff h
 |.hlfT _,_,h=>zff h
 |.ext _ _,_,h=>zff h
 |.forN _ _ _,_,h=>zff h
 |.forU _ _ _ _,_,h=>zff h
end
end
end Z
namespace Z
open PySem PySem.Spec PySem.Calls PyProof.Rows PySem.W L2
theorem jb6:entryFor table "type.__getattribute__"=some tU.«type.__getattribute__»:=entryFor_of_tree (by kernel_rfl)
theorem tg_bind(self:bp):bindSpecial (.builtin "type.__getattribute__") self=pure (.builtin "type.__getattribute__",[self]):=by rfl
variable{K:Frag}{h:gQ}{n:Str}
theorem K0{M:Model}{r:Option bp}(X:K.In h)(e:jeT "wrapper_descriptor" n=some r):jfa M h (specialOf (.builtin "type.__init__") n) r:=looks_specialIn X (show specialIn K (.builtin "type.__init__") n=some r from e)
section
variable {prog:gj} {w:World} {A:mz} {E:bp->Shared->Prop} {h:gQ} {g:Array pL} {d:Drawn} {t:Nat} {os:je8} {K:Frag} {T:Addr} {ddT:Option Addr} {cdT:jfp} {slT:Array (Option bp)}
theorem jbZ{expr:Bool}{Q:bp->Shared->Prop}(X:K.In h)(tt:h.get? T=some ⟨.type "type",ddT,.cls cdT,slT⟩)(op:nsIn K cStatics "thirdparty.any"=some none)(fi:findIn K (.ref T) "__init__"=some (some (.builtin "ValueError.__init__")))
 (hq:Q (.builtin "ValueError.__init__") ⟨h,g,d,t+1,os⟩):wpAny (model prog w) A (getAttr (.ref T) "__init__" expr) Q E ⟨h,g,d,t,os⟩:=by
 have L0:jfa (model prog w) h (typeOf (.ref T)) (.type "type"):=(Looks.ld tt).andThen .now;have L1:=sv (M:=model prog w) X (show findIn K (.type "type") "__getattribute__"=some (some (.builtin "type.__getattribute__")) from by show jeT "type" "__getattribute__"=_;decide +kernel);have L2:=looks_opaque (M:=model prog w) (C:=T) X op;have L3:=sv (M:=model prog w) X (show findIn K (.type "type") "__init__"=some (some (.builtin "type.__init__")) from by show jeT "type" "__init__"=_;decide +kernel);have L4:=K0 (M:=model prog w) (n:="__get__") (r:=some (.builtin "wrapper_descriptor.__get__")) X (by decide +kernel);have L5:=K0 (M:=model prog w) (n:="__set__") (r:=none) X (by decide +kernel);have L6:=K0 (M:=model prog w) (n:="__delete__") (r:=none) X (by decide +kernel);have L7:=sv (M:=model prog w) X fi
 have y0:(expr&&onTheHeap (Value.builtin "type.__getattribute__"))=false:=by cases expr<;>rfl
 unfold getAttr getAttrBy;refine bg (wpAny_mkText (dW (bg (L0.at (bg (L1.at ?_))))));show wpAny _ _ (wX _ _ _ _ _ _) _ _ _;unfold wX hookBefore;refine bg (bJ (bg (pT (dW ?_))));unfold callGetattribute;rw[if_neg (by rw[y0];decide)];unfold jef;refine bg (mQ (tg_bind _) ?_);refine tj (mP (by decide +kernel) jb6 ?_)
 have hk:builtinKind "type.__getattribute__"=some .slot:=by decide +kernel
 have hsp:splitId "type.__getattribute__"=some ("type","__getattribute__"):=by decide +kernel
 simp only[sr,hk,hsp];refine bg ?_;unfold jc0;refine bg (L0.at ?_);refine mQ (show isSubtype (.type "type") (.type "type")=pure true from by rfl) ?_;rw[if_neg (by decide)];refine mQ (show _=pure () from (show argsOk "type.__getattribute__" ⟨[.ref T,.str "__init__" t],[]⟩ from rfl)) ?_;unfold tU.«type.__getattribute__»;refine bg (mQ (show asStr? (.str "__init__" t)=pure (some ("__init__":Str)) from rfl) ?_);show wpAny _ _ (do let x <- opaqueClassAbove (.ref T);_) _ _ _;refine bg (L2.at ?_);refine bg (L0.at (bg (L3.at (bg (L4.at (bg (L5.at ?_)))))));rw[if_neg (by decide)];refine bg (L6.at (bg (bJ ?_)));show wpAny _ _ (do let z <- nZ (.ref T) ("__init__":Str);_) _ _ _;refine bg (L7.at ?_);simp only[];rw[if_neg (by decide +kernel)];refine bg (mQ (show typeOf (.builtin "ValueError.__init__")=pure (.type "wrapper_descriptor") from rfl) ?_);rw[if_pos (by decide +kernel)];refine bJ ?_;refine mQ (show handedOut (.builtin "ValueError.__init__")=pure (.builtin "ValueError.__init__") from rfl) ?_;exact hq
end
variable{v:D}
theorem ns_some{N:Addr}{m:Str->Option bp}{v:bp}(X:K.In h)(G:h.Ns N m)(e:nsIn K N n=some (some v)):m n=some v:=by
 obtain⟨o,es,ep,ho,hd,_,hf⟩:=G;unfold nsIn at e;split at e
 ·next cls dict es1 epoch slots heq =>
  have this:=X _ _ heq;rw[ho]at this;cases this;cases hd;split at e
  ·next e1 h1 =>
   cases e;rw[<- hf n];unfold nsFind findBy;rw[<- Array.find?_toList,h1];rfl
  ·split at e<;>cases e
 ·cases e
structure InitF (K:Frag) (mg:Str->Option bp) (C T f:Addr) (n:Str):Prop where
 lk:∃nm q N bs sn sub ab col dd k0 k1 k2 k3 k5,K.lookup C=some (mR nm q C N bs (.ref T::bmV) true sn sub ab col dd k0 k1 k2 k3 k5 Vm)/\nsOkIn K N=true/\nsIn K N "__init__"=some (some (.ref f))/\∀x ∈ [("__getattribute__":Str),"__getattr__","__setattr__",n],nsIn K N x=some none
 lt:∃dd cd sl,K.lookup T=some ⟨.type "type",dd,.cls cd,sl⟩/\nsOkIn K cd.ns=true/\∀x∈n::("__setattr__":Str)::jdO,nsIn K cd.ns x=some none
 op:nsIn K cStatics "thirdparty.any"=some none
 fi:findIn K (.ref T) "__init__"=some (some (.builtin "ValueError.__init__"))
 te:mg "TrueError"=some (.ref T)
 fn:isFn K (.ref f)=true
 kp:keepIn K (.ref C)=true
 bl:nZ (.type "ValueError") n=pure none
structure InitH (h:gQ) (C T f N:Addr) (n:Str) (o:nW) (mN:Str->Option bp):Prop where
 hC:h.get? C=some o
 hn:h.Ns N mN
 hi:mN "__init__"=some (.ref f)
 no:∀x ∈ [("__getattribute__":Str),"__getattr__","__setattr__",n],mN x=none
 tl:jfG h bmV (.ref T::bmV)
 tq:OwnTailQ h bmV (.ref T::bmV)
 tn:∀x∈n::("__setattr__":Str)::jdO,TailN x h bmV (.ref T::bmV)
 hf:∃oI,h.get? f=some oI/\oI.cls=.type "function"
variable{mg:Str->Option bp}{T f:Addr}
theorem InitF.heap{C:Addr}(F:InitF K mg C T f n)(X:K.In h) :
 ∃nm q N bs sn sub ab col dd k0 k1 k2 k3 k5 mN,InitH h C T f N n (mR nm q C N bs (.ref T::bmV) true sn sub ab col dd k0 k1 k2 k3 k5 Vm) mN:=by
 obtain⟨nm,q,N,bs,sn,sub,ab,col,dd,k0,k1,k2,k3,k5,l1,l2,l3,l4⟩:=F.lk;obtain⟨ddT,cd,sl,t1,t2,t3⟩:=F.lt;have nT:=jfD (isNs_of_in X t2);have nN:=jfD (isNs_of_in X l2)
 have mT:∀x∈n::("__setattr__":Str)::jdO,h.nsMap cd.ns x=none:=λx hx=>nsMap_none_of_in X t2 (t3 x hx)
 refine⟨nm,q,N,bs,sn,sub,ab,col,dd,k0,k1,k2,k3,k5,h.nsMap N,X _ _ l1,nN,ns_some X nN l3,λx hx=>nsMap_none_of_in X l2 (l4 x hx),.own (X _ _ t1) nT (mT _ (by simp[jdO])) .base,.own (X _ _ t1) nT (λx hx=>mT x (bo _ (bo _ hx))) .base,λx hx=>.own (X _ _ t1) nT (mT x hx) .base,?_⟩;have:=F.fn;unfold isFn typeIn at this;simp only at this
 cases q:K.lookup f with
 |none=>rw[q]at this;cases this
 |some oI =>
  rw[q]at this;exact⟨oI,X _ _ q,by simpa using this⟩
def excO(C t:Addr)(dct:Option Addr):nW:={ cls:=.ref C,dict:=dct,data:=.fields #[.ref t,.none,.none,.none,.bool false,.none] }
abbrev xo(e C:Addr)(dct:Option Addr):HO:=.ext λh=>∃t,h.get? e=some (excO C t dct)
variable{P:gj}{w:World}{H:Hp}{e:Expr}
theorem jcB{e C t:Addr}{dct:Option Addr}(he:h.get? e=some (excO C t dct)):qP P w H h e (xo e C dct):=⟨⟨t,he⟩,⟨_,he⟩,λh1 h2 ⟨t,q⟩ k=>⟨t,k _ q⟩⟩
theorem upd_id{a:Addr}{o:HO}(h:H a=some o):upd H a o=H:=by
 funext b;unfold upd;split
 ·next e=>rw[e,h]
 ·rfl
theorem jbM{prog:gj}{A:mz}{E:bp->Shared->Prop}{s:Shared}{ddT:Option Addr}{cdT:jfp}{slT:Array (Option bp)}{pl:Sem Bool}{Q:bp×List bp->Shared->Prop}(X:K.In s.heap)(tt:s.heap.get? T=some ⟨.type "type",ddT,.cls cdT,slT⟩)(op:nsIn K cStatics "thirdparty.any"=some none)(fi:findIn K (.ref T) "__init__"=some (some (.builtin "ValueError.__init__")))
 (hq:Q (.builtin "ValueError.__init__",[]) { s with toks:=s.toks+1 }):wpAny (model prog w) A (getMethod (.ref T) "__init__" pl) Q E s:=by
 obtain⟨h,g,d,t,os⟩:=s;have L0:jfa (model prog w) h (typeOf (.ref T)) (.type "type"):=(Looks.ld tt).andThen .now;have L1:=sv (M:=model prog w) X (show findIn K (.type "type") "__getattribute__"=some (some (.builtin "type.__getattribute__")) from by show jeT "type" "__getattribute__"=_;decide +kernel);unfold getMethod specialOf;refine bg (bg (L0.at (L1.at ?_)));simp only[];rw[if_pos (by decide +kernel)];exact bg (jbZ X tt op fi (bJ hq))
variable{sp ap cp pos:Pos}{i j:Nat}{x:Str}
section
variable {X:Cx} {C T f:Addr} {n:Str}
theorem jaz{tp xp:Pos}{y:Str}(gl:Gl X "TrueError")(hT:X.mg "TrueError"=some (.ref T))(hi:X.N[i]?=some x)(hj:X.N[j]?=some y)(vx:Vis X.env.scope x)(vy:Vis X.env.scope y)
 (dx:(x == ("__debug__":Str))=false/\(x == ("__classdict__":Str))=false) (dy:(y == ("__debug__":Str))=false/\(y == ("__classdict__":Str))=false) (F:InitF X.K X.mg C T f n) (hline:(ap.endLine == cp.line)=true) :
 PS X (.Expr (.Call (.Attribute (.Name "TrueError" tp) "__init__" ap) [.Name x sp,.Name y xp] [] cp) pos) (λD σ H=>∃e v,σ[i]?=some (some (.ref e))/\σ[j]?=some (some v)/\H e=some (xo e C none)/\D.nx σ H):=by
 refine Z.PS.imp (λD σ H w=>?_) (vA (te:=λσ H Q=>∃e v,σ[i]?=some (some (.ref e))/\σ[j]?=some (some v)/\H e=some (xo e C none)/\Q .non H) ?_)
 ·exact w
 intro pins s σ H Q I w;obtain⟨e,v,e1,e2,he,q⟩:=w;obtain⟨ddT,cd,sl,t1,t2,t3⟩:=F.lt
 have hfew:methodCallForm ([Expr.Name x sp,.Name y xp].length+([]:List jfE).length) (backTo cp (bU [Expr.Name x sp,.Name y xp] X.env)) (backToKw cp (keywordEach [] X.env))=true:=by rfl
 rw[arm_eval_Call,show jdj (.Name "TrueError" tp) "__init__" X.env (eval (.Name "TrueError" tp) X.env)=eval (.Name "TrueError" tp) X.env from rfl];refine bg (uF I gl hT ?_ (by decide));refine bg (pS ?_);unfold methodCall methodCallPos;rw[hfew,hline];refine bg (dW ?_);show wpAny _ _ (getMethod (.ref T) "__init__" _) _ _ _;refine jbM I.kIn (I.kIn _ _ t1) F.op F.fi ?_;refine bg (bJ ?_);have pa:PA X [.Name x sp,.Name y xp] _:=jM (kB hi vx dx.1 dx.2) (jM (kB hj vy dy.1 dy.2) kH);refine t7 (thn (pa cp pins _ σ H (λvs H1=>vs=[.ref e,v]/\H1=H) (I.tok _) ⟨_,e1,_,e2,rfl,rfl⟩) λus s1 ⟨vs,H1,I1,r1,q1,q2⟩=>?_);subst q1 q2;obtain⟨nm,qn,N,bs,sn,sub,ab,col,dd,k0,k1,k2,k3,k5,mN,hh⟩:=F.heap I1.kIn
 cases r1 with
 |cons r2 r3 =>
  obtain rfl:_=mf e:=r2
  cases r3 with
  |cons r4 r5 =>
   cases r5;obtain⟨⟨t0,he1⟩,_⟩:=I1.hok e _ he;obtain⟨hp,g,d,tk,os⟩:=s1
   refine VX se hh.tl hh.hC he1 (by show 1<=sizeLine;decide) λh' kp g1 g2=>?_
   refine⟨.non,H1,?_,rfl,q⟩;have:=I1.write (x:=e) (e:=e) (o:=xo e C none) (t':=tk) (h':=h') (by rw[he];trivial) (.inl rfl) kp ⟨_,g1⟩ (jcB g1);rw[upd_id he]at this;exact this
theorem UF{value:Expr}{tv:TE}(hi:X.N[i]?=some x)(vx:Vis X.env.scope x)(dx:(x == ("__debug__":Str))=false/\(x == ("__classdict__":Str))=false)(hv:PE X value tv)(F:InitF X.K X.mg C T f n)(hs:tI value (some (.Attribute (.Name x sp) n ap)) pos.line X.env=pure false) :
 PS X (.Assign [.Attribute (.Name x sp) n ap] value pos) (λD σ H=>tv σ H λy H1=>∃e,σ[i]?=some (some (.ref e))/\H1 e=some (xo e C none)/\∀dA,H1 dA=none->dA≠e->D.nx σ (upd (upd H1 dA (.xd [(n,y)])) e (xo e C (some dA)))):=by
 intro pins s σ H D I w;refine plainObj_wpAny_Assign_Attribute (thn (hv pins s σ H _ I w) λu s1 ⟨y,H1,I1,ry,e,e1,he,q⟩=>thn (kB hi vx dx.1 dx.2 pins s1 σ H1 (λv H2=>v=.ref e/\H2=H1) I1 ⟨_,e1,rfl,rfl⟩) λov s2 ⟨v,H2,I2,rx,q1,q2⟩=>?_) hs;subst q1 q2;obtain rfl:ov=mf e:=rx;obtain⟨nm,qn,N,bs,sn,sub,ab,col,dd,k0,k1,k2,k3,k5,mN,hh⟩:=F.heap I2.kIn;obtain⟨⟨t0,he1⟩,_⟩:=I2.hok e _ he;obtain⟨hp,g,d,tk,os⟩:=s2
 refine QP PySem.F.store_ValueError hh.hC hh.hn (hh.no _ (by simp)) (hh.tn _ (by simp)) (hh.no _ (by simp)) (hh.tn _ (by simp)) F.bl he1 rfl rfl rfl λh' tk' g1 g2 g3=>?_
 have ne:hp.objs.size≠e:=pH (bP he1);have fr:H2 hp.objs.size=none:=I2.hok.fresh (df _);refine⟨σ,_,?_,q hp.objs.size fr ne⟩;have I3:=I2.write (x:=e) (e:=e) (o:=xo e C (some hp.objs.size)) (t':=tk') (h':=h') (by rw[he];trivial) (.inl rfl) g3 ⟨_,g1⟩ (jcB g1)
 have sz:∀ {b:Addr} {o:nW},hp.get? b=some o->b≠hp.objs.size:=λ{b o} q=>gI (bP q)
 have I4:=KE (v:=.xd [(n,y)]) I3 (a:=hp.objs.size) (pZ I2.sz) (by rw[jg ne];exact fr) (λH'=>⟨_,g2,λz=>?_⟩) (pH I2.lt) (λz c qc=>by obtain⟨v,o,ho,_⟩:=I2.cell z c qc;exact sz ho) (λp hp=>sz (I2.pin p hp).1)
 ·have e3:upd (upd H2 e (xo e C (some hp.objs.size))) hp.objs.size (.xd [(n,y)])=upd (upd H2 hp.objs.size (.xd [(n,y)])) e (xo e C (some hp.objs.size)):=by
   funext b;by_cases hb:b=e
   ·subst hb;rw[jg ne.symm,ju,ju]
   ·rw[jg hb];by_cases hb2:b=hp.objs.size
    ·subst hb2;rw[ju,ju]
    ·rw[jg hb2,jg hb2,jg hb]
  rw[e3]at I4;exact I4
 ·by_cases hz:z=n
  ·subst hz;simp only[gF,beq_self_eq_true,if_true];exact ry
  ·have hb:(z == n)=false:=by simpa using hz
   simp only[gF,hb,List.lookup_nil,if_neg hz];trivial
end
def K4(s:Stmt):Bool:=(Xg s).any λz=>(xO z).any λc=>c.2.2.1.isEmpty&&decide (c.2.1.length=2)&&decide (jv (c.2.1.getD 0 z)=some ("self":Str))&&decide (jv (c.2.1.getD 1 z)=some ("text":Str))&&(yE c.1).any λy=>decide (y.2.1=("__init__":Str))&&decide (jv y.1=some ("TrueError":Str))&&(y.2.2.endLine == c.2.2.2.line)
theorem jaO{s:Stmt}(h:K4 s=true):∃tp ap sp xp cp pos,s=.Expr (.Call (.Attribute (.Name "TrueError" tp) "__init__" ap) [.Name "self" sp,.Name "text" xp] [] cp) pos/\(ap.endLine == cp.line)=true:=by
 unfold K4 at h;replace h:=jb h;obtain⟨z,h1,h⟩:=h;obtain⟨pos,rfl⟩:=K3 h1;replace h:=jb h;obtain⟨⟨f,xs,ks,cp⟩,h2,h⟩:=h;have e2:=xH h2;subst e2;simp only[bh,decide_eq_true_eq]at h;obtain⟨⟨⟨⟨h3,h4⟩,h5⟩,h6⟩,h⟩:=h;obtain⟨a,b,rfl⟩:=xx h4;obtain⟨sp,rfl⟩:=js (show jv a=_ from h5);obtain⟨xp,rfl⟩:=js (show jv b=_ from h6);replace h:=jb h;obtain⟨⟨o,n,ap⟩,h7,h⟩:=h;have e7:=yk h7;subst e7;simp only[bh,decide_eq_true_eq]at h;obtain⟨⟨rfl,h8⟩,h9⟩:=h;obtain⟨tp,rfl⟩:=js h8
 have e3:ks=[]:=by simpa using h3
 subst e3;exact⟨_,_,_,_,_,_,rfl,h9⟩
def nonC(p:Str)(e:Expr):Bool:=(Uh e).any λq=>decide (jv q.1=some p)&&decide (q.2.1=[.Is])&&decide (q.2.2.length=1)&&decide (qx (q.2.2.getD 0 e)=some .none)
def nonL(p:Str)(e:Expr):Bool:=(asIf e).any λf=>nonC p f.1&&(Xw f.2.1).any (·.isEmpty)&&jb3 "list" p e f.2.2
def jcb(n p:Str)(l:Bool)(s:Stmt):Bool:=(xW s).any λz=>(uG z.1).any λt=>(yE t).any λy=>decide (jv y.1=some ("self":Str))&&decide (y.2.1=n)&&if l=true then nonL p z.2 else decide (jv z.2=some p)
variable{p:Str}
theorem nonC_(h:nonC p e=true):∃cp j kp mp,e=.Compare (.Name p cp) [.Is] [.Constant .none j kp] mp:=by
 unfold nonC at h;replace h:=jb h;obtain⟨⟨x,ops,xs⟩,h1,h⟩:=h;obtain⟨mp,rfl⟩:=K9 h1;simp only[bh,decide_eq_true_eq]at h;obtain⟨⟨⟨h2,rfl⟩,h3⟩,h4⟩:=h;obtain⟨cp,rfl⟩:=js h2;obtain⟨k,rfl⟩:=qA h3;obtain⟨j,kp,rfl⟩:=xR (show qx k=_ from h4);exact⟨_,_,_,_,rfl⟩
theorem nonL_(h:nonL p e=true):∃cp j kp mp lp gp qp dp ip,e=.IfExp (.Compare (.Name p cp) [.Is] [.Constant .none j kp] mp) (.List [] lp) (.Call (.Name "list" gp) [.Name p qp] [] dp) ip:=by
 unfold nonL at h;replace h:=jb h;obtain⟨⟨c,a,b⟩,h1,h⟩:=h;obtain⟨ip,rfl⟩:=jbQ h1;simp only[bh]at h;obtain⟨⟨h2,h3⟩,h4⟩:=h;obtain⟨_,_,_,_,rfl⟩:=nonC_ h2;obtain⟨_,_,_,rfl⟩:=call1_ h4;replace h3:=jb h3;obtain⟨ys,h5,h3⟩:=h3;obtain⟨lp,rfl⟩:=zV h5;cases gG.mp h3;exact⟨_,_,_,_,_,_,_,_,_,rfl⟩
variable{l:Bool}
theorem fldSt_{s:Stmt}(h:jcb n p l s=true):(l=false/\∃sp ap pp pos,s=.Assign [.Attribute (.Name "self" sp) n ap] (.Name p pp) pos) \/
 (l=true/\∃sp ap cp j kp mp lp gp qp dp ip pos,s=.Assign [.Attribute (.Name "self" sp) n ap] (.IfExp (.Compare (.Name p cp) [.Is] [.Constant .none j kp] mp) (.List [] lp) (.Call (.Name "list" gp) [.Name p qp] [] dp) ip) pos):=by
 unfold jcb at h;replace h:=jb h;obtain⟨⟨ts,v⟩,h1,h⟩:=h;obtain⟨pos,rfl⟩:=xf h1;replace h:=jb h;obtain⟨t,h2,h⟩:=h;cases yS h2;replace h:=jb h;obtain⟨⟨o,n',ap⟩,h3,h⟩:=h;cases yk h3;simp only[bh,decide_eq_true_eq]at h;obtain⟨⟨h4,rfl⟩,h⟩:=h;obtain⟨sp,rfl⟩:=js h4
 cases l with
 |false =>
  obtain⟨pp,rfl⟩:=js (of_decide_eq_true h)
  exact .inl ⟨rfl,_,_,_,_,rfl⟩
 |true =>
  obtain⟨_,_,_,_,_,_,_,_,_,rfl⟩:=nonL_ (e:=v) h;exact .inr ⟨rfl,_,_,_,_,_,_,_,_,_,_,_,_,rfl⟩
def Jc(n p:Str)(l:Bool):List Stmt->Bool
 |[a,b]=>K4 a&&jcb n p l b
 |_=>false
def spI(K:Frag)(C:Addr)(n:Str)(l:Bool):Sp:=λvs H Q _=>∃e tx v,vs=[.ref e,tx,v]/\H e=some (xo e C none) /\
 (if l=true then ∃a ys,v=.ref a/\SqL K H a ys/\∀q dA,H q=none->H dA=none->q≠dA->Q .non (upd (upd (upd H q (.lst ys)) dA (.xd [(n,.ref q)])) e (xo e C (some dA)))
  else ∀dA,H dA=none->Q .non (upd (upd H dA (.xd [(n,v)])) e (xo e C (some dA))))
variable{base:gQ}{CX:CXT}{st:Stmt}
theorem init_ok{C:Addr}{q:Str}{dV oc kV doc pm cdv ct:bp}{od an:Option Addr}{osl:Array (Option bp)}
 (lk:K.lookup f=some ⟨oc,od,.func (fnOf x q (qQ st) (kj st) (jk st) dV kV doc pm an cdv ct),osl⟩) (hcd:codeIn K cdv q=true) (S:FnScope ["self","text",p] ["self","text",p] (jk st)) (F:InitF K mg C T f n)
 (dp:(p == ("__debug__":Str))=false/\(p == ("__classdict__":Str))=false) (gl:(jk st).names.lookup ("TrueError":Str)=some .globalImplicit) (gl2:l=true->(jk st).names.lookup ("list":Str)=some .globalImplicit) (ml:mg "list"=none) (hb:Jc n p l (kj st)=true) :
 FnOk P w K mg base CX 1 f (fnOf x q (qQ st) (kj st) (jk st) dV kV doc pm an cdv ct) ["self","text",p] (spI K C n l):=by
 refine jbr (k:=0) lk hcd S (λvs H Q E h=>by obtain⟨e,tx,v,rfl,_⟩:=h;rfl) λA outer s H vs Q E hr h=>?_
 obtain⟨e,tx,v,rfl,he,h⟩:=h;generalize hX:Jg CX P w K mg base ["self","text",p] q (jk st) f cdv A outer s H E=X
 have vis:∀c ∈ [("self":Str),"text",p],Vis X.env.scope c:=λc hc=>by subst hX;exact(S.par c hc).elim .inl λz=>.inr (.inl z)
 have hN:X.N=[("self":Str),"text",p]:=by subst hX;rfl
 have hK:X.K=K:=by subst hX;rfl
 have hm:X.mg=mg:=by subst hX;rfl
 have hcx:X.env.scope=jk st:=by subst hX;rfl
 have FX:InitF X.K X.mg C T f n:=by rw[hK,hm];exact F
 match hd:kj st,hb with
 |[a,b],hb =>
  unfold Jc at hb;rw[bh]at hb;obtain⟨tp,ap,sp,xp,cp,pos,rfl,hline⟩:=jaO hb.1;have p1:=jaz (X:=X) (tp:=tp) (sp:=sp) (xp:=xp) (ap:=ap) (cp:=cp) (pos:=pos) (i:=0) (j:=1) (x:="self") (y:="text") (show X.env.scope.names.lookup _=_ by rw[hcx];exact gl) (by rw[hm];exact F.te) (by rw[hN];rfl) (by rw[hN];rfl) (vis _ (by simp)) (vis _ (by simp)) ⟨by decide,by decide⟩ ⟨by decide,by decide⟩ FX hline
  have pv:∀pp,PE X (.Name p pp) (tVar 2):=λpp=>kB (by rw[hN];rfl) (vis _ (by simp)) dp.1 dp.2
  rcases fldSt_ hb.2 with⟨rfl,sp2,ap2,pp,pos2,rfl⟩|⟨rfl,sp2,ap2,cp2,j,kp,mp,lp,gp,qp,dp2,ip,pos2,rfl⟩
  ·rw[if_neg (by decide)]at h;have p2:=UF (X:=X) (i:=0) (x:="self") (sp:=sp2) (ap:=ap2) (pos:=pos2) (by rw[hN];rfl) (vis _ (by simp)) ⟨by decide,by decide⟩ (pv pp) FX rfl;exact⟨_,kA p1 (kA p2 qU),e,tx,rfl,rfl,he,v,rfl,e,rfl,he,λdA h1 _=>h dA h1⟩
  ·rw[if_pos rfl]at h;obtain⟨aw,ys,rfl,sq,h⟩:=h;have pl:PE X (.Call (.Name "list" gp) [.Name p qp] [] dp2) _:=zw (T:="list") qV (show X.env.scope.names.lookup _=_ by rw[hcx];exact gl2 rfl) (by rw[hm];exact ml) pJ (jM (pv qp) kH);have pi:PE X (.IfExp (.Compare (.Name p cp2) [.Is] [.Constant .none j kp] mp) (.List [] lp) (.Call (.Name "list" gp) [.Name p qp] [] dp2) ip) _:=XW (pt_cmp (pc_isN (pv cp2))) (KJ kH) pl;have p2:=UF (X:=X) (i:=0) (x:="self") (sp:=sp2) (ap:=ap2) (pos:=pos2) (by rw[hN];rfl) (vis _ (by simp)) ⟨by decide,by decide⟩ pi FX rfl;refine⟨_,kA p1 (kA p2 qU),e,tx,rfl,rfl,he,⟨_,rfl,false,rfl,?_⟩⟩;refine⟨_,rfl,aw,ys,rfl,.inl (by rw[hK];exact sq),λq hq=>⟨e,rfl,?_,λdA h1 h2=>?_⟩⟩
   ·have ne:e≠q:=λz=>by rw[<- z,he]at hq;cases hq
    rw[jg ne];exact he
   ·have n1:dA≠q:=λz=>by rw[z,ju]at h1;cases h1
    rw[jg n1]at h1;exact h q dA hq h1 n1.symm
structure InitX (X:Cx) (C T f:Addr) (n:Str) (l:Bool):Prop where
 F:InitF X.K X.mg C T f n
 fn:∃fd p,FnOk X.prog X.w X.K X.mg X.base (CXz X.prog X.w X.mg) 1 f fd ["self","text",p] (spI X.K C n l)/\uq X.K fd ["self","text",p] []
 rm:Room 2 X.A
variable{pins:List (Addr×nW)}{σ:L2.St}
section
variable {X:Cx} {C T f:Addr} {n x:Str} {l:Bool} {e1 e2:Expr} {np pos cp:Pos} {t:TA}
theorem jce{s:Shared}{h':gQ}{e:Addr}{args:List bp}(I:Inv X pins σ H s)(w:Own X)(m:p8 s.heap h' e (.ref C) args):H e=none/\X.s₀.heap.get? e=none/\Inv X pins σ (upd H e (xo e C none)) { s with heap:=h' }:=by
 have hH:H e=none:=by
  cases q:H e with
  |none=>rfl
  |some u =>
   obtain⟨o,z⟩:=KN (I.hok e u q);rw[m.new]at z;cases z
 have old:∀ {b:Addr} {o:nW},s.heap.get? b=some o->b≠e:=λ{b o} z y=>by rw[y,m.new]at z;cases z
 have h0:X.s₀.heap.get? e=none:=by
  cases q:X.s₀.heap.get? e with
  |none=>rfl
  |some o =>
   obtain⟨o',z⟩:=I.base.there e o q (by rw[w.ex];simp);exact absurd rfl (old z)
 have I1:Inv X pins σ H { s with heap:=h' }:=I.un (t':=s.toks) (Un.kept m.keeps) (I.hok.kept m.keeps);obtain⟨t0,g1,_⟩:=m.there;exact⟨hH,h0,KE I1 h0 hH (λ_=>jcB g1) (λz=>by obtain⟨m',⟨o,_,_,ho',_⟩,_⟩:=I.loc;exact old ho' z.symm) (λy cc q=>by obtain⟨v,o,ho',_⟩:=I.cell y cc q;exact old ho') (λp hp=>old (I.pin p hp).1)⟩
theorem pe_exc(w:Own X)(ix:InitX X C T f n l)(hg:Gl X x)(hm:X.mg x=some (.ref C))(ha:PA X [e1,e2] t)(hdb:(x == ("__debug__":Str))=false)(he:bU [e1,e2] X.env=(false,eval e1 X.env)::bU [e2] X.env)(hpl:(backTo cp (bU [e2] X.env)).any (·.1)=false) :
 PE X (.Call (.Name x np) [e1,e2] [] cp) (λσ H Q=>t σ H λvs H1=>vs.length=2/\∀e,H1 e=none->X.s₀.heap.get? e=none->spI X.K C n l (.ref e::vs) (upd H1 e (xo e C none)) (λr H2=>r=.non/\Q (.ref e) H2) E0):=by
 intro pins s σ H Q I h;refine tu (uF I hg hm ?_ hdb);refine jeG (h₀:=X.base) I.ok.mod.kin ix.F.kp (thn (ha cp pins s σ H _ I h) λus s1 ⟨vs,H1,I1,r,hl,q⟩=>⟨I1.kIn,?_⟩) he hpl;obtain⟨fd,p,FO,hb⟩:=ix.fn;obtain⟨nm,qn,N,bs,sn,sub,ab,col,dd,k0,k1,k2,k3,k5,mN,hh⟩:=ix.F.heap I1.kIn;obtain⟨oI,hfI,hfc⟩:=hh.hf;obtain⟨hp,g,d,tk,os⟩:=s1
 have hu:us.length=2:=by rw[<- r.length];exact hl
 refine YX (Q:=EP X pins σ Q) se (by decide +kernel) se hh.tl hh.hC hh.hn hh.hi hfI hfc (λh' e md=>?_) (by rw[show ([]:List bp)++us=us from rfl,hu];decide);obtain⟨hH,h0,I2⟩:=jce (C:=C) I1 w md;have r2:jH (V.ref e::vs) (mf e::us):=.cons rfl r
 refine tj (jcN (FO.run _ X.stack _ _ ⟨mf e::us,[]⟩ (mf e::us) _ _ E0 (ix.rm.make C us []) (I2.env0.make C us []) (by
  have:=hb ⟨h',g,d,tk,os⟩ (mf e::us) I2.kIn (by simp[hu]);rw[di]at this
  exact this) r2 (q e hH h0)) λrr s' hq'=>?_)
 cases rr with
 |error e=>exact(XI (X:=X) pins σ _ _ e s' I2 hq')
 |ok fl =>
  cases fl with
  |ret u =>
   obtain⟨v,H',I3,rv,ev,q3⟩:=I2.after hq';subst ev
   exact⟨rv,⟨V.ref e,H',I3,rfl,q3⟩⟩
  |next=>exact mH hq'
  |brk=>exact mH hq'
  |cont=>exact mH hq'
theorem raise_x{s:Shared}{y:Expr}{te:TE}{Q:Flow->Shared->Prop}(I:Inv X pins σ H s)(hh:X.A.handled=none)(F:InitF X.K X.mg C T f n)(hy:PE X y te)
 (h:te σ H λv H1=>∃e dct,v=.ref e/\H1 e=some (xo e C dct)/\∀s1,Inv X pins σ H1 s1->X.xe (.ref e) s1):wpAny (model X.prog X.w) X.A (exec (.Raise (some y) none pos) X.env) Q X.xe s:=by
 rw[arm_exec_Raise];refine bg (pS ?_);obtain⟨nm,qn,N,bs,sn,sub,ab,col,dd,k0,k1,k2,k3,k5,l1,_⟩:=F.lk;show wpAny _ _ (raiseStmt X.env (some (do let v <- eval y X.env;jeZ pos;pure v)) none) _ _ _;refine ZC (C:=C) (nm:=nm) (q:=qn) (N:=N) (bs:=bs) (bm:=.ref T::bmV) (hdct:=true) (sn:=sn) (sub:=sub) (ab:=ab) (col:=col) (dd:=dd) (k0:=k0) (k1:=k1) (k2:=k2) (k3:=k3) (k5:=k5) (newId:=Vm) (by rfl) hh ?_;refine bg (thn (hy pins s σ H _ I h) λu s1 ⟨v,H1,I1,r,e,dct,ev,he,q⟩=>bg (pS (bJ ?_)));subst ev;obtain rfl:u=mf e:=r;obtain⟨⟨t0,he1⟩,_⟩:=I1.hok e _ he;exact⟨e,t0,dct,rfl,I1.kIn _ _ l1,he1,q _ I1⟩
end
theorem jch{fd:sE}(F:Fun K x x st f fd)(S:FnScope ["_law_e","_law_flags"] ["_law_e"] (jk st))
 (l0:(jk st).names.lookup ("_law_e":Str)=some .local) (l1:(jk st).names.lookup ("_law_flags":Str)=some .local)
 (gl:∀c∈("isinstance":Str)::("TrueError":Str)::("ValueError":Str)::jF,(jk st).names.lookup c=some .globalImplicit) (hb:vH (kj st)=true):FnOk P w K mg base CX 1 f fd ["_law_e"] (spA K mg):=by
 obtain⟨oc,od,kV,doc,pm,an,cdv,ct,osl,rfl,lk,hcd⟩:=F.ex
 refine jbr (k:=0) lk hcd S (λvs H Q E h=>by obtain⟨y,D,ea,oe,u,_,rfl,_⟩:=h;rfl) λA outer s H vs Q E hr h=>?_
 obtain⟨y,D,ea,oe,u,af,rfl,he,hc,q⟩:=h
 have ax:AX (Jg CX P w K mg base ["_law_e","_law_flags"] x (jk st) f cdv A outer s H E):=⟨rfl,rfl,S.nd,l0,l1,λc hc=>gl c hc,λ_=>rfl⟩
 exact⟨_,VI (D:=D) (y:=y) ax af (show 1<2 by decide) hb,⟨ea,oe,u,rfl,he,hc⟩,rfl,q⟩
structure Alone (X:Cx):Prop where
 fn:∃f fd,FnOk X.prog X.w X.K X.mg X.base (CXz X.prog X.w X.mg) 1 f fd ["_law_e"] (spA X.K X.mg)/\X.mg "_law_alone"=some (.ref f)/\nr X.K (.ref f)=true/\uq X.K fd ["_law_e"] []
 rm:X.A.depth+3*1+5<jcY/\X.A.units+16*1+200<cLine
 int:X.mg "int"=none
variable{es:List Ex}
section
variable {X:Cx} {pins:List (Addr×nW)} {σ:L2.St} {H:Hp} {s:Shared}
theorem kv{t:TS}(h:PS X.nox st t):PS X st t:=λpins s σ H D I hw =>
 gq (h pins s σ H D (I.wish _) hw) (λf s' z=>z.unwish) λ_ _ z=>z.elim
theorem pe_nox{t:TE}(h:PE X.nox e t):PE X e t:=λpins s σ H Q I hw =>
 gq (h pins s σ H Q (I.wish _) hw) (λu s' ⟨v,H',J,r,q⟩=>⟨v,H',J.unwish,r,q⟩) λ_ _ z=>z.elim
theorem Yo{es:List Expr}{t:TA}(h:PA X.nox es t):PA X es t:=λpos pins s σ H Q I hw =>
 gq (h pos pins s σ H Q (I.wish _) hw) (λus s' ⟨vs,H',J,r,q⟩=>⟨vs,H',J.unwish,r,q⟩) λ_ _ z=>z.elim
end
def Qr:Stmt->Option Expr
 |.Raise (some e) none _=>some e
 |_=>none
theorem jat{s:Stmt}(h:Qr s=some e):∃p,s=.Raise (some e) none p:=by
 unfold Qr at h;split at h
 ·cases h;exact⟨_,rfl⟩
 ·cases h
def isStrC:Const->Bool
 |.str _=>true
 |_=>false
def hasF(x:Str):Bool:=x == ("BadText":Str) ||x == ("Dependent":Str)
theorem jak{X:Cx}{u:Const}(h:uo v u=true):∃cv,PE X (.Constant u j cp) (tC cv)/\∀K S,Is K S v cv:=by
 cases v<;>cases u<;>first|exact bG h|skip
 ·exact⟨.non,jaP,λ_ _=>JO⟩
 ·have:_=_:=beq_iff_eq.mp h;subst this;exact⟨_,V6,λ_ _=>j3 _⟩
 ·have:=of_decide_eq_true h;subst this;exact⟨_,Y9,λ_ _=>jK _⟩
 ·unfold uo at h;rw[bh]at h;have:=of_decide_eq_true h.1;subst this;exact⟨_,Ym,λ_ _=>X9 h.2⟩
def Zk(x:Str)(v:D):Stmt->Option (List Stmt)
 |.Try body [.ExceptHandler (some t) none [.Return (some (.Constant u _ _)) _] _] [] [] _=>if jv t=some x/\uo v u=true then some body else none
 |_=>none
theorem asTryR_{s:Stmt}{b:List Stmt}(h:Zk x v s=some b):∃np p u j cp rp pos,s=.Try b [.ExceptHandler (some (.Name x np)) none [.Return (some (.Constant u j cp)) rp] p] [] [] pos/\uo v u=true:=by
 unfold Zk at h;split at h
 ·split at h
  ·next hc =>
   obtain⟨h1,h2⟩:=hc;obtain⟨np,rfl⟩:=js h1;cases h;exact⟨np,_,_,_,_,_,_,rfl,h2⟩
  ·cases h
 ·cases h
def v9(k:Ck)(f:Nat)(es:List Ex):List (Nat×List Ex)->Expr->Bool
 |[],v=>(ke v).any λc=>decide (k.fns[f]?=some (c.1,c.2.1.length))&&k.gl c.1 && !c.2.1.isEmpty&&kP k es c.2.1
 |gr::rest,v=>(ke v).any λc=>decide (k.fns[gr.1]?=some (c.1,c.2.1.length))&&k.gl c.1 && !c.2.1.isEmpty&&v9 k f es rest (c.2.1.getD 0 v)&&kP k gr.2 (c.2.1.drop 1)
mutual
noncomputable def chkX(k:Ck):Sm->Stmt->Bool
 |.ite c a b,s=>(Uu s).any λz=>chkE k c z.1&&zF k a z.2.1&&zF k b z.2.2
 |.retX fs f es,s=>(XS s).any λv=>v.any λv=>v9 k f es fs v
 |.raiseA x e,s=>k.rs&&decide (x∈k.cls)&&k.gl x&&hasF x&&(Qr s).any λy=>(ke y).any λc=>decide (c.1=x)&&decide (c.2.1.length=2)&&(qx (c.2.1.getD 0 y)).any isStrC&&chkE k e (c.2.1.getD 1 y)
 |.tryR b x v,s=>decide (x∈k.cls)&&k.gl x&&(Zk x v s).any λz=>zF { k with rs:=false } b z
 |.nop,_=>false
 |.seq _ _,_=>false
 |.shr _,_=>false
 |.set i e,s=>xw k (.set i e) s
 |.unp i e,s=>xw k (.unp i e) s
 |.ret e,s=>xw k (.ret e) s
 |.whl c b,s=>xw k (.whl c b) s
 |.forR i e b,s=>xw k (.forR i e b) s
 |.forE i e b,s=>xw k (.forE i e b) s
 |.brk,s=>xw k .brk s
 |.cnt,s=>xw k .cnt s
 |.never,s=>xw k .never s
 |.new i,s=>xw k (.new i) s
 |.app i e,s=>xw k (.app i e) s
 |.ext i e,s=>xw k (.ext i e) s
 |.sto i e v,s=>xw k (.sto i e v) s
 |.forN i e b,s=>xw k (.forN i e b) s
 |.forU i j m e,s=>xw k (.forU i j m e) s
 |.retG e,s=>xw k (.retG e) s
 |.setG i f e,s=>xw k (.setG i f e) s
 |.ownG i e,s=>xw k (.ownG i e) s
 |.cpO j i es c e,s=>xw k (.cpO j i es c e) s
 |.forT j i e,s=>xw k (.forT j i e) s
 |.shrT _,_=>false
 |.hlfT _,_=>false
noncomputable def zF(k:Ck):Sm->List Stmt->Bool
 |.nop,ss=>ss.isEmpty
 |.seq a b,ss=>if uB a then zF k b ss else !ss.isEmpty&&chkX k a (ss.getD 0 (.Pass ⟨0,0,0,0⟩))&&zF k b (ss.drop 1)
 |_,_=>false
end
structure ClsOk (K:Frag) (mg:Str->Option bp) (x:Str) (Ca:Addr) (al:Bool):Prop where
 cl:ExcCl K Ca
 pl:hasF x=false->excIn K Ca bmV Vm=true
 ow:hasF x=true->∃T f,InitF K mg Ca T f (zA x)/\∀(P:gj) (w:World) (base:gQ),∃fd p,FnOk P w K mg base (CXz P w mg) 1 f fd ["self","text",p] (spI K Ca (zA x) (x == ("Dependent":Str)))/\uq K fd ["self","text",p] []
 al:al=true->AloneF K mg x Ca
structure OkX (X:Cx) (k:Ck) (C:Cfg) (O₀:List Addr) (H₀:Hp) (ex:XD->Prop):Prop where
 ok:OkS X.nox k C
 own:Own X
 o0:∀a∈O₀,H₀ a≠none
 thr:∀y Ca,ex y->X.mg y.t=some (.ref Ca)->∀pins σ H s H1 da e s',Inv X pins σ H s->je H₀ H1->Fld X.K O₀ y H1 da->zR X.prog X.w Ca X.stack H s H1 da e s'->X.xe e s'
 raz:k.rs=true->∀x Ca,ex ⟨0,x,[]⟩->X.mg x=some (.ref Ca)->∀pins σ H s h1 e args,Inv X pins σ H s->je H₀ H->p8 s.heap h1 e (.ref Ca) args->X.xe (.ref e) { s with heap:=h1 }
 rax:k.rs=true->Room 2 X.A/\∀y Ca,ex y->X.mg y.t=some (.ref Ca)->∀pins σ H s e da,Inv X pins σ H s->H e=some (xo e Ca da)->H₀ e=none->X.s₀.heap.get? e=none->je H₀ (del H e)->Fld X.K O₀ y (del H e) da->X.xe (.ref e) s
 exc:∀x∈k.cls,∃Ca,X.mg x=some (.ref Ca)/\ClsOk X.K X.mg x Ca k.al
 al:k.al=true->Alone X
variable{v:Expr}{f:Nat}
section
variable {k:Ck} {C:Cfg} {O₀:List Addr} {H₀:Hp}
theorem call_N{k:Ck}{fs:List (Nat×List Ex)}(h:v9 k f es fs v=true):∃c,ke v=some c:=by
 cases fs<;>rw[v9]at h<;>replace h:=jb h<;>exact⟨_,h.choose_spec.1⟩
theorem jbm{k:Ck}{fs:List (Nat×List Ex)}(h:v9 k f es fs v=true)(ys:List Expr)(env:Env):bU (v::ys) env=(false,eval v env)::bU ys env:=by
 obtain⟨⟨x,xs,cp⟩,hc⟩:=call_N h;obtain⟨q,rfl⟩:=jG hc;rfl
def XE0(K:Frag)(O₀:List Addr)(H₀:Hp)(ex:XD->Prop):XK:=λv da H=>∃y:XD,v=.str y.t 0/\ex y/\je H₀ H/\Fld K O₀ y H da
theorem sN{X:Cx}{k:Ck}{ex:XD->Prop}(ok:OkX X k C O₀ H₀ ex)(f:Nat)(es:List Ex):∀(fs:List (Nat×List Ex)) (v:Expr),v9 k f es fs v=true->PE X v λτ H Q=>∃σ O,je H₀ H/\(∀a∈O₀,a∈O)/\Reps X.K O H σ τ/\wpN C σ f es fs (Wd X.K O H Q) ex
 |[],v,h=>by
  rw[v9]at h;replace h:=jb h;obtain⟨⟨fx,xs,cp⟩,hc,h⟩:=h;obtain⟨q,rfl⟩:=jG hc;simp only[bh,decide_eq_true_eq]at h;obtain⟨⟨⟨k1,k2⟩,hne⟩,k4⟩:=h;obtain⟨y,ys,rfl⟩:=k8 hne;obtain⟨g1,g2,g3⟩:=ok.ok.toOk.gl k2;obtain⟨fa,fd,ps,lv,F,hr,hm,hk,hb⟩:=ok.ok.toOk.fns f fx _ k1
  have hs:bU (y::ys) X.env=(false,eval y X.env)::bU ys X.env/\(backTo cp (bU ys X.env)).any (·.1)=false:=by
   cases es with
   |nil=>have:=jR k4;cases this
   |cons z zs =>
    obtain⟨y',ys',e',h5,h6⟩:=jJ k4;cases e';exact⟨jw h5 _ _,kc h6 _ _⟩
  have pass:vT (CXz X.prog X.w X.mg) X (XE0 X.K O₀ H₀ ex):=λpins σ H s e s' I ⟨x,Ca,H1,da,⟨y,e1,hx,sm,fd⟩,hm,T⟩=>by
   cases e1;exact ok.thr y Ca hx hm pins σ H s H1 da e s' I sm fd T
  refine PE.imp (λτ H Q w=>?_) (zh (CX:=CXz X.prog X.w X.mg) (E:=XE0 X.K O₀ H₀ ex) (dvs:=[]) F hr g1 hm hk hb .nil pass (Yo (sA ok.ok.toOk es _ k4)) g2 hs.1 hs.2);obtain⟨σ,O,sm,so,R,w⟩:=w;unfold wpN at w;refine⟨σ,O,R,jm es (λds ⟨hl,wd⟩ vs H1 s1 i1=>?_) (qi es w)⟩;show spD X.K (y::ys).length (C.fr f) (C.f2 f) (C.ct f) (vs ++ []) H1 _ _;rw[di]
  exact⟨O,ds,by rw[hl,yh k4],(R.mono s1).own,i1,wd.1,λd r=>((wd.2.1 d r).mono s1).rw (R.mono s1).own,λz hz H2 da s2 fd=>⟨z,rfl,wd.2.2 z hz,(sm.trans s1).trans s2,fd.less so⟩⟩
 |(g,r)::rest,v,h=>by
  rw[v9]at h;replace h:=jb h;obtain⟨⟨fx,xs,cp⟩,hc,h⟩:=h;obtain⟨q,rfl⟩:=jG hc;simp only[bh,decide_eq_true_eq]at h;obtain⟨⟨⟨⟨k1,k2⟩,hne⟩,k3⟩,k4⟩:=h;obtain⟨y,ys,rfl⟩:=k8 hne;have k3:v9 k f es rest y=true:=k3;have k4:kP k r ys=true:=k4;obtain⟨g1,g2,g3⟩:=ok.ok.toOk.gl k2;obtain⟨fa,fd,ps,lv,F,hr,hm,hk,hb⟩:=ok.ok.toOk.fns g fx _ k1;have pa:PA X (y::ys) _:=jM (sN ok f es rest y k3) (Yo (sA ok.ok.toOk r ys k4)) (jbm k3 _ _);refine PE.imp (λτ H Q w=>?_) (zh (CX:=CXz X.prog X.w X.mg) (E:=E0) (dvs:=[]) F hr g1 hm hk hb .nil XI pa g2 (jbm k3 _ _) (kc k4 _ _));obtain⟨σ,O,sm,so,R,w⟩:=w;unfold wpN at w;refine⟨σ,O,sm,so,R,uD rest (λd wd v H1 s1 i1=>⟨σ,O,R.mono s1,jm r (λds ⟨hl,wds⟩ vs H2 s2 i2=>?_) (qi r wd)⟩) (λ_ q=>q) w⟩;show spD X.K (y::ys).length (C.fr g) (C.f2 g) (C.ct g) ((v::vs) ++ []) H2 Q E0;rw[di];exact⟨O,d::ds,by simp[hl,yh k4],((R.mono s1).mono s2).own,by unfold Iss;exact⟨v,vs,rfl,Is.mono (jc s2) d i1,i2⟩,wds.1,λd' q=>((wds.2.1 d' q).mono (s1.trans s2)).rw ((R.mono s1).mono s2).own,λx hx=>(ok.ok.toOk.E x (wds.2.2 x hx)).elim⟩
mutual
theorem sY{X:Cx}{k:Ck}{ex:XD->Prop}(ok:OkX X k C O₀ H₀ ex)(f:Nat)(es:List Ex)(v:Expr)(h:v9 k f es [] v=true):PE X v λτ H Q=>∃σ O,je H₀ H/\(∀a∈O₀,a∈O)/\Reps X.K O H σ τ/\wpEs C es σ λds=>C.fr f=true/\(C.ct f).wp ds (λd=>WdF X.K O H Q d) ex:=by
 rw[v9]at h;replace h:=jb h;obtain⟨⟨fx,xs,cp⟩,hc,h⟩:=h;obtain⟨q,rfl⟩:=jG hc;simp only[bh,decide_eq_true_eq]at h;obtain⟨⟨⟨k1,k2⟩,hne⟩,k4⟩:=h;obtain⟨y,ys,rfl⟩:=k8 hne;obtain⟨g1,g2,g3⟩:=ok.ok.toOk.gl k2;obtain⟨fa,fd,ps,lv,F,hr,hm,hk,hb⟩:=ok.ok.toOk.fns f fx _ k1
 have hs:bU (y::ys) X.env=(false,eval y X.env)::bU ys X.env/\(backTo cp (bU ys X.env)).any (·.1)=false:=by
  cases es with
  |nil=>have:=jR k4;cases this
  |cons z zs =>
   obtain⟨y',ys',e',h5,h6⟩:=jJ k4;cases e';exact⟨jw h5 _ _,kc h6 _ _⟩
 have pass:vT (CXz X.prog X.w X.mg) X (XE0 X.K O₀ H₀ ex):=λpins σ H s e s' I ⟨x,Ca,H1,da,⟨y,e1,hx,sm,fd⟩,hm,T⟩=>by
  cases e1;exact ok.thr y Ca hx hm pins σ H s H1 da e s' I sm fd T
 refine PE.imp (λτ H Q w=>?_) (zh (CX:=CXz X.prog X.w X.mg) (E:=XE0 X.K O₀ H₀ ex) (dvs:=[]) F hr g1 hm hk hb .nil pass (Yo (sA ok.ok.toOk es _ k4)) g2 hs.1 hs.2);obtain⟨σ,O,sm,so,R,w⟩:=w;refine⟨σ,O,R,jm es (λds ⟨hl,wd⟩ vs H1 s1 i1=>?_) (qi es w)⟩;show spD X.K (y::ys).length (C.fr f) (C.f2 f) (C.ct f) (vs ++ []) H1 _ _;rw[di];refine⟨O,ds,by rw[hl,yh k4],(R.mono s1).own,i1,wd.2.1,λd r=>?_,λz hz H2 da s2 fd=>⟨z,rfl,wd.2.2.2 z hz,(sm.trans s1).trans s2,fd.less so⟩⟩;unfold Rw;rw[if_pos wd.1];exact(wd.2.2.1 d r).mono s1
theorem sX:∀ {X:Cx} {k:Ck} {ex:XD->Prop} (ok:OkX X k C O₀ H₀ ex) (s:Sm) (st:Stmt),chkX k s st=true->PS X st (tS X.K C O₀ H₀ ex s)
 |X,k,ex,ok,.ite c a b,st,h=>by
  replace h:=jb h;obtain⟨⟨t,x,y⟩,hz,h⟩:=h;obtain⟨pos,rfl⟩:=X3 hz;simp only[bh]at h;refine PS.imp (λD τ H w=>?_) (jbH (sB ok.ok.toOk c t h.1.1).2.nox (sXB ok a x h.1.2) (sXB ok b y h.2));obtain⟨σ,O,g,R,w⟩:=w;refine⟨σ,O,R.toReps,ja c (λd=>ka λt wt H1 s1=>?_) w⟩
  cases t with
  |true=>exact⟨σ,O,g.mono s1,R.mono s1,jn a (kS (jc s1)) wt⟩
  |false=>exact⟨σ,O,g.mono s1,R.mono s1,jn b (kS (jc s1)) wt⟩
 |X,k,ex,ok,.retX fs f es,st,h=>by
  replace h:=jb h;obtain⟨ov,ho,h⟩:=h;replace h:=jb h;obtain⟨v,hv,h⟩:=h;subst hv;obtain⟨pos,rfl⟩:=Qb ho;refine PS.imp (λD τ H w=>?_) (Jq (sN ok f es fs v h));obtain⟨σ,O,g,R,w⟩:=w
  exact⟨σ,O,g.same,g.sub,R.toReps,uD fs (λd rt v H' s2 i2=>rt v H' (g.same.trans s2) (Is.mono (jE g.sub) d i2)) (λ_ q=>q) w⟩
 |X,k,ex,ok,.raiseA x e,st,h=>by
  replace h:(_&&_)=true:=h;simp only[bh,decide_eq_true_eq]at h;obtain⟨⟨⟨⟨hrs,hcl⟩,hgl⟩,hpl⟩,h⟩:=h;replace h:=jb h;obtain⟨y,he,h⟩:=h;obtain⟨pos,rfl⟩:=jat he;replace h:=jb h;obtain⟨⟨x',xs,cp⟩,hc,h⟩:=h;obtain⟨np,rfl⟩:=jG hc;simp only[bh,decide_eq_true_eq]at h;obtain⟨⟨⟨h1,h2⟩,h3⟩,h4⟩:=h;subst h1;obtain⟨z,z2,rfl⟩:=xx h2;replace h3:=jb h3;obtain⟨cc,hcc,h3⟩:=h3;obtain⟨j,zp,rfl⟩:=xR (show qx z=_ from hcc)
  obtain⟨tx,rfl⟩:∃tx,cc=.str tx:=by
   cases cc with
   |str tx=>exact⟨tx,rfl⟩
   |_=>cases h3
  obtain⟨Ca,hm,co⟩:=ok.exc x' hcl;obtain⟨T,f,F,fn⟩:=co.ow hpl;obtain⟨g1,g2,g3⟩:=ok.ok.toOk.gl hgl;obtain⟨rm,rax⟩:=ok.rax hrs;have h4:chkE k e z2=true:=h4;have pa:PA X [.Constant (.str tx) j zp,z2] _:=jM Ym (jM (pe_nox (sB ok.ok.toOk e z2 h4).1) kH (jw h4 _ _));have px:=pe_exc (np:=np) (cp:=cp) ok.own ⟨F,fn X.prog X.w X.base,rm⟩ g1 hm pa g2 rfl (by rw[jw h4];rfl);intro pins s τ H D I w;obtain⟨σ,O,g,R,w⟩:=w;have hh:X.A.handled=none:=I.ok.hd ok.ok.calm;refine raise_x (te:=_) I hh F px ?_;refine⟨σ,O,R.toReps,ja e (λd wd v H1 s1 i1=>⟨rfl,λea h0 h0'=>?_⟩) w⟩;have sm:je H₀ H1:=g.same.trans s1;have fr0:H₀ ea=none:=sm.free h0
  have ne:∀ {b:Addr} {u:HO},H1 b=some u->b≠ea:=λ{b u} q z=>by rw[z,h0]at q;cases q
  refine⟨ea,.str tx,v,rfl,ju ..,?_⟩;obtain⟨fo,xn⟩:=wd;have xn:ex ⟨0,x',[d]⟩:=xn;split
  ·next hd =>
   obtain⟨xs,rfl⟩:=fo (by simpa using hd);obtain⟨a,vs,rfl,sq,iv⟩:=jN i1;refine⟨a,vs,rfl,?_,λq dA hq hdA nq=>⟨rfl,ea,some dA,rfl,ju ..,λs2 I2=>?_⟩⟩
   ·rcases(jf _ _).seq sq with(z|⟨o,z⟩)|z
    ·exact .inl (.inl (by rw[jg (ne z)];exact z))
    ·exact .inl (.inr ⟨o,by rw[jg (ne z)];exact z⟩)
    ·exact .inr z
   ·have nq':q≠ea:=λz=>by rw[z,ju]at hq;cases hq
    have nd':dA≠ea:=λz=>by rw[z,ju]at hdA;cases hdA
    have hq0:H1 q=none:=by rw[jg nq']at hq;exact hq
    have hd0:H1 dA=none:=by rw[jg nd']at hdA;exact hdA
    have sd:je H1 (del (upd (upd (upd (upd H1 ea (xo ea Ca none)) q (.lst vs)) dA (.xd [(zA x',.ref q)])) ea (xo ea Ca (some dA))) ea):=λb o z=>by
     have n1:=ne z
     have n2:b≠q:=λy=>by rw[y,hq0]at z;cases z
     have n3:b≠dA:=λy=>by rw[y,hd0]at z;cases z
     rw[kZ n1,jg n1,jg n3,jg n2,jg n1];exact z
    have at1:del (upd (upd (upd (upd H1 ea (xo ea Ca none)) q (.lst vs)) dA (.xd [(zA x',.ref q)])) ea (xo ea Ca (some dA))) ea dA=some (.xd [(zA x',.ref q)]):=by rw[kZ nd',jg nd',ju]
    have at2:del (upd (upd (upd (upd H1 ea (xo ea Ca none)) q (.lst vs)) dA (.xd [(zA x',.ref q)])) ea (xo ea Ca (some dA))) ea q=some (.lst vs):=by rw[kZ nq',jg nq',jg nq,ju]
    refine rax ⟨0,x',[.lst xs]⟩ Ca xn hm pins τ _ s2 ea (some dA) I2 (ju ..) fr0 h0' (sm.trans sd) λd hd=>?_
    rw[gv.mp hd]
    have nO:q ∉ O₀:=λz=>(R.mono s1).own q (g.sub q z) hq0
    refine⟨dA,.ref q,rfl,at1,qJ (SqL.of ?_) (Iss.mono ((jE g.sub).trans (jc sd)) xs iv)⟩;rw[kz nO];exact at2
  ·next hd =>
   intro dA hdA
   have nd':dA≠ea:=λz=>by rw[z,ju]at hdA;cases hdA
   have hd0:H1 dA=none:=by rw[jg nd']at hdA;exact hdA
   have sd:je H1 (del (upd (upd (upd H1 ea (xo ea Ca none)) dA (.xd [(zA x',v)])) ea (xo ea Ca (some dA))) ea):=λb o z=>by
    have n1:=ne z
    have n3:b≠dA:=λy=>by rw[y,hd0]at z;cases z
    rw[kZ n1,jg n1,jg n3,jg n1];exact z
   have at1:del (upd (upd (upd H1 ea (xo ea Ca none)) dA (.xd [(zA x',v)])) ea (xo ea Ca (some dA))) ea dA=some (.xd [(zA x',v)]):=by rw[kZ nd',jg nd',ju]
   refine⟨rfl,ea,some dA,rfl,ju ..,λs2 I2=>?_⟩
   refine rax ⟨0,x',[d]⟩ Ca xn hm pins τ _ s2 ea (some dA) I2 (ju ..) fr0 h0' (sm.trans sd) λd' hd=>?_
   rw[gv.mp hd]
   exact⟨dA,v,rfl,at1,Is.mono ((jE g.sub).trans (jc sd)) d i1⟩
 |X,k,ex,ok,.tryR b x v,st,h=>by
  replace h:(_&&_)=true:=h;simp only[bh,decide_eq_true_eq]at h;obtain⟨⟨hcl,hgl⟩,h⟩:=h;replace h:=jb h;obtain⟨bs,ht,hb⟩:=h;obtain⟨np,p,uc,j,cp,rp,pos,rfl,hco⟩:=asTryR_ ht;obtain⟨Ca,hm,co⟩:=ok.exc x hcl;obtain⟨g1,g2,_⟩:=ok.ok.toOk.gl hgl;intro pins s τ H D I w;refine wpAny_Try_except ?_;obtain⟨σ,O,g,R,w⟩:=w
  let xe':bp->Shared->Prop:=λe s₁=>wpAny (model X.prog X.w) X.A (jdu e X.env) (λ_ s₂=>wpAny (model X.prog X.w) X.A (jfo e none) (λ_ s₃=>wpAny (model X.prog X.w) X.A (handleBy e X.env [.ExceptHandler (some (.Name x np)) none [.Return (some (.Constant uc j cp)) rp] p]) (SP X pins D) X.xe s₃) X.xe s₂) X.xe s₁
  let X':Cx:={ X with xe:=xe',pn:=X.pn++pins }
  have toX:∀ {ps:List (Addr×nW)} {σ':L2.St} {H':Hp} {s':Shared},Inv X' ps σ' H' s'->Inv X pins σ' H' s':=λ{ps σ' H' s'} J=>⟨I.ok,J.os,J.bare,J.base,J.loc,J.cell,J.free,J.freeC,λq hq=>J.pin q (dh _ hq),J.hok,J.len⟩
  have I':Inv X' [] τ H s:=⟨⟨I.ok.mod,I.ok.kind,I.ok.glob,I.ok.blt,I.ok.above,I.ok.inj,I.ok.has,I.ok.cab,I.ok.hd,I.ok.frames,I.ok.stk,I.ok.exf,I.ok.bs,I.ok.bsz,I.ok.noex,I.ok.exfs,I.ok.funs,I.ok.frf⟩,I.os,I.bare,I.base,I.loc,I.cell,I.free,I.freeC,λq hq=>I.pin q (by simpa[X']using hq),I.hok,I.len⟩
  have ok':OkX X' { k with rs:=false } C O₀ H₀ (λz=>z.t=x/\(zB X.K O₀ H₀ ex D O H).rt v):=by
   refine⟨⟨⟨ok.ok.N,ok.ok.nd,ok.ok.names,ok.ok.kd,ok.ok.calm,rfl,ok.ok.units,ok.ok.fns,ok.ok.cns,ok.ok.blt,ok.ok.E⟩,ok.ok.fn⟩,⟨ok.own.stk,ok.own.frm,ok.own.ex⟩,ok.o0,?_,(λz=>bG z),(λz=>bG z),ok.exc,λz=>⟨(ok.al z).fn,(ok.al z).rm,(ok.al z).int⟩⟩;rintro z Cz ⟨rfl,rt⟩ hmz pins' σ' H' s' H1 da e s2 J sm _ T
   have ec:Ca=Cz:=by rw[hm]at hmz;cases hmz;rfl
   subst ec;refine caughtR (X:=X') (Q:=SP X pins D) (E:=X.xe) J ⟨ok.own.stk,ok.own.frm,ok.own.ex⟩ hm co.cl g1 g2 T ?_;rintro ea s7 s1 J7;obtain⟨cv,pcv,icv⟩:=jak (X:=mkX X' ea) (j:=j) (cp:=cp) hco
   refine gq (kA (Jq pcv (pos:=rp)) qU pins' s7 σ' H1 { nx:=λ_ _=>False,rt:=λv' H'=>v'=cv/\je H1 H' } J7 ⟨rfl,je.refl _⟩) (λf s8 z=>?_) λ_ _ z=>z
   cases f with
   |ret u =>
    obtain⟨v',σ8,H8,J8,r8,rfl,s8'⟩:=z
    exact⟨_,σ8,H8,toX (inv_unX J J8),r8,rt _ _ (sm.trans s8') (icv _ _)⟩
   |next=>obtain⟨_,_,_,z⟩:=z;exact z.elim
   |brk=>obtain⟨_,_,_,z⟩:=z;exact z.elim
   |cont=>obtain⟨_,_,_,z⟩:=z;exact z.elim
  refine gq (sXB ok' b bs hb [] s τ H D I' ⟨σ,O,g,R,jn b ⟨λ_ q=>q,λ_ q=>q,λ_ q=>q,λ_ q=>q,λ_ q=>q,λ_ q=>q,λ_ q=>q⟩ w⟩) (λf s1 z=>?_) λe s1 z=>z
  cases f with
  |ret u=>obtain⟨v,σ8,H8,J8,r8,q8⟩:=z;exact⟨v,σ8,H8,toX J8,r8,q8⟩
  |next =>
   obtain⟨σ8,H8,J8,q8⟩:=z
   exact qU (X:=X) pins s1 σ8 H8 D (toX J8) q8
  |brk=>obtain⟨σ8,H8,J8,q8⟩:=z;exact⟨σ8,H8,toX J8,q8⟩
  |cont=>obtain⟨σ8,H8,J8,q8⟩:=z;exact⟨σ8,H8,toX J8,q8⟩
 |X,k,ex,ok,.nop,st,h=>zff h
 |X,k,ex,ok,.seq a b,st,h=>zff h
 |X,k,ex,ok,.shr i,st,h=>zff h
 |X,k,ex,ok,.set i e,st,h=>by exact kv (sS ok.ok _ st h)
 |X,k,ex,ok,.unp i e,st,h=>by exact kv (sS ok.ok _ st h)
 |X,k,ex,ok,.ret e,st,h=>by exact kv (sS ok.ok _ st h)
 |X,k,ex,ok,.whl c b,st,h=>by exact kv (sS ok.ok _ st h)
 |X,k,ex,ok,.forR i e b,st,h=>by exact kv (sS ok.ok _ st h)
 |X,k,ex,ok,.forE i e b,st,h=>by exact kv (sS ok.ok _ st h)
 |X,k,ex,ok,.brk,st,h=>by exact kv (sS ok.ok _ st h)
 |X,k,ex,ok,.cnt,st,h=>by exact kv (sS ok.ok _ st h)
 |X,k,ex,ok,.never,st,h=>by exact kv (sS ok.ok _ st h)
 |X,k,ex,ok,.new i,st,h=>by exact kv (sS ok.ok _ st h)
 |X,k,ex,ok,.app i e,st,h=>by exact kv (sS ok.ok _ st h)
 |X,k,ex,ok,.ext i e,st,h=>by exact kv (sS ok.ok _ st h)
 |X,k,ex,ok,.sto i e v,st,h=>by exact kv (sS ok.ok _ st h)
 |X,k,ex,ok,.forN i e b,st,h=>by exact kv (sS ok.ok _ st h)
 |X,k,ex,ok,.forU i j m e,st,h=>by exact kv (sS ok.ok _ st h)
 |X,k,ex,ok,.retG e,st,h=>by exact kv (sS ok.ok _ st h)
 |X,k,ex,ok,.setG i f e,st,h=>by exact kv (sS ok.ok _ st h)
 |X,k,ex,ok,.ownG i e,st,h=>by exact kv (sS ok.ok _ st h)
 |X,k,ex,ok,.cpO j i es c e,st,h=>by exact kv (sS ok.ok _ st h)
 |X,k,ex,ok,.forT j i e,st,h=>by exact kv (sS ok.ok _ st h)
 |X,k,ex,ok,.shrT i,st,h=>zff h
 |X,k,ex,ok,.hlfT i,st,h=>zff h
theorem sXB:∀ {X:Cx} {k:Ck} {ex:XD->Prop} (ok:OkX X k C O₀ H₀ ex) (s:Sm) (st:List Stmt),zF k s st=true->PSs X st (tS X.K C O₀ H₀ ex s)
 |X,k,ex,ok,.nop,st,h=>by
  have e:st=[]:=by rw[zF]at h;simpa using h
  subst e;refine PSs.imp (λD τ H w=>?_) qU;obtain⟨σ,O,g,R,w⟩:=w
  exact w τ H O g (je.refl _) R
 |X,k,ex,ok,.seq a b,st,h=>by
  by_cases hs:uB a=true
  ·rw[zF,if_pos hs]at h;exact PSs.imp (λD τ H w=>jcl hs w) (sXB ok b st h)
  rw[zF,if_neg hs]at h
  cases st with
  |nil=>simp at h
  |cons s r =>
   simp only[bh,d6,gk]at h;refine PSs.imp (λD τ H w=>?_) (kA (sX ok a s h.1.2) (sXB ok b r h.2));obtain⟨σ,O,g,R,w⟩:=w;refine⟨σ,O,g,R,jn a ?_ w⟩
   exact⟨λσ' q τ' H' O' g' s' r'=>⟨σ',O',g',r',jn b (kS s') q⟩,λ_ q=>q,λ_ q=>q,λ_ q=>q,λ_ q=>q,λ_ q=>q,λ_ q=>q⟩
 |X,k,ex,ok,.set _ _,_,h=>zff h
 |X,k,ex,ok,.unp _ _,_,h=>zff h
 |X,k,ex,ok,.ret _,_,h=>zff h
 |X,k,ex,ok,.ite _ _ _,_,h=>zff h
 |X,k,ex,ok,.whl _ _,_,h=>zff h
 |X,k,ex,ok,.forR _ _ _,_,h=>zff h
 |X,k,ex,ok,.forE _ _ _,_,h=>zff h
 |X,k,ex,ok,.brk,_,h=>zff h
 |X,k,ex,ok,.cnt,_,h=>zff h
 |X,k,ex,ok,.never,_,h=>zff h
 |X,k,ex,ok,.new _,_,h=>zff h
 |X,k,ex,ok,.app _ _,_,h=>zff h
 |X,k,ex,ok,.ext _ _,_,h=>zff h
 |X,k,ex,ok,.sto _ _ _,_,h=>zff h
 |X,k,ex,ok,.shr _,_,h=>zff h
 |X,k,ex,ok,.forN _ _ _,_,h=>zff h
 |X,k,ex,ok,.forU _ _ _ _,_,h=>zff h
 |X,k,ex,ok,.retG _,_,h=>zff h
 |X,k,ex,ok,.setG _ _ _,_,h=>zff h
 |X,k,ex,ok,.ownG _ _,_,h=>zff h
 |X,k,ex,ok,.cpO _ _ _ _ _,_,h=>zff h
 |X,k,ex,ok,.forT _ _ _,_,h=>zff h
 |X,k,ex,ok,.shrT _,_,h=>zff h
 |X,k,ex,ok,.hlfT _,_,h=>zff h
 |X,k,ex,ok,.retX _ _ _,_,h=>zff h
 |X,k,ex,ok,.raiseA _ _,_,h=>zff h
 |X,k,ex,ok,.tryR _ _ _,_,h=>zff h
end
end
end Z
namespace Z
open PySem PySem.Spec PyProof.Rows L2
structure FnI where
 x:Str
 st:Stmt
 N:List Str
 ps:List Str
 b:Sm
 c:Ctr
 fr:Bool:=false
 rz:Bool:=false
 cls:List Str:=[]
 al:Bool:=true
 g:Bool:=false
def FnI.Keep(i:FnI)(C:Cfg):Prop:=if i.rz=true then if i.fr=true then KeepsY C i.N.length i.b i.c else i.fr=false/\(if i.g=true then KeepsQ C i.N.length i.b i.c else KP C i.N.length i.b i.c) else if i.fr=true then KeepsF C i.N.length i.b i.c else if i.g=true then jb7 C i.N.length i.b i.c else jB C i.N.length i.b i.c
def FnI.ck(i:FnI)(L:List FnI)(cns:List Str):Ck:={ N:=i.N,names:=(jk i.st).names,fns:=L.map λj=>(j.x,j.ps.length),cns:=cns,cls:=i.cls,rz:=i.rz,rs:=i.rz,al:=i.al }
def ux(i:FnI):Bool :=
 decide ((jk i.st).kind=.function) && !(jk i.st).isCoroutine && !(jk i.st).isGenerator&&decide i.N.Nodup&&decide (i.N.take i.ps.length=i.ps) &&
  i.ps.all (λx=>decide ((jk i.st).names.lookup x=some .local) ||decide ((jk i.st).names.lookup x=some .cell))&&(jk i.st).names.all λy=>decide (y.2 ≠ .free)
variable{i:FnI}
theorem vX(h:ux i=true):FnScope i.N i.ps (jk i.st):=by
 unfold ux at h;simp only[bh,decide_eq_true_eq,dE,ni,sW]at h;obtain⟨⟨⟨⟨⟨⟨h1,h2⟩,h3⟩,h4⟩,h5⟩,h6⟩,h7⟩:=h;exact⟨h1,h2,h3,h4,h5,h6,h7⟩
def Z4(i:FnI)(L:List FnI)(cns:List Str):Bool:=ux i&&if i.rz=true then zF (i.ck L cns) i.b (kj i.st) else yC (i.ck L cns) i.b (kj i.st)
def vZ(L:List FnI)(cns:List Str):Bool:=(bE L.length).all λn=>match L[n]? with
 |some i=>Z4 i (L.take n) cns
 |none=>true
variable{L:List FnI}{n:Nat}
theorem chk_at{cns:List Str}(h:vZ L cns=true)(e:L[n]?=some i):Z4 i (L.take n) cns=true:=by
 unfold vZ at h;rw[ni]at h
 have hn:n<L.length:=by
  rcases b8 n L.length with z|z
  ·exact z
  ·rw[bI z]at e;cases e
 have:=h n (dF.mpr hn);rw[e]at this;exact this
structure FnAt (K:bw) (mg:Str->Option bp) (i:FnI) (f:Addr) (fd:sE):Prop where
 fn:Fun K i.x i.x i.st f fd
 mg:mg i.x=some (.ref f)
 bd:∀us:List bp,us.length=i.ps.length->bindArgs fd ⟨us,[]⟩=pure (i.ps.zip us)
def QD(K:bw)(mg:Str->Option bp)(i:FnI):Prop:=∃f fd,FnAt K mg i f fd
section
variable {α:Type} {P:List α->Prop}
theorem len1(k:∀a,P [a]):∀us,us.length=1->P us
 |[a],_=>k a
theorem len2(k:∀a b,P [a,b]):∀us,us.length=2->P us
 |[a,b],_=>k a b
theorem len3(k:∀a b c,P [a,b,c]):∀us,us.length=3->P us
 |[a,b,c],_=>k a b c
theorem len4(k:∀a b c d,P [a,b,c,d]):∀us,us.length=4->P us
 |[a,b,c,d],_=>k a b c d
theorem len5(k:∀a b c d e,P [a,b,c,d,e]):∀us,us.length=5->P us
 |[a,b,c,d,e],_=>k a b c d e
end
variable{K:bw}{h:gQ}{mg:Str->Option bp}{f:Addr}{od an:Option Addr}{sl:Array (Option bp)}{oc pm:bp}
theorem fact_mk{kV dc cd ct:bp}(X:K.In h)(G:h.Ns gS mg)
 (b:∀(kV doc pm:bp) (an:Option Addr) (cdv ct:bp) (us:List bp),us.length=i.ps.length->bindArgs (nQ i.x i.x (qQ i.st) (kj i.st) (jk i.st) .none kV doc pm an cdv ct) ⟨us,[]⟩=pure (i.ps.zip us))
 (a:gN K gS i.x=some (some (.ref f))) (l:K.lookup f=some ⟨oc,od,.func (nQ i.x i.x (qQ i.st) (kj i.st) (jk i.st) .none kV dc pm an cd ct),sl⟩) (c:tN K cd i.x=true) (k:nr K (.ref f)=true):QD K mg i :=
 ⟨f,_,fun_mk l c k,we X G a,λus h=>b kV dc pm an cd ct us h⟩
variable{H:Hp}{N:List Str}{x:Str}{fd:sE}
section
variable {P:gj} {w:World} {K:bw} {mg:Str->Option bp} {base:gQ} {C:Cfg} {cns:List Str}
theorem vi:∀(ds:List D) (j m:Nat) (rs:List (List D)),getS (startS m ds) j≠some (.ot rs):=by
 intro ds j m rs;unfold startS;generalize m-ds.length=r
 induction ds generalizing j with
 |nil =>
  have:∀(m j:Nat),getS (bR m none) j=none:=by
   intro m
   induction m with
   |zero=>intro j;rfl
   |succ m ih=>intro j;cases j with|zero=>rfl|succ j=>exact ih j
  simp only[dR,dz]
  rw[this];exact λz=>nomatch z
 |cons e es ih =>
  cases j with
  |zero=>simp only[bq,bW,getS];exact λz=>nomatch z
  |succ j=>simp only[bq,bW,getS];exact ih j
theorem Yb{O:List Addr}{ds:List D}{vs:List V}(hn:N.length=n)(ho:∀a∈O,H a≠none)(i:Iss K (jd H O) ds vs):Reps K O H (startS n ds) (L2.start N vs) where
 len:=by
  unfold startS L2.start;rw[b6,b6,bj,bj,pV,pV,i.length,hn]
 own:=ho
 sh:=λj d g=>by
  have aux:∀(ds:List D) (vs:List V) (j:Nat) (d:D) (m m':Nat),Iss K (jd H O) ds vs->getS (ds.map (λd=>some (Sl.sh d))++bR m none) j=some (.sh d)->∃v,(vs.map some++bR m' none)[j]?=some (some v)/\Is K (jd H O) d v:=by
   intro ds
   induction ds with
   |nil =>
    intro vs j d m m' i g
    have:∀(m j:Nat),getS (bR m none) j=none:=by
     intro m
     induction m with
     |zero=>intro j;rfl
     |succ m ih=>intro j;cases j with|zero=>rfl|succ j=>exact ih j
    simp only[dR,dz]at g
    rw[this]at g;cases g
   |cons e es ih =>
    intro vs j d m m' i g;unfold Iss at i;obtain⟨v,r,rfl,i1,i2⟩:=i
    cases j with
    |zero =>
     simp only[bq,bW,getS]at g;cases g
     exact⟨v,rfl,i1⟩
    |succ j =>
     simp only[bq,bW,getS]at g;obtain⟨u,e1,e2⟩:=ih r j d m m' i2 g;exact⟨u,by simpa using e1,e2⟩
  exact aux ds vs j d _ _ i g
 ow:=λj es g=>by
  exfalso
  have aux:∀(ds:List D) (j:Nat) (m:Nat),getS (ds.map (λd=>some (Sl.sh d))++bR m none) j≠some (.ow es):=by
   intro ds
   induction ds with
   |nil =>
    intro j m
    have:∀(m j:Nat),getS (bR m none) j=none:=by
     intro m
     induction m with
     |zero=>intro j;rfl
     |succ m ih=>intro j;cases j with|zero=>rfl|succ j=>exact ih j
    simp only[dR,dz]
    rw[this];exact λz=>nomatch z
   |cons e es ih =>
    intro j m
    cases j with
    |zero=>simp only[bq,bW,getS];exact λz=>nomatch z
    |succ j=>simp only[bq,bW,getS];exact ih j m
  exact aux ds j _ g
 dj:=λj l es fs hjl g1 g2=>by
  exfalso
  have aux:∀(ds:List D) (j:Nat) (m:Nat),getS (ds.map (λd=>some (Sl.sh d))++bR m none) j≠some (.ow es):=by
   intro ds
   induction ds with
   |nil =>
    intro j m
    have:∀(m j:Nat),getS (bR m none) j=none:=by
     intro m
     induction m with
     |zero=>intro j;rfl
     |succ m ih=>intro j;cases j with|zero=>rfl|succ j=>exact ih j
    simp only[dR,dz]
    rw[this];exact λz=>nomatch z
   |cons e es ih =>
    intro j m
    cases j with
    |zero=>simp only[bq,bW,getS];exact λz=>nomatch z
    |succ j=>simp only[bq,bW,getS];exact ih j m
  exact aux ds j _ g1
 tt:=⟨λj rows g=>absurd g (vi ds j _ rows),λj l rs qs g1 _=>absurd g1 (vi ds j _ rs)⟩
theorem jaf:∀(ds:List D) (j m:Nat) (es:List D),getS (startS m ds) j≠some (.ow es):=by
 intro ds j m es;unfold startS;generalize m-ds.length=r
 induction ds generalizing j with
 |nil =>
  have:∀(m j:Nat),getS (bR m none) j=none:=by
   intro m
   induction m with
   |zero=>intro j;rfl
   |succ m ih=>intro j;cases j with|zero=>rfl|succ j=>exact ih j
  simp only[dR,dz]
  rw[this];exact λz=>nomatch z
 |cons e es ih =>
  cases j with
  |zero=>simp only[bq,bW,getS];exact λz=>nomatch z
  |succ j=>simp only[bq,bW,getS];exact ih j
theorem fun_okz{CX:CXT}{qual:Str}{st:Stmt}{ps:List Str}{k:Nat}{sp:Sp}(F:Fun K x qual st f fd)(S:FnScope N ps (jk st))(len:∀vs H Q E,sp vs H Q E->vs.length=ps.length)
 (hb:∀(cdv:bp) (A:mz) (outer:List Env) (s:Shared) (H:Hp) (vs:List V) (Q:VK) (E:XK),Room k (A.deeper (envOfC qual (jk st) s.heap.objs.size f cdv))->sp vs H Q E ->
  ∃t,PSs (Jg CX P w K mg base N qual (jk st) f cdv A outer s H E) (kj st) t/\t { nx:=λ_ H'=>Q .non H',rt:=Q } (L2.start N vs) H):FnOk P w K mg base CX (k+1) f fd ps sp:=by
 obtain⟨oc,od,kV,doc,pm,an,cdv,ct,osl,rfl,lk,hcd⟩:=F.ex
 exact jbr lk hcd S len λA outer s H vs Q E hr hsp=>hb cdv A outer s H vs Q E hr hsp
def UB(i:FnI):Bool:=ux i&&decide (i.x=("_law_alone":Str))&&decide (i.ps=[("_law_e":Str)])&&decide (i.N=[("_law_e":Str),("_law_flags":Str)])&&decide ((jk i.st).names.lookup ("_law_e":Str)=some .local)&&decide ((jk i.st).names.lookup ("_law_flags":Str)=some .local) &&
 ((("isinstance":Str)::("TrueError":Str)::("ValueError":Str)::jF).all λc=>decide ((jk i.st).names.lookup c=some .globalImplicit))&&vH (kj i.st)
structure ExcOk (K:bw) (mg:Str->Option bp) (cls:List Str) (b:Bool):Prop where
 al:b=true->∃i,QD K mg i/\UB i=true
 exc:∀x∈cls,∃Ca,mg x=some (.ref Ca)/\ClsOk K mg x Ca b
theorem ExcOk.fn{cls:List Str}{b:Bool}(e:ExcOk K mg cls b)(hb:b=true):∃f fd,FnOk P w K mg base (CXz P w mg) 1 f fd ["_law_e"] (spA K mg)/\mg "_law_alone"=some (.ref f)/\nr K (.ref f)=true/\uq K fd ["_law_e"] []:=by
 obtain⟨i,⟨f,fd,A⟩,h⟩:=e.al hb;unfold UB at h;simp only[bh,decide_eq_true_eq,ni]at h;obtain⟨⟨⟨⟨⟨⟨⟨h1,h2⟩,h3⟩,h4⟩,h5⟩,h6⟩,h7⟩,h8⟩:=h;have S:=vX h1;have b:=A.bd;have m:=A.mg;rw[h3]at b;rw[h2]at m;rw[h3,h4]at S;exact⟨f,fd,jch A.fn S h5 h6 h7 h8,m,A.fn.kp,.all b⟩
theorem jay{lv:Nat}(h2:2<=lv)(F:FnAt K mg i f fd)(hc:Z4 i L cns=true)(hk:i.Keep C)
 (fns:∀n j,L[n]?=some j->∃f fd,FnOk P w K mg base (CXz P w mg) lv f fd j.ps (spD K j.ps.length (C.fr n) (C.f2 n) (C.ct n))/\FnAt K mg j f fd)
 (hcn:∀n x,cns[n]?=some x->∃u v,mg x=some u/\jV v u/\∀S,Is K S (C.cn n) v) (hb:∀x∈blts,mg x=none) (hE:∀x,¬ C.E x) (hz:i.rz=true->ExcOk K mg i.cls i.al) :
 FnOk P w K mg base (CXz P w mg) (lv+1) f fd i.ps (spD K i.ps.length i.fr i.g i.c):=by
 unfold Z4 at hc;rw[bh]at hc;have S:=vX hc.1;refine fun_okz F.fn S (λvs H Q E h=>?_) (λcdv A outer s H vs Q E hr h=>?_)
 ·obtain⟨O,ds,hl,_,is,_⟩:=h;rw[is.length,hl]
 obtain⟨O,ds,hl,ho,is,hp,hq,hx⟩:=h
 have hun:(A.deeper (envOfC i.x (jk i.st) s.heap.objs.size f cdv)).units+100<cLine:=by have:=hr.un;lia
 have hdp:=hr.dp
 have hcalm:A.handled.isNone=true:=by
  have e:A.handled=none:=hr.hd h2;rw[e];rfl
 have ok:OkS (Jg (CXz P w mg) P w K mg base i.N i.x (jk i.st) f cdv A outer s H E).nox (i.ck L cns) C:=by
  refine⟨⟨rfl,S.nd,rfl,S.kind,hcalm,rfl,hun,?_,hcn,hb,hE⟩,λ_=>rfl⟩;intro n x m e;have e':(L.map λj=>(j.x,j.ps.length))[n]?=some (x,m):=e;rw[bY]at e'
  cases q:L[n]? with
  |none=>rw[q]at e';cases e'
  |some j =>
   rw[q]at e';cases e';obtain⟨f',fd',F',A'⟩:=fns n j q;exact⟨f',fd',j.ps,lv,F',hr,A'.mg,A'.fn.kp,.all A'.bd⟩
 have st:=Yb (K:=K) (N:=i.N) rfl ho is
 have mine:∀j es a,getS (startS i.N.length ds) j=some (.ow es)->(L2.start i.N vs)[j]?=some (some (.ref a))->a ∉ O:=λj es a g=>(jaf ds j _ es g).elim
 have mineT:MT O H (startS i.N.length ds) (L2.start i.N vs):=λj rs a as g=>(vi ds j _ rs g).elim
 unfold FnI.Keep at hk;by_cases hrz:i.rz=true
 ·rw[if_pos hrz]at hk;rw[if_pos hrz]at hc;have eo:=hz hrz
  have own:Own (Jg (CXz P w mg) P w K mg base i.N i.x (jk i.st) f cdv A outer s H E):=⟨rfl,rfl,rfl⟩
  have okx:OkX (Jg (CXz P w mg) P w K mg base i.N i.x (jk i.st) f cdv A outer s H E) (i.ck L cns) C O H (i.c.exn ds):=by
   refine⟨ok,own,ho,?_,?_,λ_=>⟨hr.mono h2,?_⟩,eo.exc,λq=>⟨eo.fn q,⟨?_,?_⟩,hb _ (by decide)⟩⟩
   ·intro y Ca hex hm pins σ H' s' H1 da e s2 I sm fd T
    exact VR I own sm T λs3 T3=>⟨y.t,Ca,H1,da,hx y hex H1 da sm fd,hm,T3⟩
   ·intro _ x Ca hex hm pins σ H' s' h1 e args I sm M
    exact Xa I own sm M λs3 T3=>⟨x,Ca,H',none,hx ⟨0,x,[]⟩ hex H' none sm (λd hd=>nomatch hd),hm,T3⟩
   ·intro y Ca hex hm pins σ H' s' e da I he h0 h0' sm fd;obtain⟨⟨t0,he1⟩,_⟩:=I.hok e _ he
    exact Yd (inv_del I he h0) own sm he1 rfl rfl rfl rfl rfl QN h0' λs3 T3=>⟨y.t,Ca,_,da,hx y hex _ da sm fd,hm,T3⟩
   ·show (A.deeper (envOfC i.x (jk i.st) s.heap.objs.size f cdv)).depth+3*1+5<jcY;lia
   ·have:=hr.un;show (A.deeper (envOfC i.x (jk i.st) s.heap.objs.size f cdv)).units+16*1+200<cLine;lia
  by_cases hfr:i.fr=true
  ·rw[if_pos hfr]at hk;unfold Rw at hq;simp only[hfr,if_true]at hq;refine⟨_,sXB (O₀:=O) okx i.b _ hc.2,startS i.N.length ds,O,⟨je.refl _,λ_ z=>z,λ_ z=>.inl z⟩,⟨st,mine,mineT⟩,jn i.b ?_ (hk ds hp)⟩;exact⟨λ_ z=>z.elim,λ_ z=>z.elim,λ_ z=>z.elim,λ_ z=>z.elim,λxs q a H' us s' h0 hl' is'=>hq _ q xs a H' us rfl s' h0 hl' is',λ_ z=>z,λ_ z=>z.elim⟩
  rw[if_neg hfr]at hk;obtain⟨hf,hk⟩:=hk;unfold Rw at hq;simp only[hf,dG,if_false]at hq;by_cases hg:i.g=true
  ·rw[if_pos hg]at hk;simp only[hg,if_true]at hq;refine⟨_,sXB (O₀:=O) okx i.b _ hc.2,startS i.N.length ds,O,⟨je.refl _,λ_ z=>z,λ_ z=>.inl z⟩,⟨st,mine,mineT⟩,jn i.b ?_ (hk ds hp)⟩;exact⟨λ_ z=>z.elim,λd q v H' s' i'=>(hq d q.2).2 q.1 v H' s' i',λ_ z=>z.elim,λ_ z=>z.elim,λ_ z=>z.elim,λ_ z=>z,λrows q a as H' s' h0 t=>(hq _ q).1 rows a as H' rfl s' h0 t⟩
  rw[if_neg hg]at hk;simp only[hg,dG,if_false]at hq;refine⟨_,sXB (O₀:=O) okx i.b _ hc.2,startS i.N.length ds,O,⟨je.refl _,λ_ z=>z,λ_ z=>.inl z⟩,⟨st,mine,mineT⟩,jn i.b ?_ (hk ds hp)⟩;exact⟨λσ' q τ' H' O' g' s' r'=>hq _ q _ _ g'.same JO,λd q v H' s' i'=>hq d q v H' s' i',λ_ z=>z.elim,λ_ z=>z.elim,λ_ z=>z.elim,λ_ z=>z,λ_ z=>z.elim⟩
 rw[if_neg hrz]at hk;rw[if_neg hrz]at hc;refine⟨tS K C O H (λ_=>False) i.b,PSs.nox (sK ok i.b _ hc.2),?_⟩;unfold Rw at hq;by_cases hf:i.fr=true
 ·rw[if_pos hf]at hk;simp only[hf,if_true]at hq;refine⟨startS i.N.length ds,O,⟨je.refl _,λ_ z=>z,λ_ z=>.inl z⟩,⟨st,mine,mineT⟩,jn i.b ?_ (hk ds hp)⟩;exact⟨λ_ z=>z.elim,λ_ z=>z.elim,λ_ z=>z.elim,λ_ z=>z.elim,λxs q a H' us s' h0 hl' is'=>hq _ q xs a H' us rfl s' h0 hl' is',λ_ z=>z,λ_ z=>z.elim⟩
 rw[if_neg hf]at hk;by_cases hg:i.g=true
 ·rw[if_pos hg]at hk;simp only[hf,hg,dG,if_false,if_true]at hq;refine⟨startS i.N.length ds,O,⟨je.refl _,λ_ z=>z,λ_ z=>.inl z⟩,⟨st,mine,mineT⟩,jn i.b ?_ (hk ds hp)⟩;exact⟨λ_ z=>z.elim,λ_ z=>z.elim,λ_ z=>z.elim,λ_ z=>z.elim,λ_ z=>z.elim,λ_ z=>z,λrows q a as H' s' h0 t=>(hq _ q).1 rows a as H' rfl s' h0 t⟩
 ·rw[if_neg hg]at hk;simp only[hf,hg,dG,if_false]at hq;refine⟨startS i.N.length ds,O,⟨je.refl _,λ_ z=>z,λ_ z=>.inl z⟩,⟨st,mine,mineT⟩,jn i.b ?_ (hk ds hp)⟩;exact⟨λσ' q τ' H' O' g' s' r'=>hq _ q _ _ g'.same JO,λd q v H' s' i'=>hq d q v H' s' i',λ_ z=>z.elim,λ_ z=>z.elim,λ_ z=>z.elim,λ_ z=>z,λ_ z=>z.elim⟩
theorem Vh(F:∀i∈L,QD K mg i)(hc:vZ L cns=true)(hk:∀i∈L,i.Keep C)(ct:∀n i,L[n]?=some i->C.ct n=i.c/\C.fr n=i.fr/\C.f2 n=i.g)
 (hcn:∀n x,cns[n]?=some x->∃u v,mg x=some u/\jV v u/\∀S,Is K S (C.cn n) v) (hb:∀x∈blts,mg x=none) (hE:∀x,¬ C.E x) (hz:∀i∈L,i.rz=true->ExcOk K mg i.cls i.al) :
 ∀(n:Nat) (i:FnI) (f:Addr) (fd:sE),L[n]?=some i->FnAt K mg i f fd->FnOk P w K mg base (CXz P w mg) (n+3) f fd i.ps (spD K i.ps.length i.fr i.g i.c):=by
 intro n
 induction n using Nat.strongRecOn with
 |ind n ih =>
  intro i f fd e A;refine jay (L:=L.take n) (lv:=n+2) (by lia) A (chk_at hc e) (hk i (gn e)) (λm j q=>?_) hcn hb hE (hz i (gn e))
  have hm:m<n:=by
   rcases b8 m n with z|z
   ·exact z
   ·rw[bI (by rw[gE];lia)]at q;cases q
  rw[nY hm]at q;obtain⟨f',fd',A'⟩:=F j (gn q);rw[(ct m j q).1,(ct m j q).2.1,(ct m j q).2.2];exact⟨f',fd',(ih m hm j f' fd' q A').mono (by lia),A'⟩
end
theorem exc_okR{cls:List Str}(_:K.In h)(ex:∀x∈cls,∃Ca,mg x=some (.ref Ca)/\ClsOk K mg x Ca false):ExcOk K mg cls false:=⟨λz=>absurd z (by decide),ex⟩
theorem bl_at:nZ (.type "ValueError") "at"=pure none:=by kernel_rfl
theorem bl_w:nZ (.type "ValueError") "weights"=pure none:=by kernel_rfl
theorem bl_f(x:Str):nZ (.type "ValueError") (zA x)=pure none:=by
 unfold zA;split
 ·exact bl_w
 ·exact bl_at
@[inline] def clsDef:Stmt->Stmt
  |.ClassDef _ _ _ b ..=>b.getD 0 (.Pass ⟨0,0,0,0⟩)
  |s=>s
def YJ(e:jfl):Bool:=match e.key with
 |.str ..=>true
 |_=>false
variable{N:Addr}
theorem UA{c:bp}{d:Option Addr}{es:Array jfl}{ep:Nat}(l:K.lookup N=some ⟨c,d,.dict es ep,sl⟩)(a:es.toList.all YJ=true):jfQ K N=true:=by
 unfold jfQ;rw[l];simp only;rw[<- Array.all_toList];exact a
def iniSt(x:Str)(i:FnI):Bool:=ux i&&match i.ps with
 |[a,b,p]=>decide (i.N=i.ps)&&decide (a=("self":Str))&&decide (b=("text":Str)) && !(p == ("__debug__":Str)) && !(p == ("__classdict__":Str))&&decide ((jk i.st).names.lookup ("TrueError":Str)=some .globalImplicit)&&(!(x == ("Dependent":Str)) ||decide ((jk i.st).names.lookup ("list":Str)=some .globalImplicit))&&Jc (zA x) p (x == ("Dependent":Str)) (kj i.st)
 |_=>false
theorem exc_mkO{bb:Bool}(X:K.In h)(G:h.Ns gS mg){C T:Addr}{nm qn q:Str}{bs:List bp}{sn:List Str}{sub:List bp}{ab:Bool}{col:Option Bool}{dd ddT d1 d2 dD:Option Addr}{k0 k1 k2 k3 k5:Option bp}{cdT:jfp}{slT sl1 sl2 osl slD:Array (Option bp)}{c1 c2 d0 cD kV doc cdv ct:bp}{Td:Addr}{nD:Nat}{es1 es2:Array jfl}{ep1 ep2:Nat}
 (hs:iniSt x i=true) (hf:hasF x=true)
 (b:∀(kV doc pm:bp) (an:Option Addr) (cdv ct d0 u1 u2 u3:bp) (Td:Addr),∃k,bindArgs (nQ "__init__" q (qQ i.st) (kj i.st) (jk i.st) (.ref Td) kV doc pm an cdv ct) ⟨[u1,u2,u3],[]⟩=jfm (.ref Td) >>= k/\k (some #[d0])=pure (i.ps.zip [u1,u2,u3]))
 (a:gN K gS x=some (some (.ref C))) (te:gN K gS "TrueError"=some (some (.ref T))) (ml:gN K gS "list"=some none)
 (l:K.lookup C=some (mR nm qn C N bs (.ref T::bmV) true sn sub ab col dd k0 k1 k2 k3 k5 Vm)) (lN:K.lookup N=some ⟨c1,d1,.dict es1 ep1,sl1⟩) (aN:es1.toList.all YJ=true)
 (lT:K.lookup T=some ⟨.type "type",ddT,.cls cdT,slT⟩) (lM:K.lookup cdT.ns=some ⟨c2,d2,.dict es2 ep2,sl2⟩) (aM:es2.toList.all YJ=true)
 (ii:gN K N "__init__"=some (some (.ref f))) (n1:gN K N "__getattribute__"=some none) (n2:gN K N "__getattr__"=some none) (n3:gN K N "__setattr__"=some none) (n4:gN K N (zA x)=some none)
 (m1:gN K cdT.ns (zA x)=some none) (m2:gN K cdT.ns "__setattr__"=some none) (m3:gN K cdT.ns "__init__"=some none) (m4:gN K cdT.ns "__getattribute__"=some none) (m5:gN K cdT.ns "__getattr__"=some none) (m6:gN K cdT.ns "args"=some none)
 (op:gN K cStatics "thirdparty.any"=some none) (fi:PySem.W.findIn K (.ref T) "__init__"=some (some (.builtin "ValueError.__init__"))) (fn:PySem.W.isFn K (.ref f)=true) (kp:nr K (.ref C)=true)
 (lf:K.lookup f=some ⟨oc,od,.func (nQ "__init__" q (qQ i.st) (kj i.st) (jk i.st) (.ref Td) kV doc pm an cdv ct),osl⟩) (lD:K.lookup Td=some ⟨cD,dD,.seq #[d0] nD,slD⟩) (hcd:tN K cdv q=true) (al:bb=true->AloneF K mg x C):∃Ca,mg x=some (.ref Ca)/\ClsOk K mg x Ca bb:=by
 have F:InitF K mg C T f (zA x):=by
  refine⟨⟨nm,qn,N,bs,sn,sub,ab,col,dd,k0,k1,k2,k3,k5,l,UA lN aN,ii,λy hy=>?_⟩,⟨ddT,cdT,slT,lT,UA lM aM,λy hy=>?_⟩,op,fi,we X G te,fn,kp,bl_f x⟩
  ·simp only[bz,bK,or_false]at hy
   rcases hy with rfl|rfl|rfl|rfl<;>assumption
  ·simp only[jdO,bz,bK,or_false]at hy
   rcases hy with rfl|rfl|rfl|rfl|rfl|rfl<;>assumption
 unfold iniSt at hs;rw[bh]at hs;obtain⟨hsc,hs⟩:=hs;have S:=vX hsc;split at hs
 ·next a' b' p hps =>
  simp only[bh,decide_eq_true_eq,dE,sW]at hs;obtain⟨⟨⟨⟨⟨⟨⟨hN,rfl⟩,rfl⟩,hp1⟩,hp2⟩,hg1⟩,hg2⟩,hb⟩:=hs;rw[hN,hps]at S;rw[hps]at b;refine⟨C,we X G a,?_,(λz=>by rw[hf]at z;cases z),λ_=>⟨T,f,F,λP w base=>⟨_,p,init_ok lf hcd S F ⟨hp1,hp2⟩ hg1 (λz=>?_) (jeU X G ml) hb,λs us Xs hl=>?_⟩⟩,al⟩
  ·intro h' X';obtain⟨_,_,_,_,_,_,_,_,_,_,_,_,_,_,_,hh⟩:=F.heap X';exact⟨_,_,_,_,_,_,_,_,_,_,_,_,_,_,_,_,hh.hC,hh.tl⟩
  ·rcases hg2 with q|q
   ·rw[z]at q;cases q
   ·exact q
  ·rw[di]at hl ⊢;obtain⟨u1,r,rfl⟩:=k8 (xs:=us) (by cases us<;>first|rfl|cases hl);obtain⟨u2,u3,rfl⟩:=xx (xs:=r) (by simpa using hl);obtain⟨k,e1,e2⟩:=b kV doc pm an cdv ct d0 u1 u2 u3 Td;exact BindsTo.of_defaults rfl (Xs _ _ lD) rfl e1 e2
 ·cases hs
variable{a:Addr}
theorem cn_mkT{o:nW}{i j:Int}{t t':Tok}(X:K.In h)(G:h.Ns gS mg)(z:gN K gS x=some (some (.ref a)))(l:K.lookup a=some o)(c:o.cls=.type "tuple")(e:o.data=.seq #[.int i t,.int j t'] n):∃u v,mg x=some u/\jV v u/\∀S,Is K S (.tup [.int i,.int j]) v :=
 ⟨_,.ref a,we X G z,rfl,λS=>Ur (.inr ⟨o,_,n,l,c,e,by show 2<=sizeLine;decide,(show jH [V.int i,V.int j] [.int i t,.int j t'] from .cons ⟨_,rfl⟩ (.cons ⟨_,rfl⟩ .nil))⟩) (by unfold Iss;exact⟨_,_,rfl,jK _,by unfold Iss;exact⟨_,_,rfl,jK _,by unfold Iss;rfl⟩⟩)⟩
theorem law_sp{ns:List Int}(hl:ns.length<=63)(h:SqL K H a (ns.map V.int)):spD K 1 false false vk [.ref a] H (λv _=>v=.bl true) λ_ _ _=>False:=by
 have is:∀ns:List Int,Iss K (jd H []) (ns.map D.int) (ns.map V.int):=by
  intro ns
  induction ns with
  |nil=>unfold Iss;rfl
  |cons n r ih =>
   simp only[bq];unfold Iss;exact⟨_,_,rfl,jK n,ih⟩
 refine⟨[],[.lst (ns.map .int)],rfl,(λ_ z=>nomatch z),?_,⟨ns,rfl,hl⟩,λd e v H' s i=>?_,λ_ z=>z.elim⟩
 ·unfold Iss;refine⟨_,_,rfl,qJ ?_ (is ns),?_⟩
  ·have e:jd H []=H:=by
    funext b;exact kz (by simp)
   rw[e];exact h
  ·unfold Iss;rfl
 ·have e':d=.bl true:=e;subst e';exact qj i
theorem law_walkX{l:jfA}{q:gj}{loose:List Str}{XP:(Str->Option bp)->gQ->Prop}{YP:World->gQ->Prop}{d:DefRec}{K:Params->bw}(L:List FnI)(cns:List Str)(C:Cfg)(n:Nat)(i:FnI)
 (hn:l.most=some 63) (hdf:d.params.defaults=[]) (hY:∀(w:World) (h:gQ),YP w h->(K w.params).In h) (hr:Room (n+3) jdG)
 (hi:L[n]?=some i) (hx:i.ps=[x]) (hic:i.c=vk) (hif:i.fr=false/\i.g=false) (hdn:d.name=i.x) (hc:vZ L cns=true) (hk:∀i∈L,i.Keep C) (ct:∀n i,L[n]?=some i->C.ct n=i.c/\C.fr n=i.fr/\C.f2 n=i.g) (hE:∀x,¬ C.E x)
 (F:∀(w:World) (mg:Str->Option bp) (h:gQ),(K w.params).In h->h.Ns gS mg ->
  (∀i∈L,QD (K w.params) mg i)/\(∀n x,cns[n]?=some x->∃u v,mg x=some u/\jV v u/\∀S,Is (K w.params) S (C.cn n) v)/\(∀x∈blts,mg x=none)/\∀i∈L,i.rz=true->ExcOk (K w.params) mg i.cls i.al) :
 jfS q loose XP YP l.row.toRowW d [] (λf vs=>jfJ f vs):=by
 have key:∀(w:World) (mg:Str->Option bp) (h:gQ),(K w.params).In h->h.Ns gS mg->∃f fd,FnAt (K w.params) mg i f fd/\∀base:gQ,FnOk l.prog w (K w.params) mg base (CXz l.prog w mg) (n+3) f fd [x] (spD (K w.params) 1 false false vk):=λw mg h KX G=>by
  obtain⟨F1,F2,F3,F4⟩:=F w mg h KX G;obtain⟨f,fd,A⟩:=F1 i (gn hi);refine⟨f,fd,A,λbase=>?_⟩;have:=Vh (P:=l.prog) (w:=w) (base:=base) F1 hc hk ct F2 F3 hE F4 n i f fd hi A;rw[hx,hic,hif.1,hif.2]at this;exact this
 refine L2.walk_of (n:=63) (k:=n+3) (x:=x) (CX:=λ_=>λ_ _ _ E _ _=>∃v da H,E v da H) (sp:=λw=>spD (K w.params) 1 false false vk) hn (by decide) hdf hr hY ?_ (λw H a ns hl _ hS=>law_sp hl hS) λ_ _ _ _ _ ⟨_,_,_,z⟩=>z
 intro w mg fa h KX G hmg;obtain⟨f,fd,A,ok⟩:=key w mg h KX G
 have e:fa=f:=by
  have:=A.mg;rw[<- hdn,hmg]at this;cases this;rfl
 subst e;refine⟨fd,λs u=>.of_eq ?_,λbase _ _=>?_⟩
 ·have:=A.bd [u] (by rw[hx];rfl);rw[hx]at this;exact this
 ·exact⟨(ok base).len,λA outer s H args us vs Q E r e0 b rv hsp=>jcN ((ok base).run A outer s H args us vs Q E r e0 b rv hsp) λr s' z=>by
   cases r with
   |ok fl=>cases fl<;>exact z
   |error e=>obtain⟨x,C,H1,da,z,_⟩:=z;exact⟨_,_,_,z⟩⟩
end Z
namespace Z
open PySem
def qm:Sm :=
 (.seq (.set 2 (.bi .abs [(.var 0)]))
 (.seq (.set 3 (.bi .abs [(.var 1)]))
 (.seq (.whl (.cmp .gt (.var 3) (.cst (.int 0))) (.seq (.set 4 (.bin .mod (.var 2) (.var 3)))
  (.seq (.set 2 (.var 3))
  (.seq (.set 3 (.var 4))
  .nop))))
 (.seq (.ret (.var 2))
 .nop))))
def Qq(i_common_divisor:Nat):Sm :=
 (.seq (.ite (.cmp .eq (.var 1) (.cst (.int 0))) (.seq .never
  .nop) .nop)
 (.seq (.set 2 (.call i_common_divisor [(.var 0),(.var 1)]))
 (.seq (.ite (.cmp .lt (.var 1) (.cst (.int 0))) (.seq (.set 2 (.neg (.var 2)))
  .nop) .nop)
 (.seq (.ret (.tup [(.bin .fdiv (.var 0) (.var 2)),(.bin .fdiv (.var 1) (.var 2))]))
 .nop))))
def Zr(i_ratio:Nat):Sm :=
 (.seq (.ret (.call i_ratio [(.bin .add (.bin .mul (.ix (.var 0) (.cst (.int 0))) (.ix (.var 1) (.cst (.int 1)))) (.bin .mul (.ix (.var 1) (.cst (.int 0))) (.ix (.var 0) (.cst (.int 1))))),(.bin .mul (.ix (.var 0) (.cst (.int 1))) (.ix (.var 1) (.cst (.int 1))))]))
 .nop)
def X7(i_ratio:Nat):Sm :=
 (.seq (.ret (.call i_ratio [(.bin .mul (.ix (.var 0) (.cst (.int 0))) (.ix (.var 1) (.cst (.int 1)))),(.bin .mul (.ix (.var 0) (.cst (.int 1))) (.ix (.var 1) (.cst (.int 0))))]))
 .nop)
def z4:Sm :=
 (.seq (.set 2 (.bin .mul (.ix (.var 0) (.cst (.int 0))) (.ix (.var 1) (.cst (.int 1)))))
 (.seq (.set 3 (.bin .mul (.ix (.var 1) (.cst (.int 0))) (.ix (.var 0) (.cst (.int 1)))))
 (.seq (.ite (.cmp .lt (.var 2) (.var 3)) (.seq (.ret (.neg (.cst (.int 1))))
  .nop) .nop)
 (.seq (.ret (.ife (.cmp .gt (.var 2) (.var 3)) (.cst (.int 1)) (.cst (.int 0))))
 .nop))))
def rq(r:Rat):D:=.tup [.int r.num,.int r.den]
def szr(n:Nat)(r:Rat):Prop:=bits r.num<=n/\bits (r.den:Int)<=n
variable{n m:Nat}{r:Rat}
theorem szr.mono(h:szr n r)(hm:n<=m):szr m r:=⟨bS h.1 hm,bS h.2 hm⟩
variable{u:Int}
theorem qw(t:Int)(h:u≠0):bits (dY t u).num<=bits t/\bits ((dY t u).den:Int)<=bits u:=by
 rw[jc2,pC,if_neg h];have hg:0<u.gcd t:=m9 _ h;constructor
 ·refine bS (xT (by lia)) (jX ?_);rw[mi];rw[Int.natAbs_sign_of_ne_zero h,Nat.one_mul];exact df _
 ·refine jX ?_;rw[pI];exact Nat.div_le_self u.natAbs (u.gcd t)
theorem Ju(r:Rat):r=dY r.num r.den:=(tF r).symm
theorem yM(r:Rat):(r.den:Int)≠0:=by have:=r.den_nz;lia
theorem jaI(a b:Rat):a+b=dY (a.num*b.den+b.num*a.den) (a.den*b.den):=by
 conv=>lhs;rw[Ju a,Ju b]
 rw[jd3 _ _ (yM a) (yM b)]
theorem jco(a b:Rat):a / b=dY (a.num*b.den) (a.den*b.num):=by
 conv=>lhs;rw[Ju a,Ju b]
 rw[jdf,Rat.inv_divInt,Rat.divInt_mul_divInt]
variable{a:Rat}
theorem szr_add{b:Rat}(ha:szr n a)(hb:szr m b):szr (n+m+1) (a+b):=by
 rw[jaI];have h:=qw (a.num*b.den+b.num*a.den) (u:=a.den*b.den) (mq (yM a) (yM b));have h1:=uH (a.num*b.den) (b.num*a.den);have h2:=jC a.num b.den;have h3:=jC b.num a.den;have h4:=jC a.den b.den;obtain⟨a1,a2⟩:=ha;obtain⟨b1,b2⟩:=hb;exact⟨by lia,by lia⟩
theorem jbA{b:Rat}(h:b≠0):b.num≠0:=λz=>h (Rat.num_eq_zero.mp z)
theorem szr_div{b:Rat}(hz:b≠0)(ha:szr n a)(hb:szr m b):szr (n+m) (a / b):=by
 rw[jco];have h:=qw (a.num*b.den) (u:=a.den*b.num) (mq (yM a) (jbA hz));have h2:=jC a.num b.den;have h4:=jC a.den b.num;obtain⟨a1,a2⟩:=ha;obtain⟨b1,b2⟩:=hb;exact⟨by lia,by lia⟩
theorem ZG{b:Rat}(h:rq a=rq b):a=b:=by
 simp only[rq,D.tup.injEq,bO,D.int.injEq]at h;exact Rat.ext h.1 (by lia)
variable{Q:D->Prop}
theorem JF:ixD (rq a) (.int 0) Q=Q (.int a.num):=by
 simp only[rq,ix_tup,KC,gc,exists_eq_left']
theorem zO:ixD (rq a) (.int 1) Q=Q (.int a.den):=by
 simp only[rq,ix_tup,jbK,gc,exists_eq_left']
def jD:Ctr where
 pre ds:=match ds with|[.int _,.int _]=>True|_=>False
 res ds d:=match ds with|[.int a,.int b]=>d=.int (gf a b)|_=>False
theorem uR{C:Cfg}:jB C 5 qm jD:=by
 rintro ds h;simp only[jD]at h;split at h
 case h_2=>exact h.elim
 next a b =>
 simp_all_arith! only[qm,jD,Ye]
 refine Ji (λσ=>∃(x y:Nat) (o:Option Sl),je4 x y=gf a b/\σ=[some (.sh (.int a)),some (.sh (.int b)),some (.sh (.int x)),some (.sh (.int y)),o]) (λσ=>(JT σ 3).toNat) ?_ ?_
 ·exact⟨_,_,_,rfl,rfl⟩
 ·rintro σ ⟨x,y,o,hg,rfl⟩
  simp_all_arith! only[JT]
  by_cases h0:0<(y:Int)
  ·rw[if_pos h0,jA (by lia)];have hm:x%y<y:=jfL _ (by lia);refine⟨by lia,by lia,y,x%y,some (.sh (.int ((x:Int)%y))),?_,by simp⟩;rw[jcP,<- jfv,jcP];exact hg
  ·rw[if_neg h0]
   have:y=0:=by lia
   subst this;simp only[jeI]at hg;rw[hg]
def kT:Ctr where
 pre ds:=match ds with|[.int _,.int u]=>u≠0/\bits u<=9000|_=>False
 res ds d:=match ds with|[.int t,.int u]=>d=rq (dY t u)|_=>False
theorem k_ratio{C:Cfg}{i:Nat}(h1:C.ct i=jD):jB C 3 (Qq i) kT:=by
 rintro ds h;simp only[kT]at h;split at h
 case h_2=>exact h.elim
 next t u =>
 obtain⟨hu,hb⟩:=h;have hg:0<gf t u:=mY _ hu
 have hgb:bits (gf t u:Int)<=9000:=by
  refine bS (jX ?_) hb;have:=wA (by lia) (n6 t u);lia
 have dt:((gf t u:Nat):Int) ∣ t:=Int.gcd_dvd_left ..;have du:((gf t u:Nat):Int) ∣ u:=Int.gcd_dvd_right ..;have en:=jc2 t u;have ed:=pC t u;rw[if_neg hu]at ed;rw[jfd]at en ed
 simp_all_arith! only[Qq,kT,h1,jD]
 rw[if_neg hu];generalize gf t u=g at *;obtain⟨t',rfl⟩:=dt;obtain⟨u',rfl⟩:=du
 have g0:(g:Int)≠0:=by lia
 by_cases hs:(g:Int)*u'<0
 ·rw[if_pos hs];refine⟨⟨by lia,by rw[xg];exact hgb⟩,⟨by lia,by rw[xg];exact hgb⟩,?_⟩
  have hu':u'<0:=by
   rcases jcT u' 0 with z|z
   ·exact z
   ·have:=Int.mul_nonneg (show (0:Int)<=g by lia) z;lia
  have e1:((g:Int)*t').fdiv (-g)=-t':=by
   rw[show (g:Int)*t'=-t' * -g by rw[Int.neg_mul_neg,mK]];exact m7 _ (by lia)
  have e2:((g:Int)*u').fdiv (-g)=-u':=by
   rw[show (g:Int)*u'=-u' * -g by rw[Int.neg_mul_neg,mK]];exact m7 _ (by lia)
  rw[e1,e2];unfold rq;rw[en,ed,Int.sign_eq_neg_one_of_neg hs]
  have e3:-1*((g:Int)*t') / g=-t':=by
   rw[show -1*((g:Int)*t')=g * -t' by grind,sP _ g0]
  have e4:((g:Int)*u').natAbs / g=u'.natAbs:=by
   rw[mi,pI,jdz _ hg]
  rw[e3,e4]
  have:((u'.natAbs:Nat):Int)=-u':=by lia
  rw[this]
 ·rw[if_neg hs];refine⟨⟨by lia,hgb⟩,⟨by lia,hgb⟩,?_⟩
  have hu':0<u':=by
   have:u'≠0:=λz=>by subst z;simp at hu
   rcases jcT u' 0 with z|z
   ·have:=jc9 (show (0:Int)<g by lia) z;lia
   ·lia
  have hp:0<(g:Int)*u':=nU (by lia) hu'
  have e1:((g:Int)*t').fdiv g=t':=by
   rw[mK];exact m7 _ (by lia)
  have e2:((g:Int)*u').fdiv g=u':=by
   rw[mK];exact m7 _ (by lia)
  rw[e1,e2];unfold rq;rw[en,ed,tY hp,tK,sP _ g0]
  have e4:((g:Int)*u').natAbs / g=u'.natAbs:=by
   rw[mi,pI,jdz _ hg]
  rw[e4]
  have:((u'.natAbs:Nat):Int)=u':=by lia
  rw[this]
def jca(op:Rat->Rat->Rat)(ok:Rat->Rat->Prop):Ctr where
 pre ds:=∃a b,ds=[rq a,rq b]/\(szr 4400 a/\szr 4400 b)/\ok a b
 res ds d:=∀a b,ds=[rq a,rq b]->d=rq (op a b)
variable{c:Rat}
theorem rq2{b d:Rat}(h:[rq a,rq b]=[rq c,rq d]):a=c/\b=d:=by
 simp only[bO,and_true]at h;exact⟨ZG h.1,ZG h.2⟩
variable{E:XD->Prop}
theorem jaE{op:Rat->Rat->Rat}{ok:Rat->Rat->Prop}{b:Rat}:(jca op ok).wp [rq a,rq b] Q E ↔ ((szr 4400 a/\szr 4400 b)/\ok a b)/\Q (rq (op a b)):=by
 constructor
 ·rintro⟨⟨c,d,e,h1,h2⟩,hq,_⟩;obtain⟨rfl,rfl⟩:=rq2 e;exact⟨⟨h1,h2⟩,hq _ λc d e=>by obtain⟨rfl,rfl⟩:=rq2 e;rfl⟩
 ·rintro⟨⟨h1,h2⟩,hq⟩;exact⟨⟨a,b,rfl,h1,h2⟩,λd h=>by rw[h a b rfl];exact hq,λ_ z=>z.elim⟩
def vQ:Ctr:=jca (· + ·) λ_ _=>True
def JH:Ctr:=jca (· / ·) λ_ b=>b≠0
theorem wp_plus{b:Rat}:vQ.wp [rq a,rq b] Q E ↔ (szr 4400 a/\szr 4400 b)/\Q (rq (a+b)):=by unfold vQ;rw[jaE,and_true]
theorem wp_over{b:Rat}:JH.wp [rq a,rq b] Q E ↔ ((szr 4400 a/\szr 4400 b)/\b≠0)/\Q (rq (a / b)):=by unfold JH;rw[jaE]
section
variable {C:Cfg} {i:Nat} (h1:C.ct i=kT)
include h1
theorem den_szr{b:Rat}(ha:szr 4400 a)(hb:szr 4400 b):bits ((a.den:Int)*b.den)<=9000:=by
 have:=jC a.den b.den;have:=ha.2;have:=hb.2;lia
theorem k_plus:jB C 2 (Zr i) vQ:=by
 rintro ds ⟨a,b,rfl,⟨ha,hb⟩,_⟩
 simp_all_arith! only[Zr,h1,kT,JF,zO]
 refine⟨ji ?_,ji ?_,ji ?_,⟨mq (yM a) (yM b),den_szr h1 ha hb⟩,λc d e=>?_⟩
 ·have:=ha.1;have:=hb.2;lia
 ·have:=hb.1;have:=ha.2;lia
 ·have:=hb.2;have:=ha.2;lia
 ·obtain⟨rfl,rfl⟩:=rq2 e;rw[<- jaI]
theorem k_over:jB C 2 (X7 i) JH:=by
 rintro ds ⟨a,b,rfl,⟨ha,hb⟩,hz⟩
 simp_all_arith! only[X7,h1,kT,JF,zO]
 refine⟨ji ?_,ji ?_,⟨mq (yM a) (jbA hz),?_⟩,λc d e=>?_⟩
 ·have:=ha.1;have:=hb.2;lia
 ·have:=hb.1;have:=ha.2;lia
 ·have:=jC a.den b.num;have:=ha.2;have:=hb.1;lia
 ·obtain⟨rfl,rfl⟩:=rq2 e;rw[<- jco]
end
def JS(a b:Rat):Int:=if a<b then -1 else if b<a then 1 else 0
def xi:Ctr where
 pre ds:=∃a b,ds=[rq a,rq b]/\szr 60000 a/\szr 60000 b
 res ds d:=∀a b,ds=[rq a,rq b]->d=.int (JS a b)
theorem Xx{b:Rat}:xi.wp [rq a,rq b] Q E ↔ (szr 60000 a/\szr 60000 b)/\Q (.int (JS a b)):=by
 constructor
 ·rintro⟨⟨c,d,e,h1⟩,hq,_⟩;obtain⟨rfl,rfl⟩:=rq2 e;exact⟨h1,hq _ λc d e=>by obtain⟨rfl,rfl⟩:=rq2 e;rfl⟩
 ·rintro⟨h1,hq⟩;exact⟨⟨a,b,rfl,h1⟩,λd h=>by rw[h a b rfl];exact hq,λ_ z=>z.elim⟩
theorem Y2{C:Cfg}:jB C 4 z4 xi:=by
 rintro ds ⟨a,b,rfl,ha,hb⟩
 simp_all_arith! only[z4,JF,zO]
 refine⟨ji ?_,ji ?_,?_⟩
 ·have:=ha.1;have:=hb.2;lia
 ·have:=hb.1;have:=ha.2;lia
 have fin:∀z,z=JS a b->xi.res [rq a,rq b] (.int z):=λz hz c d e=>by
  obtain⟨rfl,rfl⟩:=rq2 e;rw[hz]
 have l1:=jfR a b;have l2:=jfR b a;by_cases c1:a.num*b.den<b.num*a.den
 ·rw[if_pos c1];exact fin _ (by unfold JS;rw[if_pos (l1.mpr c1)])
 ·rw[if_neg c1];by_cases c2:b.num*a.den<a.num*b.den
  ·rw[if_pos c2];exact fin _ (by unfold JS;rw[if_neg (λz=>c1 (l1.mp z)),if_pos (l2.mpr c2)])
  ·rw[if_neg c2];exact fin _ (by unfold JS;rw[if_neg (λz=>c1 (l1.mp z)),if_neg (λz=>c2 (l2.mp z))])
def v2(n:Nat):Nat:=if h:n=0 then 0 else if n%2=1 then 0 else v2 (n / 2)+1
 termination_by n
 decreasing_by lia
theorem jaa(h:n%2=1):v2 n=0:=by
 unfold v2
 have:n≠0:=by lia
 simp[this,h]
theorem v2_even(h0:n≠0)(h:n%2=0):v2 n=v2 (n / 2)+1:=by
 rw[v2]
 have:¬ n%2=1:=by lia
 simp[h0,this]
theorem Zo{m:Nat}(h:m%2=1):∀v:Nat,v2 (2^v*m)=v
 |0=>by simpa using jaa h
 |v+1=>by
  have e:2^(v+1)*m=2*(2^v*m):=by rw[mJ];grind
  have hp:0<2^v*m:=jfu (gO v) (by lia);rw[e,v2_even (by lia) (by lia)]
  have:2*(2^v*m) / 2=2^v*m:=by lia
  rw[this,Zo h v]
def jS(w p:Int):Int×Int:=if w=0 then (0,0) else (w / 2^v2 w.natAbs,p+v2 w.natAbs)
theorem yl(p:Int):jS 0 p=(0,0):=by simp[jS]
variable{m:Int}
theorem kg(h:m%2=1)(v:Nat)(p:Int):jS (m*2^v) p=(m,p+v):=by
 have hm:m≠0:=by lia
 have hp:=two_pow_pos v;have h0:m*2^v≠0:=mq hm (by lia)
 have e:(m*2^v).natAbs=2^v*m.natAbs:=by rw[mi,pj,Nat.mul_comm];rfl
 unfold jS;rw[if_neg h0,e,Zo (by lia),jet _ (by lia)]
variable{w:Int}
theorem zu(h:w≠0):∃(m:Int) (v:Nat),w=m*2^v/\m%2=1:=by
 obtain⟨v,m,e,ho,_⟩:=KU h;exact⟨m,v,e,ho⟩
variable{p w' p':Int}
theorem Bare.eq(b:Bare w p w' p'):(w',p')=jS w p:=by
 by_cases h:w=0
 ·obtain⟨rfl,rfl⟩:=b.nought h;subst h;exact(yl p).symm
 ·obtain⟨v,e,ep,ho⟩:=b.same h;rw[e,kg ho,ep]
theorem qo(w p:Int):Bare w p (jS w p).1 (jS w p).2:=by
 by_cases h:w=0
 ·subst h;exact⟨λ_=>by simp[jS],λz=>absurd rfl z⟩
 ·obtain⟨m,v,rfl,ho⟩:=zu h;rw[kg ho];exact⟨λz=>absurd z h,λ_=>⟨v,rfl,rfl,ho⟩⟩
theorem VM(w p:Int):jS (w*2) p=jS w (p+1):=by
 by_cases h:w=0
 ·subst h;simp[jS]
 ·obtain⟨m,v,rfl,ho⟩:=zu h
  have e:m*2^v*2=m*2^(v+1):=by rw[nR,Int.mul_assoc]
  rw[e,kg ho,kg ho];congr 1;lia
theorem U9(w p:Int):jS (-w) p=(-(jS w p).1,(jS w p).2):=by
 by_cases h:w=0
 ·subst h;simp[jS]
 ·obtain⟨m,v,rfl,ho⟩:=zu h
  have e:-(m*2^v)=-m*2^v:=by rw[Int.neg_mul]
  rw[e,kg ho,kg (by lia)]
def nq(x:Int×Int):D:=.tup [.int x.1,.int x.2]
def Sc(t p:Int):Int:=t*2^(-p).toNat
def Vc(u p:Int):Int:=u*2^p.toNat
theorem Qz(h:0<u):0<Vc u p:=nU h (two_pow_pos _)
theorem sc_step(t u p:Int):(Sc t (p+1)=Sc t p/\Vc u (p+1)=2*Vc u p)\/(Sc t p=2*Sc t (p+1)/\Vc u (p+1)=Vc u p):=by
 unfold Sc Vc;by_cases h:0<=p
 ·left
  have e1:(-(p+1)).toNat=(-p).toNat:=by lia
  have e2:(p+1).toNat=p.toNat+1:=by lia
  rw[e1,e2,nR];exact⟨rfl,by grind⟩
 ·right
  have e1:(-p).toNat=(-(p+1)).toNat+1:=by lia
  have e2:(p+1).toNat=p.toNat:=by lia
  rw[e1,e2,nR];exact⟨by grind,rfl⟩
structure Cut (n:Nat) (t u w p:Int):Prop where
 lo:2^(n-1)<=w
 hi:w<2^n
 le:w*Vc u p<=Sc t p
 lt:Sc t p<(w+1)*Vc u p
def kE(n:Nat)(t u:Int):Int:=let p:=(bits t:Int)-bits u-n;if 2^n<=Sc t p / Vc u p then p+1 else p
def Xn(n:Nat)(t u:Int):Int:=Sc t (kE n t u) / Vc u (kE n t u)
variable{t:Int}
theorem yT(h:0<t):(2:Int)^(bits t-1)<=t/\t<2^bits t:=by
 have h1:=zo t;have h2:=QV (show t≠0 by lia)
 have c1:((2^bits t:Nat):Int)=2^bits t:=by simp
 have c2:((2^(bits t-1):Nat):Int)=2^(bits t-1):=by simp
 lia
theorem guess(hn:1<=n)(ht:0<t)(hu:0<u)(p:Int)(hp:p=(bits t:Int)-bits u-n):2^(n-1)*Vc u p<=Sc t p/\Sc t p<2^(n+1)*Vc u p:=by
 obtain⟨t1,t2⟩:=yT ht;obtain⟨u1,u2⟩:=yT hu;have bt:=JR (show t≠0 by lia);have bu:=JR (show u≠0 by lia);generalize ha:bits t=a at *;generalize hb:bits u=b at *;unfold Sc Vc;have k1:(0:Int)<=2^(-p).toNat:=sj (two_pow_pos _);have k2:(0:Int)<=2^p.toNat:=sj (two_pow_pos _);have kn:(0:Int)<=2^(n-1):=sj (two_pow_pos _);have kn1:(0:Int)<=2^(n+1):=sj (two_pow_pos _);constructor
 ·have s1:2^(n-1)*(u*2^p.toNat)<=2^(n-1)*(2^b*2^p.toNat):=wK (gP (by lia) k2) kn;have s2:(2:Int)^(a-1)*2^(-p).toNat<=t*2^(-p).toNat:=gP t1 k1
  have s3:(2:Int)^(n-1)*(2^b*2^p.toNat)=2^(a-1)*2^(-p).toNat:=by
   rw[<- nc,<- nc,<- nc];congr 1;lia
  lia
 ·have s1:2^(n+1)*(2^(b-1)*2^p.toNat)<=2^(n+1)*(u*2^p.toNat):=wK (gP (by lia) k2) kn1;have s2:t*2^(-p).toNat<2^a*2^(-p).toNat:=jcU t2 (two_pow_pos _)
  have s3:(2:Int)^(n+1)*(2^(b-1)*2^p.toNat)=2^a*2^(-p).toNat:=by
   rw[<- nc,<- nc,<- nc];congr 1;lia
  lia
theorem JP(s:Int){v:Int}(hv:0<v):s / v*v<=s/\s<(s / v+1)*v:=⟨jdV s (by lia),Int.lt_ediv_add_one_mul_self s hv⟩
theorem jbG(hn:1<=n)(ht:0<t)(hu:0<u):Cut n t u (Xn n t u) (kE n t u):=by
 have g:=guess hn ht hu _ rfl
 have e2:(2:Int)^n=2*2^(n-1):=by
  conv=>lhs;rw[show n=(n-1)+1 by lia,nR]
  lia
 have e3:(2:Int)^(n+1)=2*2^n:=by rw[nR];lia
 have kn:=two_pow_pos n;unfold Xn kE;simp only[];generalize hp:(bits t:Int)-bits u-n=p at *;have hv:=Qz (p:=p) hu;by_cases c:2^n<=Sc t p / Vc u p
 ·rw[if_pos c];have hv1:=Qz (p:=p+1) hu;have f:=JP (Sc t (p+1)) hv1;have c':=Int.mul_le_of_le_ediv hv c;rcases sc_step t u p with⟨s1,s2⟩|⟨s1,s2⟩
  ·refine⟨?_,?_,f.1,f.2⟩
   ·refine t5 hv1 ?_;rw[s1,s2]
    have:(2:Int)^(n-1)*(2*Vc u p)=2^n*Vc u p:=by rw[e2];grind
    lia
   ·refine jd4 hv1 ?_;rw[s1,s2]
    have:(2:Int)^n*(2*Vc u p)=2^(n+1)*Vc u p:=by rw[e3];grind
    lia
  ·refine⟨?_,?_,f.1,f.2⟩
   ·refine t5 hv1 ?_;rw[s2]
    have:(2:Int)^n*Vc u p=2*(2^(n-1)*Vc u p):=by rw[e2];grind
    lia
   ·refine jd4 hv1 ?_;rw[s2]
    have:(2:Int)^(n+1)*Vc u p=2*(2^n*Vc u p):=by rw[e3];grind
    lia
 ·rw[if_neg c];have f:=JP (Sc t p) hv;exact⟨t5 hv g.1,by lia,f.1,f.2⟩
def zL:Sm :=
 (.seq (.whl (.cmp .eq (.bin .mod (.var 0) (.cst (.int 2))) (.cst (.int 0))) (.seq (.set 0 (.bin .fdiv (.var 0) (.cst (.int 2))))
  (.seq (.set 1 (.bin .add (.var 1) (.cst (.int 1))))
  .nop)))
 (.seq (.ret (.tup [(.var 0),(.var 1)]))
 .nop))
def qk:Ctr where
 pre ds:=match ds with|[.int w,.int _]=>w≠0|_=>False
 res ds d:=match ds with|[.int w,.int p]=>d=nq (jS w p)|_=>False
theorem Yt{C:Cfg}:jB C 2 zL qk:=by
 rintro ds h;simp only[qk]at h;split at h
 case h_2=>exact h.elim
 next w p =>
 simp_arith! only[zL,qk]
 refine jP (λσ=>σ=[some (.sh (.int (jS w p).1)),some (.sh (.int (jS w p).2))]) ?_ ?_
 ·refine Ji (λσ=>∃w' p':Int,w'≠0/\jS w' p'=jS w p/\σ=[some (.sh (.int w')),some (.sh (.int p'))]) (λσ=>(JT σ 0).natAbs) ⟨w,p,h,rfl,rfl⟩ ?_;rintro σ ⟨w',p',h0,e,rfl⟩
  simp_all_arith! only[JT]
  rw[jA (by decide),j4 (by decide)];by_cases c:w'%2=0
  ·rw[if_pos c];refine⟨by decide,by lia,w' / 2,p'+1,by lia,?_,rfl⟩;rw[<- e,<- VM];congr 1;lia
  ·rw[if_neg c]
   have:jS w' p'=(w',p'):=by simpa using kg (m:=w') (by lia) 0 p'
   rw[<- e,this]
 ·rintro σ rfl
  simp_all_arith! only[]
  rfl
def cls(r v:Int):Int:=if r=0 then 0 else if 2*r=v then 2 else if 2*r<v then 1 else 3
def cutR(n:Nat)(t u:Int):Int:=Sc t (kE n t u)-Xn n t u*Vc u (kE n t u)
def XE(n:Nat)(t u:Int):Int:=if 2*cutR n t u > Vc u (kE n t u)\/(2*cutR n t u=Vc u (kE n t u)/\Xn n t u%2=1) then Xn n t u+1 else Xn n t u
def JZ(n:Nat)(t u:Int):Int×Int:=if t=0 then (0,0) else if t<0 then jS (-XE n (-t) u) (kE n (-t) u) else jS (XE n t u) (kE n t u)
def xN(x:Int×Int):Int×Int:=(-x.1,x.2)
abbrev tw(p:Int):Rat:=(2:Rat)^p
theorem jaL:(2:Rat)≠0:=by decide
theorem uL(p:Int):tw (p+1)=2*tw p:=by rw[tw,Rat.zpow_add_one jaL,nV]
theorem yo:tw 0=1:=by decide
theorem Yj(n:Nat):tw n=((2^n:Int):Rat):=by
 induction n with
 |zero=>decide
 |succ n ih=>rw[show ((n+1:Nat):Int)=(n:Int)+1 by lia,uL,ih,nR];grind
theorem j9(p:Int)(k:Nat):tw (p+k)=tw p*((2^k:Int):Rat):=by
 induction k with
 |zero=>simp
 |succ k ih=>rw[show p+((k+1:Nat):Int)=p+k+1 by lia,uL,ih,nR];grind
theorem uP(a b:Rat):a<b\/b<=a:=by grind
theorem kf(p:Int):0<tw p:=by
 have pos:∀n:Nat,0<tw n:=λn=>by rw[Yj];have:=two_pow_pos n;exact_mod_cast this
 rcases jdP 0 p with h|h
 ·obtain⟨n,rfl⟩:∃n:Nat,p=n:=⟨p.toNat,by lia⟩
  exact pos n
 ·obtain⟨n,rfl⟩:∃n:Nat,p=-(n:Int):=⟨(-p).toNat,by lia⟩
  have e:=j9 (-(n:Int)) n;rw[show -(n:Int)+n=0 by lia,yo]at e
  have h2:(0:Rat)<((2^n:Int):Rat):=by have:=two_pow_pos n;exact_mod_cast this
  generalize ha:tw (-(n:Int))=a at *;generalize hb:((2^n:Int):Rat)=b at *;rcases uP 0 a with z|z
  ·exact z
  ·have:=jc3 (a:=-a) (b:=b) (by grind) (by grind)
   grind
theorem qL{b:Rat}(h:a<=b)(hc:0<c):a*c<=b*c:=by
 have:=jc3 (a:=b-a) (b:=c) (by grind) (by grind)
 grind
theorem jcp{b:Rat}(h:a<b)(hc:0<c):a*c<b*c:=by
 have:=jei (a:=b-a) (b:=c) (by grind) (by grind)
 grind
theorem Jv{b:Rat}(hc:0<c):a*c<=b*c ↔ a<=b :=
 ⟨λh=>by
  rcases uP b a with y|y
  ·have:=jcp y hc;grind
  ·exact y,λh=>qL h hc⟩
theorem zc{b:Rat}(hc:0<c):a*c<b*c ↔ a<b :=
 ⟨λh=>by
  rcases uP a b with z|z
  ·exact z
  ·have:=qL z hc;grind,λh=>jcp h hc⟩
theorem JG{b:Rat}(hc:0<c):a*c=b*c ↔ a=b :=
 ⟨λh=>by
  have h1:=(Jv (a:=a) (b:=b) hc).mp (by grind);have h2:=(Jv (a:=b) (b:=a) hc).mp (by grind)
  grind,λh=>by rw[h]⟩
def vr(x:Int×Int):Rat:=(x.1:Rat)*tw x.2
theorem vr_mul(m:Int)(v:Nat)(p:Int):vr (m*2^v,p)=vr (m,p+v):=by
 unfold vr;simp only[];rw[j9,bZ];grind
theorem xB(w p:Int):vr (jS w p)=w*tw p:=by
 by_cases h:w=0
 ·subst h;simp[jS,vr]
 ·obtain⟨m,v,rfl,ho⟩:=zu h;rw[kg ho,<- vr_mul];rfl
theorem u4(x:Int×Int):vr (xN x)=-vr x:=by
 unfold vr xN;simp only[pP];grind
structure CutR (n:Nat) (r:Rat) (w p:Int):Prop where
 lo:2^(n-1)<=w
 hi:w<2^n
 le:w*tw p<=r
 lt:r<(w+1)*tw p
theorem Jt(p:Int):((2^(-p).toNat:Int):Rat)*tw p=((2^p.toNat:Int):Rat):=by
 rcases jdP 0 p with h|h
 ·obtain⟨n,rfl⟩:∃n:Nat,p=n:=⟨p.toNat,by lia⟩
  rw[Yj,show (-(n:Int)).toNat=0 by lia,bV];simp
 ·obtain⟨n,rfl⟩:∃n:Nat,p=-(n:Int):=⟨(-p).toNat,by lia⟩
  have e:=j9 (-(n:Int)) n;rw[show -(n:Int)+n=0 by lia,yo]at e;rw[show (- -(n:Int)).toNat=n by lia,show (-(n:Int)).toNat=0 by lia,nV,<- e];simp
theorem uf(hu:0<u):dY t u*u=t:=by
 have hu':(u:Rat)≠0:=by
  intro z
  have:u=0:=by exact_mod_cast z
  lia
 rw[mW,jeV hu']
theorem jab(hu:0<u)(p:Int):(Sc t p:Rat)*tw p=dY t u*(Vc u p:Int):=by
 have e:=uf (t:=t) hu;unfold Sc Vc;rw[bZ,bZ,n8,Jt,<- n8,e]
theorem cut_rat(hu:0<u):Cut n t u w p ↔ CutR n (dY t u) w p:=by
 have hV:(0:Rat)<(Vc u p:Int):=by have:=Qz (p:=p) hu;exact_mod_cast this
 have ht:=kf p;have e:=jab (t:=t) hu p
 have a1:w*Vc u p<=Sc t p ↔ w*tw p<=dY t u:=by
  rw[<- Jv hV,<- e,<- jdQ,<- Jv ht,bZ]
  grind
 have a2:Sc t p<(w+1)*Vc u p ↔ dY t u<(w+1)*tw p:=by
  rw[<- zc hV,<- e,<- pK,<- zc ht,bZ,pQ]
  grind
 exact⟨λc=>⟨c.lo,c.hi,a1.mp c.le,a2.mp c.lt⟩,λc=>⟨c.lo,c.hi,a1.mpr c.le,a2.mpr c.lt⟩⟩
theorem Xh{q:Int}(h:p<=q):tw p<=tw q:=by
 obtain⟨k,rfl⟩:∃k:Nat,q=p+k:=⟨(q-p).toNat,by lia⟩
 have hp:=kf p
 have h1:(1:Rat)<=((2^k:Int):Rat):=by have:=two_pow_pos k;exact_mod_cast (show (1:Int)<=2^k by lia)
 have:=qL h1 hp;rw[j9];grind
variable{a:Int}
theorem yP{b:Int}(h:a<=b):(a:Rat)<=b:=by exact_mod_cast h
theorem pow_n(hn:1<=n):(2:Int)^n=2*2^(n-1):=by
 conv=>lhs;rw[show n=(n-1)+1 by lia,nR]
 lia
theorem CutR.mono{s:Rat}(hn:1<=n)(c:CutR n r w p)(c':CutR n s w' p')(h:r<=s):p<p'\/(p=p'/\w<=w'):=by
 rcases tZ p p' with z|z|z
 ·exact .inl z
 ·subst z;refine .inr ⟨rfl,?_⟩;have hp:=kf p;have h1:=c.le;have h2:=c'.lt
  have:(w:Rat)*tw p<(w'+1)*tw p:=by grind
  rw[zc hp]at this
  have:w<w'+1:=by exact_mod_cast this
  lia
 ·exfalso;have h1:=c.le;have h2:=c'.lt;have hp:=kf p;have hp':=kf p';have l1:=qL (yP c.lo) hp;have l2:=qL (yP (show w'+1<=2^n by have:=c'.hi;lia)) hp';have l3:tw (p'+1)<=tw p:=Xh (by lia);rw[uL]at l3
  have e:((2^n:Int):Rat)=2*((2^(n-1):Int):Rat):=by rw[pow_n hn];grind
  have hq:(0:Rat)<((2^(n-1):Int):Rat):=by have:=two_pow_pos (n-1);exact_mod_cast this
  have l4:=qL l3 hq
  have l5:((w'+1:Int):Rat)=(w':Rat)+1:=by grind
  rw[e,l5]at l2;generalize ((2^(n-1):Int):Rat)=m at *;generalize tw p=a at *;generalize tw p'=b at *
  grind
theorem CutR.unique(hn:1<=n)(c:CutR n r w p)(c':CutR n r w' p'):w=w'/\p=p':=by
 have h1:=c.mono hn c' jfy;have h2:=c'.mono hn c jfy;lia
structure NearR (n:Nat) (r:Rat) (W p:Int):Prop where
 ex:∃w,CutR n r w p/\((W=w/\(2*(r-w*tw p)<tw p\/(2*(r-w*tw p)=tw p/\w%2=0)))\/(W=w+1/\(tw p<2*(r-w*tw p)\/(2*(r-w*tw p)=tw p/\w%2=1))))
theorem NearR.unique(hn:1<=n)(c:NearR n r w p)(c':NearR n r w' p'):w=w'/\p=p':=by
 obtain⟨v,c,h⟩:=c.ex;obtain⟨v',c',h'⟩:=c'.ex;obtain⟨rfl,rfl⟩:=c.unique hn c';refine⟨?_,rfl⟩
 rcases h with⟨e,h⟩|⟨e,h⟩<;>rcases h' with⟨e',h'⟩|⟨e',h'⟩<;>grind
variable{W:Int}
theorem NearR.bound(c:NearR n r W p):2^(n-1)<=W/\W<=2^n:=by
 obtain⟨v,c,h⟩:=c.ex;have:=c.lo;have:=c.hi
 rcases h with⟨e,h⟩|⟨e,h⟩<;>lia
theorem NearR.mono{s:Rat}{W':Int}(hn:1<=n)(c:NearR n r W p)(c':NearR n s W' p')(h:r<=s):W*tw p<=W'*tw p':=by
 have b:=c.bound;have b':=c'.bound;obtain⟨v,c,k⟩:=c.ex;obtain⟨v',c',k'⟩:=c'.ex;have hp:=kf p;have hp':=kf p';rcases c.mono hn c' h with z|⟨rfl,z⟩
 ·have l1:=qL (yP b.2) hp;have l2:=qL (yP b'.1) hp';have l3:tw (p+1)<=tw p':=Xh (by lia);rw[uL]at l3
  have e:((2^n:Int):Rat)=2*((2^(n-1):Int):Rat):=by rw[pow_n hn];grind
  have hq:(0:Rat)<((2^(n-1):Int):Rat):=by have:=two_pow_pos (n-1);exact_mod_cast this
  have l4:=qL l3 hq;rw[e]at l1;generalize ((2^(n-1):Int):Rat)=m at *;generalize tw p=a at *;generalize tw p'=b at *
  grind
 ·refine qL (yP ?_) hp;rcases jeW z with z|z
  ·rcases k with⟨e,k⟩|⟨e,k⟩<;>rcases k' with⟨e',k'⟩|⟨e',k'⟩<;>lia
  ·subst z
   rcases k with⟨e,k⟩|⟨e,k⟩<;>rcases k' with⟨e',k'⟩|⟨e',k'⟩
   ·lia
   ·lia
   ·exfalso;grind
   ·lia
theorem jcr(hn:1<=n)(ht:0<t)(hu:0<u):NearR n (dY t u) (XE n t u) (kE n t u):=by
 have c:=jbG hn ht hu;refine⟨Xn n t u,(cut_rat hu).mp c,?_⟩;have e:=jab (t:=t) hu (kE n t u)
 have hV:(0:Rat)<(Vc u (kE n t u):Int):=by have:=Qz (p:=kE n t u) hu;exact_mod_cast this
 have hp:=kf (kE n t u);unfold XE;generalize hw:Xn n t u=w at *;generalize hq:kE n t u=p at *
 have er:cutR n t u=Sc t p-w*Vc u p:=by unfold cutR;rw[hw,hq]
 rw[er]
 have k:(((2*(Sc t p-w*Vc u p):Int):Rat))*tw p=2*(dY t u-w*tw p)*(Vc u p:Int):=by
  have:((2*(Sc t p-w*Vc u p):Int):Rat)=2*((Sc t p:Rat)-w*(Vc u p:Int)):=by grind
  rw[this];grind
 have a1:2*(Sc t p-w*Vc u p) > Vc u p ↔ tw p<2*(dY t u-w*tw p):=by
  rw[<- zc hV,<- k,gt_iff_lt,<- pK,<- zc hp,nV (tw p)]
 have a2:2*(Sc t p-w*Vc u p)=Vc u p ↔ 2*(dY t u-w*tw p)=tw p:=by
  rw[<- JG hV,<- k,<- mr,<- JG hp,nV (tw p)]
 have a3:2*(Sc t p-w*Vc u p)<Vc u p ↔ 2*(dY t u-w*tw p)<tw p:=by
  rw[<- zc hV,<- k,<- pK,<- zc hp,nV (tw p)]
 rw[<- a1,<- a2,<- a3]
 split<;>lia
def j7(n:Nat)(r:Rat):Int×Int:=JZ n r.num r.den
theorem Qo(r:Rat):(0:Int)<r.den:=by have:=r.den_nz;lia
theorem num_pos:0<r.num ↔ 0<r:=by rw[jfR];simp
theorem JL(w p:Int):jS (-w) p=xN (jS w p):=by rw[U9];rfl
theorem Kk(x:Int×Int):xN (xN x)=x:=by unfold xN;simp
theorem VG(n:Nat)(t u:Int):JZ n (-t) u=xN (JZ n t u):=by
 unfold JZ;rcases tZ t 0 with h|h|h
 ·rw[if_neg (by lia),if_neg (by lia),if_neg (by lia),if_pos h,JL,Kk]
 ·subst h;simp[xN]
 ·rw[if_neg (by lia),if_pos (by lia),if_neg (by lia),if_neg (by lia),Int.neg_neg,JL]
theorem qY(n:Nat)(r:Rat):j7 n (-r)=xN (j7 n r):=by
 unfold j7;rw[Rat.neg_num,Rat.neg_den,VG]
theorem xy(n:Nat):j7 n 0=(0,0):=by unfold j7 JZ;simp
theorem qX(hn:1<=n)(h:0<r):∃W p,NearR n r W p/\j7 n r=jS W p:=by
 have h1:0<r.num:=num_pos.mpr h;refine⟨XE n r.num r.den,kE n r.num r.den,?_,?_⟩
 ·have:=jcr hn h1 (Qo r);rw[<- Ju]at this;exact this
 ·unfold j7 JZ;rw[if_neg (by lia),if_neg (by lia)]
theorem jcj(hn:1<=n)(h:0<r)(k:NearR n r W p):j7 n r=jS W p:=by
 obtain⟨W',p',k',e⟩:=qX hn h;obtain⟨rfl,rfl⟩:=k.unique hn k';exact e
theorem y6{s:Rat}(hn:1<=n)(h0:0<r)(h:r<=s):vr (j7 n r)<=vr (j7 n s):=by
 obtain⟨W,p,k,e⟩:=qX hn h0;obtain⟨W',p',k',e'⟩:=qX (r:=s) hn (by grind);rw[e,e',xB,xB];exact k.mono hn k' h
theorem vp(hn:1<=n)(h:0<r):0<vr (j7 n r):=by
 obtain⟨W,p,k,e⟩:=qX hn h;have b:=k.bound;have:=two_pow_pos (n-1);rw[e,xB];exact jei (by exact_mod_cast (show 0<W by lia)) (kf p)
theorem YZ{s:Rat}(hn:1<=n)(h:r<=s):vr (j7 n r)<=vr (j7 n s):=by
 rcases uP 0 r with z|z
 ·exact y6 hn z h
 ·rcases uP s 0 with y|y
  ·have:=y6 (n:=n) (r:=-s) (s:=-r) hn (by grind) (by grind);rw[qY,qY,u4,u4]at this
   grind
  ·have h1:vr (j7 n r)<=0:=by
    by_cases e:r=0
    ·subst e;rw[xy];simp[vr]
    ·have:=vp (n:=n) (r:=-r) hn (by grind);rw[qY,u4]at this
     grind
   have h2:0<=vr (j7 n s):=by
    by_cases e:s=0
    ·subst e;rw[xy];simp[vr]
    ·have:=vp (n:=n) (r:=s) hn (by grind)
     grind
   grind
variable{x:Int×Int}
theorem vg(hn:1<=n)(h:Num n x.1 x.2):j7 n (vr x)=x:=by
 have pos:∀m p:Int,0<m->m%2=1->m.natAbs<2^n->j7 n (vr (m,p))=(m,p):=by
  intro m p hm ho hs;obtain⟨m1,m2⟩:=yT hm;have bm:=JR (show m≠0 by lia);have bn:bits m<=n:=jh.mpr hs
  obtain⟨k,hk⟩:∃k:Nat,bits m+k=n:=⟨n-bits m,by lia⟩
  have hkp:=two_pow_pos k
  have e:vr (m,p)=((m*2^k:Int):Rat)*tw (p-k):=by
   have h1:=j9 (p-k) k;rw[show p-(k:Int)+k=p by lia]at h1;unfold vr;simp only[];rw[h1,bZ];grind
  have tp:=kf (p-k)
  have c:NearR n (vr (m,p)) (m*2^k) (p-k):=by
   refine⟨m*2^k,⟨?_,?_,?_,?_⟩,.inl ⟨rfl,.inl ?_⟩⟩
   ·rw[show n-1=(bits m-1)+k by lia,nc];exact gP m1 (by lia)
   ·rw[<- hk,nc];exact jcU m2 hkp
   ·rw[e];exact jfy
   ·rw[e];grind
   ·rw[e];grind
  have hv:0<vr (m,p):=jei (by exact_mod_cast hm) (kf p);rw[jcj hn hv c,kg ho];simp only[wg,true_and];lia
 obtain⟨m,p⟩:=x;obtain⟨ho,hs⟩:=h;simp only[]at ho hs;rcases ho with ho|⟨rfl,rfl⟩
 ·rcases tZ m 0 with z|z|z
  ·have:=pos (-m) p (by lia) (by lia) (by lia);have e:vr (-m,p)=-vr (m,p):=u4 (m,p);rw[e,qY]at this;rw[<- Kk (j7 n (vr (m,p))),this];simp[xN]
  ·lia
  ·exact pos m p z ho hs
 ·have:vr (0,0)=0:=by simp[vr]
  rw[this,xy]
theorem UV(h1:0<=W)(h2:W<=2^n)(hn:1<=n):Num n (jS W p).1 (jS W p).2:=by
 by_cases h0:W=0
 ·subst h0;rw[yl];exact⟨.inr ⟨rfl,rfl⟩,gO n⟩
 ·rcases jeW h2 with z|z
  ·have hw:W.natAbs<2^n:=by
    have:((2^n:Nat):Int)=2^n:=by simp
    lia
   exact(qo W p).num hw
  ·have e:W=1*2^n:=by lia
   rw[e,kg (by decide)];exact⟨.inl (by show (1:Int)%2=1;decide),by have:=jd7 (a:=2) (by decide) (show 0<n by lia);simpa using this⟩
structure OkN (n:Nat) (M:Int) (x:Int×Int):Prop where
 num:Num n x.1 x.2
 lo:-M<=x.2
 hi:x.2<=M
theorem gcd_odd(h:w%2=1):gf w (2^n)=1:=by
 have:jfz w.natAbs (2^n):=Nat.Coprime.pow_right n (by
  have:w.natAbs%2=1:=by lia
  unfold jfz
  rw[jcP,jfv,this];rfl)
 show je4 w.natAbs (2^n:Int).natAbs=1;rw[pj];exact this
theorem rq_of{b:Int}(hb:0<b)(hg:gf a b=1):.tup [.int a,.int b]=rq (dY a b):=by
 unfold rq;rw[jc2,pC,if_neg (by lia),tY hb,tK,jfd,hg];simp;lia
theorem Xt(h:Num n x.1 x.2):.tup [.int (if x.2<0 then x.1 else x.1*2^x.2.toNat),.int (if x.2<0 then 2^(-x.2).toNat else 1)]=rq (vr x):=by
 obtain⟨w,p⟩:=x;simp only[]at h ⊢;by_cases hp:p<0
 ·simp only[hp,if_true]
  have ho:w%2=1:=by rcases h.odd with z|z<;>lia
  rw[rq_of (two_pow_pos _) (gcd_odd ho)];congr 1;have hq:=two_pow_pos (-p).toNat
  have hQ:(0:Rat)<((2^(-p).toNat:Int):Rat):=by exact_mod_cast hq
  refine(JG hQ).mp ?_;rw[uf hq];have e:=Jt p;rw[show p.toNat=0 by lia]at e;unfold vr;simp only[];rw[n8,nV (tw p),e];simp
 ·simp only[hp,if_false];rw[rq_of (by decide) (by simp)];congr 1
  obtain⟨k,rfl⟩:∃k:Nat,p=k:=⟨p.toNat,by lia⟩
  unfold vr;simp only[];rw[Yj,bV,<- bZ];have h:=uf (t:=w*2^k) (u:=1) (by decide);rw[<- h];have e1:((1:Int):Rat)=1:=rfl;rw[e1,jdg]
theorem Jy(h:u≠0)(hb:bits u<=9000):kT.wp [.int t,.int u] Q E ↔ Q (rq (dY t u)):=by
 unfold Ctr.wp kT;simp only[];exact⟨λw=>w.2.1 _ rfl,λq=>⟨⟨h,hb⟩,λd e=>by rw[e];exact q,λx z=>z.elim⟩⟩
theorem jaJ(p q:Int):tw (p+q)=tw p*tw q:=by unfold tw;exact Rat.zpow_add jaL ..
theorem Jf(p:Int):tw (-p)*tw p=1:=by rw[<- jaJ,show -p+p=0 by lia,yo]
def XY(x:Int×Int):Prop:=x.1%2=1\/(x.1=0/\x.2=0)
theorem XY.num(h:XY x):∃n,1<=n/\∀m,n<=m->Num m x.1 x.2:=by
 refine⟨bits x.1+1,by lia,λm hm=>⟨h,?_⟩⟩;exact jh.mp (by lia)
theorem ZH{y:Int×Int}(hx:XY x)(hy:XY y)(e:vr x=vr y):x=y:=by
 obtain⟨n,n1,h1⟩:=hx.num;obtain⟨m,m1,h2⟩:=hy.num;have f1:=vg (n:=n+m) (by lia) (h1 _ (by lia));have f2:=vg (n:=n+m) (by lia) (h2 _ (by lia));rw[<- f1,<- f2,e]
theorem vc(w p:Int):XY (jS w p):=by
 have b:=qo w p;by_cases h:w=0
 ·exact .inr (b.nought h)
 ·obtain⟨v,_,_,ho⟩:=b.same h;exact .inl ho
def dq(v:Rat):Int×Int:=jS v.num (-(v2 v.den:Int))
theorem dq_of(h:XY x):dq (vr x)=x:=by
 obtain⟨n,_,hn⟩:=h.num;have e:=Xt (hn n (df _));unfold rq at e;simp only[D.tup.injEq,bO,D.int.injEq,and_true]at e;obtain⟨e1,e2⟩:=e;obtain⟨w,p⟩:=x;simp only[]at e1 e2;unfold dq;rw[<- e1];by_cases hp:p<0
 ·rw[if_pos hp]at e2 ⊢
  have ho:w%2=1:=by
   rcases h with h|h
   ·exact h
   ·simp only[]at h;lia
  have e3:(vr (w,p)).den=2^(-p).toNat*1:=by
   have:(((vr (w,p)).den:Nat):Int)=((2^(-p).toNat:Nat):Int):=by rw[<- e2];simp
   lia
  rw[e3,Zo (by decide)];have:=kg ho 0 (-(((-p).toNat:Nat):Int));rw[Int.pow_zero,Int.mul_one]at this;rw[this];simp only[wg,true_and];lia
 ·rw[if_neg hp]at e2 ⊢
  have e3:(vr (w,p)).den=1:=by lia
  rw[e3,jaa (by decide)];rcases h with h|h
  ·simp only[]at h;rw[kg h];simp only[wg,true_and];lia
  ·simp only[]at h;rw[h.1,h.2];simp[jS]
theorem uK(w p:Int):jS w p=dq (w*tw p):=by
 rw[<- xB,dq_of (vc w p)]
theorem jaX(hn:1<=n):Num n (j7 n r).1 (j7 n r).2:=by
 have pos:∀r:Rat,0<r->Num n (j7 n r).1 (j7 n r).2:=λr h=>by
  obtain⟨W,p,k,e⟩:=qX hn h;rw[e];have:=two_pow_pos (n-1);exact UV (by have:=k.bound;lia) k.bound.2 hn
 rcases uP 0 r with y|y
 ·exact pos r y
 ·by_cases h0:r=0
  ·subst h0;rw[xy];exact⟨.inr ⟨rfl,rfl⟩,gO n⟩
  ·have:=pos (-r) (by grind);rw[qY]at this;obtain⟨ho,hs⟩:=this;unfold xN at ho hs;simp only[]at ho hs;exact⟨by lia,by lia⟩
theorem Q1(a:Rat):(-a).abs=a.abs:=by unfold Rat.abs;split<;>split<;>grind
theorem ui{a:Rat}(h:0<=a):a.abs=a:=by unfold Rat.abs;rw[if_pos h]
theorem NearR.half(c:NearR n r W p):2*(r-W*tw p).abs<=tw p:=by
 obtain⟨w,c,h⟩:=c.ex;have h1:=c.le;have h2:=c.lt;have tp:=kf p;rcases h with⟨e,h⟩|⟨e,h⟩
 ·subst e;rw[ui (by grind)]
  grind
 ·subst e
  have e1:((w+1:Int):Rat)=w+1:=by grind
  rw[<- Q1,ui (by rw[e1];grind),e1]
  grind
variable{k:Int}
theorem qR{d:Nat}:((k*2^d:Int):Rat)*tw m=k*tw (m+d):=by
 rw[j9,bZ];grind
theorem tw_cmp{b:Int}:(a:Rat)*tw m<b*tw m ↔ a<b:=by rw[zc (kf m)];exact pK
theorem kI{b:Int}:(a:Rat)*tw m<=b*tw m ↔ a<=b:=by rw[Jv (kf m)];exact jdQ
theorem U7{b:Int}:(a:Rat)*tw m=b*tw m ↔ a=b:=by rw[JG (kf m)];exact mr
theorem Xd(j m:Int):((j:Rat)*tw m).abs=((j.natAbs:Int):Rat)*tw m:=by
 have tp:=kf m;rcases jdP 0 j with h|h
 ·have e:(j.natAbs:Int)=j:=by lia
  have:(0:Rat)<=j:=by exact_mod_cast h
  rw[ui,e];have:=qL this tp
  grind
 ·have e:(j.natAbs:Int)=-j:=by lia
  have:(j:Rat)<=0:=by exact_mod_cast h
  have:=qL this tp;rw[<- Q1,ui (by grind),e,pP];grind
theorem rest_of{N:Nat}(hn:1<=n)(hk:k.natAbs<2^N):∃j:Int,(k:Rat)*tw m-vr (j7 n (k*tw m))=j*tw m/\2*j.natAbs*2^n<=2^N:=by
 have pos:∀k:Int,0<k->k.natAbs<2^N->∃j:Int,(k:Rat)*tw m-vr (j7 n (k*tw m))=j*tw m/\2*j.natAbs*2^n<=2^N:=by
  intro k h0 hk;have tm:=kf m;have hv:(0:Rat)<k*tw m:=jei (by exact_mod_cast h0) tm;obtain⟨W,p,kk,e⟩:=qX hn hv;have hh:=kk.half;have bd:=kk.bound;obtain⟨w,c,alt⟩:=kk.ex;have c1:=c.le;have c2:=c.lt;rw[e,xB];rcases jdP p m with hp|hp
  ·obtain⟨d,rfl⟩:∃d:Nat,m=p+d:=⟨(m-p).toNat,by lia⟩
   rw[<- qR]at *;have l1:=kI.mp c1
   have e3:((w:Rat)+1)=((w+1:Int):Rat):=by grind
   rw[e3]at c2;have l2:=tw_cmp.mp c2
   have ew:k*2^d=w:=by lia
   rw[ew]at alt ⊢;have tp:=kf p;refine⟨0,?_,by simp⟩;rcases alt with⟨rfl,alt⟩|⟨rfl,alt⟩
   ·have:((0:Int):Rat)=0:=rfl;rw[this];grind
   ·exfalso
    rcases alt with z|⟨z,_⟩<;>grind
  ·obtain⟨d,rfl⟩:∃d:Nat,p=m+d:=⟨(p-m).toNat,by lia⟩
   have e1:(W:Rat)*tw (m+d)=((W*2^d:Int):Rat)*tw m:=qR.symm
   have e2:(k:Rat)*tw m-W*tw (m+d)=((k-W*2^d:Int):Rat)*tw m:=by rw[e1,sZ];grind
   refine⟨k-W*2^d,e2,?_⟩;rw[e2,Xd]at hh
   have e4:tw (m+d)=((2^d:Int):Rat)*tw m:=by rw[j9];grind
   rw[e4]at hh
   have e5:2*((((k-W*2^d).natAbs:Int):Rat)*tw m)=((2*((k-W*2^d).natAbs:Int):Int):Rat)*tw m:=by rw[bZ];grind
   rw[e5]at hh;have l1:=kI.mp hh;have e6:(w:Rat)*tw (m+d)=((w*2^d:Int):Rat)*tw m:=qR.symm;rw[e6]at c1;have l2:=kI.mp c1;have l3:=c.lo;have k1:(2:Int)^(n-1)*2^d<=w*2^d:=gP l3 (sj (two_pow_pos d))
   have k2:(2:Int)^(n-1+d)<2^N:=by
    rw[nc]
    have:((k.natAbs:Nat):Int)<((2^N:Nat):Int):=by exact_mod_cast hk
    have e7:((2^N:Nat):Int)=2^N:=by simp
    lia
   have k3:n-1+d<N:=by
    have:(2:Nat)^(n-1+d)<2^N:=by exact_mod_cast k2
    exact(jdk (by decide)).mp this
   have k4:2*(k-W*2^d).natAbs<=2^d:=by
    have e7:((2^d:Nat):Int)=2^d:=by simp
    lia
   calc 2*(k-W*2^d).natAbs*2^n<=2^d*2^n:=mM _ k4
    _=2^(d+n):=(jd6 ..).symm
    _<=2^N:=my (by decide) (by lia)
 rcases tZ k 0 with h|h|h
 ·obtain⟨j,e,hj⟩:=pos (-k) (by lia) (by lia);refine⟨-j,?_,by rw[Int.natAbs_neg];exact hj⟩
  have e1:((-k:Int):Rat)*tw m=-(k*tw m):=by rw[pP];grind
  rw[e1,qY,u4]at e;rw[pP];grind
 ·subst h;refine⟨0,?_,by simp⟩
  have e0:((0:Int):Rat)*tw m=0:=by grind
  rw[e0,xy]
  have:vr (0,0)=0:=by simp[vr]
  rw[this];grind
 ·exact pos k h hk
def J1(x y:Int×Int):Int×Int :=
 let m:=if y.2<x.2 then y.2 else x.2
 (x.1*2^(x.2-m).toNat+y.1*2^(y.2-m).toNat,m)
theorem jbI(h:m<=p):vr (w,p)=((w*2^(p-m).toNat:Int):Rat)*tw m:=by
 obtain⟨d,rfl⟩:∃d:Nat,p=m+d:=⟨(p-m).toNat,by lia⟩
 rw[show (m+(d:Int)-m).toNat=d by lia,qR];rfl
theorem vr_join(x y:Int×Int):vr (J1 x y)=vr x+vr y:=by
 obtain⟨a,p⟩:=x;obtain⟨b,q⟩:=y;unfold J1;simp only[];generalize hm:(if q<p then q else p)=m
 have h1:m<=p:=by rw[<- hm];split<;>lia
 have h2:m<=q:=by rw[<- hm];split<;>lia
 rw[jbI h1,jbI h2];show ((a*2^(p-m).toNat+b*2^(q-m).toNat:Int):Rat)*tw m=_;rw[pQ];grind
end Z
set_option exponentiation.threshold 3000
namespace Z
open PySem
def vI(i_two_to:Nat):Sm :=
 (.seq (.set 2 (.bi .min [(.ix (.var 0) (.cst (.int 1))),(.ix (.var 1) (.cst (.int 1)))]))
 (.seq (.set 3 (.bin .add (.bin .mul (.ix (.var 0) (.cst (.int 0))) (.call i_two_to [(.bin .sub (.ix (.var 0) (.cst (.int 1))) (.var 2))])) (.bin .mul (.ix (.var 1) (.cst (.int 0))) (.call i_two_to [(.bin .sub (.ix (.var 1) (.cst (.int 1))) (.var 2))]))))
 (.seq (.ret (.tup [(.var 3),(.var 2)]))
 .nop)))
def zZ(i_odd_form:Nat):Sm :=
 (.seq (.ite (.cmp .eq (.ix (.var 0) (.cst (.int 0))) (.cst (.int 0))) (.seq (.ret (.tup [(.cst (.int 0)),(.cst (.int 0))]))
  .nop) .nop)
 (.seq (.ret (.call i_odd_form [(.ix (.var 0) (.cst (.int 0))),(.ix (.var 0) (.cst (.int 1)))]))
 .nop))
theorem y9{x y:Int×Int}(h:nq x=nq y):x=y:=by
 obtain⟨a,b⟩:=x;obtain⟨c,d⟩:=y;simp only[nq,D.tup.injEq,bO,D.int.injEq,and_true]at h;rw[h.1,h.2]
variable{Q:D->Prop}
theorem xK(x:Int×Int):ixD (nq x) (.int 0) Q=Q (.int x.1):=by
 unfold nq;rw[ix_tup];simp[KC]
theorem xh(x:Int×Int):ixD (nq x) (.int 1) Q=Q (.int x.2):=by
 unfold nq;rw[ix_tup];simp[jbK]
theorem jbg(a b:Int):D.tup [.int a,.int b]=nq (a,b):=rfl
def cP2(ok:Int×Int->Int×Int->Prop)(f:Int×Int->Int×Int->D):Ctr where
 pre ds:=∃x y,ds=[nq x,nq y]/\ok x y
 res ds d:=∀x y,ds=[nq x,nq y]->d=f x y
def cP0(ok:Int×Int->Prop)(f:Int×Int->D):Ctr where
 pre ds:=∃x,ds=[nq x]/\ok x
 res ds d:=∀x,ds=[nq x]->d=f x
section
variable {x y:Int×Int} {n:Int} {d:D} {Q:D->Prop} {E:XD->Prop}
theorem jbO{ok f}:(cP0 ok f).res [nq x] d ↔ d=f x:=by
 refine⟨λh=>h x rfl,λh x' e=>?_⟩;simp only[bO,and_true]at e;cases y9 e;exact h
theorem jbB{ok f}:(cP2 ok f).res [nq x,nq y] d ↔ d=f x y:=by
 refine⟨λh=>h x y rfl,λh x' y' e=>?_⟩;simp only[bO,and_true]at e;cases y9 e.1;cases y9 e.2;exact h
theorem wp_P0{ok f}:(cP0 ok f).wp [nq x] Q E ↔ ok x/\Q (f x):=by
 unfold Ctr.wp;simp only[jbO,forall_eq];refine⟨λ⟨⟨x',e,h⟩,q,_⟩=>⟨?_,q⟩,λ⟨h,q⟩=>⟨⟨x,rfl,h⟩,q,λ_ z=>z.elim⟩⟩;simp only[bO,and_true]at e;cases y9 e;exact h
theorem wp_P2{ok f}:(cP2 ok f).wp [nq x,nq y] Q E ↔ ok x y/\Q (f x y):=by
 unfold Ctr.wp;simp only[jbB,forall_eq];refine⟨λ⟨⟨x',y',e,h⟩,q,_⟩=>⟨?_,q⟩,λ⟨h,q⟩=>⟨⟨x,y,rfl,h⟩,q,λ_ z=>z.elim⟩⟩;simp only[bO,and_true]at e;cases y9 e.1;cases y9 e.2;exact h
end
def wOk(n:Int):Prop:=8<=n/\n<=64
def jcz(x:Int×Int):Prop:=(-100000<=x.2/\x.2<=100000)/\bits x.1<=100000
def jbs(x y:Int×Int):Prop:=jcz x/\jcz y
theorem rq_int(k:Int):D.tup [.int k,.int 1]=rq (k:Rat):=rfl
theorem szr_int{k:Int}{N:Nat}(h:bits k<=N)(hN:1<=N):szr N (k:Rat):=by
 have b1:bits 1=1:=by decide
 exact⟨h,by show bits 1<=N;lia⟩
def yF:Ctr:=cP2 jbs λx y=>nq (J1 x y)
variable{i:Nat}
theorem jbv{C:Cfg}(h1:C.ct i=kO):jB C 4 (vI i) yF:=by
 rintro ds ⟨x,y,rfl,⟨⟨x1,x2⟩,x3⟩,⟨y1,y2⟩,y3⟩
 simp_all_arith! only[vI,xK,xh,h1,kO,yF,jbB]
 generalize hm:(if y.2<x.2 then y.2 else x.2)=m
 have m1:m<=x.2/\m<=y.2 /\ -100000<=m:=by rw[<- hm];split<;>lia
 have l1:∀k:Nat,bits ((2:Int)^k)=k+1:=λk=>kl k
 refine⟨by lia,ji ?_,by lia,ji ?_,?_⟩
 ·rw[l1];lia
 ·rw[l1];lia
 ·unfold J1;rw[hm];rfl
def xk:Ctr:=cP0 (λ_=>True) λx=>nq (dq (vr x))
theorem Y4{C:Cfg}(h1:C.ct i=qk):jB C 1 (zZ i) xk:=by
 rintro ds ⟨x,rfl,_⟩
 simp_all_arith! only[zZ,xK,xh,h1,qk,xk,jbO]
 have e:dq (vr x)=jS x.1 x.2:=(uK x.1 x.2).symm;rw[e];by_cases h:x.1=0
 ·rw[if_pos h,h,yl];rfl
 ·rw[if_neg h];exact⟨h,rfl⟩
end Z
set_option exponentiation.threshold 3000
namespace Z
open PySem
theorem jt{α:Type}{f:D->(D->Prop)->Prop}{g h:α->D}:∀ {l:List α} {Q:List D->Prop},(∀a∈l,∀Q,f (g a) Q ↔ Q (h a))->(kD f (l.map g) Q ↔ Q (l.map h))
 |[],Q,_=>by simp[kD]
 |a::l,Q,k=>by
  rw[bq,kD,k a (bC ..),jt λb hb=>k b (bo _ hb)];rfl
theorem pick_le(a b:Int):yW false a b<=a/\yW false a b<=b/\(yW false a b=a\/yW false a b=b):=by
 unfold yW;simp only[dG,if_false];split<;>lia
theorem Ug:∀(ns:List Int) (m:Int),ns.foldl (yW false) m<=m/\(∀x∈ns,ns.foldl (yW false) m<=x)/\(ns.foldl (yW false) m=m\/ns.foldl (yW false) m∈ns)
 |[],m=>by simp
 |n::ns,m=>by
  have p:=pick_le m n;obtain⟨h1,h2,h3⟩:=Ug ns (yW false m n);rw[sT];refine⟨by lia,λx hx=>?_,?_⟩
  ·rcases bz.mp hx with rfl|hx
   ·lia
   ·exact h2 x hx
  ·rcases h3 with z|z
   ·rcases p.2.2 with q|q
    ·left;lia
    ·right;rw[z,q];exact bC ..
   ·right;exact bo _ z
theorem QF{d:Int}{ns:List Int}:(∀x∈ns,mmF false d ns<=x)/\(mmF false d ns∈ns\/(ns=[]/\mmF false d ns=d)):=by
 cases ns with
 |nil=>exact⟨λx hx=>absurd hx (by simp),Or.inr ⟨rfl,rfl⟩⟩
 |cons n ns =>
  obtain⟨h1,h2,h3⟩:=Ug ns n;refine⟨λx hx=>?_,Or.inl ?_⟩
  ·rcases bz.mp hx with rfl|hx
   ·exact h1
   ·exact h2 x hx
  ·rcases h3 with z|z
   ·show ns.foldl (yW false) n∈_;rw[z];exact bC ..
   ·exact bo _ z
def yy(m:Int)(xs:List (Int×Int)):Int:=(xs.map λx=>x.1*2^(x.2-m).toNat).sum
theorem Jr{m:Int}:∀ {xs:List (Int×Int)},(∀x∈xs,m<=x.2)->((yy m xs:Int):Rat)*tw m=(xs.map vr).sum
 |[],_=>by simp[yy]
 |x::xs,h=>by
  have ih:=Jr (m:=m) (xs:=xs) λy hy=>h y (bo _ hy)
  have e:=jbI (w:=x.1) (h x (bC ..));unfold yy at *;rw[bq,dH,bq,dH,<- ih,pQ];have:vr x=vr (x.1,x.2):=rfl;rw[this,e];grind
theorem Jl{xs ys:List (Int×Int)}(h:[D.lst (xs.map nq)]=[D.lst (ys.map nq)]):xs=ys:=by
 simp only[bO,D.lst.injEq,and_true]at h;exact kq (λa b h=>y9 h) h
end Z
set_option exponentiation.threshold 3000
namespace Z
open PySem
variable{c:Int}
theorem XH{C:Cfg}{c:Ex}{a b:Sm}{K:DE}{σ:Sto}(hc:wpE C c σ λd=>d=.bl false)(h:wpS C b K σ):wpS C (.seq (.ite c a .nop) b) K σ:=by
 rw[jO,qH];refine ja c (λd e=>?_) hc;subst e;rw[jaZ,if_neg (by decide),qG];exact h
variable{w:Int}
section
variable {Q:D->Prop} {E:XD->Prop}
theorem Qw{p:Int}(h:bits w<=9000):qM.wp [.int w,.int p] Q E ↔ Q (nq (dq (w*tw p))):=by
 unfold Ctr.wp qM;simp only[];constructor
 ·intro ⟨_,q,_⟩;rw[<- uK];exact q _ ⟨_,_,rfl,qo w p⟩
 ·intro q;refine⟨h,?_,λ_ z=>z.elim⟩;rintro d ⟨w',p',rfl,hb⟩;rw[jbg,hb.eq,uK];exact q
theorem VQ(w p:Int):dY (w*2^p.toNat) (2^(-p).toNat)=w*tw p:=by
 have hu:=two_pow_pos (-p).toNat
 have hq:(0:Rat)<((2^(-p).toNat:Int):Rat):=by exact_mod_cast hu
 refine(JG hq).mp ?_;rw[uf hu,n8,nV (tw p),Jt,bZ]
end
variable{k:Int}
theorem xU{k:Nat}:bits (w*2^k)<=bits w+k:=by
 by_cases h:w=0
 ·subst h
  have:bits 0=0:=by decide
  rw[jfe];lia
 ·rw[jh,mi,pj,jd6];exact Nat.mul_lt_mul_of_pos_right (jh.mp (df _)) (gO k)
variable{n:Nat}{M:Int}{x:Int×Int}
theorem OkN.bits(h:OkN n M x):bits x.1<=n:=jh.mpr h.num.sz
theorem OkN.far(h:OkN n M x)(hn:n<=64)(hM:M<=100000):jcz x:=by
 have:=h.bits;have:=h.lo;have:=h.hi;exact⟨⟨by lia,by lia⟩,by lia⟩
theorem jan{z:Int×Int}{j m:Int}(hz:XY z)(e:vr z=j*tw m):m<=z.2\/z=(0,0):=by
 have h:z=jS j m:=ZH hz (vc _ _) (by rw[xB,e]);rw[h];have b:=qo j m;by_cases h0:j=0
 ·right;subst h0;exact yl m
 ·obtain⟨v,_,ep,_⟩:=b.same h0;left;lia
variable{ns:List Int}
section
variable {Q:D->Prop} {E:XD->Prop}
theorem jcx(hl:ns.length<=63)(hk:0<=k):zx.wp [.lst (ns.map .int),.int k] Q E ↔ ∀n:Nat,8<=n->n<=64->Q (.int n):=by
 unfold Ctr.wp zx;constructor
 ·intro w n h1 h2;exact w.2.1 _ ⟨n,rfl,by lia,by lia⟩
 ·intro q;refine⟨⟨ns,k,rfl,hl,hk⟩,?_,λ_ z=>z.elim⟩;rintro d ⟨i,rfl,h1,h2⟩
  obtain⟨n,rfl⟩:∃m:Nat,i=m:=⟨i.toNat,by lia⟩
  exact q n (by lia) (by lia)
theorem K6(hl:ns.length<=63)(hk:0<=k):xj.wp [.lst (ns.map .int),.int k] Q E ↔ ∀c:Int,Q (.int c):=by
 unfold Ctr.wp xj;constructor
 ·intro w c;exact w.2.1 _ ⟨c,rfl⟩
 ·intro q;refine⟨⟨ns,k,rfl,hl,hk⟩,?_,λ_ z=>z.elim⟩;rintro d ⟨c,rfl⟩;exact q c
theorem yU:kr.wp [.int c,.int k] Q E ↔ ∀m:Int,0<=m->m<340282366920938463463374607431768211297->Q (.int m):=by
 unfold Ctr.wp kr;simp only[];constructor
 ·intro w m h1 h2;exact w.2.1 _ ⟨m,rfl,h1,h2⟩
 ·intro q;refine⟨trivial,?_,λ_ z=>z.elim⟩;rintro d ⟨m,rfl,h1,h2⟩;exact q m h1 h2
theorem VF{far:Int}(h1:8<=n)(h2:n<=64)(f1:1<=far)(f2:far<=5000):xA.wp [.int c,.int k,.int n,.int far] Q E ↔ ∀x:Int×Int,OkN n (far+63) x->-far<=x.2->Q (nq x):=by
 unfold Ctr.wp xA;simp only[bV];constructor
 ·intro w x hx hf;exact w.2.1 _ ⟨x.1,x.2,rfl,hx.num,hf,by have:=hx.hi;lia⟩
 ·intro q;refine⟨⟨by lia,f1,f2⟩,?_,λ_ z=>z.elim⟩;rintro d ⟨x,p,rfl,hx,p1,p2⟩;exact q (x,p) ⟨hx,by simp only[];lia,by simp only[];lia⟩ p1
end
end Z
set_option exponentiation.threshold 3000
namespace Z
open PySem
end Z
set_option exponentiation.threshold 3000
namespace Z
open PySem
def Rep(n:Nat)(v:Rat):Prop:=∃z:Int×Int,Num n z.1 z.2/\vr z=v
def rn(n:Nat)(v:Rat):Rat:=vr (j7 n v)
section
variable {n:Nat} {u v x y:Rat}
theorem Rep.neg(h:Rep n v):Rep n (-v):=by
 obtain⟨z,⟨ho,hs⟩,e⟩:=h;exact⟨xN z,⟨by unfold xN;simp only[];lia,by unfold xN;simp only[];lia⟩,by rw[u4,e]⟩
theorem jad(hn:1<=n)(h:Rep n v):rn n v=v:=by
 obtain⟨z,hz,e⟩:=h;unfold rn;rw[<- e,vg hn hz]
theorem ZX(hn:1<=n)(h:u<=v):rn n u<=rn n v:=YZ hn h
theorem rn_le(hn:1<=n)(h:u<=v)(r:Rep n v):rn n u<=v:=by have:=ZX hn h;rwa [jad hn r]at this
theorem le_rn(hn:1<=n)(h:u<=v)(r:Rep n u):u<=rn n v:=by have:=ZX hn h;rwa [jad hn r]at this
end
theorem tw_lt{p q:Int}(h:tw p<=tw q):p<=q:=by
 rcases jcT q p with z|z
 ·have:=Xh (show q+1<=p by lia);rw[uL]at this;have:=kf q;exfalso;grind
 ·exact z
variable{n:Nat}
theorem rep_tw(hn:1<=n)(p:Int):Rep n (tw p):=⟨(1,p),⟨.inl (show (1:Int)%2=1 by decide),by
 have:2^1<=2^n:=my (by decide) hn
 simp only[];lia⟩,by unfold vr;simp⟩
structure Box (n:Nat) (M H:Int) (x:Int×Int):Prop where
 ok:OkN n M x
 lo:-tw H<=vr x
 hi:vr x<=tw H
theorem okn_box{M H:Int}{x:Int×Int}(h:OkN n M x)(hH:M+n<=H):Box n M H x:=by
 have hs:=h.num.sz;have hp:=h.hi;have tp:=kf x.2
 have e:tw (x.2+n)=((2^n:Int):Rat)*tw x.2:=by rw[j9];grind
 have l1:=Xh (show x.2+n<=H by lia)
 have pn:((2^n:Nat):Int)=2^n:=by simp
 have l2:(x.1:Rat)*tw x.2<=((2^n:Int):Rat)*tw x.2:=kI.mpr (by lia);have l3:((-2^n:Int):Rat)*tw x.2<=(x.1:Rat)*tw x.2:=kI.mpr (by lia)
 have e2:((-2^n:Int):Rat)*tw x.2=-(((2^n:Int):Rat)*tw x.2):=by rw[pP];grind
 exact⟨h,by unfold vr;grind,by unfold vr;grind⟩
end Z
set_option exponentiation.threshold 3000
namespace Z
open PySem
def xM(i_law_number i_law_drawn i_law_bare:Nat):Sm :=
 (.seq (.set 3 (.ix (.call i_law_number [(.var 0),(.var 1),(.var 2),(.cst (.int 9))]) (.cst (.int 0))))
 (.seq (.set 4 (.bin .sub (.bin .mod (.call i_law_drawn [(.var 0),(.bin .add (.var 1) (.cst (.int 977)))]) (.cst (.int 120))) (.cst (.int 60))))
 (.seq (.ite (.cmp .eq (.var 3) (.cst (.int 0))) (.seq (.ret (.tup [(.cst (.int 0)),(.cst (.int 0))]))
  .nop) .nop)
 (.seq (.ite (.and (.cmp .eq (.var 4) (.cst (.int 59))) (.cmp .eq (.bi .abs [(.var 3)]) (.cst (.int 1)))) (.seq (.ret (.tup [(.var 3),(.cst (.int 60))]))
  .nop) .nop)
 (.seq (.ret (.call i_law_bare [(.var 3),(.bin .add (.bin .sub (.var 4) (.meth .bitlen (.var 3))) (.cst (.int 1)))]))
 .nop)))))
def vf(i_law_cell i_law_drawn i_law_measure i_law_bare:Nat):Sm :=
 (.seq (.new 4)
 (.seq (.forR 5 [(.var 2)] (.seq (.set 6 (.call i_law_cell [(.var 0),(.bin .add (.var 1) (.var 5))]))
  (.seq (.set 7 (.call i_law_drawn [(.var 6),(.bin .add (.bin .add (.var 1) (.var 5)) (.cst (.int 5000)))]))
  (.seq (.set 8 (.call i_law_measure [(.var 6),(.bin .add (.var 1) (.var 5)),(.var 3)]))
  (.seq (.ite (.and (.cmp .gt (.var 5) (.cst (.int 0))) (.cmp .lt (.bin .mod (.var 7) (.cst (.int 5))) (.cst (.int 2)))) (.seq (.set 9 (.oix 4 (.bin .mod (.bin .fdiv (.var 7) (.cst (.int 5))) (.var 5))))
   (.seq (.ite (.cmp .eq (.bin .mod (.var 7) (.cst (.int 5))) (.cst (.int 0))) (.seq (.set 8 (.ix (.lst [(.tup [(.bin .sub (.cst (.int 0)) (.ix (.var 9) (.cst (.int 0)))),(.ix (.var 9) (.cst (.int 1)))]),(.var 9)]) (.bin .mod (.bin .fdiv (.var 7) (.cst (.int 400))) (.cst (.int 2)))))
    .nop) (.seq (.ite (.and (.cmp .ne (.ix (.var 9) (.cst (.int 0))) (.cst (.int 0))) (.cmp .ne (.ix (.var 8) (.cst (.int 0))) (.cst (.int 0)))) (.seq (.set 10 (.bi .max [(.neg (.cst (.int 60))),(.bi .min [(.cst (.int 59)),(.bin .sub (.bin .add (.meth .bitlen (.ix (.var 9) (.cst (.int 0)))) (.ix (.var 9) (.cst (.int 1)))) (.cst (.int 1)))])]))
     (.seq (.set 8 (.call i_law_bare [(.ix (.var 8) (.cst (.int 0))),(.bin .add (.bin .sub (.var 10) (.meth .bitlen (.ix (.var 8) (.cst (.int 0))))) (.cst (.int 1)))]))
     .nop)) .nop)
    .nop))
   .nop)) .nop)
  (.seq (.app 4 (.var 8))
  .nop))))))
 (.seq (.shr 4)
 (.seq (.ret (.var 4))
 .nop))))
structure Meas (n:Nat) (x:Int×Int):Prop where
 num:Num n x.1 x.2
 at_:(x.1=0/\x.2=0)\/(-60<=x.2+bits x.1-1/\x.2+bits x.1<=61)
variable{n:Nat}{x:Int×Int}
theorem Meas.ok(h:Meas n x)(hn:n<=64):OkN n 130 x:=by
 have:=jh.mpr h.num.sz;exact⟨h.num,by rcases h.at_ with z|z<;>lia,by rcases h.at_ with z|z<;>lia⟩
theorem Meas.neg(h:Meas n x):Meas n (xN x):=by
 obtain⟨⟨ho,hs⟩,ha⟩:=h;refine⟨⟨by unfold xN;simp only[];lia,by unfold xN;simp only[];lia⟩,?_⟩;unfold xN;simp only[xg];lia
theorem UQ{w q:Int}(ho:w%2=1)(hs:w.natAbs<2^n)(q1:-60<=q)(q2:q<=59):Meas n (dq (w*tw (q-bits w+1))):=by
 have e:dq (w*tw (q-bits w+1))=(w,q-bits w+1):=by
  have:=dq_of (x:=(w,q-bits w+1)) (.inl ho);exact this
 rw[e];exact⟨⟨.inl ho,hs⟩,.inr ⟨by simp only[];lia,by simp only[];lia⟩⟩
def qZ:Ctr where
 pre ds:=∃c k n:Int,ds=[.int c,.int k,.int n]/\wOk n
 res ds d:=∀c k n:Int,ds=[.int c,.int k,.int n]->∃x,d=nq x/\Meas n.toNat x
variable{c k:Int}{Q:D->Prop}{E:XD->Prop}
theorem Yf(h1:8<=n)(h2:n<=64):qZ.wp [.int c,.int k,.int n] Q E ↔ ∀x,Meas n x->Q (nq x):=by
 unfold Ctr.wp qZ;constructor
 ·intro w x hx
  refine w.2.1 _ λc' k' n' e=>?_
  simp only[bO,D.int.injEq,and_true]at e;obtain⟨_,_,rfl⟩:=e;exact⟨x,rfl,hx⟩
 ·intro q;refine⟨⟨c,k,n,rfl,by lia,by lia⟩,λd hd=>?_,λ_ z=>z.elim⟩;obtain⟨x,rfl,hx⟩:=hd c k n rfl;exact q x hx
theorem zf(h:Meas n x):qZ.res [.int c,.int k,.int n] (nq x):=by
 intro c' k' n' e;simp only[bO,D.int.injEq,and_true]at e;obtain⟨_,_,rfl⟩:=e;exact⟨x,rfl,h⟩
theorem meas0(n:Nat):Meas n (0,0):=⟨⟨.inr ⟨rfl,rfl⟩,gO n⟩,.inl ⟨rfl,rfl⟩⟩
variable{i1 i2 i3:Nat}
theorem V0{C:Cfg}(h1:C.ct i1=xA)(h2:C.ct i2=kr)(h3:C.ct i3=qM):jB C 5 (xM i1 i2 i3) qZ:=by
 rintro ds ⟨c,k,n,rfl,w1,w2⟩
 obtain⟨n,rfl⟩:∃m:Nat,n=m:=⟨n.toNat,by lia⟩
 have n1:8<=n:=by lia
 have n2:n<=64:=by lia
 have q1:(1:Int)<=9:=by decide
 have q2:(9:Int)<=5000:=by decide
 rw[xM];simp_all! only[h1,VF n1 n2 q1 q2,xK,h2,yU];intro x hx _ m m0 m1;rw[jA (by decide)]
 obtain⟨q,hq,p1,p2⟩:∃q:Int,m%120-60=q /\ -60<=q/\q<=59:=⟨_,rfl,by lia,by lia⟩
 rw[hq];have bx:=hx.bits;refine jP (λσ=>x.1≠0/\σ=[some (.sh (.int c)),some (.sh (.int k)),some (.sh (.int n)),some (.sh (.int x.1)),some (.sh (.int q))]) ?_ ?_
 ·simp_all_arith! only[]
  by_cases h0:x.1=0
  ·rw[if_pos h0];exact zf (meas0 n)
  ·rw[if_neg h0]
   first|exact⟨h0,rfl⟩|exact h0
 rintro σ ⟨h0,rfl⟩
 have ho:x.1%2=1:=by have:=hx.num.odd;lia
 refine jP (λσ=>σ=[some (.sh (.int c)),some (.sh (.int k)),some (.sh (.int n)),some (.sh (.int x.1)),some (.sh (.int q))]) ?_ ?_
 ·simp_all_arith! only[Ye]
  by_cases h1:q=59
  ·rw[if_pos h1];by_cases h2:(x.1.natAbs:Int)=1
   ·rw[if_pos h2];refine zf (x:=(x.1,60)) ⟨⟨.inl ho,hx.num.sz⟩,.inr ?_⟩
    have b1:bits x.1=1:=by
     have:x.1=1\/x.1=-1:=by lia
     rcases this with e|e<;>rw[e]<;>decide
    exact⟨by simp only[];lia,by simp only[];lia⟩
   ·rw[if_neg h2];trivial
  ·rw[if_neg h1];trivial
 rintro σ rfl
 have b9:bits x.1<=9000:=by lia
 simp_all! only[h3,Qw b9];exact zf (UQ ho hx.num.sz p1 p2)
def XT:Ctr where
 pre ds:=∃(ns:List Int) (s m n:Int),ds=[.lst (ns.map .int),.int s,.int m,.int n]/\ns.length<=63/\0<=s/\(m<=1000)/\(-1000<=m)/\wOk n
 res ds d:=∀(ns:List Int) (s m n:Int),ds=[.lst (ns.map .int),.int s,.int m,.int n]->∃xs:List (Int×Int),d=.lst (xs.map nq)/\xs.length=m.toNat/\∀x∈xs,Meas n.toNat x
theorem wp_row{ns:List Int}{s m:Int}(hl:ns.length<=63)(hs:0<=s)(m1:m<=1000)(m2:-1000<=m)(h1:8<=n)(h2:n<=64) :
 XT.wp [.lst (ns.map .int),.int s,.int m,.int n] Q E ↔ ∀xs:List (Int×Int),xs.length=m.toNat->(∀x∈xs,Meas n x)->Q (.lst (xs.map nq)):=by
 unfold Ctr.wp XT;constructor
 ·intro w xs l hx
  refine w.2.1 _ λns' s' m' n' e=>?_
  simp only[bO,D.int.injEq,and_true]at e;obtain⟨_,_,rfl,rfl⟩:=e;exact⟨xs,rfl,l,hx⟩
 ·intro q;refine⟨⟨ns,s,m,n,rfl,hl,hs,m1,m2,by lia,by lia⟩,λd hd=>?_,λ_ z=>z.elim⟩;obtain⟨xs,rfl,l,hx⟩:=hd ns s m n rfl;exact q xs l hx
theorem nq_get{xs:List (Int×Int)}{i:Int}(h0:0<=i)(h:i<xs.length):∃x∈xs,atD (xs.map nq) i=some (nq x):=by
 have hl:i.toNat<xs.length:=by lia
 refine⟨xs[i.toNat],dP hl,?_⟩;unfold atD;rw[if_pos h0,bY,bD hl];rfl
theorem k_row{C:Cfg}{i4:Nat}(h1:C.ct i1=xj)(h2:C.ct i2=kr)(h3:C.ct i3=qZ)(h4:C.ct i4=qM):jB C 11 (vf i1 i2 i3 i4) XT:=by
 rintro ds ⟨ns,s,m,n,rfl,hl,hs,m1,m2,w1,w2⟩
 obtain⟨n,rfl⟩:∃m:Nat,n=m:=⟨n.toNat,by lia⟩
 have n1:8<=n:=by lia
 have n2:n<=64:=by lia
 rw[vf];simp_all! only[]
 let P:List D->Sto->Prop:=λds σ=>∃(xs:List (Int×Int)) (a b c d e f:Option Sl),(xs.length<=m.toNat/\ds=jW xs.length 1 (m.toNat-xs.length)/\∀x∈xs,Meas n x) /\
  σ=[some (.sh (.lst (ns.map .int))),some (.sh (.int s)),some (.sh (.int m)),some (.sh (.int n)),some (.ow (xs.map nq)),a,b,c,d,e,f]
 refine jP (P []) ?_ ?_
 ·rw[vF]
  simp_arith only[]
  refine⟨by unfold qT;lia,qb P ⟨[],_,_,_,_,_,_,⟨by simp,by simp,by simp⟩,rfl⟩ ?_ λσ h=>h⟩;rintro d ds σ ⟨xs,a,b,c,dd,e,f,⟨hx,hd,hm⟩,rfl⟩
  have hlt:xs.length<m.toNat:=by
   rcases b8 xs.length m.toNat with z|z
   ·exact z
   ·rw[show m.toNat-xs.length=0 by lia]at hd;cases hd
  rw[show m.toNat-xs.length=(m.toNat-(xs.length+1))+1 by lia,jW]at hd;simp only[bO]at hd;obtain⟨rfl,rfl⟩:=hd
  have hk:(0:Int)<=s+xs.length:=by lia
  simp_all! only[h1,K6 hl hk,h2,yU,h3,Yf n1 n2];intro cc r r0 _ x hx';refine jP (λσ=>∃(y:Int×Int) (a b:Option Sl),Meas n y/\σ=[some (.sh (.lst (ns.map .int))),some (.sh (.int s)),some (.sh (.int m)),some (.sh (.int n)),some (.ow (xs.map nq)),some (.sh (.int xs.length)),some (.sh (.int cc)),some (.sh (.int r)),some (.sh (nq y)),a,b]) ?_ ?_
  ·rw[qH];dsimp! only[];have f5:r.fmod 5=r%5:=jA (by decide);rw[f5];by_cases c1:0<(xs.length:Int)
   ·rw[if_pos c1];by_cases c2:r%5<2
    ·rw[if_pos (by simpa using c2)];have e1:r.fdiv 5=r / 5:=j4 (by decide);have e2:(r / 5).fmod xs.length=(r / 5)%xs.length:=jA (by lia);have e3:r.fdiv 400=r / 400:=j4 (by decide);have e4:(r / 400).fmod 2=r / 400%2:=jA (by decide)
     have b5:bits 5<=9000:=by decide
     have b4:bits 400<=9000:=by decide
     have u0:=gR (r / 5) (show (xs.length:Int)≠0 by lia);have u1:=gK (r / 5) c1;obtain⟨y,hy,ey⟩:=nq_get u0 u1;have hy':=hm y hy;simp_all! only[e1,e2,b5,ey];refine⟨by lia,?_⟩;rw[jO,qH];dsimp! only[f5];by_cases c3:r%5=0
     ·rw[if_pos c3];simp_all! only[e3,e4,b4,xK,xh,jbg];obtain⟨d,e,hd⟩:=yX (xs:=[nq (0-y.1,y.2),nq y]) (i:=r / 400%2) (by lia) (by simp;lia);refine⟨d,e,?_⟩;simp only[bz,bK,or_false]at hd;rcases hd with rfl|rfl
      ·have ng:(0-y.1,y.2)=xN y:=by unfold xN;rw[jff]
       rw[ng];exact⟨xN y,_,_,hy'.neg,rfl⟩
      ·exact⟨y,_,_,hy',rfl⟩
     ·rw[if_neg c3];rw[jO,qH];dsimp! only[xK,xh];by_cases c4:y.1=0
      ·rw[if_neg (by simpa using c4)];simp only[dG,if_false,qG];exact⟨x,_,_,hx',rfl⟩
      ·rw[if_pos (by simpa using c4)];by_cases c5:x.1=0
       ·rw[if_neg (by simpa using c5)];simp only[qG];exact⟨x,_,_,hx',rfl⟩
       ·rw[if_pos (by simpa using c5)];have bx:=(hx'.ok n2).bits
        have b9:bits x.1<=9000:=by lia
        have ho:x.1%2=1:=by have:=hx'.num.odd;lia
        simp_all! only[xK,xh,h4,Qw b9];refine⟨_,_,_,UQ ho hx'.num.sz ?_ ?_,rfl⟩
        ·split<;>split<;>lia
        ·split<;>split<;>lia
    ·rw[if_neg (by simpa using c2),qG];exact⟨x,_,_,hx',rfl⟩
   ·rw[if_neg c1]
    first|(rw[qG];exact⟨x,_,_,hx',rfl⟩)|(simp only[dG,if_false,qG];exact⟨x,_,_,hx',rfl⟩)
  rintro σ ⟨y,a,b,hy,rfl⟩;simp_all! only[bj];refine⟨by unfold lim;lia,xs ++ [y],_,_,_,_,_,_,⟨by simp;lia,?_,?_⟩,by rw[de];rfl⟩
  ·simp
  ·intro z hz;rcases dI.mp hz with q|q
   ·exact hm z q
   ·simp only[bz,bK,or_false]at q;subst q;exact hy
 rintro σ ⟨xs,a,b,c,dd,e,f,⟨hx,hd,hm⟩,rfl⟩
 have hlen:xs.length=m.toNat:=by
  rcases b8 xs.length m.toNat with z|z
  ·rw[show m.toNat-xs.length=(m.toNat-(xs.length+1))+1 by lia,jW]at hd;cases hd
  ·lia
 simp_all! only[];intro ns' s' m' n' e';simp only[bO,D.int.injEq,and_true]at e';obtain⟨_,_,rfl,rfl⟩:=e';exact⟨xs,rfl,hlen,hm⟩
end Z
set_option exponentiation.threshold 3000
namespace Z
open PySem
theorem XA{xs ys:List (Int×Int)}(h:D.lst (xs.map nq)=D.lst (ys.map nq)):xs=ys:=by
 injection h with h;exact kq (λa b h=>y9 h) h
end Z
set_option exponentiation.threshold 3000
namespace Z
open PySem
structure RowOk (n:Nat) (xs:List (Int×Int)):Prop where
 n1:8<=n
 n2:n<=64
 len:xs.length<=200
 row:∀x∈xs,Box n 1000 300 x
theorem v7{m:Int}{B:Nat}:∀ {xs:List (Int×Int)},(∀x∈xs,bits (x.1*2^(x.2-m).toNat)<=B)->bits (yy m xs)<=B+xs.length
 |[],_=>by
  have:yy m []=0:=rfl;rw[this]
  have:bits 0=0:=by decide
  lia
 |x::xs,h=>by
  have ih:=v7 (m:=m) (xs:=xs) λy hy=>h y (bo _ hy)
  have h1:=h x (bC ..)
  have e:yy m (x::xs)=x.1*2^(x.2-m).toNat+yy m xs:=by unfold yy;simp
  have:=uH (x.1*2^(x.2-m).toNat) (yy m xs);rw[e];simp only[dU];lia
end Z
set_option exponentiation.threshold 3000
namespace Z
open PySem
variable{n:Nat}{M H k m:Int}
theorem X1(hn:1<=n)(hm:-M<=m)(lo:-tw H<=(k:Rat)*tw m)(hi:(k:Rat)*tw m<=tw H)(hM:H<=M)(h0:0<=M):Box n M H (j7 n (k*tw m)):=by
 have num:=jaX (n:=n) (r:=(k:Rat)*tw m) hn;have r2:=rep_tw hn H;have hi:vr (j7 n (k*tw m))<=tw H:=rn_le hn hi r2;have lo:-tw H<=vr (j7 n (k*tw m)):=le_rn hn lo r2.neg;refine⟨⟨num,?_,?_⟩,lo,hi⟩
 ·obtain⟨j,ej,_⟩:=rest_of (n:=n) (N:=bits k) (k:=k) (m:=m) hn (jh.mp (df _))
  have e3:vr (j7 n (k*tw m))=((k-j:Int):Rat)*tw m:=by
   rw[sZ];grind
  rcases jan num.odd e3 with z|z
  ·lia
  ·rw[z];simp only[];lia
 ·generalize hz:j7 n (k*tw m)=z at *;rcases num.odd with ho|ho
  ·have tp:=kf z.2
   have:tw z.2<=tw H:=by
    rcases jcT 0 z.1 with q|q
    ·have l1:((1:Int):Rat)*tw z.2<=(z.1:Rat)*tw z.2:=kI.mpr (by lia);have:((1:Int):Rat)=1:=rfl;unfold vr at hi
     grind
    ·have l1:(z.1:Rat)*tw z.2<=((-1:Int):Rat)*tw z.2:=kI.mpr (by lia);have:((-1:Int):Rat)=-1:=rfl;unfold vr at lo
     grind
   have:=tw_lt this;lia
  ·lia
theorem jaN(w p:Int):-tw (p+bits w)<=(w:Rat)*tw p/\(w:Rat)*tw p<=tw (p+bits w):=by
 have hs:=jh.mp (df (bits w))
 have e:tw (p+bits w)=((2^bits w:Int):Rat)*tw p:=by rw[j9];grind
 have pn:((2^bits w:Nat):Int)=2^bits w:=by simp
 have l2:(w:Rat)*tw p<=((2^bits w:Int):Rat)*tw p:=kI.mpr (by lia);have l3:((-2^bits w:Int):Rat)*tw p<=(w:Rat)*tw p:=kI.mpr (by lia)
 have e2:((-2^bits w:Int):Rat)*tw p=-(((2^bits w:Int):Rat)*tw p):=by rw[pP];grind
 constructor<;>grind
theorem Zg(hn:1<=n)(hm:-M<=m)(hk:m+bits k<=H)(hM:H<=M)(h0:0<=M):Box n M H (j7 n (k*tw m)):=by
 have a:=jaN k m;have:=Xh hk;exact X1 hn hm (by grind) (by grind) hM h0
variable{x:Int×Int}
theorem Meas.row(h:Meas n x)(hn:n<=64):Box n 1000 300 x:=by
 have o:=h.ok hn;have b:=okn_box o (H:=300) (by lia);exact⟨⟨o.num,by have:=o.lo;lia,by have:=o.hi;lia⟩,b.lo,b.hi⟩
def ja1(n:Nat)(xs ys:List (Int×Int)):List (Int×Int):=(xs.zip ys).map λp=>j7 n (vr p.1*vr p.2)
theorem Meas.top(h:Meas n x):x.2+bits x.1<=61:=by
 rcases h.at_ with⟨z,e⟩|z
 ·rw[z,e];decide
 ·exact z.2
theorem vr_prod(x y:Int×Int):vr x*vr y=((x.1*y.1:Int):Rat)*tw (x.2+y.2):=by
 unfold vr;rw[bZ,jaJ];grind
theorem Meas.prod{y:Int×Int}(hx:Meas n x)(hy:Meas n y)(n1:8<=n)(n2:n<=64):Box n 1000 300 (j7 n (vr x*vr y)):=by
 rw[vr_prod];have a:=(hx.ok n2).lo;have b:=(hy.ok n2).lo;have c:=hx.top;have d:=hy.top;have e:=jC x.1 y.1;exact Zg (by lia) (by lia) (by lia) (by lia) (by lia)
structure DotOk (n:Nat) (xs ys:List (Int×Int)):Prop where
 n1:8<=n
 n2:n<=64
 len:xs.length<=200
 same:ys.length=xs.length
 x:∀x∈xs,Meas n x
 y:∀y∈ys,Meas n y
variable{xs ys:List (Int×Int)}
theorem jac(h:ys.length=xs.length):(ja1 n xs ys).length=xs.length:=by
 unfold ja1;rw[bj,pR,h,Nat.min_self]
theorem DotOk.rows(h:DotOk n xs ys):RowOk n (ja1 n xs ys):=by
 refine⟨h.n1,h.n2,by rw[jac h.same];exact h.len,λp hp=>?_⟩;obtain⟨⟨a,b⟩,hq,rfl⟩:=bH.mp hp;have:=mn hq;exact(h.x a this.1).prod (h.y b this.2) h.n1 h.n2
theorem kx:∀(m:Nat) (lo:Int),jW lo 1 m=(bE m).map λ(i:Nat)=>D.int (lo+i)
 |0,lo=>rfl
 |m+1,lo=>by
  rw[jW,kx m (lo+1),jdR,bq,bN];congr 1
  ·simp
  ·refine bQ λi _=>?_
   simp only[n5,D.int.injEq,Nat.succ_eq_add_one];lia
theorem qB{f:D->(D->Prop)->Prop}{h:Nat->D}{m:Nat}{Q:List D->Prop}(k:∀i,i<m->∀Q,f (.int i) Q ↔ Q (h i)):kD f (jW 0 1 m) Q ↔ Q ((bE m).map h):=by
 rw[kx]
 refine jt λi hi Q=>?_
 have:=k i (dF.mp hi) Q
 rwa [t4]
end Z
set_option exponentiation.threshold 3000
namespace Z
open PySem
def xP(i_joined i_value i_one_form:Nat):Sm :=
 (.seq (.set 1 (.tup [(.cst (.int 0)),(.cst (.int 0))]))
 (.seq (.forE 2 (.var 0) (.seq (.set 1 (.call i_joined [(.var 1),(.var 2)]))
  .nop))
 (.seq (.ret (.call i_value [(.call i_one_form [(.var 1)])]))
 .nop)))
def yJ(i_exact_total:Nat):Sm :=
 (.seq (.ret (.call i_exact_total [(.var 0)]))
 .nop)
def yg(i_over i_exact_sum:Nat):Sm :=
 (.seq (.ret (.call i_over [(.call i_exact_sum [(.var 0)]),(.tup [(.bi .len [(.var 0)]),(.cst (.int 1))])]))
 .nop)
structure WideP (x:Int×Int):Prop where
 b:bits x.1<=130
 lo:-300<=x.2
 hi:x.2<=300
structure Wides (xs:List (Int×Int)):Prop where
 len:xs.length<=200
 all:∀x∈xs,WideP x
def vw(xs:List (Int×Int)):Rat:=(xs.map vr).sum
def c1(ok:List (Int×Int)->Prop)(f:List (Int×Int)->D):Ctr where
 pre ds:=∃xs,ds=[.lst (xs.map nq)]/\ok xs
 res ds d:=∀xs,ds=[.lst (xs.map nq)]->d=f xs
variable{xs:List (Int×Int)}
theorem QZ{ok f}{d:D}:(c1 ok f).res [.lst (xs.map nq)] d ↔ d=f xs:=by
 refine⟨λh=>h xs rfl,λh xs' e=>?_⟩;cases Jl e;exact h
variable{Q:D->Prop}{E:XD->Prop}
theorem wp_1{ok f}:(c1 ok f).wp [.lst (xs.map nq)] Q E ↔ ok xs/\Q (f xs):=by
 unfold Ctr.wp;simp only[QZ,forall_eq];refine⟨λ⟨⟨xs',e,h⟩,w,_⟩=>⟨?_,w⟩,λ⟨h,w⟩=>⟨⟨xs,rfl,h⟩,w,λ_ z=>z.elim⟩⟩;cases Jl e;exact h
variable{x:Int×Int}
theorem VO(h:XY x)(hb:bits x.1<=1000000)(h1:-1000000<=x.2)(h2:x.2<=1000000):yu.wp [nq x] Q E ↔ Q (rq (vr x)):=by
 obtain⟨n,_,hn⟩:=h.num;have e:=Xt (hn n (df _));unfold Ctr.wp yu nq;simp only[];rw[e];exact⟨λw=>w.2.1 _ rfl,λq=>⟨⟨⟨by lia,by lia⟩,by lia⟩,λd e=>by rw[e];exact q,λx z=>z.elim⟩⟩
variable{t:Int×Int}
theorem vd(h:Wides xs)(lo:-300<=t.2)(hl:∀x∈xs,t.2<=x.2)(e:vr t=vw xs):bits t.1<=1000:=by
 have e2:=Jr (m:=t.2) hl
 have e3:t.1=yy t.2 xs:=by
  have:(t.1:Rat)*tw t.2=((yy t.2 xs:Int):Rat)*tw t.2:=by rw[e2];exact e
  exact U7.mp this
 rw[e3]
 have:=v7 (m:=t.2) (B:=730) (xs:=xs) λx hx=>by
  have a1:=xU (w:=x.1) (k:=(x.2-t.2).toNat);have a2:=h.all x hx;have:=a2.b;have:=a2.hi;omega
 have:=h.len;lia
theorem vr_div0(t:Int×Int)(h:t.2<=0):vr t=dY t.1 (2^(-t.2).toNat):=by
 have:=VQ t.1 t.2;rw[show t.2.toNat=0 by lia]at this;unfold vr;rw[<- this];simp
theorem szr_pow{N:Nat}(h:t.2<=0)(hb:bits t.1<=N)(hl:-t.2+1<=N):szr N (vr t):=by
 rw[vr_div0 t h];have p:=two_pow_pos (-t.2).toNat;have:=qw t.1 (u:=2^(-t.2).toNat) (by lia);rw[kl]at this;exact⟨by lia,by lia⟩
theorem Xu(h:Wides xs):szr 1000 (vw xs):=by
 have:∃t:Int×Int,vr t=vw xs /\ -300<=t.2/\t.2<=0/\∀x∈xs,t.2<=x.2:=by
  refine⟨(yy (-300) xs,-300),?_,by simp,by simp,λx hx=>(h.all x hx).lo⟩
  exact Jr λx hx=>(h.all x hx).lo
 obtain⟨t,e,l1,l2,l3⟩:=this;rw[<- e];exact szr_pow l2 (vd h l1 l3 e) (by lia)
theorem jai:vw []=0:=rfl
def kQ:Ctr:=c1 Wides λxs=>rq (vw xs)
def qC:Ctr:=c1 Wides λxs=>rq (vw xs)
variable{i1 i2:Nat}
theorem JV{C:Cfg}{i3:Nat}(h1:C.ct i1=yF)(h2:C.ct i2=yu)(h3:C.ct i3=xk):jB C 3 (xP i1 i2 i3) kQ:=by
 rintro ds ⟨xs,rfl,g⟩;rw[xP];simp_all! only[]
 let P:List D->Sto->Prop:=λds σ=>∃(zs ys:List (Int×Int)) (t:Int×Int) (a:Option Sl),(zs++ys=xs/\ds=ys.map nq/\(-300<=t.2/\t.2<=0)/\(∀x∈zs,t.2<=x.2)/\vr t=vw zs) /\
  σ=[some (.sh (.lst (xs.map nq))),some (.sh (nq t)),a]
 refine jP (P []) ?_ ?_
 ·rw[zj]
  simp_arith only[jbg]
  refine qb P ⟨[],xs,(0,0),_,⟨rfl,rfl,by decide,λx hx=>absurd hx (by simp),by simp[vr,jai]⟩,rfl⟩ ?_ λσ h=>h
  rintro _ ds σ ⟨zs,ys,t,a,⟨ha,hd,⟨t1,t2⟩,hz,e⟩,rfl⟩
  cases ys with
  |nil=>simp at hd
  |cons y ys =>
   simp only[bq,bO]at hd;obtain⟨rfl,rfl⟩:=hd;have gy:=g.all y (by rw[<- ha];simp)
   have gz:Wides zs:=⟨by have:=g.len;rw[<- ha,b6]at this;lia,λx hx=>g.all x (by rw[<- ha];exact dh _ hx)⟩
   have bt:=vd gz t1 hz e
   have jo:jbs t y:=⟨⟨⟨by lia,by lia⟩,by lia⟩,⟨⟨by have:=gy.lo;lia,by have:=gy.hi;lia⟩,by have:=gy.b;lia⟩⟩
   simp_all! only[h1,yF,wp_P2,jo]
   have jp:(J1 t y).2=if y.2<t.2 then y.2 else t.2:=rfl
   have gl:=gy.lo;refine⟨zs ++ [y],ys,J1 t y,_,⟨by simp[ha],rfl,by rw[jp];split<;>lia,λx hx=>?_,?_⟩,rfl⟩
   ·rw[jp];rcases dI.mp hx with q|q
    ·have:=hz x q
     split<;>lia
    ·simp only[bz,bK,or_false]at q;subst q
     split<;>lia
   ·rw[vr_join,e];unfold vw;rw[de,gY];simp only[bq,dR,dH,mE]
    grind
 rintro σ ⟨zs,ys,t,a,⟨ha,hd,⟨t1,t2⟩,hz,e⟩,rfl⟩
 have hys:ys=[]:=by simpa using hd.symm
 subst hys;rw[di]at ha;subst ha;have bt:=vd g t1 hz e
 have ed:dq (vr t)=jS t.1 t.2:=by rw[uK];rfl
 have bb:=qo t.1 t.2;have hn:=bb.num (jh.mp bt);have hp:=bb.pow (jh.mp bt)
 have v2:=λQ E=>VO (Q:=Q) (E:=E) (x:=dq (vr t)) (by rw[ed];exact vc _ _) (by rw[ed];have:=jh.mpr hn.sz;lia) (by rw[ed];lia) (by rw[ed];lia)
 have ev:vr (dq (vr t))=vr t:=by rw[ed,xB];rfl
 simp_all! only[h2,h3,xk,wp_P0,v2,ev,kQ,QZ];rw[e]
theorem XF{C:Cfg}{i:Nat}(h1:C.ct i=kQ):jB C 1 (yJ i) qC:=by
 rintro ds ⟨xs,rfl,g⟩;simp_all! only[yJ,h1,kQ,wp_1,qC,QZ,g]
structure SmallP (x:Int×Int):Prop where
 b:bits x.1<=64
 lo:-130<=x.2
 hi:x.2<=130
structure Smalls (xs:List (Int×Int)):Prop where
 len:xs.length<=200
 all:∀x∈xs,SmallP x
theorem Smalls.wide(h:Smalls xs):Wides xs:=⟨h.len,λx hx=>⟨by have:=(h.all x hx).b;lia,by have:=(h.all x hx).lo;lia,by have:=(h.all x hx).hi;lia⟩⟩
theorem Meas.small{n:Nat}(h:Meas n x)(hn:n<=64):SmallP x:=⟨by have:=(h.ok hn).bits;lia,(h.ok hn).lo,(h.ok hn).hi⟩
variable{k:Nat}
theorem ZQ(h:1<=k):((k:Int):Rat)≠0:=by
 intro z;have:((k:Int):Rat)=((0:Int):Rat):=z;have:=mr.mp this;lia
theorem ZP(h:k<=60000):szr 20 ((k:Int):Rat):=szr_int (jh.mpr (by lia)) (by decide)
def qh:Ctr:=c1 (λxs=>Wides xs/\1<=xs.length) λxs=>rq (vw xs / ((xs.length:Int):Rat))
theorem QB{C:Cfg}(h1:C.ct i1=JH)(h2:C.ct i2=qC):jB C 1 (yg i1 i2) qh:=by
 rintro ds ⟨xs,rfl,g,g1⟩;have l:=g.len
 have o:((szr 4400 (vw xs)/\szr 4400 ((xs.length:Int):Rat))/\((xs.length:Int):Rat)≠0):=⟨⟨(Xu g).mono (by decide),(ZP (by lia)).mono (by decide)⟩,ZQ g1⟩
 simp_all! only[yg,h1,h2,qC,wp_1,g,bj,rq_int,wp_over,o,qh,QZ]
theorem JI{r:Rat}{t u:Int}(h:szr 9000 r)(hu:0<u)(bt:bits t<=1000000)(bu:bits u<=1000000)(e:r*(u:Rat)=t):kY.wp [rq r,.int t,.int u] Q E ↔ Q (.bl true):=by
 have e1:r.num*u=t*r.den:=by
  have a:(r.num:Rat)=r*((r.den:Int):Rat):=by
   have d:=Qo r;have e:=uf (t:=r.num) (u:=(r.den:Int)) d;rw[Rat.divInt_ofNat,Rat.mkRat_self]at e;exact e.symm
  have:((r.num*u:Int):Rat)=((t*r.den:Int):Rat):=by
   rw[bZ,bZ,a,<- e];grind
  exact mr.mp this
 have e2:gf r.num r.den=1:=by
  have:=r.reduced;unfold jfz at this;unfold gf;simpa using this
 unfold Ctr.wp kY rq;simp only[e1,e2,Qo r,and_self,decide_true];exact⟨λw=>w.2.1 _ rfl,λq=>⟨⟨⟨h.1,h.2⟩,bt,bu⟩,λd e=>by rw[e];exact q,λx z=>z.elim⟩⟩
theorem y8{B:Nat}:∀ {l:List Int},(∀x∈l,bits x<=B)->bits l.sum<=B+l.length
 |[],_=>by
  have:bits 0=0:=by decide
  simp only[mE,mF];lia
 |x::l,h=>by
  have ih:=y8 (l:=l) λy hy=>h y (bo _ hy)
  have h1:=h x (bC ..);have:=uH x l.sum;simp only[dH,dU];omega
end Z
set_option exponentiation.threshold 3000
namespace Z.K42
open PySem Z
def b_one_by_one:Sm :=
 (.seq (.new 1)
 (.seq (.forE 2 (.var 0) (.seq (.ext 1 (.var 2))
  .nop))
 (.seq (.shr 1)
 (.seq (.ret (.var 1))
 .nop))))
def b_least_power:Sm :=
 (.seq (.ret (.bi .min [(.compE (.var 0) (.ix (.var 1) (.cst (.int 1))))]))
 .nop)
def b_in_steps(i_two_to:Nat):Sm :=
 (.seq (.ret (.compE (.var 0) (.bin .mul (.ix (.var 2) (.cst (.int 0))) (.call i_two_to [(.bin .sub (.ix (.var 2) (.cst (.int 1))) (.var 1))]))))
 .nop)
def tabD(rows:List (List (Int×Int))):D:=.lst (rows.map λr=>.lst (r.map nq))
theorem vD(n d k:Nat):sIx n d (some (k:Int))=min k n:=by
 show (if (k:Int)<0 then ((k:Int)+(n:Int)).toNat else min (k:Int).toNat n)=min k n;rw[if_neg (by lia),bV]
variable{xs:List (Int×Int)}{i:Nat}
theorem cut_row{A N:Nat}(h:xs.length=N*A)(hi:i<N):yr (xs.map nq) (some ((i:Int)*A)) (some (((i:Int)+1)*A))=((xs.drop (i*A)).take A).map nq:=by
 have e1:(i:Int)*A=((i*A:Nat):Int):=by push_cast;rfl
 have e2:((i:Int)+1)*A=(((i+1)*A:Nat):Int):=by push_cast;rfl
 have le:(i+1)*A<=N*A:=mM A hi;have ex:(i+1)*A=i*A+A:=jcO i A;unfold yr;rw[e1,e2,bj,h,vD,vD,wY (by lia),wY (by lia),jdq,List.map_drop];congr 1;lia
def c_one_by_one:Ctr where
 pre ds:=∃rows,ds=[tabD rows]/\rows.flatten.length<=200
 res ds d:=∀rows,ds=[tabD rows]->d=.lst (rows.flatten.map nq)
theorem yp{r r':List (List (Int×Int))}(h:[tabD r]=[tabD r']):r=r':=by
 unfold tabD at h;simp only[bO,D.lst.injEq,and_true]at h;exact kq (λa b e=>XA e) h
theorem k_one_by_one{C:Cfg}:jB C 3 b_one_by_one c_one_by_one:=by
 rintro ds ⟨rows,rfl,hl⟩;rw[b_one_by_one,tabD];simp_all! only[]
 let P:List D->Sto->Prop:=λds σ=>∃(pre post:List (List (Int×Int))) (a:Option Sl),(pre++post=rows/\ds=post.map λr=>.lst (r.map nq))/\σ=[some (.sh (.lst (rows.map λr=>.lst (r.map nq)))),some (.ow (pre.flatten.map nq)),a]
 refine jP (P []) ?_ ?_
 ·rw[zj]
  simp_arith only[]
  refine qb P ⟨[],rows,none,⟨rfl,rfl⟩,rfl⟩ ?_ λσ h=>h
  rintro d ds σ ⟨pre,post,a,⟨hp,hd⟩,rfl⟩
  cases post with
  |nil=>cases hd
  |cons r post =>
   simp only[bq,bO]at hd;obtain⟨rfl,rfl⟩:=hd
   have e:(pre ++ [r]).flatten=pre.flatten++r:=by simp
   have ll:pre.flatten.length+r.length<=200:=by
    rw[<- hp]at hl;simp only[List.flatten_append,ma,b6]at hl;lia
   simp_all! only[extD,bj]
   have es:pre.flatten.map nq++r.map nq=(pre ++ [r]).flatten.map nq:=by rw[e,de]
   refine⟨by rw[bj,bj];unfold lim;lia,?_⟩;rw[es];exact⟨pre ++ [r],post,_,⟨by rw[<- hp];simp,rfl⟩,rfl⟩
 rintro σ ⟨pre,post,a,⟨hp,hd⟩,rfl⟩
 have:post=[]:=by simpa using hd.symm
 subst this;rw[di]at hp;subst hp;simp_all! only[];intro rows' e;rw[yp e]
variable{Q:D->Prop}{E:XD->Prop}
theorem wp_obo{rows:List (List (Int×Int))}(h:rows.flatten.length<=200):c_one_by_one.wp [tabD rows] Q E ↔ Q (.lst (rows.flatten.map nq)) :=
 ⟨λw=>w.2.1 _ λr e=>by rw[yp e],λq=>⟨⟨rows,rfl,h⟩,λd hd=>by rw[hd rows rfl];exact q,λ_ z=>z.elim⟩⟩
def c_least_power:Ctr:=c1 (λxs=>xs ≠ []/\xs.length<=200) λxs=>.int (mmF false 0 (xs.map (·.2)))
theorem k_least_power{C:Cfg}:jB C 1 b_least_power c_least_power:=by
 rintro ds ⟨xs,rfl,h0,hl⟩;rw[b_least_power];simp_all! only[bj];refine⟨by unfold lim;lia,?_⟩;rw[jt (g:=nq) (h:=λx:Int×Int=>D.int x.2) (λx _ Q=>by rw[xh]),show (xs.map λx=>D.int x.2)=(xs.map (·.2)).map .int by rw[bN];rfl,Qt];refine⟨by simpa using h0,?_⟩;rw[c_least_power,QZ]
def atW(low:Int)(x:Int×Int):Int:=x.1*2^(x.2-low).toNat
def c_in_steps:Ctr where
 pre ds:=∃(xs:List (Int×Int)) (p:Int),ds=[.lst (xs.map nq),.int p]/\Smalls xs /\ -200<=p/\∀x∈xs,p<=x.2
 res ds d:=∀(xs:List (Int×Int)) (p:Int),ds=[.lst (xs.map nq),.int p]->d=.lst (xs.map λx=>.int (atW p x))
variable{p:Int}
theorem jbl{xs':List (Int×Int)}{p':Int}(e:[D.lst (xs.map nq),.int p]=[D.lst (xs'.map nq),.int p']):xs=xs'/\p=p':=by
 simp only[bO,D.int.injEq,and_true]at e;exact⟨XA e.1,e.2⟩
theorem Vy{k:Int}(h:0<=k/\k<=1000000):kO.wp [.int k] Q E ↔ Q (.int (2^k.toNat)) :=
 ⟨λq=>q.2.1 _ rfl,λq=>⟨h,λd e=>by rw[e];exact q,λ_ z=>z.elim⟩⟩
theorem k_in_steps{C:Cfg}(h1:C.ct i=kO):jB C 2 (b_in_steps i) c_in_steps:=by
 rintro ds ⟨xs,p,rfl,g,hp,hx⟩;have hl:=g.len;rw[b_in_steps];simp_all! only[bj];refine⟨by unfold lim;lia,?_⟩
 rw[jt (g:=nq) (h:=λx:Int×Int=>D.int (atW p x)) (λx hx' Q=>by
  have h2:=hx x hx';have h3:=(g.all x hx').hi;have h4:=(g.all x hx').b
  have w:=λQ E=>Vy (k:=x.2-p) (Q:=Q) (E:=E) ⟨by lia,by lia⟩
  have b:bits ((2:Int)^(x.2-p).toNat)<=400:=by rw[kl];lia
  have mo:ku x.1 (2^(x.2-p).toNat):=ji (by lia);dsimp! only[xK,xh,h1,w,mo]
  rfl)]
 intro xs' p' e;obtain⟨rfl,rfl⟩:=jbl e;rfl
theorem XR(g:Smalls xs)(hp:-200<=p)(hx:∀x∈xs,p<=x.2):c_in_steps.wp [.lst (xs.map nq),.int p] Q E ↔ Q (.lst (xs.map λx=>.int (atW p x))):=by
 constructor
 ·intro w
  refine w.2.1 _ λxs' p' e=>?_
  obtain⟨rfl,rfl⟩:=jbl e;rfl
 ·intro q;exact⟨⟨xs,p,rfl,g,hp,hx⟩,λd h=>by rw[h xs p rfl];exact q,λ_ z=>z.elim⟩
end Z.K42
set_option exponentiation.threshold 3000
namespace Z.K40
open PySem Z Z.K42
variable{p:Nat}
theorem getD_at{α:Type}{r:List α}{z:α}(h:p<r.length):r.getD p z=r[p]:=by simp[jdA,bD h]
theorem UL{r:List (Int×Int)}(h:p<r.length):atD (r.map nq) (p:Int)=some (nq (r.getD p (0,0))):=by
 unfold atD;rw[if_pos (by lia),bV,bY,bD h,getD_at h];rfl
theorem zK{α:Type}{f:D->(List D->Prop)->Prop}{g:α->D}{h:α->List D}:∀ {l:List α} {Q:List (List D)->Prop},(∀a∈l,∀Q,f (g a) Q ↔ Q (h a))->(qI f (l.map g) Q ↔ Q (l.map h))
 |[],Q,_=>Iff.rfl
 |a::l,Q,k=>by
  rw[bq,bq,qI,k a (bC ..),zK λb hb=>k b (bo _ hb)]
theorem Qk{f:D->(List D->Prop)->Prop}{h:Nat->List D}{m:Nat}{Q:List (List D)->Prop}(k:∀i,i<m->∀Q,f (.int i) Q ↔ Q (h i)):qI f (jW 0 1 m) Q ↔ Q ((bE m).map h):=by
 rw[kx,zK (h:=h) (λi hi Q=>by rw[t4];exact k i (dF.mp hi) Q)]
theorem Js(T:List (List (Int×Int))):K42.tabD T=kC (T.map λr=>r.map nq):=by
 unfold K42.tabD kC;rw[bN];rfl
end Z.K40
set_option exponentiation.threshold 3000
namespace Z.J51
open PySem Z Z.K42 Z.K40
def b_rows_in_steps(i_in_steps:Nat):Sm :=
 (.seq (.ret (.compE (.var 0) (.call i_in_steps [(.var 2),(.var 1)])))
 .nop)
def b_rows_of_fit(i_rows_in_steps i_least_power i_one_by_one c_ONE:Nat):Sm :=
 (.seq (.set 3 (.compE (.var 0) (.bin .add (.bin .add (.lst [(.con c_ONE)]) (.compE (.var 1) (.ix (.var 4) (.var 5)))) (.lst [(.ix (.var 4) (.var 2))]))))
 (.seq (.ret (.call i_rows_in_steps [(.var 3),(.call i_least_power [(.call i_one_by_one [(.var 3)])])]))
 .nop))
def b_whole_dot:Sm :=
 (.seq (.ret (.bi .sum [(.compZ (.var 0) (.var 1) (.bin .mul (.ix (.var 2) (.cst (.int 0))) (.ix (.var 2) (.cst (.int 1)))))]))
 .nop)
def b_common_under(i_common_divisor:Nat):Sm :=
 (.seq (.set 1 (.cst (.int 1)))
 (.seq (.forE 2 (.var 0) (.seq (.set 1 (.bin .fdiv (.bin .mul (.var 1) (.ix (.var 2) (.cst (.int 1)))) (.call i_common_divisor [(.var 1),(.ix (.var 2) (.cst (.int 1)))])))
  .nop))
 (.seq (.ret (.var 1))
 .nop)))
def b_missed_tops(i_whole_dot:Nat):Sm :=
 (.seq (.ret (.compE (.var 0) (.bin .sub (.bin .mul (.ix (.var 3) (.neg (.cst (.int 1)))) (.var 2)) (.call i_whole_dot [(.slc (.var 3) (.cst .non) (.neg (.cst (.int 1)))),(.var 1)]))))
 .nop)
def b_missed(i_rows_of_fit i_common_under i_missed_tops:Nat):Sm :=
 (.seq (.set 4 (.call i_rows_of_fit [(.var 0),(.var 1),(.var 2)]))
 (.seq (.set 5 (.call i_common_under [(.var 3)]))
 (.seq (.set 6 (.compE (.var 3) (.bin .mul (.ix (.var 7) (.cst (.int 0))) (.bin .fdiv (.var 5) (.ix (.var 7) (.cst (.int 1)))))))
 (.seq (.ret (.tup [(.call i_missed_tops [(.var 4),(.var 6),(.var 5)]),(.bin .mul (.var 5) (.ix (.ix (.var 4) (.cst (.int 0))) (.cst (.int 0))))]))
 .nop))))
def b_misses(i_missed i_ratio i_whole_dot:Nat):Sm :=
 (.seq (.set 4 (.call i_missed [(.var 0),(.var 1),(.var 2),(.var 3)]))
 (.seq (.ret (.call i_ratio [(.call i_whole_dot [(.ix (.var 4) (.cst (.int 0))),(.ix (.var 4) (.cst (.int 0)))]),(.bin .mul (.ix (.var 4) (.cst (.int 1))) (.ix (.var 4) (.cst (.int 1))))]))
 .nop))
def wD(M:List (List Int)):D:=.lst (M.map λr=>.lst (r.map .int))
def plD(ps:List Nat):D:=.lst (ps.map λp:Nat=>.int p)
def c_rows_in_steps:Ctr where
 pre ds:=∃(rows:List (List (Int×Int))) (p:Int),ds=[tabD rows,.int p]/\rows.length<=200/\(∀r∈rows,Smalls r) /\ -200<=p/\∀r∈rows,∀x∈r,p<=x.2
 res ds d:=∀(rows:List (List (Int×Int))) (p:Int),ds=[tabD rows,.int p]->d=wD (rows.map λr=>r.map (atW p))
variable{p:Int}
theorem injs{r r':List (List (Int×Int))}{p':Int}(h:[tabD r,D.int p]=[tabD r',D.int p']):r=r'/\p=p':=by
 simp only[bO,D.int.injEq,and_true]at h;exact⟨yp (by rw[h.1]),h.2⟩
variable{i:Nat}
theorem k_rows_in_steps{C:Cfg}(h1:C.ct i=c_in_steps):jB C 2 (b_rows_in_steps i) c_rows_in_steps:=by
 rintro ds ⟨rows,p,rfl,hl,g,hp,hx⟩;rw[b_rows_in_steps,tabD];simp_all! only[bj];refine⟨by unfold lim;lia,?_⟩
 rw[jt (g:=λr:List (Int×Int)=>D.lst (r.map nq)) (h:=λr=>D.lst ((r.map (atW p)).map .int)) (λr hr Q=>by
  have w:=λQ E=>XR (Q:=Q) (E:=E) (g r hr) hp (hx r hr)
  dsimp! only[h1,w,bN]
  rfl)]
 intro rows' p' e;obtain⟨rfl,rfl⟩:=injs (r:=rows) e;unfold wD;rw[bN];rfl
variable{Q:D->Prop}{E:XD->Prop}
theorem wp_ris{rows:List (List (Int×Int))}(hl:rows.length<=200)(g:∀r∈rows,Smalls r)(hp:-200<=p)(hx:∀r∈rows,∀x∈r,p<=x.2):c_rows_in_steps.wp [tabD rows,.int p] Q E ↔ Q (wD (rows.map λr=>r.map (atW p))) :=
 ⟨λw=>w.2.1 _ λr p' e=>by obtain⟨rfl,rfl⟩:=injs e;rfl,λq=>⟨⟨rows,p,rfl,hl,g,hp,hx⟩,λd h=>by rw[h rows p rfl];exact q,λ_ z=>z.elim⟩⟩
def jY(ps:List Nat)(t:Nat)(r:List (Int×Int)):List (Int×Int):=((1,0)::ps.map λp=>r.getD p (0,0)) ++ [r.getD t (0,0)]
structure FitOk (T:List (List (Int×Int))) (ps:List Nat) (t:Nat):Prop where
 n0:T ≠ []
 few:T.length<=60
 cells:T.length*(ps.length+2)<=200
 up:∀r∈T,∀x∈r,x.2+bits x.1<=64
 pl:ps.length<=3
 p1:1<=ps.length
 row:∀r∈T,Smalls r/\t<r.length/\∀p∈ps,p<r.length
theorem vV{r:List (Int×Int)}{p:Nat}(g:Smalls r)(h:p<r.length):SmallP (r.getD p (0,0)):=by
 rw[K40.getD_at h];exact g.all _ (dP h)
theorem Kh:SmallP ((1,0):Int×Int):=⟨by decide,by decide,by decide⟩
variable{T:List (List (Int×Int))}{ps:List Nat}{t:Nat}
theorem FitOk.sm(g:FitOk T ps t):∀r∈T,Smalls (jY ps t r):=by
 intro r hr;obtain⟨s,ht,hp⟩:=g.row r hr;refine⟨by have:=g.pl;unfold jY;simp;lia,λx hx=>?_⟩;unfold jY at hx;rcases dI.mp hx with z|z
 ·rcases bz.mp z with rfl|z
  ·exact Kh
  ·obtain⟨p,hp',rfl⟩:=bH.mp z;exact vV s (hp p hp')
 ·simp only[bz,bK,or_false]at z;subst z;exact vV s ht
theorem zi(ps:List Nat)(t:Nat)(r:List (Int×Int)):(jY ps t r).length=ps.length+2:=by unfold jY;simp
theorem QI{ps:List Nat}{t:Nat}:∀(T:List (List (Int×Int))),(T.map (jY ps t)).flatten.length=T.length*(ps.length+2)
 |[]=>by simp
 |r::T=>by rw[bq,ma,b6,QI T,zi,dU,jcO];lia
structure LowOk (T:List (List (Int×Int))) (ps:List Nat) (t:Nat) (low:Int):Prop where
 lo:-130<=low
 hi:low<=0
 le:∀r∈T,∀x∈jY ps t r,low<=x.2
 at_:∃r∈T,∃x∈jY ps t r,x.2=low
def c_rows_of_fit:Ctr where
 pre ds:=∃T ps t,ds=[tabD T,plD ps,.int (t:Nat)]/\FitOk T ps t
 res ds d:=∀T ps t,ds=[tabD T,plD ps,.int (t:Nat)]->∃low,LowOk T ps t low/\d=wD (T.map λr=>(jY ps t r).map (atW low))
variable{qs:List Rat}
theorem jaQ{qs:List Nat}(h:plD ps=plD qs):ps=qs:=by
 unfold plD at h;injection h with h;exact kq (λa b e=>by injection e with e;lia) h
variable{T':List (List (Int×Int))}{ps':List Nat}{t':Nat}
theorem injf(h:[tabD T,plD ps,D.int t]=[tabD T',plD ps',D.int t']):T=T'/\ps=ps'/\t=t':=by
 simp only[bO,D.int.injEq,and_true]at h;exact⟨yp (by rw[h.1]),jaQ h.2.1,by lia⟩
variable{i1 i2 i3:Nat}
theorem k_rows_of_fit{C:Cfg}{c:Nat}(h1:C.ct i1=c_rows_in_steps)(h2:C.ct i2=c_least_power)(h3:C.ct i3=c_one_by_one)(e1:C.cn c=.tup [.int 1,.int 0]):jB C 4 (b_rows_of_fit i1 i2 i3 c) c_rows_of_fit:=by
 rintro ds ⟨T,ps,t,rfl,g⟩;have few:=g.few;have pl:=g.pl;rw[b_rows_of_fit,tabD,plD];simp_all! only[bj];refine⟨by unfold lim;lia,?_⟩
 rw[jt (g:=λr:List (Int×Int)=>D.lst (r.map nq)) (h:=λr=>D.lst ((jY ps t r).map nq)) (λr hr Q=>by
  obtain⟨s,ht,hp⟩:=g.row r hr;have at_:=UL ht;dsimp! only[e1,bj]
  have l4:ps.length<=lim:=by unfold lim;lia
  rw[and_iff_right l4,jt (g:=λp:Nat=>D.int p) (h:=λp=>nq (r.getD p (0,0))) (λp hp' Q=>by
   have a:=UL (hp p hp')
   dsimp! only[a])]
  dsimp! only[at_,bj,b6]
  have l5:0+1+ps.length<=lim:=by unfold lim;lia
  have l6:ps.length+1+(0+1)<=lim:=by unfold lim;lia
  simp only[l5,l6,true_and,jY,de,bq,dR,bN,bW,dz]
  rfl)]
 have eT:D.lst (T.map λr=>D.lst ((jY ps t r).map nq))=tabD (T.map (jY ps t)):=by unfold tabD;rw[bN];rfl
 rw[eT];have fl:=QI (ps:=ps) (t:=t) T;have f2:=g.cells
 have fw:=λQ E=>wp_obo (rows:=T.map (jY ps t)) (Q:=Q) (E:=E) (by lia)
 have ne:(T.map (jY ps t)).flatten ≠ []:=by
  intro z;have:=congrArg jdc z;rw[fl]at this;have:0<T.length:=ph.mpr g.n0;have:1*2<=T.length*(ps.length+2):=Nat.mul_le_mul (by lia) (by lia);simp at *;lia
 have few2:(T.map (jY ps t)).flatten.length<=200:=by lia
 simp_all! only[h3,fw,h2,c_least_power,wp_1,ne,few2];obtain⟨p1,p2⟩:=QF (d:=0) (ns:=(T.map (jY ps t)).flatten.map (·.2));generalize mmF false 0 ((T.map (jY ps t)).flatten.map (·.2))=low at *
 have le:∀r∈T,∀x∈jY ps t r,low<=x.2:=λr hr x hx=>p1 _ (bH.mpr ⟨x,jfs.mpr ⟨_,bH.mpr ⟨r,hr,rfl⟩,hx⟩,rfl⟩)
 have at_:∃r∈T,∃x∈jY ps t r,x.2=low:=by
  rcases p2 with z|z
  ·obtain⟨x,hx,e⟩:=bH.mp z;obtain⟨l,hl,hx⟩:=jfs.mp hx;obtain⟨r,hr,rfl⟩:=bH.mp hl;exact⟨r,hr,x,hx,e⟩
  ·exact absurd (w8.mp z.1) ne
 have lo:-130<=low:=by
  obtain⟨r,hr,x,hx,e⟩:=at_;have:=((g.sm r hr).all x hx).lo;lia
 have hi:low<=0:=by
  obtain⟨r,rs,e⟩:=nF g.n0;exact le r (by rw[e];exact bC ..) (1,0) (by unfold jY;simp)
 have w4:=λQ E=>wp_ris (rows:=T.map (jY ps t)) (p:=low) (Q:=Q) (E:=E) (by rw[bj];lia) (λl hl=>by obtain⟨r,hr,rfl⟩:=bH.mp hl;exact g.sm r hr) (by lia) (λl hl=>by obtain⟨r,hr,rfl⟩:=bH.mp hl;exact le r hr)
 simp_all! only[h1,w4];intro T' ps' t' e;obtain⟨rfl,rfl,rfl⟩:=injf (T:=T) (ps:=ps) (t:=t) e;exact⟨low,⟨lo,hi,le,at_⟩,by rw[bN];rfl⟩
theorem jag(g:FitOk T ps t):c_rows_of_fit.wp [tabD T,plD ps,.int t] Q E ↔ ∀low,LowOk T ps t low->Q (wD (T.map λr=>(jY ps t r).map (atW low))):=by
 constructor
 ·intro w low hl
  refine w.2.1 _ λT' ps' t' e=>?_
  obtain⟨rfl,rfl,rfl⟩:=injf e;exact⟨low,hl,rfl⟩
 ·intro q;refine⟨⟨T,ps,t,rfl,g⟩,λd h=>?_,λ_ z=>z.elim⟩;obtain⟨low,hl,rfl⟩:=h T ps t rfl;exact q low hl
def j8(as bs:List Int):Int:=((as.zip bs).map λp=>p.1*p.2).sum
def c_whole_dot:Ctr where
 pre ds:=∃as bs:List Int,ds=[.lst (as.map .int),.lst (bs.map .int)]/\as.length<=200/\(∀a∈as,bits a<=20000)/\∀b∈bs,bits b<=20000
 res ds d:=∀as bs:List Int,ds=[.lst (as.map .int),.lst (bs.map .int)]->d=.int (j8 as bs)
variable{as:List Int}
theorem y7{bs:List Int}(h:D.lst (as.map .int)=D.lst (bs.map .int)):as=bs:=by
 injection h with h;exact kq (λa b e=>by injection e) h
theorem injd{bs as' bs':List Int}(e:[D.lst (as.map .int),.lst (bs.map .int)]=[D.lst (as'.map .int),.lst (bs'.map .int)]):as=as'/\bs=bs':=by
 simp only[bO,and_true]at e;exact⟨y7 e.1,y7 e.2⟩
theorem uE(as bs:List Int):zD (as.map .int) (bs.map .int)=(as.zip bs).map λp=>.tup [.int p.1,.int p.2]:=by
 unfold zD;rw[List.zip_map,bN];rfl
theorem k_whole_dot{C:Cfg}:jB C 2 b_whole_dot c_whole_dot:=by
 rintro ds ⟨as,bs,rfl,hl,ha,hb⟩
 have hz:(zD (as.map .int) (bs.map .int)).length<=lim:=by
  rw[uE,bj,pR];unfold lim;lia
 rw[b_whole_dot];simp_all! only[];refine⟨_,_,⟨rfl,rfl⟩,hz,?_⟩
 rw[uE,jt (h:=λp:Int×Int=>D.int (p.1*p.2)) (λp hp Q=>by
  have:=mn hp;have m:ku p.1 p.2:=ji (by have x:=ha _ this.1;have y:=hb _ this.2;lia)
  dsimp! only[m])]
 rw[show ((as.zip bs).map λp:Int×Int=>D.int (p.1*p.2))=((as.zip bs).map λp=>p.1*p.2).map .int by rw[bN];rfl,YI];intro as' bs' e;obtain⟨rfl,rfl⟩:=injd e;rfl
theorem jcg{bs:List Int}(hl:as.length<=200)(ha:∀a∈as,bits a<=20000)(hb:∀b∈bs,bits b<=20000):c_whole_dot.wp [.lst (as.map .int),.lst (bs.map .int)] Q E ↔ Q (.int (j8 as bs)) :=
 ⟨λw=>w.2.1 _ λas' bs' e=>by obtain⟨rfl,rfl⟩:=injd e;rfl,λq=>⟨⟨as,bs,rfl,hl,ha,hb⟩,λd h=>by rw[h as bs rfl];exact q,λ_ z=>z.elim⟩⟩
theorem vU{bs:List Int}{A B:Nat}(ha:∀a∈as,bits a<=A)(hb:∀b∈bs,bits b<=B):bits (j8 as bs)<=A+B+as.length:=by
 unfold j8
 have:=y8 (B:=A+B) (l:=(as.zip bs).map λp=>p.1*p.2) λx hx=>by
  obtain⟨p,hp,rfl⟩:=bH.mp hx;have q:=mn hp;have:=jC p.1 p.2;have:=ha _ q.1;have:=hb _ q.2;lia
 rw[bj,pR]at this;lia
structure UnderOk (qs:List Rat) (u:Int):Prop where
 pos:0<u
 dvd:∀q∈qs,(q.den:Int) ∣ u
 b:∀m:Int,(∀q∈qs,(q.den:Int) ∣ m)->u ∣ m
structure PartB (qs:List Rat):Prop where
 sz:∀q∈qs,szr 1900 q
 mm:∃m:Int,0<m/\bits m<=1900/\∀q∈qs,(q.den:Int) ∣ m
variable{u:Int}
theorem UnderOk.bits{zs:List Rat}(h:UnderOk zs u)(p:PartB qs)(hz:∀q∈zs,q∈qs):bits u<=1900:=by
 obtain⟨m,m0,mb,md⟩:=p.mm;have:=jdr m0 (h.b m λq hq=>md q (hz q hq));have:=h.pos;exact bS (jX (by lia)) mb
def c_common_under:Ctr where
 pre ds:=∃qs:List Rat,ds=[.lst (qs.map rq)]/\PartB qs
 res ds d:=∀qs:List Rat,ds=[.lst (qs.map rq)]->∃u,UnderOk qs u/\d=.int u
theorem K5{as bs:List Rat}(h:D.lst (as.map rq)=D.lst (bs.map rq)):as=bs:=by
 injection h with h;exact kq (λa b e=>ZG e) h
theorem qq(r:Rat):(0:Int)<r.den:=by have:=r.den_nz;lia
theorem Jp{d:Int}(hu:0<u)(hd:0<d):∃v,(u*d).fdiv (gf u d)=v/\0<v/\u ∣ v/\d ∣ v/\(∀m,u ∣ m->d ∣ m->v ∣ m)/\bits v<=bits u+bits d:=by
 have g0:0<gf u d:=m9 _ (by lia)
 have e:u*d=(Int.lcm u d:Int)*(gf u d:Int):=by
  have:=Int.gcd_mul_lcm u d;have h:(((u*d).natAbs:Nat):Int)=u*d:=Int.natAbs_of_nonneg (sj (nU hu hd));rw[<- h,mi,<- this,Int.natCast_mul,mK]
 refine⟨Int.lcm u d,?_,?_,Int.dvd_lcm_left ..,Int.dvd_lcm_right ..,λm h1 h2=>Int.coe_lcm_dvd h1 h2,?_⟩
 ·rw[e];exact m7 _ (by lia)
 ·have:=Int.lcm_pos (m:=u) (n:=d) (by lia) (by lia);lia
 ·refine bS (jX ?_) (jC u d);have:=jdr (nU hu hd) (show (Int.lcm u d:Int) ∣ u*d from ⟨_,e⟩);lia
theorem k_common_under{C:Cfg}(h1:C.ct i=jD):jB C 3 (b_common_under i) c_common_under:=by
 rintro ds ⟨qs,rfl,pb⟩;rw[b_common_under];simp_all! only[]
 let P:List D->Sto->Prop:=λds σ=>∃(zs ys:List Rat) (u:Int) (a:Option Sl),(zs++ys=qs/\ds=ys.map rq/\UnderOk zs u)/\σ=[some (.sh (.lst (qs.map rq))),some (.sh (.int u)),a]
 refine jP (P []) ?_ ?_
 ·rw[zj]
  simp_arith only[]
  refine qb P ⟨[],qs,1,_,⟨rfl,rfl,by decide,λq hq=>absurd hq (by simp),λm _=>jej m⟩,rfl⟩ ?_ λσ h=>h
  rintro _ ds σ ⟨zs,ys,u,a,⟨ha,hd,g⟩,rfl⟩
  cases ys with
  |nil=>simp at hd
  |cons y ys =>
   simp only[bq,bO]at hd;obtain⟨rfl,rfl⟩:=hd;have sy:=pb.sz y (by rw[<- ha];simp)
   have bu:=g.bits pb λq hq=>by rw[<- ha];exact dh _ hq
   have mo:ku u y.den:=ji (by have:=sy.2;lia);have dy:=qq y;obtain⟨v,ev,v0,v1,v2,v3,_⟩:=Jp g.pos dy;have g0:0<gf u y.den:=m9 _ (by have:=g.pos;lia)
   have gb:bits (gf u y.den:Int)<=9000:=by
    refine bS (jX ?_) (bS sy.2 (by decide));have:=wA (by lia) (n6 u y.den);lia
   simp_all! only[zO,mo,h1,Ctr.wp,jD,ev];refine⟨⟨by lia,gb⟩,zs ++ [y],ys,v,_,⟨by simp[ha],rfl,v0,λq hq=>?_,λm hq=>?_⟩,rfl⟩
   ·rcases dI.mp hq with z|z
    ·exact pU (g.dvd q z) v1
    ·simp only[bz,bK,or_false]at z;subst z;exact v2
   ·exact v3 _ (g.b _ λq hq'=>hq q (dh _ hq')) (hq y (by simp))
 rintro σ ⟨zs,ys,u,a,⟨ha,hd,g⟩,rfl⟩
 have:ys=[]:=by simpa using hd.symm
 subst this;rw[di]at ha;subst ha;simp_all! only[];intro qs' e;have e:=K5 (n9 e).1;subst e;exact⟨u,g,rfl⟩
theorem wp_cu(pb:PartB qs):c_common_under.wp [.lst (qs.map rq)] Q E ↔ ∀u,UnderOk qs u->Q (.int u):=by
 constructor
 ·intro w u g
  refine w.2.1 _ λqs' e=>?_
  have e:=K5 (n9 e).1;subst e;exact⟨u,g,rfl⟩
 ·intro q;refine⟨⟨qs,rfl,pb⟩,λd h=>?_,λ_ z=>z.elim⟩;obtain⟨u,g,rfl⟩:=h qs rfl;exact q u g
def KQ(xs:List (Int×Int))(qs:List Rat):Rat:=((xs.zip qs).map λz=>vr z.1*z.2).sum
theorem u7(x:Int×Int)(xs:List (Int×Int))(q:Rat)(qs:List Rat):KQ (x::xs) (q::qs)=vr x*q+KQ xs qs:=by
 unfold KQ;rw[tG,bq,dH]
theorem jah:vr ((1,0):Int×Int)=1:=by unfold vr;simp[yo]
variable{low:Int}{x:Int×Int}
theorem atW_vr(h:low<=x.2):((atW low x:Int):Rat)=vr x*tw (-low):=by
 have e:=j9 low (x.2-low).toNat;rw[show low+((x.2-low).toNat:Nat)=x.2 by lia]at e;have e2:=Jf low;unfold atW vr;rw[e,bZ]
 grind
def j5(u:Int)(q:Rat):Int:=q.num*u.fdiv q.den
theorem q_den(q:Rat):q*((q.den:Int):Rat)=(q.num:Rat):=by
 have:=tF q;rw[mW]at this
 conv=>lhs;lhs;rw[<- this]
 exact jeV (by have:=qq q;intro z;have:((q.den:Int):Rat)=((0:Int):Rat):=z;have:=mr.mp this;lia)
variable{q:Rat}
theorem Q0(h:(q.den:Int) ∣ u):((j5 u q:Int):Rat)=q*u:=by
 obtain⟨k,rfl⟩:=h;have d:=qq q
 have f:((q.den:Int)*k).fdiv q.den=k:=by rw[mK];exact m7 _ (by lia)
 unfold j5;rw[f,bZ,bZ];have:=q_den q
 grind
theorem Qm{low u:Int}:∀(xs:List (Int×Int)) (qs:List Rat),(∀x∈xs,low<=x.2)->(∀q∈qs,(q.den:Int) ∣ u)->((j8 (xs.map (atW low)) (qs.map (j5 u)):Int):Rat)=KQ xs qs*u*tw (-low)
 |[],qs,_,_=>by simp[j8,KQ]
 |x::xs,[],_,_=>by simp[j8,KQ]
 |x::xs,q::qs,hx,hq=>by
  have ih:=Qm xs qs (λy hy=>hx y (bo _ hy)) (λy hy=>hq y (bo _ hy));have e1:=atW_vr (hx x (bC ..));have e2:=Q0 (hq q (bC ..));rw[u7,bq,bq]
  have:j8 (atW low x::xs.map (atW low)) (j5 u q::qs.map (j5 u))=atW low x*j5 u q+j8 (xs.map (atW low)) (qs.map (j5 u)):=by
   unfold j8;rw[tG,bq,dH]
  rw[this,pQ,bZ,ih,e1,e2]
  grind
def j6(ps:List Nat)(r:List (Int×Int)):List (Int×Int):=(1,0)::ps.map λp=>r.getD p (0,0)
def km(ps:List Nat)(t:Nat)(qs:List Rat)(r:List (Int×Int)):Rat:=vr (r.getD t (0,0))-KQ (j6 ps r) qs
def yA(r:List Int):Int:=r.getLast?.getD 0
def c_missed_tops:Ctr where
 pre ds:=∃(M:List (List Int)) (ts:List Int) (u:Int),ds=[wD M,.lst (ts.map .int),.int u]/\(M.length<=200/\bits u<=9000)/\(∀r∈M,r ≠ []/\r.length<=200/\∀a∈r,bits a<=9000)/\∀a∈ts,bits a<=9000
 res ds d:=∀(M:List (List Int)) (ts:List Int) (u:Int),ds=[wD M,.lst (ts.map .int),.int u]->d=.lst (M.map λr=>.int (yA r*u-j8 r.dropLast ts))
variable{M:List (List Int)}
theorem yz{N:List (List Int)}(h:wD M=wD N):M=N:=by
 unfold wD at h;injection h with h;exact kq (λa b e=>y7 e) h
theorem KY{r:List Int}(h:r ≠ []):atD (r.map .int) (-1)=some (.int (yA r)):=by
 have l:0<r.length:=ph.mpr h;unfold atD yA;rw[if_neg (by decide),bj,if_pos (by lia),bY,show (-1+(r.length:Int)).toNat=r.length-1 by lia,<- List.getLast?_eq_getElem?,wN h];rfl
theorem jaB(r:List Int):yr (r.map .int) none (some (-1))=r.dropLast.map .int:=by
 unfold yr;have e1:sIx (r.map D.int).length 0 none=0:=rfl
 have e2:sIx (r.map D.int).length (r.map D.int).length (some (-1))=r.length-1:=by
  rw[bj];show (if (-1:Int)<0 then ((-1:Int)+(r.length:Int)).toNat else min (-1:Int).toNat r.length)=_;rw[if_pos (by decide)];lia
 rw[e1,e2,gk,jfg,jd5,jdq]
theorem k_missed_tops{C:Cfg}(h1:C.ct i=c_whole_dot):jB C 3 (b_missed_tops i) c_missed_tops:=by
 rintro ds ⟨M,ts,u,rfl,⟨hl,hu⟩,g,ht⟩;rw[b_missed_tops,wD];simp_all! only[bj];refine⟨by unfold lim;lia,?_⟩
 rw[jt (g:=λr:List Int=>D.lst (r.map .int)) (h:=λr=>D.int (yA r*u-j8 r.dropLast ts)) (λr hr Q=>by
  obtain⟨r0,rl,rb⟩:=g r hr;have a:=KY r0;have b:=jaB r
  have hlm:yA r∈r:=by
   unfold yA;rw[wN r0];exact List.getLast_mem r0
  have mo:ku (yA r) u:=ji (by have:=rb _ hlm;lia)
  have w:=λQ E=>jcg (as:=r.dropLast) (bs:=ts) (Q:=Q) (E:=E) (by rw[List.length_dropLast];lia) (λa ha=>by have:=rb a (List.dropLast_subset _ ha);lia) (λa ha=>by have:=ht a ha;lia)
  dsimp! only[a,mo,prt,kL,vz,slD,yB,b,h1,w])]
 intro M' ts' u' e;simp only[bO,D.int.injEq,and_true]at e;obtain⟨e1,e2,rfl⟩:=e;have e1:=yz e1;have e2:=y7 e2;subst e1 e2;rfl
theorem wp_mt{ts:List Int}(hl:M.length<=200)(hu:bits u<=9000)(g:∀r∈M,r ≠ []/\r.length<=200/\∀a∈r,bits a<=9000)(ht:∀a∈ts,bits a<=9000):c_missed_tops.wp [wD M,.lst (ts.map .int),.int u] Q E ↔ Q (.lst (M.map λr=>.int (yA r*u-j8 r.dropLast ts))):=by
 constructor
 ·intro w
  refine w.2.1 _ λM' ts' u' e=>?_
  simp only[bO,D.int.injEq,and_true]at e;obtain⟨e1,e2,rfl⟩:=e;have e1:=yz e1;have e2:=y7 e2;subst e1 e2;rfl
 ·intro q;exact⟨⟨M,ts,u,rfl,⟨hl,hu⟩,g,ht⟩,λd h=>by rw[h M ts u rfl];exact q,λ_ z=>z.elim⟩
structure PartsOk (ps:List Nat) (qs:List Rat):Prop where
 len:qs.length=ps.length+1
 pb:PartB qs
structure MissOk (T:List (List (Int×Int))) (ps:List Nat) (t:Nat) (qs:List Rat) (F:List (Int×Int)->Int) (u:Int):Prop where
 pos:0<u
 bu:bits u<=3000
 bF:∀r∈T,bits (F r)<=4300
 eq:∀r∈T,(F r:Rat)=km ps t qs r*u
def z7(T:List (List (Int×Int)))(ps:List Nat)(t:Nat)(qs:List Rat):List D:=[tabD T,plD ps,.int t,.lst (qs.map rq)]
theorem xD{qs':List Rat}(h:z7 T ps t qs=z7 T' ps' t' qs'):T=T'/\ps=ps'/\t=t'/\qs=qs':=by
 unfold z7 at h;simp only[bO,D.int.injEq,and_true]at h;exact⟨yp (by rw[h.1]),jaQ h.2.1,by lia,K5 h.2.2.2⟩
def c_missed:Ctr where
 pre ds:=∃T ps t qs,ds=z7 T ps t qs/\FitOk T ps t/\PartsOk ps qs
 res ds d:=∀T ps t qs,ds=z7 T ps t qs->∃F u,MissOk T ps t qs F u/\d=.tup [.lst (T.map λr=>.int (F r)),.int u]
theorem qE(h:SmallP x)(l:-130<=low):bits (atW low x)<=330:=by
 have:=xU (w:=x.1) (k:=(x.2-low).toNat);have:=h.b;have:=h.hi;unfold atW;lia
theorem V7(low:Int)(ps:List Nat)(t:Nat)(r:List (Int×Int)):yA ((jY ps t r).map (atW low))=atW low (r.getD t (0,0))/\((jY ps t r).map (atW low)).dropLast=(j6 ps r).map (atW low):=by
 unfold jY yA j6;rw[de];constructor
 ·rw[show jdt (atW low) [r.getD t (0,0)]=[atW low (r.getD t (0,0))] from rfl,jek];rfl
 ·rw[show jdt (atW low) [r.getD t (0,0)]=[atW low (r.getD t (0,0))] from rfl,wO]
theorem yR(hu:0<u)(h:szr 1900 q):bits (j5 u q)<=1900+bits u:=by
 have d:=qq q;unfold j5;rw[j4 (by lia)];have:=jC q.num (u / q.den);have:bits (u / (q.den:Int))<=bits u:=xT d;have:=h.1;lia
theorem k_missed{C:Cfg}(h1:C.ct i1=c_rows_of_fit)(h2:C.ct i2=c_common_under)(h3:C.ct i3=c_missed_tops):jB C 7 (b_missed i1 i2 i3) c_missed:=by
 rintro ds ⟨T,ps,t,qs,rfl,g,p⟩;have few:=g.few;have pl:=g.pl;have ql:=p.len
 have w1:=λQ E=>jag (Q:=Q) (E:=E) g
 have w2:=λQ E=>wp_cu (qs:=qs) (Q:=Q) (E:=E) p.pb
 rw[b_missed,z7];simp_all! only[h1,w1,h2,w2,bj];intro low L u U;have u0:=U.pos
 have ub:=U.bits p.pb λ_ z=>z
 refine⟨by unfold lim;lia,?_⟩
 rw[jt (g:=rq) (h:=λq=>D.int (j5 u q)) (λq hq Q=>by
  have d:=qq q;have sz:=p.pb.sz q hq
  have f:(q.den:Int)≠0/\bits (q.den:Int)<=9000:=⟨by lia,by have:=sz.2;lia⟩
  have mo:ku q.num (u.fdiv q.den):=ji (by
   rw[j4 (by lia)];have:bits (u / (q.den:Int))<=bits u:=xT d;have:=sz.1
   lia)
  dsimp! only[JF,zO,f,mo]
  rfl)]
 rw[show (qs.map λq=>D.int (j5 u q))=(qs.map (j5 u)).map .int by rw[bN];rfl]
 have bM:∀r∈T.map (λr=>(jY ps t r).map (atW low)),r ≠ []/\r.length<=200/\∀a∈r,bits a<=9000:=by
  intro l hl;obtain⟨r,hr,rfl⟩:=bH.mp hl;refine⟨by intro z;have:=congrArg jdc z;rw[bj,zi]at this;simp at this,by rw[bj,zi];lia,λa ha=>?_⟩;obtain⟨x,hx,rfl⟩:=bH.mp ha;have:=qE ((g.sm r hr).all x hx) L.lo;lia
 have bT:∀a∈qs.map (j5 u),bits a<=3800:=by
  intro a ha;obtain⟨q,hq,rfl⟩:=bH.mp ha;have:=yR u0 (p.pb.sz q hq);lia
 have w3:=λQ E=>wp_mt (M:=T.map λr=>(jY ps t r).map (atW low)) (ts:=qs.map (j5 u)) (u:=u) (Q:=Q) (E:=E) (by rw[bj];lia) (by lia) bM (λa ha=>by have:=bT a ha;lia)
 have a0:∀(Q:D->Prop),ixD (wD (T.map λr=>(jY ps t r).map (atW low))) (.int 0) (λx=>ixD x (.int 0) Q) ↔ Q (.int (atW low (1,0))):=by
  intro Q;obtain⟨r,rs,e⟩:=nF g.n0;rw[e];simp only[wD,jY,bq,bW,Yu,KC,gc,exists_eq_left']
 have b1:bits (atW low (1,0))<=330:=qE Kh L.lo;have mo2:ku u (atW low (1,0)):=ji (by lia);simp_all! only[h3,w3,a0,mo2];intro T' ps' t' qs' e;obtain⟨rfl,rfl,rfl,rfl⟩:=xD (T:=T) (ps:=ps) (t:=t) (qs:=qs) e;refine⟨λr=>atW low (r.getD t (0,0))*u-j8 ((j6 ps r).map (atW low)) (qs.map (j5 u)),u*atW low (1,0),⟨?_,?_,?_,?_⟩,?_⟩
 ·have:0<atW low (1,0):=by unfold atW;have:=two_pow_pos ((0:Int)-low).toNat;simp only[tK];lia
  exact nU u0 this
 ·have:=jC u (atW low (1,0));lia
 ·intro r hr
  have m1:=(g.sm r hr)
  have:=ze (atW low (r.getD t (0,0))*u) (j8 ((j6 ps r).map (atW low)) (qs.map (j5 u)));have:=jC (atW low (r.getD t (0,0))) u;have x1:=qE (low:=low) (m1.all (r.getD t (0,0)) (by unfold jY;simp)) L.lo
  have:=vU (as:=(j6 ps r).map (atW low)) (bs:=qs.map (j5 u)) (A:=330) (B:=3800) (λa ha=>by
   obtain⟨x,hx,rfl⟩:=bH.mp ha
   exact qE (m1.all x (by unfold jY;exact dh _ hx)) L.lo) bT
  rw[bj]at this
  have:(j6 ps r).length=ps.length+1:=by unfold j6;simp
  lia
 ·intro r hr;have le:=L.le r hr;have e1:=atW_vr (le (r.getD t (0,0)) (by unfold jY;simp));have e2:=Qm (u:=u) (j6 ps r) qs (λx hx=>le x (by unfold jY;exact dh _ hx)) U.dvd;have e3:=atW_vr (le (1,0) (by unfold jY;simp));rw[jah]at e3;rw[sZ,bZ,bZ,e1,e2,e3];unfold km
  grind
 ·rw[bN];congr 3
  refine bQ λr _=>?_
  obtain⟨f1,f2⟩:=V7 low ps t r;simp only[n5];rw[f1,f2]
theorem KD(g:FitOk T ps t)(p:PartsOk ps qs):c_missed.wp [tabD T,plD ps,.int t,.lst (qs.map rq)] Q E ↔ ∀F u,MissOk T ps t qs F u->Q (.tup [.lst (T.map λr=>.int (F r)),.int u]):=by
 constructor
 ·intro w F u m
  refine w.2.1 _ λT' ps' t' qs' e=>?_
  obtain⟨rfl,rfl,rfl,rfl⟩:=xD (T:=T) (ps:=ps) (t:=t) (qs:=qs) e;exact⟨F,u,m,rfl⟩
 ·intro q;refine⟨⟨T,ps,t,qs,rfl,g,p⟩,λd h=>?_,λ_ z=>z.elim⟩;obtain⟨F,u,m,rfl⟩:=h T ps t qs rfl;exact q F u m
theorem XU{F:List (Int×Int)->Int}(m:MissOk T ps t qs F u):∀r∈T,dY (F r) u=km ps t qs r:=by
 intro r hr;have:=m.pos;rw[mW,m.eq r hr,jdf,n8,jc4 _ (by intro z;have:((u:Int):Rat)=((0:Int):Rat):=z;have:=mr.mp this;lia),jdg]
def c_residues:Ctr where
 pre ds:=∃T ps t qs,ds=z7 T ps t qs/\FitOk T ps t/\PartsOk ps qs
 res ds d:=∀T ps t qs,ds=z7 T ps t qs->d=.lst (T.map λr=>rq (km ps t qs r))
theorem XG(g:FitOk T ps t)(p:PartsOk ps qs):c_residues.wp [tabD T,plD ps,.int t,.lst (qs.map rq)] Q E ↔ Q (.lst (T.map λr=>rq (km ps t qs r))):=by
 constructor
 ·intro w
  refine w.2.1 _ λT' ps' t' qs' e=>?_
  obtain⟨rfl,rfl,rfl,rfl⟩:=xD (T:=T) (ps:=ps) (t:=t) (qs:=qs) e;rfl
 ·intro q;exact⟨⟨T,ps,t,qs,rfl,g,p⟩,λd h=>by rw[h T ps t qs rfl];exact q,λ_ z=>z.elim⟩
def sqQ(T:List (List (Int×Int)))(ps:List Nat)(t:Nat)(qs:List Rat):Rat:=(T.map λr=>km ps t qs r*km ps t qs r).sum
theorem Qe{ps:List Nat}{t:Nat}{qs:List Rat}{F:List (Int×Int)->Int}{u:Int}:∀(T:List (List (Int×Int))),(∀r∈T,(F r:Rat)=km ps t qs r*u)->(((T.map λr=>F r*F r).sum:Int):Rat)=sqQ T ps t qs*((u*u:Int):Rat)
 |[],_=>by simp[sqQ]
 |r::T,h=>by
  have ih:=Qe T λx hx=>h x (bo _ hx)
  have e:=h r (bC ..);unfold sqQ at *;rw[bq,dH,bq,dH,pQ,ih,bZ,bZ,e]
  grind
theorem XC:∀(l:List Int),j8 l l=(l.map λa=>a*a).sum
 |[]=>rfl
 |a::l=>by
  have:=XC l;unfold j8 at *;rw[tG,bq,dH,bq,dH,this]
def c_misses:Ctr where
 pre ds:=∃T ps t qs,ds=z7 T ps t qs/\FitOk T ps t/\PartsOk ps qs
 res ds d:=∀T ps t qs,ds=z7 T ps t qs->d=rq (sqQ T ps t qs)
theorem k_misses{C:Cfg}(h1:C.ct i1=c_missed)(h2:C.ct i2=kT)(h3:C.ct i3=c_whole_dot):jB C 5 (b_misses i1 i2 i3) c_misses:=by
 rintro ds ⟨T,ps,t,qs,rfl,g,p⟩;have few:=g.few
 have w1:=λQ E=>KD (Q:=Q) (E:=E) g p
 rw[b_misses,z7];simp_all! only[h1,w1];intro F u m;have u0:=m.pos;have ub:=m.bu;rw[show (T.map λr=>D.int (F r))=(T.map F).map .int by rw[bN];rfl]
 have bF:∀a∈T.map F,bits a<=20000:=λa ha=>by
  obtain⟨r,hr,rfl⟩:=bH.mp ha;have:=m.bF r hr;lia
 have w2:=λQ E=>jcg (as:=T.map F) (bs:=T.map F) (Q:=Q) (E:=E) (by rw[bj];lia) bF bF
 have mo:ku u u:=ji (by lia)
 have uu:u*u≠0:=by have:=nU u0 u0;lia
 have w3:=λQ E=>Jy (t:=j8 (T.map F) (T.map F)) (u:=u*u) (Q:=Q) (E:=E) uu (by have:=jC u u;lia)
 simp_all! only[h3,w2,mo,h2,w3];intro T' ps' t' qs' e;obtain⟨rfl,rfl,rfl,rfl⟩:=xD (T:=T) (ps:=ps) (t:=t) (qs:=qs) e;congr 1
 have e1:j8 (T.map F) (T.map F)=(T.map λr=>F r*F r).sum:=by rw[XC,bN];rfl
 rw[e1,mW,Qe T m.eq,jdf,n8,jc4 _ (by intro z;have:((u*u:Int):Rat)=((0:Int):Rat):=z;exact uu (mr.mp this)),jdg]
theorem uQ(g:FitOk T ps t)(p:PartsOk ps qs):c_misses.wp [tabD T,plD ps,.int t,.lst (qs.map rq)] Q E ↔ Q (rq (sqQ T ps t qs)):=by
 constructor
 ·intro w
  refine w.2.1 _ λT' ps' t' qs' e=>?_
  obtain⟨rfl,rfl,rfl,rfl⟩:=xD (T:=T) (ps:=ps) (t:=t) (qs:=qs) e;rfl
 ·intro q;exact⟨⟨T,ps,t,qs,rfl,g,p⟩,λd h=>by rw[h T ps t qs rfl];exact q,λ_ z=>z.elim⟩
end Z.J51
set_option exponentiation.threshold 3000
namespace Z.K51
open PySem Z Z.K42 Z.K40 Z.J51
def b_law_table(i_law_row:Nat):Sm :=
 (.seq (.set 5 (.call i_law_row [(.var 0),(.var 1),(.bin .mul (.var 2) (.var 3)),(.var 4)]))
 (.seq (.retG (.compR [(.var 2)] (.slc (.var 5) (.bin .mul (.var 6) (.var 3)) (.bin .mul (.bin .add (.var 6) (.cst (.int 1))) (.var 3)))))
 .nop))
def b_law_wholes:Sm :=
 (.seq (.set 1 (.bi .min [(.compE (.var 0) (.bi .min [(.compE (.var 2) (.ix (.var 3) (.cst (.int 1))))]))]))
 (.seq (.ret (.tup [(.compE (.var 0) (.compE (.var 2) (.bin .shl (.ix (.var 3) (.cst (.int 0))) (.bin .sub (.ix (.var 3) (.cst (.int 1))) (.var 1))))),(.var 1)]))
 .nop))
def b_law_case(i_law_drawn i_law_cell i_law_table i_law_bare:Nat):Sm :=
 (.seq (.set 3 (.bin .add (.cst (.int 1)) (.bin .mod (.call i_law_drawn [(.call i_law_cell [(.var 0),(.cst (.int 0))]),(.cst (.int 120))]) (.cst (.int 5)))))
 (.seq (.set 4 (.bi .max [(.cst (.int 1)),(.bi .min [(.bin .fdiv (.var 2) (.var 3)),(.bin .fdiv (.bin .sub (.bi .len [(.var 0)]) (.cst (.int 1))) (.var 3))])]))
 (.seq (.setG 5 i_law_table [(.var 0),(.cst (.int 1)),(.var 4),(.var 3),(.var 1)])
 (.seq (.set 6 (.call i_law_drawn [(.call i_law_cell [(.var 0),(.cst (.int 0))]),(.cst (.int 121))]))
 (.seq (.set 7 (.cmp .gt (.bin .mod (.bin .fdiv (.var 6) (.cst (.int 18000))) (.cst (.int 4))) (.cst (.int 0))))
 (.seq (.ite (.var 7) (.seq (.shrT 5)
  (.seq (.ownG 5 (.compE (.var 5) (.compE (.var 14) (.call i_law_bare [(.bin .sub (.bin .mod (.ix (.var 15) (.cst (.int 0))) (.cst (.int 4001))) (.cst (.int 2000))),(.bin .sub (.bin .mod (.ix (.var 15) (.cst (.int 1))) (.cst (.int 9))) (.cst (.int 4)))]))))
  .nop)) .nop)
 (.seq (.new 8)
 (.seq (.forR 9 [(.bi .min [(.var 3),(.bin .add (.cst (.int 1)) (.bin .mod (.var 6) (.bin .add (.cst (.int 2)) (.bi .int [(.var 7)]))))])] (.seq (.cpO 8 10 [(.var 3)] (.cmp .nin (.var 14) (.var 8)) (.var 14))
  (.seq (.shr 10)
  (.seq (.app 8 (.ix (.var 10) (.bin .mod (.bin .fdiv (.bin .fdiv (.var 6) (.cst (.int 3))) (.bin .add (.bin .mul (.var 9) (.cst (.int 7))) (.cst (.int 1)))) (.bi .len [(.var 10)]))))
  .nop))))
 (.seq (.set 11 (.bin .mod (.bin .fdiv (.var 6) (.cst (.int 500))) (.var 3)))
 (.seq (.set 12 (.bin .mod (.bin .fdiv (.var 6) (.cst (.int 3000))) (.cst (.int 6))))
 (.seq (.forT 13 5 [(.sto (some (.cmp .eq (.var 12) (.cst (.int 0)))) (.oix 8 (.cst (.int 0))) (.tup [(.cst (.int 1)),(.cst (.int 3))])),(.sto (some (.cmp .eq (.var 12) (.cst (.int 1)))) (.oix 8 (.neg (.cst (.int 1)))) (.tup [(.bin .sub (.cst (.int 0)) (.ix (.ix (.var 13) (.oix 8 (.cst (.int 0)))) (.cst (.int 0)))),(.ix (.ix (.var 13) (.oix 8 (.cst (.int 0)))) (.cst (.int 1)))])),(.sto (some (.cmp .eq (.var 12) (.cst (.int 2)))) (.oix 8 (.cst (.int 0))) (.tup [(.cst (.int 0)),(.cst (.int 0))]))])
 (.seq (.shr 8)
 (.seq (.shrT 5)
 (.seq (.ret (.tup [(.var 5),(.var 8),(.var 11)]))
 .nop))))))))))))))
def b_law_lefts(i_law_wholes i_law_common:Nat):Sm :=
 (.seq (.unp [4,5] (.call i_law_wholes [(.compE (.var 0) (.compE (.bin .add (.var 1) (.lst [(.var 2)])) (.ix (.var 13) (.var 14))))]))
 (.seq (.set 6 (.cst (.int 1)))
 (.seq (.forE 7 (.var 3) (.seq (.set 6 (.bin .fdiv (.bin .mul (.var 6) (.ix (.var 7) (.cst (.int 1)))) (.call i_law_common [(.var 6),(.ix (.var 7) (.cst (.int 1)))])))
  .nop))
 (.seq (.set 8 (.compE (.var 3) (.bin .mul (.ix (.var 13) (.cst (.int 0))) (.bin .fdiv (.var 6) (.ix (.var 13) (.cst (.int 1)))))))
 (.seq (.set 9 (.bi .max [(.cst (.int 0)),(.var 5)]))
 (.seq (.new 10)
 (.seq (.forE 11 (.var 4) (.seq (.set 12 (.bi .sum [(.compR [(.bi .len [(.var 1)])] (.bin .mul (.ix (.var 8) (.bin .add (.var 13) (.cst (.int 1)))) (.ix (.var 11) (.var 13))))]))
  (.seq (.app 10 (.bin .sub (.bin .shl (.bin .sub (.bin .mul (.ix (.var 11) (.neg (.cst (.int 1)))) (.var 6)) (.var 12)) (.var 9)) (.bin .shl (.ix (.var 8) (.cst (.int 0))) (.bi .max [(.cst (.int 0)),(.bin .sub (.cst (.int 0)) (.var 5))]))))
  .nop)))
 (.seq (.shr 10)
 (.seq (.ret (.tup [(.var 10),(.var 4),(.bin .shl (.var 6) (.bi .max [(.cst (.int 0)),(.bin .sub (.cst (.int 0)) (.var 5))]))]))
 .nop)))))))))
structure SharpP (x:Int×Int):Prop where
 sm:SmallP x
 up:x.2+bits x.1<=64
variable{n:Nat}{x:Int×Int}
theorem _root_.Z.Meas.sharp(h:Meas n x)(hn:n<=64):SharpP x:=⟨h.small hn,by
 rcases h.at_ with⟨z1,z2⟩|z
 ·rw[z1,z2];decide
 ·lia⟩
structure Shape (N A:Nat) (T:List (List (Int×Int))):Prop where
 len:T.length=N
 row:∀r∈T,r.length=A
 num:∀r∈T,∀x∈r,SharpP x
def c_tab:Ctr where
 pre ds:=∃(ns:List Int) (s:Int) (N A n:Nat),ds=[.lst (ns.map .int),.int s,.int N,.int A,.int n]/\(ns.length<=63/\0<=s)/\(1<=A/\1<=N/\N*A<=100)/\8<=n/\n<=64
 res ds d:=∀(ns:List Int) (s:Int) (N A n:Nat),ds=[.lst (ns.map .int),.int s,.int N,.int A,.int n]->∃T,Shape N A T/\d=tabD T
theorem k_tab{C:Cfg}{i:Nat}(h1:C.ct i=XT):jb7 C 6 (b_law_table i) c_tab:=by
 rintro ds ⟨ns,s,N,A,n,rfl,⟨hl,hs⟩,⟨a1,n1,few⟩,w1,w2⟩
 have eNA:(N:Int)*A=((N*A:Nat):Int):=by push_cast;rfl
 have mo:∀z:Int,bits z<=20->ku z A:=λz hz=>ji (by have:bits (A:Int)<=10:=jh.mpr (by have:1*A<=N*A:=mM A n1;lia);lia)
 have nb:N<=100:=by have:N*1<=N*A:=sD N a1;lia
 have moN:=mo N (jh.mpr (by lia))
 have k3:(N:Int)*A<=1000:=by rw[eNA];lia
 have k4:-1000<=(N:Int)*A:=by rw[eNA];lia
 rw[b_law_table];simp_all! only[moN,h1,wp_row hl hs k3 k4 w1 w2];intro xs lx hx
 have lx:xs.length=N*A:=by rw[lx,eNA,bV]
 simp_all! only[wpG];refine⟨rfl,by unfold qT;lia,by rw[kx];simp;unfold lim;lia,?_⟩
 rw[bV,Qk (h:=λi=>((xs.drop (i*A)).take A).map nq) (λi hi Q=>by
  have m1:=mo i (jh.mpr (by lia));have m2:=mo ((i:Int)+1) (jh.mpr (by lia));have c:=cut_row lx hi
  dsimp! only[m1,m2,prt,kL,vz,slD,yB,c])]
 intro ns' s' N' A' n' e;simp only[bO,D.int.injEq,and_true]at e;obtain⟨_,_,e1,e2,e3⟩:=e
 have e1:N=N':=by lia
 have e2:A=A':=by lia
 subst e1 e2;refine⟨(bE N).map λi=>(xs.drop (i*A)).take A,⟨by simp,λr hr=>?_,λr hr x hx'=>?_⟩,?_⟩
 ·obtain⟨i,hi,rfl⟩:=bH.mp hr;have hi:=dF.mp hi;have h1:(i+1)*A<=N*A:=mM A hi;have ex:(i+1)*A=i*A+A:=jcO i A;rw[gE,mw];lia
 ·obtain⟨i,hi,rfl⟩:=bH.mp hr;exact(hx x (gJ (nS hx'))).sharp w2
 ·rw[Js,bN];rfl
variable{ns:List Int}{N A:Nat}{Q:D->Prop}{E:XD->Prop}
theorem wp_tab{s:Int}(hl:ns.length<=63)(hs:0<=s)(h:1<=A/\1<=N/\N*A<=100)(w1:8<=n)(w2:n<=64):c_tab.wp [.lst (ns.map .int),.int s,.int N,.int A,.int n] Q E ↔ ∀T,Shape N A T->Q (tabD T):=by
 constructor
 ·intro w T g
  refine w.2.1 _ λns' s' N' A' n' e=>?_
  simp only[bO,D.int.injEq,and_true]at e;obtain⟨_,_,e1,e2,e3⟩:=e
  have e1:N=N':=by lia
  have e2:A=A':=by lia
  subst e1 e2;exact⟨T,g,rfl⟩
 ·intro q;refine⟨⟨ns,s,N,A,n,rfl,⟨hl,hs⟩,h,w1,w2⟩,λd hd=>?_,λ_ z=>z.elim⟩;obtain⟨T,g,rfl⟩:=hd ns s N A n rfl;exact q T g
structure RowsOk (M:List (List (Int×Int))):Prop where
 n0:M ≠ []
 few:M.length<=200
 row:∀r∈M,r ≠ []/\Smalls r
structure LowW (M:List (List (Int×Int))) (low:Int):Prop where
 lo:-130<=low
 hi:low<=130
 le:∀r∈M,∀x∈r,low<=x.2
def c_wholes:Ctr where
 pre ds:=∃M,ds=[tabD M]/\RowsOk M
 res ds d:=∀M,ds=[tabD M]->∃low,LowW M low/\d=.tup [wD (M.map λr=>r.map (atW low)),.int low]
theorem k_wholes{C:Cfg}:jB C 2 b_law_wholes c_wholes:=by
 rintro ds ⟨M,rfl,g⟩;have few:=g.few
 have l1:M.length<=lim:=by unfold lim;lia
 rw[b_law_wholes,tabD];simp_all! only[bj];refine⟨l1,?_⟩
 rw[jt (g:=λr:List (Int×Int)=>D.lst (r.map nq)) (h:=λr=>D.int (mmF false 0 (r.map (·.2)))) (λr hr Q=>by
  obtain⟨r0,s⟩:=g.row r hr
  have l2:r.length<=lim:=by have:=s.len;unfold lim;lia
  dsimp! only[bj,l2];rw[jt (g:=nq) (h:=λx:Int×Int=>D.int x.2) (λx _ Q=>by rw[xh]),show (r.map λx=>D.int x.2)=(r.map (·.2)).map .int by rw[bN];rfl,Qt]
  exact and_iff_right (by simpa using r0))]
 rw[show (M.map λr=>D.int (mmF false 0 (r.map (·.2))))=(M.map λr=>mmF false 0 (r.map (·.2))).map .int by rw[bN];rfl,Qt];refine⟨by simpa using g.n0,?_⟩;obtain⟨p1,p2⟩:=QF (d:=0) (ns:=M.map λr=>mmF false 0 (r.map (·.2)));generalize mmF false 0 (M.map λr=>mmF false 0 (r.map (·.2)))=low at *
 have le:∀r∈M,∀x∈r,low<=x.2:=λr hr x hx=>Int.le_trans (p1 _ (bH.mpr ⟨r,hr,rfl⟩)) ((QF (d:=0) (ns:=r.map (·.2))).1 _ (bH.mpr ⟨x,hx,rfl⟩))
 have lb:-130<=low/\low<=130:=by
  rcases p2 with z|z
  ·obtain⟨r,hr,e⟩:=bH.mp z;obtain⟨r0,s⟩:=g.row r hr;rcases(QF (d:=0) (ns:=r.map (·.2))).2 with y|y
   ·obtain⟨x,hx,e2⟩:=bH.mp y;have:=(s.all x hx).lo;have:=(s.all x hx).hi;lia
   ·exact absurd (w8.mp y.1) r0
  ·exact absurd (w8.mp z.1) g.n0
 simp_all! only[bj];refine⟨l1,?_⟩
 rw[jt (g:=λr:List (Int×Int)=>D.lst (r.map nq)) (h:=λr=>D.lst ((r.map (atW low)).map .int)) (λr hr Q=>by
  obtain⟨r0,s⟩:=g.row r hr
  have l2:r.length<=lim:=by have:=s.len;unfold lim;lia
  dsimp! only[bj,l2]
  rw[jt (g:=nq) (h:=λx:Int×Int=>D.int (atW low x)) (λx hx Q=>by
   have h1:=le r hr x hx;have h2:=(s.all x hx).b;have h3:=(s.all x hx).hi
   have so:ShlOk x.1 (x.2-low):=⟨by lia,by lia⟩
   rw[xK,xh,Z2,ZZ]
   exact and_iff_right so),bN]
  rfl)]
 intro M' e;rw[<- yp (r:=M) e];exact⟨low,⟨lb.1,lb.2,le⟩,by unfold wD;rw[bN];rfl⟩
variable{M:Int}
theorem Vq{M:List (List (Int×Int))}(g:RowsOk M):c_wholes.wp [tabD M] Q E ↔ ∀low,LowW M low->Q (.tup [wD (M.map λr=>r.map (atW low)),.int low]):=by
 constructor
 ·intro w low h
  refine w.2.1 _ λM' e=>?_
  rw[<- yp e];exact⟨low,h,rfl⟩
 ·intro q;refine⟨⟨M,rfl,g⟩,λd h=>?_,λ_ z=>z.elim⟩;obtain⟨low,hw,rfl⟩:=h M rfl;exact q low hw
variable{t:Nat}{u:Int}
theorem rq_div{t:Int}(hu:0<u):D.tup [.int (t.fdiv (gf t u)),.int (u.fdiv (gf t u))]=rq (dY t u):=by
 have hg:0<gf t u:=mY _ (by lia);have en:=jc2 t u;have ed:=pC t u;rw[if_neg (by lia)]at ed;rw[jfd]at en ed;unfold rq;rw[en,ed,tY hu,tK,j4 (by lia),j4 (by lia)];congr 3
 have:(u.natAbs:Int)=u:=by lia
 rw[Int.natCast_ediv,this]
def xl(ps:List Nat)(t:Nat)(r:List (Int×Int)):List (Int×Int):=(ps ++ [t]).map λp=>r.getD p (0,0)
theorem yN(ps:List Nat)(t:Nat)(r:List (Int×Int)):xl ps t r=(ps.map λp=>r.getD p (0,0)) ++ [r.getD t (0,0)]:=by unfold xl;rw[de];rfl
variable{ps:List Nat}
theorem vB{r:List (Int×Int)}(h:x∈xl ps t r):x∈jY ps t r:=by
 rw[yN]at h;unfold jY;rw[bW];exact bo _ h
variable{T:List (List (Int×Int))}
theorem lef_ok(g:FitOk T ps t):RowsOk (T.map (xl ps t)):=by
 refine⟨by simpa using g.n0,by have:=g.few;rw[bj];lia,λl hl=>?_⟩;obtain⟨r,hr,rfl⟩:=bH.mp hl;refine⟨by rw[yN];simp,⟨by have:=g.pl;rw[yN];simp;lia,λx hx=>(g.sm r hr).all x (vB hx)⟩⟩
variable{l:List Int}{k:Nat}
theorem jbJ(h:k<l.length):atD (l.map .int) (k:Int)=some (.int (l.getD k 0)):=by
 unfold atD;rw[if_pos (by lia),bV,bY,bD h,K40.getD_at h];rfl
theorem jaG{x:Int}(h:k<l.length):(l ++ [x]).getD k 0=l.getD k 0:=by simp[jdA,dM h]
theorem VN{as bs:List Int}(h:bs.length=as.length):((bE as.length).map λk=>bs.getD k 0*as.getD k 0).sum=j8 as bs:=by
 unfold j8;congr 1
 refine jft (by simp[h]) λi h1 h2=>?_
 simp only[bj,pX]at h1;rw[gH,gH,tH,List.getElem_zip,K40.getD_at (by lia),K40.getD_at (by lia),mK]
theorem jby(k:Nat):((2^k:Int):Rat)=tw k:=by
 have:=j9 0 k;rw[t4,yo]at this;rw[this]
 grind
def c_lefts:Ctr where
 pre ds:=∃T ps t qs,ds=z7 T ps t qs/\FitOk T ps t/\PartsOk ps qs
 res ds d:=∀T ps t qs,ds=z7 T ps t qs->∃F u low,MissOk T ps t qs F u/\LowW (T.map (xl ps t)) low/\d=.tup [.lst (T.map λr=>.int (F r)),wD ((T.map (xl ps t)).map λr=>r.map (atW low)),.int u]
def ue(low u:Int)(ps:List Nat)(t:Nat)(q0:Rat)(qt:List Rat)(r:List (Int×Int)):Int:=(atW low (r.getD t (0,0))*u-j8 ((ps.map λp=>r.getD p (0,0)).map (atW low)) (qt.map (j5 u)))*2^low.toNat-j5 u q0*2^(-low).toNat
theorem KH{q0:Rat}{qt:List Rat}{low:Int}(g:FitOk T ps t)(p:PartsOk ps (q0::qt))(L:LowW (T.map (xl ps t)) low)(U:UnderOk (q0::qt) u):MissOk T ps t (q0::qt) (ue low u ps t q0 qt) (u*2^(-low).toNat):=by
 have u0:=U.pos;have pl:=g.pl;have ql:=p.len
 have ub:=U.bits p.pb λ_ z=>z
 have lo:=L.lo;have hi:=L.hi;refine⟨nU u0 (two_pow_pos _),?_,λr hr=>?_,λr hr=>?_⟩
 ·have:=xU (w:=u) (k:=(-low).toNat);lia
 ·have m1:=g.sm r hr;have x1:=qE (low:=low) (m1.all (r.getD t (0,0)) (by unfold jY;simp)) lo
  have bT:∀a∈qt.map (j5 u),bits a<=3800:=by
   intro a ha;obtain⟨q,hq,rfl⟩:=bH.mp ha;have:=yR u0 (p.pb.sz q (bo _ hq));lia
  have b0:=yR u0 (p.pb.sz q0 (bC ..))
  have bd:=vU (as:=(ps.map λp=>r.getD p (0,0)).map (atW low)) (bs:=qt.map (j5 u)) (A:=330) (B:=3800) (λa ha=>by
   obtain⟨x,hx,rfl⟩:=bH.mp ha
   exact qE (m1.all x (vB (by rw[yN];exact dh _ hx))) lo) bT
  rw[bj,bj]at bd;unfold ue;generalize j8 ((ps.map λp=>r.getD p (0,0)).map (atW low)) (qt.map (j5 u))=d at *;generalize atW low (r.getD t (0,0))=a at *;generalize j5 u q0=b at *;have:=jC a u;have:=ze (a*u) d;have:=xU (w:=a*u-d) (k:=low.toNat);have:=xU (w:=b) (k:=(-low).toNat);have:=ze ((a*u-d)*2^low.toNat) (b*2^(-low).toNat);lia
 ·have le:∀x∈xl ps t r,low<=x.2:=L.le _ (bH.mpr ⟨r,hr,rfl⟩);have e1:=J51.atW_vr (le (r.getD t (0,0)) (by rw[yN];simp));have e2:=Qm (u:=u) (ps.map λp=>r.getD p (0,0)) qt (λx hx=>le x (by rw[yN];exact dh _ hx)) (λq hq=>U.dvd q (bo _ hq));have e3:=Q0 (U.dvd q0 (bC ..));have e4:=Jf low;unfold ue km j6;rw[u7,jah,sZ,bZ,sZ,bZ,bZ,bZ,e1,e2,e3,jby,jby];generalize KQ (ps.map λp=>r.getD p (0,0)) qt=S;generalize vr (r.getD t (0,0))=v;rcases jcT low 0 with z|z
  ·rw[show ((low.toNat:Nat):Int)=0 by lia,show (((-low).toNat:Nat):Int)=-low by lia,yo]
   grind
  ·rw[show ((low.toNat:Nat):Int)=low by lia,show (((-low).toNat:Nat):Int)=0 by lia,yo]
   grind
variable{i1 i2:Nat}
theorem k_lefts{C:Cfg}(h1:C.ct i1=c_wholes)(h2:C.ct i2=kR):jB C 13 (b_law_lefts i1 i2) c_lefts:=by
 rintro ds ⟨T,ps,t,qs,rfl,g,p⟩;have few:=g.few;have pl:=g.pl;have ql:=p.len
 have l1:T.length<=lim:=by unfold lim;lia
 have l2:ps.length<=lim:=by unfold lim;lia
 have l3:ps.length+1<=lim:=by unfold lim;lia
 have w1:=λQ E=>Vq (Q:=Q) (E:=E) (lef_ok g)
 have eT:D.lst (T.map λr=>D.lst ((xl ps t r).map nq))=tabD (T.map (xl ps t)):=by unfold tabD;rw[bN];rfl
 rw[b_law_lefts,z7,tabD,plD];simp_all! only[bj,l1]
 rw[jt (g:=λr:List (Int×Int)=>D.lst (r.map nq)) (h:=λr=>D.lst ((xl ps t r).map nq)) (λr hr Q=>by
  obtain⟨s,ht,hp⟩:=g.row r hr;dsimp! only[bj,b6,l3]
  rw[show (ps.map λp:Nat=>D.int p) ++ [D.int t]=(ps ++ [t]).map λp:Nat=>D.int p by rw[de];rfl,jt (g:=λp:Nat=>D.int p) (h:=λp=>nq (r.getD p (0,0))) (λp hp' Q=>by
   have a:=UL (r:=r) (p:=p) (by
    rcases dI.mp hp' with z|z
    ·exact hp p z
    ·simp only[bz,bK,or_false]at z;subst z;exact ht)
   dsimp! only[a])]
  unfold xl;rw[bN]
  rfl),eT]
 simp_all! only[h1,w1];intro low L
 obtain⟨q0,qt,rfl⟩:∃q0 qt,qs=q0::qt:=by
  cases qs with
  |nil=>simp at ql
  |cons a l=>exact⟨a,l,rfl⟩
 have lt:qt.length=ps.length:=by simpa using ql
 let St (u:Int) (one:Option Sl):Sto:=[some (.sh (.lst (T.map λr=>.lst (r.map nq)))),some (.sh (.lst (ps.map λp:Nat=>.int p))),some (.sh (.int t)),some (.sh (.lst ((q0::qt).map rq))),some (.sh (wD ((T.map (xl ps t)).map λr=>r.map (atW low)))),some (.sh (.int low)),some (.sh (.int u)),one,none,none,none,none,none]
 let P:List D->Sto->Prop:=λds σ=>∃(zs ys:List Rat) (u:Int) (a:Option Sl),(zs++ys=q0::qt/\ds=ys.map rq/\UnderOk zs u)/\σ=St u a
 refine jP (P []) ?_ ?_
 ·rw[zj]
  simp_arith only[]
  refine qb P ⟨[],q0::qt,1,_,⟨rfl,rfl,by decide,λq hq=>absurd hq (by simp),λm _=>jej m⟩,rfl⟩ ?_ λσ h=>h
  rintro _ ds σ ⟨zs,ys,u,a,⟨ha,hd,gu⟩,rfl⟩
  cases ys with
  |nil=>simp at hd
  |cons y ys =>
   simp only[bq,bO]at hd;obtain⟨rfl,rfl⟩:=hd;have sy:=p.pb.sz y (by rw[<- ha];simp)
   have bu:=gu.bits p.pb λq hq=>by rw[<- ha];exact dh _ hq
   have mo:ku u y.den:=ji (by have:=sy.2;lia);have dy:=qq y;obtain⟨v,ev,v0,v1,v2,v3,_⟩:=Jp gu.pos dy;have g0:0<gf u y.den:=m9 _ (by have:=gu.pos;lia)
   have gb:bits (gf u y.den:Int)<=9000:=by
    refine bS (jX ?_) (bS sy.2 (by decide));have:=wA (by lia) (n6 u y.den);lia
   have pc:bits u<=9000/\bits (y.den:Int)<=9000:=⟨by lia,by have:=sy.2;lia⟩
   simp only[St];simp_all! only[zO,mo,h2,Ctr.wp,kR,ev,pc];refine⟨⟨by lia,gb⟩,zs ++ [y],ys,v,_,⟨by simp[ha],rfl,v0,λq hq=>?_,λm hq=>?_⟩,rfl⟩
   ·rcases dI.mp hq with z|z
    ·exact pU (gu.dvd q z) v1
    ·simp only[bz,bK,or_false]at z;subst z;exact v2
   ·exact v3 _ (gu.b _ λq hq'=>hq q (dh _ hq')) (hq y (by simp))
 rintro σ ⟨zs,ys,u,a,⟨ha,hd,U⟩,rfl⟩
 have:ys=[]:=by simpa using hd.symm
 subst this;rw[di]at ha;subst ha;have u0:=U.pos
 have ub:=U.bits p.pb λ_ z=>z
 simp only[St];simp_all! only[bj];refine⟨by unfold lim;lia,?_⟩
 rw[show rq q0::qt.map rq=(q0::qt).map rq from rfl,jt (g:=rq) (h:=λq=>D.int (j5 u q)) (λq hq Q=>by
  have d:=qq q;have sz:=p.pb.sz q hq
  have f:(q.den:Int)≠0/\bits (q.den:Int)<=9000:=⟨by lia,by have:=sz.2;lia⟩
  have mo:ku q.num (u.fdiv q.den):=ji (by
   rw[j4 (by lia)];have:bits (u / (q.den:Int))<=bits u:=xT d;have:=sz.1
   lia)
  dsimp! only[JF,zO,f,mo]
  rfl)]
 rw[show ((q0::qt).map λq=>D.int (j5 u q))=((j5 u q0)::qt.map (j5 u)).map .int by rw[bq,bq,bN];rfl]
 have em:(if (low:Int) > 0 then low else 0).toNat=low.toNat:=by split<;>lia
 have em2:(if (0:Int)-low > 0 then 0-low else 0).toNat=(-low).toNat:=by split<;>lia
 have lo:=L.lo;have hi:=L.hi
 have e0:0<=(if (low:Int) > 0 then low else 0)/\(if (low:Int) > 0 then low else 0)<=130:=by split<;>lia
 have e1:0<=(if (0:Int)-low > 0 then 0-low else 0)/\(if (0:Int)-low > 0 then 0-low else 0)<=130:=by split<;>lia
 generalize hdn:(if (low:Int) > 0 then low else 0)=dn at *;generalize hup:(if (0:Int)-low > 0 then 0-low else 0)=up at *;simp_all! only[hdn]
 have eW:wD ((T.map (xl ps t)).map λr=>r.map (atW low))=D.lst (T.map λr=>D.lst (((xl ps t r).map (atW low)).map .int)):=by unfold wD;rw[bN,bN];rfl
 rw[eW]
 let S2 (md:List D) (x y:Option Sl):Sto:=[some (.sh (.lst (T.map λr=>.lst (r.map nq)))),some (.sh (.lst (ps.map λp:Nat=>.int p))),some (.sh (.int t)),some (.sh (.lst (rq q0::qt.map rq))),some (.sh (.lst (T.map λr=>.lst (((xl ps t r).map (atW low)).map .int)))),some (.sh (.int low)),some (.sh (.int u)),a,some (.sh (.lst (.int (j5 u q0)::(qt.map (j5 u)).map .int))),some (.sh (.int dn)),some (.ow md),x,y]
 have b0:=yR u0 (p.pb.sz q0 (bC ..))
 have so0:ShlOk (j5 u q0) up:=⟨e1.1,by lia⟩
 refine jP (λσ=>∃x y,σ=S2 (T.map λr=>.int (ue low u ps t q0 qt r)) x y) ?_ ?_
 ·rw[zj]
  simp_arith only[]
  refine qb (λds σ=>∃(pre post:List (List (Int×Int))) (x y:Option Sl),(pre++post=T/\ds=post.map λr=>D.lst (((xl ps t r).map (atW low)).map .int))/\σ=S2 (pre.map λr=>.int (ue low u ps t q0 qt r)) x y) ⟨[],T,none,none,⟨rfl,rfl⟩,rfl⟩ ?_ ?_
  ·rintro d ds σ ⟨pre,post,x,y,⟨hp,hd⟩,rfl⟩
   cases post with
   |nil=>cases hd
   |cons r post =>
    simp only[bq,bO]at hd;obtain⟨rfl,rfl⟩:=hd
    have hr:r∈T:=by rw[<- hp];simp
    have m1:=g.sm r hr
    have lp:pre.length<lim:=by rw[<- hp,b6,dU]at few;unfold lim;lia
    let as:=(ps.map λp=>r.getD p (0,0)).map (atW low)
    have la:as.length=ps.length:=by simp[as]
    have lb:(qt.map (j5 u)).length=as.length:=by rw[la,bj];exact lt
    have ea:(xl ps t r).map (atW low)=as ++ [atW low (r.getD t (0,0))]:=by rw[yN,de];rfl
    have bA:∀a∈as,bits a<=330:=λa ha=>by
     obtain⟨x,hx,rfl⟩:=bH.mp ha;exact qE (m1.all x (vB (by rw[yN];exact dh _ hx))) lo
    have bT:∀a∈qt.map (j5 u),bits a<=3800:=λa ha=>by
     obtain⟨q,hq,rfl⟩:=bH.mp ha;have:=yR u0 (p.pb.sz q (bo _ hq));lia
    have bx:=qE (low:=low) (m1.all (r.getD t (0,0)) (by unfold jY;simp)) lo;have bd:=vU bA bT
    have at1:∀k:Nat,k<ps.length->atD (D.int (j5 u q0)::(qt.map (j5 u)).map .int) ((k:Int)+1)=some (.int ((qt.map (j5 u)).getD k 0)):=λk hk=>by
     have:=jbJ (l:=j5 u q0::qt.map (j5 u)) (k:=k+1) (by simp;lia);rw[show ((k:Int)+1)=((k+1:Nat):Int) by push_cast;rfl,show D.int (j5 u q0)::(qt.map (j5 u)).map .int=(j5 u q0::qt.map (j5 u)).map .int from rfl,this];rfl
    have at2:∀k:Nat,k<ps.length->atD (((xl ps t r).map (atW low)).map .int) (k:Int)=some (.int (as.getD k 0)):=λk hk=>by
     rw[jbJ (by rw[ea];simp;lia),ea,jaG (by lia)]
    have at3:atD (((xl ps t r).map (atW low)).map .int) (-1)=some (.int (atW low (r.getD t (0,0)))):=by
     rw[KY (by rw[ea];simp),ea];unfold yA;rw[jek];rfl
    simp only[S2];simp_all! only[bj,rg_1];refine⟨by unfold qT;lia,by rw[kx];simp;unfold lim;lia,?_⟩
    rw[bV,qB (h:=λk=>D.int ((qt.map (j5 u)).getD k 0*as.getD k 0)) (λk hk Q=>by
     have a1:=at1 k hk;have a2:=at2 k hk
     have mo:ku ((qt.map (j5 u)).getD k 0) (as.getD k 0):=ji (by
      have x1:=bT ((qt.map (j5 u)).getD k 0) (by rw[K40.getD_at (by lia)];exact dP _);have x2:=bA (as.getD k 0) (by rw[K40.getD_at (by lia)];exact dP _)
      lia)
     dsimp! only[a1,a2,mo])]
    rw[show ((bE ps.length).map λk=>D.int ((qt.map (j5 u)).getD k 0*as.getD k 0))=((bE as.length).map λk=>(qt.map (j5 u)).getD k 0*as.getD k 0).map .int by rw[la,bN];rfl,YI,VN lb];have mo:ku (atW low (r.getD t (0,0))) u:=ji (by lia);have bb:=ze (atW low (r.getD t (0,0))*u) (j8 as (qt.map (j5 u)));have bm:=jC (atW low (r.getD t (0,0))) u
    have so:ShlOk (atW low (r.getD t (0,0))*u-j8 as (qt.map (j5 u))) dn:=⟨e0.1,by lia⟩
    simp_all! only[at3,mo,so,hup,so0,bj,lp]
    have eF:D.int ((atW low (r.getD t (0,0))*u-j8 as (qt.map (j5 u)))*2^dn.toNat-j5 u q0*2^up.toNat)=D.int (ue low u ps t q0 qt r):=by rw[em,em2];rfl
    rw[eF,show (pre.map λr=>D.int (ue low u ps t q0 qt r)) ++ [D.int (ue low u ps t q0 qt r)]=(pre ++ [r]).map λr=>D.int (ue low u ps t q0 qt r) by rw[de];rfl];exact⟨pre ++ [r],post,_,_,⟨by rw[<- hp];simp,rfl⟩,rfl⟩
  ·rintro σ ⟨pre,post,x,y,⟨hp,hd⟩,rfl⟩
   have:post=[]:=by simpa using hd.symm
   subst this;rw[di]at hp;subst hp;exact⟨x,y,rfl⟩
 rintro σ ⟨x,y,rfl⟩;simp only[S2]
 have sou:ShlOk u up:=⟨e1.1,by lia⟩
 simp_all! only[hup,sou];intro T' ps' t' qs' e;obtain⟨rfl,rfl,rfl,rfl⟩:=xD (T:=T) (ps:=ps) (t:=t) (qs:=q0::qt) e;exact⟨_,_,_,KH g p L U,L,by rw[em2];unfold wD;rw[bN,bN];rfl⟩
variable{qs:List Rat}
theorem jcd(g:FitOk T ps t)(p:PartsOk ps qs):c_lefts.wp [tabD T,plD ps,.int t,.lst (qs.map rq)] Q E ↔ ∀F u low,MissOk T ps t qs F u->LowW (T.map (xl ps t)) low->Q (.tup [.lst (T.map λr=>.int (F r)),wD ((T.map (xl ps t)).map λr=>r.map (atW low)),.int u]):=by
 constructor
 ·intro w F u low m L
  refine w.2.1 _ λT' ps' t' qs' e=>?_
  obtain⟨rfl,rfl,rfl,rfl⟩:=xD (T:=T) (ps:=ps) (t:=t) (qs:=qs) e;exact⟨F,u,low,m,L,rfl⟩
 ·intro q;refine⟨⟨T,ps,t,qs,rfl,g,p⟩,λd h=>?_,λ_ z=>z.elim⟩;obtain⟨F,u,low,m,L,rfl⟩:=h T ps t qs rfl;exact q F u low m L
theorem JK{α:Type}{p:D->(Bool->Prop)->Prop}{f:D->(D->Prop)->Prop}{g h:α->D}{b:α->Bool}:∀ {l:List α} {Q:List D->Prop},(∀a∈l,∀Q,p (g a) Q ↔ Q (b a))->(∀a∈l,∀Q,f (g a) Q ↔ Q (h a))->(qN p f (l.map g) Q ↔ Q ((l.filter b).map h))
 |[],Q,_,_=>Iff.rfl
 |a::l,Q,k1,k2=>by
  have ih:=λQ=>JK (Q:=Q) (λx hx=>k1 x (bo _ hx)) (λx hx=>k2 x (bo _ hx))
  rw[bq,qN,k1 a (bC ..),sk]
  cases b a with
  |true=>simp only[if_true];rw[k2 a (bC ..),ih,bq]
  |false=>simp only[dG,if_false];rw[ih]
theorem hole:∀(A:Nat) (ps:List Nat),(∀i,i<A->i∈ps)->A<=ps.length
 |0,_,_=>mL _
 |A+1,ps,h=>by
  have m:=h A (by lia)
  have:=hole A (ps.erase A) λi hi=>(List.mem_erase_of_ne (by lia)).mpr (h i (by lia))
  rw[List.length_erase_of_mem m]at this;have:0<ps.length:=List.length_pos_of_mem m;lia
theorem Ki{f:List D->(List D->Prop)->Prop}{P:List D->Prop}(hf:∀r,P r->∀Q:List D->Prop,(∀r',P r'->Q r')->f r Q):∀ {rows:List (List D)} {Q:List (List D)->Prop},(∀r∈rows,P r)->(∀rows',rows'.length=rows.length->(∀r∈rows',P r)->Q rows')->uM f rows Q
 |[],Q,_,q=>q [] rfl (λr hr=>absurd hr (by simp))
 |r::rows,Q,h,q=>by
  unfold uM
  refine hf r (h r (bC ..)) _ λr' hr'=>Ki hf (λx hx=>h x (bo _ hx)) λrows' hl hp=>q (r'::rows') (by simp[hl]) λx hx=>?_
  rcases bz.mp hx with rfl|z
  ·exact hr'
  ·exact hp x z
def vM(A:Nat)(r:List D):Prop:=∃l:List (Int×Int),r=l.map nq/\l.length=A/\∀x∈l,SharpP x
theorem vM.set{p:Nat}{l:List (Int×Int)}{y:Int×Int}(h:l.length=A)(hx:∀x∈l,SharpP x)(hy:SharpP y):vM A ((l.map nq).set p (nq y)):=by
 refine⟨l.set p y,by rw[List.map_set],by rw[gX];exact h,λx m=>?_⟩;rcases List.mem_or_eq_of_mem_set m with z|z
 ·exact hx x z
 ·subst z;exact hy
theorem jb8{rows:List (List D)}(hl:rows.length=N)(h:∀r∈rows,vM A r):∃T,Shape N A T/\kC rows=tabD T:=by
 induction rows generalizing N with
 |nil=>exact⟨[],⟨by simpa using hl,λr hr=>absurd hr (by simp),λr hr=>absurd hr (by simp)⟩,rfl⟩
 |cons r rows ih =>
  obtain⟨T,g,e⟩:=ih (N:=rows.length) rfl λx hx=>h x (bo _ hx)
  obtain⟨l,rfl,ll,hx⟩:=h r (bC ..);refine⟨l::T,⟨by rw[dU,g.len];simpa using hl,λx hx=>?_,λx hx' y hy=>?_⟩,?_⟩
  ·rcases bz.mp hx with rfl|z
   ·exact ll
   ·exact g.row x z
  ·rcases bz.mp hx' with rfl|z
   ·exact hx y hy
   ·exact g.num x z y hy
  ·unfold kC tabD at *;injection e with e;rw[bq,bq,e]
def K1(M:Int):Ctr where
 pre ds:=∃(ns:List Int) (n:Nat),ds=[.lst (ns.map .int),.int n,.int M]/\ns.length<=63/\8<=n/\n<=64
 res _ d:=∃T ps t,FitOk T ps t/\d=.tup [tabD T,plD ps,.int (t:Nat)]
theorem wp_case(hl:ns.length<=63)(n1:8<=n)(n2:n<=64):(K1 M).wp [.lst (ns.map .int),.int n,.int M] Q E ↔ ∀T ps t,FitOk T ps t->Q (.tup [tabD T,plD ps,.int (t:Nat)]):=by
 constructor
 ·intro w T ps t g;exact w.2.1 _ ⟨T,ps,t,g,rfl⟩
 ·intro q;refine⟨⟨ns,n,rfl,hl,n1,n2⟩,λd h=>?_,λ_ z=>z.elim⟩;obtain⟨T,ps,t,g,rfl⟩:=h;exact q T ps t g
theorem Je{C:Cfg}{j:Nat}{σ:Sto}{c e v:Ex}{r:List D}{Q:List D->Prop}(g:vM A r)(hc:wpE C c (setS σ j none) λd=>∃b,d=.bl b)
 (hv:∀l:List (Int×Int),l.length=A->(∀x∈l,SharpP x)->wpE C v (setS σ j (some (.sh (.lst (l.map nq))))) λd=>∃y,d=nq y/\SharpP y) (he:wpE C e (setS σ j none) λk=>∃p:Nat,k=.int p/\p<A) (q:∀r',vM A r'->Q r'):Vd C j σ (.sto (some c) e v) r Q:=by
 obtain⟨l,rfl,ll,hx⟩:=g;unfold Vd;refine ja c (λd hb=>?_) hc;obtain⟨b,rfl⟩:=hb
 cases b with
 |false=>exact q _ ⟨l,rfl,ll,hx⟩
 |true =>
  refine ja v (λd hy=>?_) (hv l ll hx);obtain⟨y,rfl,sy⟩:=hy;refine⟨rfl,ja e (λk hk=>?_) he⟩;obtain⟨p,rfl,hp⟩:=hk;exact⟨⟨by lia,by rw[bj];lia⟩,q _ (vM.set ll hx sy)⟩
theorem KM(w p:Int):SharpP (dq ((w%4001-2000:Int)*tw (p%9-4))):=by
 have h:(w%4001-2000).natAbs<2^12:=by lia
 rw[<- uK];have b:=qo (w%4001-2000) (p%9-4);have s:=(b.num h).sz;have q:=b.pow h;have b9:=jh.mpr s
 refine⟨⟨by lia,?_,?_⟩,?_⟩<;>lia
def caseP(a:Int)(i_law_drawn i_law_cell i_law_table i_law_bare:Nat):Sm :=
 (.seq (.set 3 (.bin .add (.cst (.int 1)) (.bin .mod (.call i_law_drawn [(.call i_law_cell [(.var 0),(.cst (.int 0))]),(.cst (.int 120))]) (.cst (.int a)))))
 (.seq (.set 4 (.bi .max [(.cst (.int 1)),(.bi .min [(.bin .fdiv (.var 2) (.var 3)),(.bin .fdiv (.bin .sub (.bi .len [(.var 0)]) (.cst (.int 1))) (.var 3))])]))
 (.seq (.setG 5 i_law_table [(.var 0),(.cst (.int 1)),(.var 4),(.var 3),(.var 1)])
 (.seq (.set 6 (.call i_law_drawn [(.call i_law_cell [(.var 0),(.cst (.int 0))]),(.cst (.int 121))]))
 (.seq (.set 7 (.cmp .gt (.bin .mod (.bin .fdiv (.var 6) (.cst (.int 18000))) (.cst (.int 4))) (.cst (.int 0))))
 (.seq (.ite (.var 7) (.seq (.shrT 5)
  (.seq (.ownG 5 (.compE (.var 5) (.compE (.var 14) (.call i_law_bare [(.bin .sub (.bin .mod (.ix (.var 15) (.cst (.int 0))) (.cst (.int 4001))) (.cst (.int 2000))),(.bin .sub (.bin .mod (.ix (.var 15) (.cst (.int 1))) (.cst (.int 9))) (.cst (.int 4)))]))))
  .nop)) .nop)
 (.seq (.new 8)
 (.seq (.forR 9 [(.bi .min [(.var 3),(.bin .add (.cst (.int 1)) (.bin .mod (.var 6) (.bin .add (.cst (.int 2)) (.bi .int [(.var 7)]))))])] (.seq (.cpO 8 10 [(.var 3)] (.cmp .nin (.var 14) (.var 8)) (.var 14))
  (.seq (.shr 10)
  (.seq (.app 8 (.ix (.var 10) (.bin .mod (.bin .fdiv (.bin .fdiv (.var 6) (.cst (.int 3))) (.bin .add (.bin .mul (.var 9) (.cst (.int 7))) (.cst (.int 1)))) (.bi .len [(.var 10)]))))
  .nop))))
 (.seq (.set 11 (.bin .mod (.bin .fdiv (.var 6) (.cst (.int 500))) (.var 3)))
 (.seq (.set 12 (.bin .mod (.bin .fdiv (.var 6) (.cst (.int 3000))) (.cst (.int 6))))
 (.seq (.forT 13 5 [(.sto (some (.cmp .eq (.var 12) (.cst (.int 0)))) (.oix 8 (.cst (.int 0))) (.tup [(.cst (.int 1)),(.cst (.int 3))])),(.sto (some (.cmp .eq (.var 12) (.cst (.int 1)))) (.oix 8 (.neg (.cst (.int 1)))) (.tup [(.bin .sub (.cst (.int 0)) (.ix (.ix (.var 13) (.oix 8 (.cst (.int 0)))) (.cst (.int 0)))),(.ix (.ix (.var 13) (.oix 8 (.cst (.int 0)))) (.cst (.int 1)))])),(.sto (some (.cmp .eq (.var 12) (.cst (.int 2)))) (.oix 8 (.cst (.int 0))) (.tup [(.cst (.int 0)),(.cst (.int 0))]))])
 (.seq (.shr 8)
 (.seq (.shrT 5)
 (.seq (.ret (.tup [(.var 5),(.var 8),(.var 11)]))
 .nop))))))))))))))
theorem k_case{C:Cfg}{i3 i4:Nat}(h1:C.ct i1=kr)(h2:C.ct i2=xj)(h3:C.ct i3=c_tab)(h4:C.ct i4=qM)(g3:C.fr i3=false/\C.f2 i3=true){a:Int}(ha:1<=a)(ha6:a<=6)(hM:M<=60)(hM1:1<=M):jB C 14 (caseP a i1 i2 i3 i4) (K1 M):=by
 rintro ds ⟨ns,n,rfl,hl,n1,n2⟩
 have z0:(0:Int)<=0:=by decide
 have z1:(0:Int)<=1:=by decide
 have an:¬ a=0:=by lia
 rw[caseP];simp_all! only[h1,h2,K6 hl z0,yU,an];intro _ m m0 m1
 obtain⟨A,eA,A1,A2⟩:∃A:Nat,1+m.fmod a=(A:Int)/\1<=A/\A<=6:=by
  rw[jA (by lia)];have:=gR m (b:=a) (by lia);have:=gK m (b:=a) (by lia);exact⟨(1+m%a).toNat,by lia,by lia,by lia⟩
 rw[eA];have bA:bits (A:Int)<=4:=jh.mpr (by lia)
 have fA:¬ (A:Int)=0/\bits (A:Int)<=9000:=⟨by lia,by lia⟩
 simp_all! only[fA,bj]
 obtain⟨N,eN,N1,N2⟩:∃N:Nat,(if (if (ns.length-1:Int).fdiv A<jel M A then (ns.length-1:Int).fdiv A else jel M A) > 1 then (if (ns.length-1:Int).fdiv A<jel M A then (ns.length-1:Int).fdiv A else jel M A) else 1)=(N:Int)/\1<=N/\(N=1\/(N:Int)<=jel M A):=by
  generalize jel M A=y at *;generalize (ns.length-1:Int).fdiv A=x
  refine⟨(if (if x<y then x else y) > 1 then (if x<y then x else y) else 1).toNat,?_,?_,?_⟩<;>split<;>(try split)<;>lia
 rw[eN]
 have NA:N*A<=60:=by
  rcases N2 with z|z
  ·rw[z];lia
  ·rw[j4 (by lia)]at z;have h1:=gP z (show (0:Int)<=A by lia);have h2:=jdV M (b:=A) (by lia)
   have h3:((N*A:Nat):Int)=N*A:=by push_cast;rfl
   lia
 have N6:N<=60:=by have:=sD N A1;lia
 refine⟨⟨g3,rfl⟩,?_⟩;rw[h3,wp_tab hl z1 ⟨A1,N1,by lia⟩ n1 n2];intro T g;refine⟨T.map λr=>r.map nq,Js T,?_⟩;intro _ m' m0' m1';refine⟨by decide,?_⟩;generalize decide (0<(m'.fdiv 18000).fmod 4)=li
 let S (rows:List (List D)) (x8 x9 x10:Option Sl):Sto:=[some (.sh (.lst (ns.map .int))),some (.sh (.int n)),some (.sh (.int M)),some (.sh (.int A)),some (.sh (.int N)),some (.ot rows),some (.sh (.int m')),some (.sh (.bl li)),x8,x9,x10,none,none,none]
 have tl:T.length<=lim:=by rw[g.len];unfold lim;lia
 refine jP (λσ=>∃T',Shape N A T'/\σ=S (T'.map λr=>r.map nq) none none none) ?_ ?_
 ·rw[qH];dsimp! only[]
  cases li with
  |false =>
   rw[if_neg (by decide),qG]
   exact⟨T,g,rfl⟩
  |true =>
   rw[if_pos rfl]
   let lf:Int×Int->Int×Int:=λx=>dq ((x.1%4001-2000:Int)*tw (x.2%9-4))
   simp_all! only[wpG];rw[<- Js,tabD];refine⟨rfl,rfl,_,rfl,by rw[bj];exact tl,?_⟩
   rw[zK (g:=λr:List (Int×Int)=>D.lst (r.map nq)) (h:=λr=>(r.map lf).map nq) (λr hr Q=>by
    have rl:=g.row r hr
    have l2:r.length<=lim:=by rw[rl];unfold lim;lia
    dsimp! only[bj,l2]
    rw[jt (g:=nq) (h:=λx=>nq (lf x)) (λx hx Q=>by
     have f1:x.1.fmod 4001=x.1%4001:=jA (by decide);have f2:x.2.fmod 9=x.2%9:=jA (by decide);have b:=jh (i:=x.1%4001-2000) (n:=12)
     have w:=λQ E=>Qw (w:=x.1%4001-2000) (p:=x.2%9-4) (Q:=Q) (E:=E) (bS (b.mpr (by lia)) (by decide))
     dsimp! only[xK,xh,f1,f2,h4,w]
     rfl),bN]
    rfl)]
   rw[show (T.map λr=>(r.map lf).map nq)=(T.map λr=>r.map lf).map λr=>r.map nq by rw[bN];rfl];refine⟨T.map λr=>r.map lf,⟨by rw[bj];exact g.len,λr hr=>?_,λr hr x hx=>?_⟩,?_⟩
   ·obtain⟨q,hq,rfl⟩:=bH.mp hr;rw[bj];exact g.row q hq
   ·obtain⟨q,hq,rfl⟩:=bH.mp hr;obtain⟨y,hy,rfl⟩:=bH.mp hx;exact KM _ _
   ·rfl
 rintro σ ⟨T',g',rfl⟩;simp only[S];simp_all! only[]
 obtain⟨ct,ec,c1,c2⟩:∃ct:Nat,(if 1+m'.fmod (2+if li=true then 1 else 0)<(A:Int) then 1+m'.fmod (2+if li=true then 1 else 0) else (A:Int))=(ct:Int)/\1<=ct/\(ct<=A/\ct<=3):=by
  cases li with
  |true =>
   rw[if_pos rfl,jA (by decide)]
   refine⟨(if 1+m'%(2+1)<(A:Int) then 1+m'%(2+1) else (A:Int)).toNat,?_,?_,?_⟩<;>split<;>lia
  |false =>
   simp only[dG,if_false];rw[jA (by decide)]
   refine⟨(if 1+m'%(2+0)<(A:Int) then 1+m'%(2+0) else (A:Int)).toNat,?_,?_,?_⟩<;>split<;>lia
 have li0:¬ (2+if li=true then (1:Int) else 0)=0:=by cases li<;>decide
 refine jP (λσ=>∃(ps:List Nat) (x9 x10:Option Sl),(ps.length=ct/\∀p∈ps,p<A)/\σ=S (T'.map λr=>r.map nq) (some (.ow (ps.map λp:Nat=>.int p))) x9 x10) ?_ ?_
 ·rw[vF];dsimp! only[li0];rw[ec];refine⟨by unfold qT;lia,?_⟩;rw[bV];refine qb (λds σ=>∃(ps:List Nat) (x9 x10:Option Sl),(ps.length<=ct/\ds=jW ps.length 1 (ct-ps.length)/\∀p∈ps,p<A)/\σ=S (T'.map λr=>r.map nq) (some (.ow (ps.map λp:Nat=>.int p))) x9 x10) ⟨[],none,none,⟨by simp,by simp,λp hp=>absurd hp (by simp)⟩,rfl⟩ ?_ ?_
  ·rintro d ds σ ⟨ps,x9,x10,⟨pl,hd,hp⟩,rfl⟩
   have hlt:ps.length<ct:=by
    rcases b8 ps.length ct with z|z
    ·exact z
    ·rw[show ct-ps.length=0 by lia]at hd;cases hd
   rw[show ct-ps.length=(ct-(ps.length+1))+1 by lia,jW]at hd;simp only[bO]at hd;obtain⟨rfl,rfl⟩:=hd;simp only[S];rw[jO,ws_cpO];dsimp! only[];refine⟨by unfold qT;lia,by rw[kx];simp;unfold lim;lia,?_⟩
   rw[bV,kx,JK (b:=λi:Nat=>decide (i ∉ ps)) (h:=λi:Nat=>D.int i) (λi hi Q=>by
    rw[t4];show (∃ms:List Int,(ps.map λp:Nat=>D.int p)=ms.map .int/\_/\isB Q (.bl (ms.contains (i:Int) == false))) ↔ _
    have e1:(ps.map λp:Nat=>D.int p)=(ps.map λp:Nat=>(p:Int)).map .int:=by rw[bN];rfl
    have e2:((ps.map λp:Nat=>(p:Int)).contains (i:Int) == false)=decide (i ∉ ps):=by
     rw[jeh,pN];simp only[beq_iff_eq,decide_eq_false_iff_not,decide_eq_true_eq,bH];constructor
     ·intro z h;exact z ⟨i,h,rfl⟩
     ·rintro z ⟨a,ha,e⟩
      have:a=i:=by lia
      subst this;exact z ha
    constructor
    ·rintro⟨ms,e,_,q⟩;rw[e1]at e;have e:=kq (λa b z=>by injection z) e;subst e;rw[e2]at q;exact q
    ·intro q
     exact⟨_,e1,by rw[bj];unfold lim;lia,by rw[e2];exact q⟩) (λi hi Q=>by rw[t4])]
   have lf0:(bE A).filter (λi:Nat=>decide (i ∉ ps)) ≠ []:=by
    intro z
    have:=hole A ps λi hi=>Classical.byContradiction λhn=>by
     have:i∈(bE A).filter (λi:Nat=>decide (i ∉ ps)):=sQ.mpr ⟨dF.mpr hi,by simpa using hn⟩;rw[z]at this;cases this
    lia
   have lfm:∀i∈(bE A).filter (λi:Nat=>decide (i ∉ ps)),i<A:=λi hi=>dF.mp (sQ.mp hi).1
   generalize (bE A).filter (λi:Nat=>decide (i ∉ ps))=lf at *;refine⟨?_,?_⟩
   ·clear lf0 lfm
    induction lf with
    |nil=>rfl
    |cons x xs ih=>rw[bq,Xb,ih];rfl
   have l0:0<lf.length:=ph.mpr lf0;have k7:ku (ps.length:Int) 7:=.inr (.inl (by decide));have b7:bits ((ps.length:Int)*7+1)<=9000:=bS (jh (n:=10).mpr (by lia)) (by decide)
   have f7:¬ (ps.length:Int)*7+1=0:=by lia
   have f3:bits (3:Int)<=9000:=by decide
   have lL:¬ (lf.length:Int)=0:=by lia
   have pl2:ps.length<lim:=by unfold lim;lia
   simp_all! only[bj,f3,k7,f7,b7,lL,pl2];generalize ((m'.fdiv 3).fdiv ((ps.length:Int)*7+1))=z;rw[jA (by lia)]
   obtain⟨j,ej,jl⟩:∃j:Nat,z%(lf.length:Int)=j/\j<lf.length:=⟨(z%(lf.length:Int)).toNat,by have:=gR z (b:=lf.length) (by lia);lia,by have:=gR z (b:=lf.length) (by lia);have:=gK z (b:=lf.length) (by lia);lia⟩
   rw[ej]
   have aj:atD (lf.map λi:Nat=>D.int i) (j:Int)=some (.int (lf[j]:Nat)):=by
    unfold atD;rw[if_pos (by lia),bV,bY,bD jl];rfl
   refine⟨_,aj,?_⟩;rw[show (ps.map λp:Nat=>D.int p) ++ [D.int (lf[j]:Nat)]=(ps ++ [lf[j]]).map λp:Nat=>D.int p by rw[de];rfl];refine⟨ps ++ [lf[j]],_,_,⟨by simp;lia,by simp,λp hp'=>?_⟩,rfl⟩;rcases dI.mp hp' with y|y
   ·exact hp p y
   ·simp only[bz,bK,or_false]at y;subst y;exact lfm _ (dP jl)
  ·rintro σ ⟨ps,x9,x10,⟨pl,hd,hp⟩,rfl⟩
   have:ps.length=ct:=by
    rcases b8 ps.length ct with z|z
    ·rw[show ct-ps.length=(ct-(ps.length+1))+1 by lia,jW]at hd;cases hd
    ·lia
   exact⟨ps,x9,x10,⟨this,hp⟩,rfl⟩
 rintro σ ⟨ps,x9,x10,⟨pl,hp⟩,rfl⟩;simp only[S];have A0:¬ (A:Int)=0:=fA.1
 have f5:bits (500:Int)<=9000:=by decide
 have f30:bits (3000:Int)<=9000:=by decide
 simp_all! only[A0,f5,f30]
 obtain⟨t,et,tA⟩:∃t:Nat,(m'.fdiv 500).fmod A=(t:Int)/\t<A:=by
  rw[jA (by lia)];generalize m'.fdiv 500=z;have:=gR z (b:=A) (by lia);have:=gK z (b:=A) (by lia);exact⟨(z%(A:Int)).toNat,by lia,by lia⟩
 rw[et];generalize (m'.fdiv 3000).fmod 6=way;rw[jO,ws_forT];simp_all! only[]
 obtain⟨p0,a0,pA0⟩:∃p0:Nat,atD (ps.map λp:Nat=>D.int p) 0=some (.int p0)/\p0<A:=by
  cases ps with
  |nil=>simp at pl;lia
  |cons p ps=>exact⟨p,by rw[bq,KC],hp p (bC ..)⟩
 obtain⟨p9,a9,pA9⟩:∃p9:Nat,atD (ps.map λp:Nat=>D.int p) (-1)=some (.int p9)/\p9<A:=by
  have l0:0<ps.length:=by lia
  refine⟨ps[ps.length-1],?_,hp _ (dP _)⟩;unfold atD;rw[if_neg (by decide),bj,if_pos (by lia),bY,show (-1+(ps.length:Int)).toNat=ps.length-1 by lia,bD (by lia)];rfl
 refine Ki (P:=vM A) (λr gr Q q=>?_) (λr hr=>?_) λrows hl' hg=>?_
 ·refine Je gr (by dsimp! only[];exact⟨_,rfl⟩) (λl ll hx=>by dsimp! only[];exact⟨(1,3),rfl,⟨⟨by decide,by decide,by decide⟩,by decide⟩⟩) (by dsimp! only[a0];exact⟨p0,rfl,pA0⟩) λr1 g1=>?_
  refine Je g1 (by dsimp! only[];exact⟨_,rfl⟩) (λl ll hx=>by
   have al:=UL (r:=l) (p:=p0) (by lia);have sl:=hx (l.getD p0 (0,0)) (by rw[K40.getD_at (by lia)];exact dP _);dsimp! only[a0,al,xK,xh]
   exact⟨(0-(l.getD p0 (0,0)).1,(l.getD p0 (0,0)).2),rfl,⟨⟨by have:=xg (l.getD p0 (0,0)).1;have:=sl.sm.b;simp only[jff];lia,sl.sm.lo,sl.sm.hi⟩,by have:=xg (l.getD p0 (0,0)).1;have:=sl.up;simp only[jff];lia⟩⟩) (by dsimp! only[a9];exact⟨p9,rfl,pA9⟩) λr2 g2=>?_
  refine Je g2 (by dsimp! only[];exact⟨_,rfl⟩) (λl ll hx=>by dsimp! only[];exact⟨(0,0),rfl,⟨⟨by decide,by decide,by decide⟩,by decide⟩⟩) (by dsimp! only[a0];exact⟨p0,rfl,pA0⟩) λr3 g3=>?_
  exact q r3 g3
 ·obtain⟨l,hl',rfl⟩:=bH.mp hr;exact⟨l,rfl,g'.row l hl',g'.num l hl'⟩
 ·rw[bj,g'.len]at hl';obtain⟨U,gU,eU⟩:=jb8 hl' hg;simp_all! only[eU];refine⟨U,ps,t,⟨?_,?_,?_,?_,?_,?_,λr hr=>?_⟩,rfl⟩
  ·intro z;have:=gU.len;rw[z]at this;simp at this;lia
  ·rw[gU.len];lia
  ·rw[gU.len];have:N*(ps.length+2)<=N*(A+2):=sD N (by lia);rw[Nat.mul_add]at this;lia
  ·exact λr hr x hx=>(gU.num r hr x hx).up
  ·lia
  ·lia
  ·have rl:=gU.row r hr;exact⟨⟨by lia,λx hx=>(gU.num r hr x hx).sm⟩,by lia,λp hp'=>by have:=hp p hp';lia⟩
theorem jaV{F:List (Int×Int)->Int}(m:MissOk T ps t qs F u):∀r∈T,szr 9000 (km ps t qs r):=by
 intro r hr;rw[<- XU m r hr];have:=qw (F r) (u:=u) (by have:=m.pos;lia);have:=m.bF r hr;have:=m.bu;exact⟨by lia,by lia⟩
theorem JN:∀(qs:List Rat),∃u,UnderOk qs u
 |[]=>⟨1,by decide,λq hq=>absurd hq (by simp),λm _=>jej m⟩
 |q::qs=>by
  obtain⟨u,U⟩:=JN qs;obtain⟨v,_,v0,v1,v2,v3,_⟩:=Jp U.pos (qq q);refine⟨v,v0,λx hx=>?_,λm hm=>v3 m (U.b m λx hx=>hm x (bo _ hx)) (hm q (bC ..))⟩;rcases bz.mp hx with rfl|z
  ·exact v2
  ·exact pU (U.dvd x z) v1
theorem Kt(g:FitOk T ps t)(p:PartsOk ps qs):∃F u,MissOk T ps t qs F u:=by
 obtain⟨u,U⟩:=JN qs;have ql:=p.len
 cases qs with
 |nil=>simp at ql
 |cons q0 qt=>exact⟨_,_,KH g p ⟨Int.le_refl _,by decide,λl hl x hx=>by
  obtain⟨r,hr,rfl⟩:=bH.mp hl
  exact((g.sm r hr).all x (vB hx)).lo⟩ U⟩
end Z.K51
set_option exponentiation.threshold 3000
namespace Z.J45
open PySem Z Z.K42 Z.K40 Z.J51
def b_without:Sm :=
 (.seq (.ret (.compE (.var 0) (.bin .add (.slc (.var 2) (.cst .non) (.var 1)) (.slc (.var 2) (.bin .add (.var 1) (.cst (.int 1))) (.cst .non)))))
 .nop)
def b_whole_determinant1:Sm :=
 (.seq (.ite (.cmp .eq (.bi .len [(.var 0)]) (.cst (.int 1))) (.seq (.ret (.ix (.ix (.var 0) (.cst (.int 0))) (.cst (.int 0))))
  .nop) .nop)
 (.seq (.set 1 (.cst (.int 0)))
 (.seq (.set 2 (.cst (.int 1)))
 (.seq .never
 (.seq (.ret (.var 1))
 .nop)))))
def b_whole_determinant2(i_whole_determinant1 i_without:Nat):Sm :=
 (.seq (.ite (.cmp .eq (.bi .len [(.var 0)]) (.cst (.int 1))) (.seq (.ret (.ix (.ix (.var 0) (.cst (.int 0))) (.cst (.int 0))))
  .nop) .nop)
 (.seq (.set 1 (.cst (.int 0)))
 (.seq (.set 2 (.cst (.int 1)))
 (.seq (.forN 3 (.ix (.var 0) (.cst (.int 0))) (.seq (.set 1 (.bin .add (.var 1) (.bin .mul (.bin .mul (.var 2) (.ix (.var 3) (.cst (.int 1)))) (.call i_whole_determinant1 [(.call i_without [(.slc (.var 0) (.cst (.int 1)) (.cst .non)),(.ix (.var 3) (.cst (.int 0)))])]))))
  (.seq (.set 2 (.neg (.var 2)))
  .nop)))
 (.seq (.ret (.var 1))
 .nop)))))
def b_whole_determinant3(i_whole_determinant2 i_without:Nat):Sm :=
 (.seq (.ite (.cmp .eq (.bi .len [(.var 0)]) (.cst (.int 1))) (.seq (.ret (.ix (.ix (.var 0) (.cst (.int 0))) (.cst (.int 0))))
  .nop) .nop)
 (.seq (.set 1 (.cst (.int 0)))
 (.seq (.set 2 (.cst (.int 1)))
 (.seq (.forN 3 (.ix (.var 0) (.cst (.int 0))) (.seq (.set 1 (.bin .add (.var 1) (.bin .mul (.bin .mul (.var 2) (.ix (.var 3) (.cst (.int 1)))) (.call i_whole_determinant2 [(.call i_without [(.slc (.var 0) (.cst (.int 1)) (.cst .non)),(.ix (.var 3) (.cst (.int 0)))])]))))
  (.seq (.set 2 (.neg (.var 2)))
  .nop)))
 (.seq (.ret (.var 1))
 .nop)))))
def b_whole_determinant4(i_whole_determinant3 i_without:Nat):Sm :=
 (.seq (.ite (.cmp .eq (.bi .len [(.var 0)]) (.cst (.int 1))) (.seq (.ret (.ix (.ix (.var 0) (.cst (.int 0))) (.cst (.int 0))))
  .nop) .nop)
 (.seq (.set 1 (.cst (.int 0)))
 (.seq (.set 2 (.cst (.int 1)))
 (.seq (.forN 3 (.ix (.var 0) (.cst (.int 0))) (.seq (.set 1 (.bin .add (.var 1) (.bin .mul (.bin .mul (.var 2) (.ix (.var 3) (.cst (.int 1)))) (.call i_whole_determinant3 [(.call i_without [(.slc (.var 0) (.cst (.int 1)) (.cst .non)),(.ix (.var 3) (.cst (.int 0)))])]))))
  (.seq (.set 2 (.neg (.var 2)))
  .nop)))
 (.seq (.ret (.var 1))
 .nop)))))
def wo(M:List (List Int))(j:Nat):List (List Int):=M.map λr=>r.take j++r.drop (j+1)
def sgn(j:Nat):Int:=1-2*((j%2:Nat):Int)
theorem jar(j:Nat):sgn (j+1)=-sgn j:=by unfold sgn;lia
theorem QX(j:Nat):bits (sgn j)<=1:=by
 have:sgn j=1\/sgn j=-1:=by unfold sgn;lia
 rcases this with e|e<;>rw[e]<;>decide
def jI:Nat->List (List Int)->Int
 |0,M=>(M.getD 0 []).getD 0 0
 |n+1,M=>((bE (n+2)).map λj=>sgn j*(M.getD 0 []).getD j 0*jI n (wo (M.drop 1) j)).sum
structure Rect (m n B:Nat) (M:List (List Int)):Prop where
 len:M.length=m
 row:∀r∈M,r.length=n
 b:∀r∈M,∀x∈r,bits x<=B
variable{m n B j:Nat}{M:List (List Int)}
theorem Rect.wo(h:Rect m (n+1) B M)(hj:j<n+1):Rect m n B (wo M j):=by
 refine⟨by unfold J45.wo;rw[bj];exact h.len,λr hr=>?_,λr hr x hx=>?_⟩
 ·obtain⟨q,hq,rfl⟩:=bH.mp hr;have:=h.row q hq;rw[b6,gE,mw];lia
 ·obtain⟨q,hq,rfl⟩:=bH.mp hr;rcases dI.mp hx with z|z
  ·exact h.b q hq x (nS z)
  ·exact h.b q hq x (gJ z)
theorem Rect.tail(h:Rect (m+1) n B M):Rect m n B (M.drop 1) :=
 ⟨by rw[mw,h.len];lia,λr hr=>h.row r (gJ hr),λr hr=>h.b r (gJ hr)⟩
variable{α:Type}
theorem xX{M:List α}{d:α}(h:0<M.length):M.getD 0 d∈M:=by rw[K40.getD_at h];exact dP h
variable{r:List Int}
theorem Qn(h:∀x∈r,bits x<=B)(j:Nat):bits (r.getD j 0)<=B:=by
 rcases b8 j r.length with z|z
 ·rw[K40.getD_at z];exact h _ (dP z)
 ·rw[jdA,bI z];exact mL _
def dB(B:Nat):Nat->Nat
 |0=>B
 |n+1=>B+dB B n+1+(n+2)
theorem JQ{B:Nat}:∀(n:Nat) {M:List (List Int)},Rect (n+1) (n+1) B M->bits (jI n M)<=dB B n
 |0,M,h=>by
  have h0:0<M.length:=by rw[h.len];decide
  exact Qn (h.b _ (xX h0)) 0
 |n+1,M,h=>by
  have h0:0<M.length:=by rw[h.len];lia
  unfold jI
  have:=y8 (B:=B+dB B n+1) (l:=(bE (n+2)).map λj=>sgn j*(M.getD 0 []).getD j 0*jI n (wo (M.drop 1) j)) λx hx=>by
   obtain⟨j,hj,rfl⟩:=bH.mp hx;have hj:=dF.mp hj;have a:=JQ n (h.tail.wo hj);have b:=Qn (h.b _ (xX (d:=[]) h0)) j;have c:=QX j;have d:=jC (sgn j) ((M.getD 0 []).getD j 0);have e:=jC (sgn j*(M.getD 0 []).getD j 0) (jI n (wo (M.drop 1) j));lia
  rw[bj,pX]at this;unfold dB;lia
def qz(k:Nat):Ctr where
 pre ds:=∃n M,ds=[wD M]/\Rect (n+1) (n+1) 400 M/\n+1<=k/\k<=4
 res ds d:=∀n M,ds=[wD M]->M.length=n+1->d=.int (jI n M)
theorem w1{N:List (List Int)}(h:[wD M]=[wD N]):M=N:=yz (n9 h).1
variable{k:Nat}{Q:D->Prop}{E:XD->Prop}
theorem V2(h:Rect (n+1) (n+1) 400 M)(hk:n+1<=k)(k4:k<=4):(qz k).wp [wD M] Q E ↔ Q (.int (jI n M)) :=
 ⟨λw=>w.2.1 _ λn' M' e l=>by
  have e:=w1 e;subst e
  have:n=n':=by have:=h.len;lia
  subst this
  rfl,λq=>⟨⟨n,M,rfl,h,hk,k4⟩,λd hd=>by rw[hd n M rfl h.len];exact q,λ_ z=>z.elim⟩⟩
variable{i:Nat}
theorem at_w(h:i<M.length):atD (M.map λr=>D.lst (r.map .int)) (i:Int)=some (.lst ((M.getD i []).map .int)):=by
 unfold atD;rw[if_pos (by lia),bV,bY,bD h,K40.getD_at h];rfl
theorem jbd(h:i<r.length):atD (r.map .int) (i:Int)=some (.int (r.getD i 0)):=by
 unfold atD;rw[if_pos (by lia),bV,bY,bD h,K40.getD_at h];rfl
theorem jcn{f:α->D}{r:List α}(h:j<=r.length):yr (r.map f) none (some (j:Int))=(r.take j).map f:=by
 unfold yr;have e1:sIx (r.map f).length 0 none=0:=rfl;rw[e1,bj,vD,wY h,gk,jfg,jdq]
theorem uv{f:α->D}{r:List α}(h:j<=r.length):yr (r.map f) (some (j:Int)) none=(r.drop j).map f:=by
 unfold yr;have e1:sIx (r.map f).length (r.map f).length none=(r.map f).length:=rfl;rw[e1,bj,vD,wY h,jdS (by rw[mw,bj];exact df _),List.map_drop]
def c_without:Ctr where
 pre ds:=∃(M:List (List Int)) (j:Nat),ds=[wD M,.int j]/\M.length<=200/\∀r∈M,j<r.length/\r.length<=200
 res ds d:=∀(M:List (List Int)) (j:Nat),ds=[wD M,.int j]->d=wD (wo M j)
theorem wo_row(hj:j<r.length)(hl:r.length<=200):x5 .add (.lst (yr (r.map .int) none (some (j:Int)))) (.lst (yr (r.map .int) (some ((j:Int)+1)) none)) Q ↔ Q (.lst ((r.take j++r.drop (j+1)).map .int)):=by
 rw[jcn (by lia),show ((j:Int)+1)=((j+1:Nat):Int) by push_cast;rfl,uv (by lia),Q2,de];refine and_iff_right ?_;rw[bj,bj,gE,mw];unfold lim;lia
theorem k_without{C:Cfg}:jB C 2 b_without c_without:=by
 rintro ds ⟨M,j,rfl,hl,g⟩;rw[b_without,wD];simp_all! only[bj];refine⟨by unfold lim;lia,?_⟩
 rw[jt (g:=λr:List Int=>D.lst (r.map .int)) (h:=λr=>D.lst ((r.take j++r.drop (j+1)).map .int)) (λr hr Q=>by
  obtain⟨a,b⟩:=g r hr
  have w:=λQ=>wo_row (Q:=Q) a b
  simp only[wE_bin,wE_slc,wE_var,wE_cst,getS,prt,kL,vz,slD,UE,Option.bind]
  dsimp! only[prt,kL,vz,slD,yB,w])]
 intro M' j' e;simp only[bO,D.int.injEq,and_true]at e;have e1:=yz e.1
 have e2:j=j':=by lia
 subst e1 e2;unfold wD wo;rw[bN];rfl
theorem X2(hl:M.length<=200)(g:∀r∈M,j<r.length/\r.length<=200):c_without.wp [wD M,.int j] Q E ↔ Q (wD (wo M j)) :=
 ⟨λw=>w.2.1 _ λM' j' e=>by
  simp only[bO,D.int.injEq,and_true]at e;have e1:=yz e.1
  have e2:j=j':=by lia
  subst e1 e2
  rfl,λq=>⟨⟨M,j,rfl,hl,g⟩,λd h=>by rw[h M j rfl];exact q,λ_ z=>z.elim⟩⟩
def trm(n:Nat)(M:List (List Int))(j:Nat):Int:=sgn j*(M.getD 0 []).getD j 0*jI n (wo (M.drop 1) j)
theorem Xr(n:Nat)(M:List (List Int)):jI (n+1) M=((bE (n+2)).map (trm n M)).sum:=rfl
theorem q9(f:Nat->Int)(j:Nat):((bE (j+1)).map f).sum=((bE j).map f).sum+f j:=by
 rw[mG,de,gY];simp
theorem jaU(l:List Int):QM (l.map .int)=(jem 0 l.length).map λj=>.tup [.int (j:Nat),.int (l.getD j 0)]:=by
 unfold QM
 refine jft (by simp) λi h1 h2=>?_
 simp only[bj,List.length_zipIdx]at h1;rw[gH,gH,List.getElem_zipIdx,List.getElem_range',gH,K40.getD_at (by lia)];simp
structure Step (k n:Nat) (M:List (List Int)):Prop where
 r:Rect (n+2) (n+2) 400 M
 k1:n+1<=k
 k4:k<=3
theorem Step.h0(g:Step k n M):0<M.length:=by rw[g.r.len];lia
theorem dB_le(h:n<=3):dB 400 n<=1700:=by
 have:n=0\/n=1\/n=2\/n=3:=by lia
 rcases this with rfl|rfl|rfl|rfl<;>decide
theorem Step.bx(g:Step k n M)(j:Nat):bits ((M.getD 0 []).getD j 0)<=400:=Qn (g.r.b _ (xX (d:=[]) g.h0)) j
theorem Step.bd(g:Step k n M)(hj:j<n+2):bits (jI n (wo (M.drop 1) j))<=1700:=by
 have:=JQ n (g.r.tail.wo hj);have:=dB_le (n:=n) (by have:=g.k1;have:=g.k4;lia);lia
theorem Step.len0(g:Step k n M):(M.getD 0 []).length=n+2:=g.r.row _ (xX (d:=[]) g.h0)
theorem Step.at0(g:Step k n M):atD (M.map λr=>D.lst (r.map .int)) 0=some (.lst ((M.getD 0 []).map .int)):=at_w (i:=0) g.h0
theorem Step.cut(g:Step k n M):D.lst (yr (M.map λr=>D.lst (r.map .int)) (some 1) none)=wD (M.drop 1):=by
 have:=uv (f:=λr:List Int=>D.lst (r.map .int)) (r:=M) (j:=1) (by have:=g.h0;lia);rw[show (some (1:Int))=some ((1:Nat):Int) from rfl,this];rfl
theorem Step.wo(g:Step k n M)(hj:j<n+2):(M.drop 1).length<=200/\∀r∈M.drop 1,j<r.length/\r.length<=200:=by
 have:=g.k1;have:=g.k4;refine⟨by rw[g.r.tail.len];lia,λr hr=>?_⟩;rw[g.r.tail.row r hr];lia
variable{K:DE}{l:Sto}
theorem UJ{C:Cfg}{b:Sm}(h:Rect 1 1 400 M)(q:K.rt (.int (jI 0 M))) :
 wpS C (.seq (.ite (.cmp .eq (.bi .len [(.var 0)]) (.cst (.int 1))) (.seq (.ret (.ix (.ix (.var 0) (.cst (.int 0))) (.cst (.int 0)))) .nop) .nop) b) K (some (.sh (wD M))::l):=by
 have h0:0<M.length:=by rw[h.len];decide
 have a0:atD (M.map λr=>D.lst (r.map .int)) 0=some (.lst ((M.getD 0 []).map .int)):=at_w (i:=0) h0;have a1:atD ((M.getD 0 []).map .int) 0=some (.int ((M.getD 0 []).getD 0 0)):=jbd (i:=0) (by rw[h.row _ (xX (d:=[]) h0)];decide);have l1:=h.len;rw[jO,qH,wD];dsimp! only[bj,l1];simp_all! only[a0,a1];exact q
theorem ja9{C:Cfg}{b:Sm}(h:Rect (n+2) (n+2) 400 M)(q:wpS C b K (some (.sh (wD M))::l)) :
 wpS C (.seq (.ite (.cmp .eq (.bi .len [(.var 0)]) (.cst (.int 1))) (.seq (.ret (.ix (.ix (.var 0) (.cst (.int 0))) (.cst (.int 0)))) .nop) .nop) b) K (some (.sh (wD M))::l):=by
 refine XH ?_ q;have l1:=h.len
 have l2:¬ ((n+2:Nat):Int)=1:=by lia
 rw[wD];dsimp! only[bj,l1,l2];simp;lia
theorem k_det1{C:Cfg}:jB C 4 b_whole_determinant1 (qz 1):=by
 rintro ds ⟨n,M,rfl,h,k1,_⟩
 have:n=0:=by lia
 subst this;rw[b_whole_determinant1]
 refine UJ h λn' M' e l=>?_
 have e:=w1 e;subst e
 have:n'=0:=by have:=h.len;lia
 subst this;rfl
variable{i1 i2:Nat}
theorem jaS{C:Cfg}(h1:C.ct i1=qz k)(h2:C.ct i2=c_without)(k3:k<=3):jB C 4 (b_whole_determinant2 i1 i2) (qz (k+1)):=by
 rintro ds ⟨n,M,rfl,h,k1,_⟩
 have fin:∀d,d=.int (jI n M)->(qz (k+1)).res [wD M] d:=λd hd n' M' e l=>by
  have e:=w1 e;subst e
  have:n'=n:=by have:=h.len;lia
  subst this;exact hd
 rw[b_whole_determinant2]
 cases n with
 |zero=>exact UJ h (fin _ rfl)
 |succ n =>
  have g:Step k n M:=⟨h,by lia,k3⟩
  refine ja9 h ?_;simp_all! only[]
  let S (j:Nat) (a:Option Sl):Sto:=[some (.sh (wD M)),some (.sh (.int ((bE j).map (trm n M)).sum)),some (.sh (.int (sgn j))),a]
  refine jP (λσ=>∃a,σ=S (n+2) a) ?_ ?_
  ·rw[ws_forN];have a0:=g.at0;dsimp! only[wD,a0];rw[jaU,g.len0];refine qb (λds σ=>∃(j:Nat) (a:Option Sl),(j<=n+2/\ds=(jem j (n+2-j)).map λj=>.tup [.int (j:Nat),.int ((M.getD 0 []).getD j 0)])/\σ=S j a) ⟨0,none,⟨by lia,rfl⟩,rfl⟩ ?_ ?_
   ·rintro d ds σ ⟨j,a,⟨hj,hd⟩,rfl⟩
    have hlt:j<n+2:=by
     rcases b8 j (n+2) with z|z
     ·exact z
     ·rw[show n+2-j=0 by lia]at hd;cases hd
    rw[show n+2-j=(n+2-(j+1))+1 by lia,wa,bq,bO]at hd;obtain⟨rfl,rfl⟩:=hd;have bx:=g.bx j;have bd:=g.bd hlt;have bs:=QX j;have bm:=jC (sgn j) ((M.getD 0 []).getD j 0);have m1:ku (sgn j) ((M.getD 0 []).getD j 0):=ji (by lia);have m2:ku (sgn j*(M.getD 0 []).getD j 0) (jI n (wo (M.drop 1) j)):=ji (by lia)
    have w1:=λQ E=>X2 (M:=M.drop 1) (j:=j) (Q:=Q) (E:=E) (g.wo hlt).1 (g.wo hlt).2
    have w2:=λQ E=>V2 (k:=k) (n:=n) (M:=wo (M.drop 1) j) (Q:=Q) (E:=E) (g.r.tail.wo hlt) g.k1 (by lia)
    have cu:=g.cut;simp only[S,wD];simp_all! only[prt,kL,vz,slD,cu,h2,w1,h1,w2,m1,m2];rw[show ((bE j).map (trm n M)).sum+sgn j*(M.getD 0 []).getD j 0*jI n (wo (M.drop 1) j)=((bE (j+1)).map (trm n M)).sum from (q9 (trm n M) j).symm,<- jar];exact⟨j+1,_,⟨by lia,rfl⟩,rfl⟩
   ·rintro σ ⟨j,a,⟨hj,hd⟩,rfl⟩
    have:j=n+2:=by
     rcases b8 j (n+2) with z|z
     ·rw[show n+2-j=(n+2-(j+1))+1 by lia,wa]at hd;cases hd
     ·lia
    subst this;exact⟨a,rfl⟩
  rintro σ ⟨a,rfl⟩;simp only[S];simp_all! only[];exact fin _ rfl
theorem k_det2{C:Cfg}(h1:C.ct i1=qz 1)(h2:C.ct i2=c_without):jB C 4 (b_whole_determinant2 i1 i2) (qz 2):=jaS h1 h2 (by decide)
theorem k_det3{C:Cfg}(h1:C.ct i1=qz 2)(h2:C.ct i2=c_without):jB C 4 (b_whole_determinant3 i1 i2) (qz 3):=jaS h1 h2 (by decide)
theorem k_det4{C:Cfg}(h1:C.ct i1=qz 3)(h2:C.ct i2=c_without):jB C 4 (b_whole_determinant4 i1 i2) (qz 4):=jaS h1 h2 (by decide)
structure SqT (n:Nat) (T:List (List (Int×Int))):Prop where
 n1:1<=n
 n4:n<=4
 len:T.length=n
 row:∀r∈T,r.length=n
 sm:∀r∈T,∀x∈r,SmallP x
structure IsMin (T:List (List (Int×Int))) (low:Int):Prop where
 le:∀r∈T,∀x∈r,low<=x.2
 at_:∃r∈T,∃x∈r,x.2=low
variable{T:List (List (Int×Int))}
theorem SqT.ne(g:SqT n T):T ≠ []:=by intro z;have:=g.len;rw[z]at this;have:=g.n1;simp at *;lia
theorem IsMin.b{low:Int}(h:IsMin T low)(g:SqT n T):-130<=low/\low<=130:=by
 obtain⟨r,hr,x,hx,e⟩:=h.at_;have s:=g.sm r hr x hx;have:=s.lo;have:=s.hi;lia
def c_det1:Ctr:=qz 1
def c_det2:Ctr:=qz 2
def c_det3:Ctr:=qz 3
def c_det4:Ctr:=qz 4
end Z.J45
set_option exponentiation.threshold 3000
namespace Z.L45
open PySem Z Z.K42 Z.K40 Z.J51 Z.J45
variable{α:Type}
theorem l1{l:List α}(h:l.length=1):∃a,l=[a]:=by
 match l,h with
 |[a],_=>exact⟨a,rfl⟩
theorem l2{l:List α}(h:l.length=2):∃a b,l=[a,b]:=by
 match l,h with
 |[a,b],_=>exact⟨a,b,rfl⟩
theorem l3{l:List α}(h:l.length=3):∃a b c,l=[a,b,c]:=by
 match l,h with
 |[a,b,c],_=>exact⟨a,b,c,rfl⟩
theorem l4{l:List α}(h:l.length=4):∃a b c d,l=[a,b,c,d]:=by
 match l,h with
 |[a,b,c,d],_=>exact⟨a,b,c,d,rfl⟩
theorem sg0:sgn 0=1:=by decide
theorem sg1:sgn 1=-1:=by decide
theorem sg2:sgn 2=1:=by decide
theorem sg3:sgn 3=-1:=by decide
theorem rg2:bE 2=[0,1]:=rfl
theorem rg3:bE 3=[0,1,2]:=rfl
theorem rg4:bE 4=[0,1,2,3]:=rfl
theorem d1(a:Int):jI 0 [[a]]=a:=rfl
theorem d2(a b c d:Int):jI 1 [[a,b],[c,d]]=a*d-b*c:=by
 show ((bE 2).map _).sum=_;rw[rg2];simp only[bq,dR,dH,mE,sg0,sg1,wo,d6,gk,g9,nE,dz,bW,jeC,d1,d7,d8]
 grind
theorem d3(a b c d e f g h i:Int):jI 2 [[a,b,c],[d,e,f],[g,h,i]]=a*(e*i-f*h)-b*(d*i-f*g)+c*(d*h-e*g):=by
 show ((bE 3).map _).sum=_;rw[rg3];simp only[bq,dR,dH,mE,sg0,sg1,sg2,wo,d6,gk,g9,nE,dz,bW,jeC,d2,d7,d8]
 grind
def D3(a b c d e f g h i:Int):Int:=a*(e*i-f*h)-b*(d*i-f*g)+c*(d*h-e*g)
theorem d4(a b c d e f g h i j k l m n o p:Int):jI 3 [[a,b,c,d],[e,f,g,h],[i,j,k,l],[m,n,o,p]]=a*D3 f g h j k l n o p-b*D3 e g h i k l m o p+c*D3 e f h i j l m n p-d*D3 e f g i j k m n o:=by
 show ((bE 4).map _).sum=_;rw[rg4];simp only[bq,dR,dH,mE,sg0,sg1,sg2,sg3,wo,d6,gk,g9,nE,dz,bW,jeC,d3,d7,d8];unfold D3
 grind
end Z.L45
set_option exponentiation.threshold 3000
namespace Z.L46
open PySem Z Z.K42 Z.K40 Z.J51 Z.J45 Z.L45
variable{r:List Int}{c k:Nat}
theorem Z3(hc:c<r.length):(r.take c++r.drop (c+1)).getD k 0=if k<c then r.getD k 0 else r.getD (k+1) 0:=by
 simp only[bL];rcases b8 k c with h|h
 ·rw[if_pos h,dM (by rw[gE];lia),nY h]
 ·rw[if_neg (by lia),dN (by rw[gE];lia),gE,jc5];congr 2;lia
variable{l:List Int}
theorem Xo(h:∀x∈l,x=0):l.sum=0:=by
 induction l with
 |nil=>rfl
 |cons a l ih=>rw[dH,h a (bC ..),ih λx hx=>h x (bo _ hx)];rfl
theorem UD{M:List (List Int)}(h:0<M.length):M.getD 0 []∈M:=xX h
theorem Uo:∀(n:Nat) {M:List (List Int)} {c:Nat},M.length=n+1->(∀r∈M,r.length=n+1)->c<n+1->(∀r∈M,r.getD c 0=0)->jI n M=0
 |0,M,c,hl,hr,hc,hz=>by
  have:c=0:=by lia
  subst this
  exact hz _ (UD (by lia))
 |n+1,M,c,hl,hr,hc,hz=>by
  rw[Xr]
  refine Xo λx hx=>?_
  obtain⟨j,hj,rfl⟩:=bH.mp hx;have hj:=dF.mp hj;unfold trm;by_cases e:j=c
  ·subst e;rw[hz _ (UD (by lia)),jcV,jfe]
  ·have:jI n (wo (M.drop 1) j)=0:=by
    refine Uo n (c:=if c<j then c else c-1) (by unfold wo;simp;lia) (λr h=>?_) (by split<;>lia) λr h=>?_
    ·obtain⟨q,hq,rfl⟩:=bH.mp h;have:=hr q (gJ hq);simp;lia
    ·obtain⟨q,hq,rfl⟩:=bH.mp h;have hq:=gJ hq;rw[Z3 (by rw[hr q hq];lia)];by_cases h1:c<j
     ·rw[if_pos h1,if_pos h1];exact hz q hq
     ·rw[if_neg h1,if_neg (by lia),show c-1+1=c by lia];exact hz q hq
   rw[this,jcV]
theorem Z5{f:Nat->Int}{m:Nat}(hc:c<m)(h:∀j,j<m->j≠c->f j=0):((bE m).map f).sum=f c:=by
 induction m with
 |zero=>lia
 |succ m ih =>
  rw[q9];by_cases e:c=m
  ·subst e
   rw[Xo (l:=(bE c).map f) λx hx=>by
    obtain⟨j,hj,rfl⟩:=bH.mp hx;have:=dF.mp hj
    exact h j (by lia) (by lia)]
   lia
  ·rw[ih (by lia) λj hj=>h j (by lia),h m (by lia) (gV e)];lia
variable{n:Nat}{R:List (List Int)}
theorem det_col(hl:R.length=n+1)(h0:r.length=n+2)(hr:∀s∈R,s.length=n+2)(hc:c<n+2)(hz:∀s∈R,s.getD c 0=0):jI (n+1) (r::R)=sgn c*r.getD c 0*jI n (wo R c):=by
 rw[Xr,Z5 hc λj hj hne=>?_]
 ·rfl
 ·unfold trm
  have:jI n (wo R j)=0:=by
   refine Uo n (c:=if c<j then c else c-1) (by unfold wo;simp;lia) (λr h=>?_) (by split<;>lia) λr h=>?_
   ·obtain⟨q,hq,rfl⟩:=bH.mp h;have:=hr q hq;simp;lia
   ·obtain⟨q,hq,rfl⟩:=bH.mp h;rw[Z3 (by rw[hr q hq];lia)];by_cases h1:c<j
    ·rw[if_pos h1,if_pos h1];exact hz q hq
    ·rw[if_neg h1,if_neg (by lia),show c-1+1=c by lia];exact hz q hq
  rw[show (r::R).drop 1=R from rfl,this,jcV]
theorem sgn_ne(j:Nat):sgn j≠0:=by unfold sgn;lia
def Piv(n:Nat):List (List Int)->Prop
 |[]=>True
 |r::R=>(∃c,c<n/\r.getD c 0≠0/\∀s∈R,s.getD c 0=0)/\Piv n R
theorem jbw{n c:Nat}(hc:c<n+1):∀ {R:List (List Int)},(∀s∈R,s.length=n+1)->(∀s∈R,s.getD c 0=0)->Piv (n+1) R->Piv n (wo R c)
 |[],_,_,_=>trivial
 |r::R,hr,hz,⟨⟨k,k1,k2,k3⟩,h⟩=>by
  refine⟨⟨if k<c then k else k-1,?_,?_,λs hs=>?_⟩,jbw hc (λs hs=>hr s (bo _ hs)) (λs hs=>hz s (bo _ hs)) h⟩
  all_goals have ne:k≠c:=λe=>k2 (e ▸ hz r (bC ..))
  ·split<;>lia
  ·rw[Z3 (by rw[hr r (bC ..)];exact hc)];by_cases h1:k<c
   ·rw[if_pos h1,if_pos h1];exact k2
   ·rw[if_neg h1,if_neg (by lia),show k-1+1=k by lia];exact k2
  ·obtain⟨q,hq,rfl⟩:=bH.mp hs;rw[Z3 (by rw[hr q (bo _ hq)];exact hc)];by_cases h1:k<c
   ·rw[if_pos h1,if_pos h1];exact k3 q hq
   ·rw[if_neg h1,if_neg (by lia),show k-1+1=k by lia];exact k3 q hq
theorem Uy:∀(n:Nat) {M:List (List Int)},M.length=n+1->(∀r∈M,r.length=n+1)->Piv (n+1) M->jI n M≠0
 |0,[r],hl,hr,⟨⟨c,c1,c2,_⟩,_⟩=>by
  have:c=0:=by lia
  subst this
  exact c2
 |n+1,r::R,hl,hr,⟨⟨c,c1,c2,c3⟩,h⟩=>by
  have hl:R.length=n+1:=by simpa using hl
  have hR:∀s∈R,s.length=n+2:=λs hs=>hr s (bo _ hs)
  rw[det_col hl (hr r (bC ..)) hR c1 c3];refine mq (mq (sgn_ne c) c2) (Uy n (by unfold wo;simp;lia) (λs hs=>?_) (jbw c1 hR c3 h));obtain⟨q,hq,rfl⟩:=bH.mp hs;have:=hR q hq;simp;lia
def zE(β:Int)(x:List Int)(t:Int)(u:List Int):List Int:=jfh (λa b=>β*a-t*b) x u
variable{x:List Int}
theorem det_clr{j:Nat}{U S:List (List Int)}(hn:n=U.length+1+S.length)(n4:n<=4)(hU:∀r∈U,r.length=n)(hS:∀r∈S,r.length=n)(hx:x.length=n)(hj:j<U.length)(β t:Int) :
 jI (n-1) (U++zE β x t (U.getD j [])::S)=β*jI (n-1) (U++x::S):=by
 have:(U.length=1/\S.length=0)\/(U.length=1/\S.length=1)\/(U.length=2/\S.length=0)\/(U.length=1/\S.length=2)\/(U.length=2/\S.length=1)\/(U.length=3/\S.length=0):=by lia
 rcases this with⟨u,v⟩|⟨u,v⟩|⟨u,v⟩|⟨u,v⟩|⟨u,v⟩|⟨u,v⟩
 ·have e:n=2:=by lia
  subst e;obtain⟨u0,rfl⟩:=l1 u;obtain rfl:=pG v;obtain⟨u0a,u0b,rfl⟩:=l2 (hU u0 (by simp));obtain⟨xa,xb,rfl⟩:=l2 hx
  have:j=0:=by have:=hj;simp at this;lia
  rcases this with rfl <;>
  ·simp only[zE,d9,gw,gm,d7,d8,bW,dz,Nat.reduceSub,d2]
   grind
 ·have e:n=3:=by lia
  subst e;obtain⟨u0,rfl⟩:=l1 u;obtain⟨s0,rfl⟩:=l1 v;obtain⟨u0a,u0b,u0c,rfl⟩:=l3 (hU u0 (by simp));obtain⟨s0a,s0b,s0c,rfl⟩:=l3 (hS s0 (by simp));obtain⟨xa,xb,xc,rfl⟩:=l3 hx
  have:j=0:=by have:=hj;simp at this;lia
  rcases this with rfl <;>
  ·simp only[zE,d9,gw,gm,d7,d8,bW,dz,Nat.reduceSub,d3]
   grind
 ·have e:n=3:=by lia
  subst e;obtain⟨u0,u1,rfl⟩:=l2 u;obtain rfl:=pG v;obtain⟨u0a,u0b,u0c,rfl⟩:=l3 (hU u0 (by simp));obtain⟨u1a,u1b,u1c,rfl⟩:=l3 (hU u1 (by simp));obtain⟨xa,xb,xc,rfl⟩:=l3 hx
  have:j=0\/j=1:=by have:=hj;simp at this;lia
  rcases this with rfl|rfl <;>
  ·simp only[zE,d9,gw,gm,d7,d8,bW,dz,Nat.reduceSub,d3]
   grind
 ·have e:n=4:=by lia
  subst e;obtain⟨u0,rfl⟩:=l1 u;obtain⟨s0,s1,rfl⟩:=l2 v;obtain⟨u0a,u0b,u0c,u0d,rfl⟩:=l4 (hU u0 (by simp));obtain⟨s0a,s0b,s0c,s0d,rfl⟩:=l4 (hS s0 (by simp));obtain⟨s1a,s1b,s1c,s1d,rfl⟩:=l4 (hS s1 (by simp));obtain⟨xa,xb,xc,xd,rfl⟩:=l4 hx
  have:j=0:=by have:=hj;simp at this;lia
  rcases this with rfl <;>
  ·simp only[zE,d9,gw,gm,d7,d8,bW,dz,Nat.reduceSub,d4,D3]
   grind
 ·have e:n=4:=by lia
  subst e;obtain⟨u0,u1,rfl⟩:=l2 u;obtain⟨s0,rfl⟩:=l1 v;obtain⟨u0a,u0b,u0c,u0d,rfl⟩:=l4 (hU u0 (by simp));obtain⟨u1a,u1b,u1c,u1d,rfl⟩:=l4 (hU u1 (by simp));obtain⟨s0a,s0b,s0c,s0d,rfl⟩:=l4 (hS s0 (by simp));obtain⟨xa,xb,xc,xd,rfl⟩:=l4 hx
  have:j=0\/j=1:=by have:=hj;simp at this;lia
  rcases this with rfl|rfl <;>
  ·simp only[zE,d9,gw,gm,d7,d8,bW,dz,Nat.reduceSub,d4,D3]
   grind
 ·have e:n=4:=by lia
  subst e;obtain⟨u0,u1,u2,rfl⟩:=l3 u;obtain rfl:=pG v;obtain⟨u0a,u0b,u0c,u0d,rfl⟩:=l4 (hU u0 (by simp));obtain⟨u1a,u1b,u1c,u1d,rfl⟩:=l4 (hU u1 (by simp));obtain⟨u2a,u2b,u2c,u2d,rfl⟩:=l4 (hU u2 (by simp));obtain⟨xa,xb,xc,xd,rfl⟩:=l4 hx
  have:j=0\/j=1\/j=2:=by have:=hj;simp at this;lia
  rcases this with rfl|rfl|rfl <;>
  ·simp only[zE,d9,gw,gm,d7,d8,bW,dz,Nat.reduceSub,d4,D3]
   grind
def qS(A:List (List Int))(j:Nat)(b:List Int):List (List Int):=jfh (λr x=>r.take j++x::r.drop (j+1)) A b
variable{i:Nat}{A:List (List Int)}
theorem jba{b:List Int}(n1:1<=n)(n4:n<=4)(hl:A.length=n)(hA:∀r∈A,r.length=n)(hb:b.length=n)(hi:i<n) :
 ((bE n).map λj=>(A.getD i []).getD j 0*jI (n-1) (qS A j b)).sum=b.getD i 0*jI (n-1) A:=by
 have:n=1\/n=2\/n=3\/n=4:=by lia
 rcases this with rfl|rfl|rfl|rfl
 ·obtain⟨r0,rfl⟩:=l1 hl;obtain⟨r0a,rfl⟩:=l1 (hA r0 (by simp));obtain⟨ba,rfl⟩:=l1 hb
  have:i=0:=by lia
  rcases this with rfl <;>
  ·simp only[qS,mG,wZ,dz,de,bq,dR,gY,dH,mE,d9,gw,gm,g9,nE,d6,gk,bW,d7,d8,Nat.reduceSub,d1]
   grind
 ·obtain⟨r0,r1,rfl⟩:=l2 hl;obtain⟨r0a,r0b,rfl⟩:=l2 (hA r0 (by simp));obtain⟨r1a,r1b,rfl⟩:=l2 (hA r1 (by simp));obtain⟨ba,bb,rfl⟩:=l2 hb
  have:i=0\/i=1:=by lia
  rcases this with rfl|rfl <;>
  ·simp only[qS,rg2,mG,wZ,dz,de,bq,dR,gY,dH,mE,d9,gw,gm,g9,nE,d6,gk,bW,d7,d8,Nat.reduceSub,d2]
   grind
 ·obtain⟨r0,r1,r2,rfl⟩:=l3 hl;obtain⟨r0a,r0b,r0c,rfl⟩:=l3 (hA r0 (by simp));obtain⟨r1a,r1b,r1c,rfl⟩:=l3 (hA r1 (by simp));obtain⟨r2a,r2b,r2c,rfl⟩:=l3 (hA r2 (by simp));obtain⟨ba,bb,bc,rfl⟩:=l3 hb
  have:i=0\/i=1\/i=2:=by lia
  rcases this with rfl|rfl|rfl <;>
  ·simp only[qS,rg3,mG,wZ,dz,de,bq,dR,gY,dH,mE,d9,gw,gm,g9,nE,d6,gk,bW,d7,d8,Nat.reduceSub,d3]
   grind
 ·obtain⟨r0,r1,r2,r3,rfl⟩:=l4 hl;obtain⟨r0a,r0b,r0c,r0d,rfl⟩:=l4 (hA r0 (by simp));obtain⟨r1a,r1b,r1c,r1d,rfl⟩:=l4 (hA r1 (by simp));obtain⟨r2a,r2b,r2c,r2d,rfl⟩:=l4 (hA r2 (by simp));obtain⟨r3a,r3b,r3c,r3d,rfl⟩:=l4 (hA r3 (by simp));obtain⟨ba,bb,bc,bd,rfl⟩:=l4 hb
  have:i=0\/i=1\/i=2\/i=3:=by lia
  rcases this with rfl|rfl|rfl|rfl <;>
  ·simp only[qS,rg4,mG,wZ,dz,de,bq,dR,gY,dH,mE,d9,gw,gm,g9,nE,d6,gk,bW,d7,d8,Nat.reduceSub,d4,D3]
   grind
def fnn(l:List Int):Nat:=l.findIdx λx=>x != 0
theorem Jk(h:fnn l<l.length):l.getD (fnn l) 0≠0:=by
 have:=List.findIdx_getElem (p:=λx:Int=>x != 0) (xs:=l) (w:=h);rw[K40.getD_at h];intro z;have t:(l[fnn l] != 0)=true:=this;rw[z]at t;cases t
theorem jbT(h:i<fnn l):l.getD i 0=0:=by
 have hl:fnn l<=l.length:=List.findIdx_le_length;rw[K40.getD_at (by lia)];have:=List.not_of_lt_findIdx (p:=λx:Int=>x != 0) (xs:=l) h;simpa using this
theorem jaj(h:l.getD i 0≠0):fnn l<=i:=by
 rcases b8 i (fnn l) with z|z
 ·exact absurd (jbT z) h
 ·exact z
theorem jbo(h:l.getD i 0≠0):fnn l<l.length:=by
 have:=jaj h
 have:i<l.length:=by
  rcases b8 i l.length with z|z
  ·exact z
  ·rw[jdA,bI z]at h;exact absurd rfl h
 lia
def clr(x b:List Int):List Int:=zE (b.getD (fnn b) 0) x (x.getD (fnn b) 0) b
variable{β t:Int}{u:List Int}
theorem zk(h:x.length=u.length)(k:Nat):(zE β x t u).getD k 0=β*x.getD k 0-t*u.getD k 0:=by
 unfold zE;simp only[bL,List.getElem?_zipWith];rcases b8 k x.length with z|z
 ·rw[bD z,bD (by lia)];rfl
 ·rw[bI z,bI (by lia)];simp
theorem jax(h:x.length=u.length):(zE β x t u).length=x.length:=by unfold zE;rw[jey];lia
def Cmb(n:Nat)(A:List (List Int))(x:List Int):Prop:=∀c,c<n->x.getD c 0=((bE n).map λi=>x.getD (n+i) 0*(A.getD i []).getD c 0).sum
theorem sum_lin(f g:Nat->Int)(a b:Int)(n:Nat):((bE n).map λi=>a*f i-b*g i).sum=a*((bE n).map f).sum-b*((bE n).map g).sum:=by
 induction n with
 |zero=>simp
 |succ n ih=>rw[q9,q9,q9,ih];grind
theorem Cmb.lin(hx:Cmb n A x)(hu:Cmb n A u)(h:x.length=u.length):Cmb n A (zE β x t u):=by
 intro c hc;rw[zk h,hx c hc,hu c hc,<- sum_lin];congr 1
 refine bQ λi _=>?_
 rw[zk h]
 grind
def wgt(A:List (List Int))(k:Nat):List Int:=A.getD k []++(bE A.length).map λj=>if j=k then 1 else 0
theorem QW(hl:A.length=n)(hr:(A.getD k []).length=n)(hi:i<n):(wgt A k).getD (n+i) 0=if i=k then 1 else 0:=by
 unfold wgt;simp only[bL];rw[dN (by simp[bL]at hr;lia)];simp only[bL]at hr;rw[hr,hl,Nat.add_sub_cancel_left,bY,w9 hi];rfl
theorem wgt_l(hr:(A.getD k []).length=n)(hi:i<n):(wgt A k).getD i 0=(A.getD k []).getD i 0:=by
 unfold wgt;rw[bL,dM (by lia),<- bL]
theorem wgt_cmb(hl:A.length=n)(hr:(A.getD k []).length=n)(hk:k<n):Cmb n A (wgt A k):=by
 intro c hc;rw[wgt_l hr hc,Z5 hk λj hj hne=>by rw[QW hl hr hj,if_neg hne,jfe]];rw[QW hl hr hk,if_pos rfl,tK]
structure Bas (n:Nat) (A:List (List Int)) (B:List (List Int)):Prop where
 len:∀b∈B,b.length=2*n
 cmb:∀b∈B,Cmb n A b
 piv:∀b∈B,fnn b<n
 zer:B.Pairwise λa b=>b.getD (fnn a) 0=0
 sup:∀b∈B,∀i,B.length<=i->i<n->b.getD (n+i) 0=0
 det:jI (n-1) (B.map (·.take n)++A.drop B.length)=0
 bit:∀i,i<B.length->∀j,bits ((B.getD i []).getD j 0)<=401*2^i-1
structure Row (n:Nat) (A B P:List (List Int)) (x:List Int):Prop where
 len:x.length=2*n
 cmb:Cmb n A x
 zer:∀a∈P,x.getD (fnn a) 0=0
 own:x.getD (n+B.length) 0≠0
 sup:∀i,B.length<i->i<n->x.getD (n+i) 0=0
 det:jI (n-1) (B.map (·.take n)++x.take n::A.drop (B.length+1))=0
 bit:∀j,bits (x.getD j 0)<=401*2^P.length-1
structure SqA (n:Nat) (A:List (List Int)):Prop where
 n1:1<=n
 n4:n<=4
 len:A.length=n
 row:∀r∈A,r.length=n
 bit:∀r∈A,∀x∈r,bits x<=400
theorem SqA.at_(g:SqA n A)(hk:k<n):A.getD k []∈A:=by
 have:=g.len;rw[K40.getD_at (by lia)];exact dP _
variable{B:List (List Int)}
theorem Row.start(g:SqA n A)(b:Bas n A B)(hk:B.length<n):Row n A B [] (wgt A B.length):=by
 have hl:=g.len;have hr:=g.row _ (g.at_ hk);refine⟨by unfold wgt;rw[b6,bj,pX,hr,hl];lia,wgt_cmb hl hr hk,λ_ z=>by simp at z,by rw[QW hl hr hk,if_pos rfl];decide,λi h1 h2=>by rw[QW hl hr h2,if_neg (by lia)],?_,λj=>?_⟩
 ·have e:(wgt A B.length).take n=A.getD B.length []:=by unfold wgt;rw[List.take_append_of_le_length (by lia),jdS (by lia)]
  have d:=b.det;rw[gC (by lia)]at d;rw[e,K40.getD_at (by lia)];exact d
 ·show _<=400;rcases b8 j n with z|z
  ·rw[wgt_l hr z];exact Qn (g.bit _ (g.at_ hk)) j
  ·obtain⟨i,rfl⟩:∃i,j=n+i:=⟨j-n,by lia⟩
   rcases b8 i n with y|y
   ·rw[QW hl hr y]
    split<;>decide
   ·rw[jdA,bI (by unfold wgt;rw[b6,bj,pX,hr,hl];lia)];decide
variable{P:List (List Int)}
theorem Row.step{b:List Int}(g:SqA n A)(bs:Bas n A B)(hB:B=P++b::R)(r:Row n A B P x)(hk:B.length<n):Row n A B (P ++ [b]) (clr x b):=by
 have hb:b∈B:=by rw[hB];simp
 have hl:x.length=b.length:=by rw[r.len,bs.len b hb]
 have hp:=bs.piv b hb;have ne:b.getD (fnn b) 0≠0:=Jk (by rw[bs.len b hb];lia)
 have zz:∀a∈P,b.getD (fnn a) 0=0:=λa ha=>by
  have:=bs.zer;rw[hB,jen]at this;exact this.2.2 a ha b (by simp)
 refine⟨by unfold clr;rw[jax hl];exact r.len,r.cmb.lin (bs.cmb b hb) hl,λa ha=>?_,?_,λi h1 h2=>?_,?_,λj=>?_⟩
 ·unfold clr;rw[zk hl];rcases dI.mp ha with z|z
  ·rw[r.zer a z,zz a z];lia
  ·rw[gv.mp z];grind
 ·unfold clr;rw[zk hl,bs.sup b hb _ (df _) hk];have:=mq ne r.own;lia
 ·unfold clr;rw[zk hl,bs.sup b hb _ (by lia) h2,r.sup i h1 h2];lia
 ·have e:(clr x b).take n=zE (b.getD (fnn b) 0) (x.take n) (x.getD (fnn b) 0) ((B.map (·.take n)).getD P.length []):=by
   have:(B.map (·.take n)).getD P.length []=b.take n:=by
    rw[hB,de,bq,bL,dN (by rw[bj];lia),bj,tX];rfl
   rw[this];unfold clr zE;rw[List.take_zipWith]
  have hl2:=g.len
  have h1:∀q∈B.map (·.take n),q.length=n:=λq hq=>by
   obtain⟨y,hy,rfl⟩:=bH.mp hq;rw[gE,bs.len y hy];lia
  have h2:(x.take n).length=n:=by rw[gE,r.len];lia
  rw[e,det_clr (by rw[bj,mw];lia) g.n4 h1 (λq hq=>g.row q (gJ hq)) h2 (by rw[bj,hB];simp),r.det,jcV]
 ·unfold clr;rw[zk hl,b6,nG]
  have eb:b=B.getD P.length []:=by rw[hB,bL,dN (df _),tX];rfl
  have b1:=bs.bit P.length (by rw[hB];simp) (fnn b);have b2:=bs.bit P.length (by rw[hB];simp) j;rw[<- eb]at b1 b2;have c1:=r.bit j;have c2:=r.bit (fnn b);have m1:=jC (b.getD (fnn b) 0) (x.getD j 0);have m2:=jC (x.getD (fnn b) 0) (b.getD j 0)
  have pw:401*2^(P.length+1)=2*(401*2^P.length):=by rw[mJ];lia
  have p0:0<401*2^P.length:=jfu (by decide) (Nat.pow_pos (by decide));have sb:=ze (b.getD (fnn b) 0*x.getD j 0) (x.getD (fnn b) 0*b.getD j 0);lia
theorem Bas.nil(g:SqA n A)(h:jI (n-1) A=0):Bas n A []:=⟨λ_ z=>by simp at z,λ_ z=>by simp at z,λ_ z=>by simp at z,.nil,λ_ z=>by simp at z,h,λi h=>by simp at h⟩
theorem Bas.grow(g:SqA n A)(bs:Bas n A B)(r:Row n A B B x)(hk:B.length<n)(hp:fnn x<n):Bas n A (B ++ [x]):=by
 refine⟨λb hb=>?_,λb hb=>?_,λb hb=>?_,?_,λb hb i h1 h2=>?_,?_,λi hi j=>?_⟩
 ·rcases dI.mp hb with z|z
  ·exact bs.len b z
  ·rw[gv.mp z];exact r.len
 ·rcases dI.mp hb with z|z
  ·exact bs.cmb b z
  ·rw[gv.mp z];exact r.cmb
 ·rcases dI.mp hb with z|z
  ·exact bs.piv b z
  ·rw[gv.mp z];exact hp
 ·rw[jen];exact⟨bs.zer,List.pairwise_singleton ..,λa ha b hb=>by rw[gv.mp hb];exact r.zer a ha⟩
 ·rw[b6,nG]at h1;rcases dI.mp hb with z|z
  ·exact bs.sup b z i (by lia) h2
  ·rw[gv.mp z];exact r.sup i (by lia) h2
 ·rw[de,b6,tO];exact r.det
 ·rw[b6,nG]at hi;rcases b8 i B.length with z|z
  ·have e:(B ++ [x]).getD i []=B.getD i []:=by rw[bL,dM z,<- bL]
   rw[e];exact bs.bit i z j
  ·have:i=B.length:=by lia
   subst this
   have e:(B ++ [x]).getD B.length []=x:=by rw[bL,dN (df _),tX];rfl
   rw[e];exact r.bit j
theorem jbU{n:Nat}:∀ {B:List (List Int)},(∀b∈B,b.length=2*n)->(∀b∈B,fnn b<n)->B.Pairwise (λa b=>b.getD (fnn a) 0=0)->Piv n (B.map (·.take n))
 |[],_,_,_=>trivial
 |b::B,hl,hp,hz=>by
  have tk:∀ {y:List Int} {c:Nat},c<n->(y.take n).getD c 0=y.getD c 0:=λ{y c} hc=>by rw[bL,nY hc,<- bL]
  have hb:=hp b (bC ..);rw[List.pairwise_cons]at hz;refine⟨⟨fnn b,hb,?_,λs hs=>?_⟩,jbU (λy hy=>hl y (bo _ hy)) (λy hy=>hp y (bo _ hy)) hz.2⟩
  ·show (b.take n).getD (fnn b) 0≠0;rw[tk hb];exact Jk (by rw[hl b (bC ..)];lia)
  ·obtain⟨y,hy,rfl⟩:=bH.mp hs;rw[tk hb];exact hz.1 y hy
theorem Bas.lt(g:SqA n A)(bs:Bas n A B):B.length≠n:=λe=>by
 have d:=bs.det;have n1:=g.n1;have hl:=g.len;rw[e,tT (by lia),di]at d
 obtain⟨m,rfl⟩:∃m,n=m+1:=⟨n-1,by lia⟩
 refine Uy m (by rw[bj];exact e) (λr hr=>?_) (jbU bs.len bs.piv bs.zer) d;obtain⟨y,hy,rfl⟩:=bH.mp hr;rw[gE,bs.len y hy];lia
theorem Row.found(g:SqA n A)(r:Row n A B P x)(hk:B.length<n)(hp:n<=fnn x) :
 (x.drop n).length=n/\(∃i,i<n/\(x.drop n).getD i 0≠0)/\∀c,c<n->((bE n).map λi=>(x.drop n).getD i 0*(A.getD i []).getD c 0).sum=0:=by
 have dr:∀i,(x.drop n).getD i 0=x.getD (n+i) 0:=λi=>by rw[bL,jc5,<- bL]
 refine⟨by rw[mw,r.len];lia,⟨B.length,hk,by rw[dr];exact r.own⟩,λc hc=>?_⟩;have:=r.cmb c hc;rw[jbT (by lia)]at this;simp only[dr];exact this.symm
end Z.L46
set_option exponentiation.threshold 3000
namespace Z.K45
open PySem Z Z.K42 Z.K40 Z.J51 Z.J45 Z.L45
end Z.K45
set_option exponentiation.threshold 3000
namespace Z.J46
open PySem Z Z.K42 Z.K40 Z.J51 Z.J45 Z.L45 Z.L46
def b_first_not_nought:Sm :=
 (.seq (.set 1 (.cst (.int 0)))
 (.seq (.whl (.cmp .eq (.ix (.var 0) (.var 1)) (.cst (.int 0))) (.seq (.set 1 (.bin .add (.var 1) (.cst (.int 1))))
  .nop))
 (.seq (.ret (.var 1))
 .nop)))
def b_cleared(i_first_not_nought:Nat):Sm :=
 (.seq (.set 2 (.call i_first_not_nought [(.var 1)]))
 (.seq (.ret (.compZ (.var 0) (.var 1) (.bin .sub (.bin .mul (.ix (.var 1) (.var 2)) (.ix (.var 3) (.cst (.int 0)))) (.bin .mul (.ix (.var 0) (.var 2)) (.ix (.var 3) (.cst (.int 1)))))))
 .nop))
def b_in_lowest_terms(i_common_divisor i_first_not_nought:Nat):Sm :=
 (.seq (.set 1 (.cst (.int 0)))
 (.seq (.forE 2 (.var 0) (.seq (.set 1 (.call i_common_divisor [(.var 1),(.var 2)]))
  .nop))
 (.seq (.ite (.cmp .lt (.ix (.var 0) (.call i_first_not_nought [(.var 0)])) (.cst (.int 0))) (.seq (.set 1 (.neg (.var 1)))
  .nop) .nop)
 (.seq (.ret (.compE (.var 0) (.bin .fdiv (.var 3) (.var 1))))
 .nop))))
def b_weighted:Sm :=
 (.seq (.ret (.bin .add (.ix (.var 0) (.var 1)) (.compR [(.bi .len [(.var 0)])] (.ife (.cmp .eq (.var 2) (.var 1)) (.cst (.int 1)) (.cst (.int 0))))))
 .nop)
def b_put_in:Sm :=
 (.seq (.ret (.compZ (.var 0) (.var 2) (.bin .add (.bin .add (.slc (.ix (.var 3) (.cst (.int 0))) (.cst .non) (.var 1)) (.lst [(.ix (.var 3) (.cst (.int 1)))])) (.slc (.ix (.var 3) (.cst (.int 0))) (.bin .add (.var 1) (.cst (.int 1))) (.cst .non)))))
 .nop)
theorem YT(lo st:Int):∀n:Nat,(jW lo st n).length=n
 |0=>rfl
 |n+1=>by
  show (jW (lo+st) st n).length+1=n+1;rw[YT]
abbrev iD(l:List Int):D:=.lst (l.map .int)
theorem uA{a b:List Int}(h:iD a=iD b):a=b:=by
 injection h with h;exact kq (λx y e=>by injection e) h
def c_fnn:Ctr where
 pre ds:=∃l:List Int,ds=[iD l]/\fnn l<l.length/\l.length<=200
 res ds d:=∀l:List Int,ds=[iD l]->d=.int (fnn l:Nat)
theorem k_fnn{C:Cfg}:jB C 2 b_first_not_nought c_fnn:=by
 rintro ds ⟨l,rfl,hf,hl⟩;rw[b_first_not_nought];simp_all! only[];refine jP (λσ=>σ=[some (.sh (iD l)),some (.sh (.int (fnn l:Nat)))]) ?_ ?_
 ·refine Ji (λσ=>∃p:Nat,p<=fnn l/\σ=[some (.sh (iD l)),some (.sh (.int p))]) (λσ=>300-(JT σ 1).toNat) ⟨0,mL _,rfl⟩ ?_;rintro σ ⟨p,hp,rfl⟩;have a:=jbd (r:=l) (i:=p) (by lia);dsimp! only[a];by_cases hz:l.getD p 0=0
  ·rw[if_pos hz]
   have ne:p≠fnn l:=λe=>Jk hf (by rw[<- e];exact hz)
   simp_all! only[];refine⟨?_,p+1,by lia,by simp⟩;simp only[JT,getS];lia
  ·rw[if_neg hz];have:=jaj hz
   have:p=fnn l:=by lia
   subst this;rfl
 rintro σ rfl;simp_all! only[];intro l' e;rw[uA (n9 e).1]
variable{l:List Int}{Q:D->Prop}{E:XD->Prop}
theorem ZA(h:fnn l<l.length)(hl:l.length<=200):c_fnn.wp [iD l] Q E ↔ Q (.int (fnn l:Nat)) :=
 ⟨λw=>w.2.1 _ λl' e=>by rw[uA (n9 e).1],λq=>⟨⟨l,rfl,h,hl⟩,λd r=>by rw[r l rfl];exact q,λ_ z=>z.elim⟩⟩
theorem KW{α β γ:Type}(f:α->β->γ):∀(a:List α) (b:List β),jfh f a b=(a.zip b).map λp=>f p.1 p.2
 |[],_=>rfl
 |_::_,[]=>rfl
 |x::a,y::b=>by rw[d9,KW f a b];rfl
def c_cleared:Ctr where
 pre ds:=∃x b:List Int,ds=[iD x,iD b]/\x.length=b.length/\fnn b<b.length/\b.length<=200/\(∀j,bits (x.getD j 0)<=4000)/\∀j,bits (b.getD j 0)<=4000
 res ds d:=∀x b:List Int,ds=[iD x,iD b]->d=iD (clr x b)
variable{x b':List Int}
theorem injxb{b x':List Int}(e:[iD x,iD b]=[iD x',iD b']):x=x'/\b=b':=by
 injection e with e1 e2;injection e2 with e2;exact⟨uA e1,uA e2⟩
theorem QG{B:Nat}(h:∀j,bits (l.getD j 0)<=B):∀x∈l,bits x<=B:=λx hx=>by
 obtain⟨i,hi,rfl⟩:=List.getElem_of_mem hx;rw[<- K40.getD_at (z:=0) hi];exact h i
variable{i:Nat}
theorem k_cleared{C:Cfg}(h1:C.ct i=c_fnn):jB C 3 (b_cleared i) c_cleared:=by
 rintro ds ⟨x,b,rfl,hl,hf,h2,bx,bb⟩;rw[b_cleared]
 have w:=λQ E=>ZA (l:=b) (Q:=Q) (E:=E) hf h2
 simp_all! only[h1,w]
 have hz:(zD (x.map .int) (b.map .int)).length<=lim:=by
  rw[uE,bj,pR];unfold lim;lia
 refine⟨_,_,⟨rfl,rfl⟩,hz,?_⟩;have a1:=jbd (r:=b) (i:=fnn b) hf;have a2:=jbd (r:=x) (i:=fnn b) (by lia)
 rw[uE,jt (h:=λp:Int×Int=>D.int (b.getD (fnn b) 0*p.1-x.getD (fnn b) 0*p.2)) (λp hp Q=>by
  have:=mn hp;have m1:ku (b.getD (fnn b) 0) p.1:=ji (by have y:=QG bx _ this.1;have z:=bb (fnn b);lia);have m2:ku (x.getD (fnn b) 0) p.2:=ji (by have y:=QG bb _ this.2;have z:=bx (fnn b);lia)
  dsimp! only[a1,a2,m1,m2])]
 intro x' b' e;obtain⟨rfl,rfl⟩:=injxb e;unfold iD clr zE;rw[KW,bN];rfl
theorem YS{b:List Int}(hl:x.length=b.length)(hf:fnn b<b.length)(h2:b.length<=200)(bx:∀j,bits (x.getD j 0)<=4000)(bb:∀j,bits (b.getD j 0)<=4000):c_cleared.wp [iD x,iD b] Q E ↔ Q (iD (clr x b)) :=
 ⟨λw=>w.2.1 _ λx' b' e=>by obtain⟨rfl,rfl⟩:=injxb e;rfl,λq=>⟨⟨x,b,rfl,hl,hf,h2,bx,bb⟩,λd r=>by rw[r x b rfl];exact q,λ_ z=>z.elim⟩⟩
def c_weighted:Ctr where
 pre ds:=∃(n k:Nat) (A:List (List Int)),ds=[wD A,.int (k:Nat)]/\SqA n A/\k<n
 res ds d:=∀(k:Nat) (A:List (List Int)),ds=[wD A,.int (k:Nat)]->d=iD (wgt A k)
variable{A A':List (List Int)}{k k':Nat}
theorem injwk(e:[wD A,D.int (k:Nat)]=[wD A',D.int (k':Nat)]):A=A'/\k=k':=by
 injection e with e1 e2;injection e2 with e2;injection e2 with e2;exact⟨yz e1,by lia⟩
theorem k_weighted{C:Cfg}:jB C 2 b_weighted c_weighted:=by
 rintro ds ⟨n,k,A,rfl,g,hk⟩;rw[b_weighted];have hl:=g.len;have n4:=g.n4;have hr:=g.row _ (g.at_ hk);have a:=at_w (M:=A) (i:=k) (by lia);simp_all! only[wD,a,bj];refine⟨by unfold qT;lia,by rw[YT];unfold lim;lia,?_⟩
 rw[bV,qB (h:=λj=>D.int (if j=k then 1 else 0)) (λj hj Q=>by
  dsimp! only[];by_cases e:j=k
  ·subst e;simp
  ·have:¬ (j:Int)=k:=by lia
   simp[e,this])]
 dsimp! only[bj,pX];refine⟨by unfold lim;lia,?_⟩;intro k' A' e;obtain⟨rfl,rfl⟩:=injwk (A:=A) (k:=k) e;unfold iD wgt;rw[de,bN];rfl
variable{n:Nat}
theorem QL(g:SqA n A)(hk:k<n):c_weighted.wp [wD A,.int (k:Nat)] Q E ↔ Q (iD (wgt A k)) :=
 ⟨λw=>w.2.1 _ λk' A' e=>by obtain⟨rfl,rfl⟩:=injwk e;rfl,λq=>⟨⟨n,k,A,rfl,g,hk⟩,λd r=>by rw[r k A rfl];exact q,λ_ z=>z.elim⟩⟩
def c_put_in:Ctr where
 pre ds:=∃(n j:Nat) (A:List (List Int)) (b:List Int),ds=[wD A,.int (j:Nat),iD b]/\SqA n A/\b.length=n/\j<n
 res ds d:=∀(j:Nat) (A:List (List Int)) (b:List Int),ds=[wD A,.int (j:Nat),iD b]->d=wD (qS A j b)
theorem jbl{b:List Int}(e:[wD A,D.int (k:Nat),iD b]=[wD A',D.int (k':Nat),iD b']):A=A'/\k=k'/\b=b':=by
 injection e with e1 e2;injection e2 with e2 e3;injection e2 with e2;injection e3 with e3;exact⟨yz e1,by lia,uA e3⟩
theorem k_put_in{C:Cfg}:jB C 3 b_put_in c_put_in:=by
 rintro ds ⟨n,j,A,b,rfl,g,hb,hj⟩;rw[b_put_in];have hl:=g.len;have n4:=g.n4;simp_all! only[wD]
 have ez:zD (A.map λr=>D.lst (r.map .int)) (b.map .int)=(A.zip b).map λp=>.tup [iD p.1,.int p.2]:=by
  unfold zD;rw[List.zip_map,bN];rfl
 refine⟨_,_,⟨rfl,rfl⟩,by rw[ez,bj,pR];unfold lim;lia,?_⟩
 rw[ez,jt (h:=λp:List Int×Int=>iD (p.1.take j++p.2::p.1.drop (j+1))) (λp hp Q=>by
  have hm:=mn hp;have hr:=g.row _ hm.1;have c1:=jcn (f:=D.int) (r:=p.1) (j:=j) (by lia);have c2:=uv (f:=D.int) (r:=p.1) (j:=j+1) (by lia);rw[show ((j+1:Nat):Int)=(j:Int)+1 by lia]at c2;dsimp! only[kL,prt,vz,slD,c1,c2,bj,b6,gE,mw]
  have l1:min j p.1.length+1<=lim:=by unfold lim;lia
  have l2:min j p.1.length+1+(p.1.length-(j+1))<=lim:=by unfold lim;lia
  rw[and_iff_right l1,and_iff_right l2,iD,de,bq,tO,bW,dz])]
 intro j' A' b' e;obtain⟨rfl,rfl,rfl⟩:=jbl (A:=A) (k:=j) (b:=b) e;unfold wD qS;rw[KW,bN];rfl
variable{j:Nat}
theorem Vn{b:List Int}(g:SqA n A)(hb:b.length=n)(hj:j<n):c_put_in.wp [wD A,.int (j:Nat),iD b] Q E ↔ Q (wD (qS A j b)) :=
 ⟨λw=>w.2.1 _ λj' A' b' e=>by obtain⟨rfl,rfl,rfl⟩:=jbl e;rfl,λq=>⟨⟨n,j,A,b,rfl,g,hb,hj⟩,λd r=>by rw[r j A b rfl];exact q,λ_ z=>z.elim⟩⟩
def gL(l:List Int):Nat:=l.foldl (λa x=>gf a x) 0
theorem gL_fold(l:List Int)(g:Nat):l.foldl (λa x=>gf a x) g=je4 g (gL l):=by
 unfold gL
 induction l generalizing g with
 |nil=>simp
 |cons a l ih =>
  rw[sT,sT,ih,ih (gf (0:Nat) a)]
  have e1:gf (g:Nat) a=je4 g a.natAbs:=by unfold gf;rw[pI]
  have e2:gf ((0:Nat):Int) a=a.natAbs:=by unfold gf;simp
  rw[e1,e2,Nat.gcd_assoc]
theorem Qs(a:Int)(l:List Int):gL (a::l)=je4 a.natAbs (gL l):=by
 show l.foldl _ (gf (0:Nat) a)=_;rw[gL_fold];congr 1;unfold gf;simp
theorem K8:∀ {l:List Int} {x:Int},x∈l->(gL l:Int) ∣ x
 |a::l,x,h=>by
  rw[Qs];rcases bz.mp h with rfl|h
  ·exact Int.ofNat_dvd_left.mpr (Nat.gcd_dvd_left ..)
  ·exact pU (pE.mpr (Nat.gcd_dvd_right ..)) (K8 h)
theorem jaw(k:Int):∀l:List Int,gL (l.map (k * ·))=k.natAbs*gL l
 |[]=>by simp[gL]
 |a::l=>by rw[bq,Qs,Qs,jaw k l,mi,Nat.gcd_mul_left]
theorem gL_pos{x:Int}(h:x∈l)(hx:x≠0):0<gL l:=by
 rcases jc6 (gL l) with z|z
 ·have:=K8 h;rw[z]at this;exact absurd (Int.zero_dvd.mp this) hx
 ·exact z
structure Low (w u:List Int):Prop where
 len:u.length=w.length
 ex:∃s:Int,s≠0/\w=u.map (s * ·)
 one:gL u=1
 pos:0<u.getD (fnn u) 0
 bit:∀j,bits (u.getD j 0)<=4000
theorem fnn_mul{s:Int}(hs:s≠0)(u:List Int):fnn (u.map (s * ·))=fnn u:=by
 unfold fnn;rw[List.findIdx_map];congr 1;funext x;by_cases hx:x=0
 ·subst hx;simp
 ·have:=mq hs hx;show (s*x != 0)=(x != 0);rw[bne_iff_ne.mpr this,bne_iff_ne.mpr hx]
variable{w:List Int}
theorem KU(hf:fnn w<w.length)(hb:∀j,bits (w.getD j 0)<=4000){s:Int}(hs:s=if w.getD (fnn w) 0<0 then -(gL w:Int) else gL w):(s≠0/\∀x∈w,s ∣ x)/\Low w (w.map (· / s)):=by
 have ne:=Jk hf
 have mem:w.getD (fnn w) 0∈w:=by rw[K40.getD_at hf];exact dP _
 have gp:=gL_pos mem ne
 have s0:s≠0:=by rw[hs];split<;>lia
 have sn:s.natAbs=gL w:=by rw[hs];split<;>simp
 have dv:∀x∈w,s ∣ x:=λx hx=>Int.natAbs_dvd.mp (by rw[sn];exact K8 hx)
 have e:w=(w.map (· / s)).map (s * ·):=by
  rw[bN];refine(List.map_id' w).symm.trans (bQ λx hx=>?_);exact(Int.mul_ediv_cancel' (dv x hx)).symm
 refine⟨⟨s0,dv⟩,⟨by simp,⟨s,s0,e⟩,?_,?_,λj=>?_⟩⟩
 ·have:=jaw s (w.map (· / s));rw[<- e,sn]at this
  have:gL w*1=gL w*gL (w.map (· / s)):=by lia
  exact(Nat.eq_of_mul_eq_mul_left gp this).symm
 ·have ef:=fnn_mul s0 (w.map (· / s));rw[<- e]at ef;rw[<- ef]
  have ga:(w.map (· / s)).getD (fnn w) 0=w.getD (fnn w) 0 / s:=by
   simp only[bL,bY,bD hf];rfl
  rw[ga];obtain⟨k,hk⟩:=dv _ mem;rw[hk,sP _ s0];rw[hk]at hs ne
  have k0:k≠0:=λz=>ne (by rw[z,jcV])
  by_cases hn:s*k<0
  ·rw[if_pos hn]at hs
   have s1:s<0:=by lia
   rcases jeX k0 with z|z
   ·exact absurd (Int.mul_pos_of_neg_of_neg s1 z) (by lia)
   ·exact z
  ·rw[if_neg hn]at hs
   have s1:0<s:=by lia
   rcases jeX k0 with z|z
   ·exact absurd (jc9 s1 z) hn
   ·exact z
 ·rcases b8 j w.length with z|z
  ·have ga:(w.map (· / s)).getD j 0=w.getD j 0 / s:=by
    simp only[bL,bY,bD z];rfl
   rw[ga];refine bS (jX ?_) (hb j);exact Int.natAbs_ediv_le_natAbs ..
  ·rw[jdA,bI (by simpa using z)];exact mL _
def c_lowest:Ctr where
 pre ds:=∃w:List Int,ds=[iD w]/\fnn w<w.length/\w.length<=200/\∀j,bits (w.getD j 0)<=4000
 res ds d:=∀w:List Int,ds=[iD w]->∃u,d=iD u/\Low w u
theorem gL_snoc(l:List Int)(x:Int):gL (l ++ [x])=gf (gL l) x:=by unfold gL;rw[List.foldl_append];rfl
theorem gL_bits(hf:fnn w<w.length)(hb:∀j,bits (w.getD j 0)<=4000):bits (gL w:Int)<=4000:=by
 refine bS (jX ?_) (hb (fnn w))
 have mem:w.getD (fnn w) 0∈w:=by rw[K40.getD_at hf];exact dP _
 have:=Int.natAbs_dvd_natAbs.mpr (K8 mem);exact wA (by have:=Jk hf;lia) this
theorem k_lowest{C:Cfg}(h1:C.ct i=jD)(h2:C.ct j=c_fnn):jB C 3 (b_in_lowest_terms i j) c_lowest:=by
 rintro ds ⟨w,rfl,hf,hl,hb⟩;rw[b_in_lowest_terms];simp_all! only[]
 let P:List D->Sto->Prop:=λds σ=>∃(zs ys:List Int) (a:Option Sl),(zs++ys=w/\ds=ys.map .int)/\σ=[some (.sh (iD w)),some (.sh (.int (gL zs:Nat))),a]
 refine jP (P []) ?_ ?_
 ·rw[zj]
  simp_arith only[]
  refine qb P ⟨[],w,_,⟨rfl,rfl⟩,rfl⟩ ?_ λσ h=>h
  rintro _ ds σ ⟨zs,ys,a,⟨ha,hd⟩,rfl⟩
  cases ys with
  |nil=>simp at hd
  |cons y ys =>
   simp only[bq,bO]at hd;obtain⟨rfl,rfl⟩:=hd
   simp_arith! only[h1,jD]
   exact⟨zs ++ [y],ys,_,⟨by rw[tO];exact ha,rfl⟩,by rw[gL_snoc]⟩
 rintro σ ⟨zs,ys,a,⟨ha,hd⟩,rfl⟩
 have:ys=[]:=by simpa using hd.symm
 subst this;rw[di]at ha;subst ha
 have wf:=λQ E=>ZA (l:=zs) (Q:=Q) (E:=E) hf hl
 have a1:=jbd (r:=zs) (i:=fnn zs) hf
 have fin:∀s:Int,(s=if zs.getD (fnn zs) 0<0 then -(gL zs:Int) else gL zs)->(zs.map D.int).length<=lim/\kD (λd Q=>x5 .fdiv d (.int s) Q) (zs.map .int) λys=>c_lowest.res [iD zs] (.lst ys):=λs hs=>by
  obtain⟨⟨s0,dv⟩,lw⟩:=KU hf hb hs;have gb:=gL_bits hf hb
  have sb:bits s<=9000:=by
   have:bits s=bits (gL zs:Int):=by rw[hs];split;exact xg _;rfl
   lia
  refine⟨by rw[bj];unfold lim;lia,?_⟩;rw[jt (h:=λx:Int=>D.int (x.fdiv s)) (λx hx Q=>by dsimp! only[s0,sb])];intro w' e;rw[<- uA (n9 e).1];refine⟨zs.map (· / s),?_,lw⟩;unfold iD;rw[bN];congr 1
  exact bQ λx hx=>congrArg D.int (Int.fdiv_eq_ediv_of_dvd (dv x hx))
 rw[jO,qH];dsimp! only[h2,wf,a1];by_cases hn:zs.getD (fnn zs) 0<0
 ·rw[if_pos hn];simp_all! only[];exact fin _ (by rw[if_pos hn])
 ·rw[if_neg hn];simp_all! only[];exact fin _ (by rw[if_neg hn])
end Z.J46
set_option exponentiation.threshold 3000
namespace Z.J46
open PySem Z Z.K42 Z.K40 Z.J51 Z.J45 Z.L45 Z.L46
structure Wts (n:Nat) (A:List (List Int)) (u:List Int):Prop where
 len:u.length=n
 one:gL u=1
 pos:0<u.getD (fnn u) 0
 nil:∀c,c<n->((bE n).map λi=>u.getD i 0*(A.getD i []).getD c 0).sum=0
 bit:∀j,bits (u.getD j 0)<=4000
theorem jaA(s:Int)(f:Nat->Int)(n:Nat):((bE n).map λi=>s*f i).sum=s*((bE n).map f).sum:=by
 induction n with
 |zero=>simp
 |succ n ih=>rw[q9,q9,ih,Int.mul_add]
variable{n:Nat}{A:List (List Int)}
theorem wts_of{w u:List Int}(hl:w.length=n)(hz:∀c,c<n->((bE n).map λi=>w.getD i 0*(A.getD i []).getD c 0).sum=0)(h:Low w u):Wts n A u:=by
 obtain⟨s,s0,e⟩:=h.ex;refine⟨by rw[h.len,hl],h.one,h.pos,λc hc=>?_,h.bit⟩;have:=hz c hc
 have e2:((bE n).map λi=>w.getD i 0*(A.getD i []).getD c 0)=(bE n).map λi=>s*(u.getD i 0*(A.getD i []).getD c 0):=bQ λi hi=>by
  have:w.getD i 0=s*u.getD i 0:=by
   rw[e];simp only[bL,bY]
   cases u[i]? <;> simp
  rw[this,Int.mul_assoc]
 rw[e2,jaA]at this;rcases Int.mul_eq_zero.mp this with z|z
 ·exact absurd z s0
 ·exact z
def c_weights:Ctr where
 pre ds:=∃n A,ds=[wD A]/\SqA n A/\jI (n-1) A=0
 res ds d:=∀n A,ds=[wD A]->SqA n A->∃u,d=iD u/\Wts n A u
def b_weights_to_nought(i_weighted i_cleared i_first_not_nought i_in_lowest_terms:Nat):Sm :=
 (.seq (.new 1)
 (.seq (.forR 2 [(.bi .len [(.var 0)])] (.seq (.set 3 (.call i_weighted [(.var 0),(.var 2)]))
  (.seq (.forU 4 1 3 (.call i_cleared [(.var 3),(.var 4)]))
  (.seq (.ite (.cmp .ge (.call i_first_not_nought [(.var 3)]) (.bi .len [(.var 0)])) (.seq (.ret (.call i_in_lowest_terms [(.slc (.var 3) (.bi .len [(.var 0)]) (.cst .non))]))
   .nop) .nop)
  (.seq (.app 1 (.var 3))
  .nop)))))
 .nop))
theorem Ul(g:SqA n A):Rect n n 400 A:=⟨g.len,g.row,g.bit⟩
variable{m:Nat}
theorem Y1(g:SqA n A)(h:SqA m A):n=m:=g.len.symm.trans h.len
theorem jcC{j:Nat}{b:List Int}(g:SqA n A)(hb:b.length=n)(hx:∀x∈b,bits x<=400)(hj:j<n):SqA n (qS A j b):=by
 have hl:=g.len;refine⟨g.n1,g.n4,by unfold qS;rw[jey];lia,λr hr=>?_,λr hr x hm=>?_⟩
 all_goals
  unfold qS at hr;rw[KW]at hr;obtain⟨p,hp,rfl⟩:=bH.mp hr;have hm':=mn hp;have hr':=g.row _ hm'.1
 ·simp;lia
 ·rcases dI.mp hm with z|z
  ·exact g.bit _ hm'.1 x (nS z)
  ·rcases bz.mp z with z|z
   ·rw[z];exact hx _ hm'.2
   ·exact g.bit _ hm'.1 x (gJ z)
theorem jbh(g:SqA n A):bits (jI (n-1) A)<=1700:=by
 have n1:=g.n1;have n4:=g.n4
 obtain⟨m,rfl⟩:∃m,n=m+1:=⟨n-1,by lia⟩
 exact bS (JQ m (Ul g)) (dB_le (by lia))
theorem Z1{Q:D->Prop}{E:XD->Prop}(g:SqA n A):(qz 4).wp [wD A] Q E ↔ Q (.int (jI (n-1) A)):=by
 have n1:=g.n1;have n4:=g.n4
 obtain⟨m,rfl⟩:∃m,n=m+1:=⟨n-1,by lia⟩
 exact V2 (Ul g) n4 (by decide)
def yI(n:Nat)(A:List (List Int))(b:List Int):List Rat:=(bE n).map λj=>dY (jI (n-1) (qS A j b)) (jI (n-1) A)
def c_siw:Ctr where
 pre ds:=∃n A b,ds=[wD A,iD b]/\SqA n A/\b.length=n/\∀x∈b,bits x<=400
 res ds d:=∀n A b,ds=[wD A,iD b]->SqA n A->jI (n-1) A≠0/\d=.lst ((yI n A b).map rq)
 exn ds y:=∃n A b u,ds=[wD A,iD b]/\SqA n A/\jI (n-1) A=0/\y.t="Dependent" /\ y.f=[iD u]/\Wts n A u
theorem injAb{A':List (List Int)}{b b':List Int}(e:[wD A,iD b]=[wD A',iD b']):A=A'/\b=b':=by
 injection e with e1 e2;injection e2 with e2;exact⟨yz e1,uA e2⟩
theorem uU{l:List Int}(hm:m<=3)(h:∀j,bits (l.getD j 0)<=401*2^m-1):∀j,bits (l.getD j 0)<=4000:=λj=>by
 have:2^m<=2^3:=my (by decide) hm;have:=h j;lia
theorem Z0:∀(m:Nat) (s:Nat),jW (s:Int) 1 m=(jem s m).map λk:Nat=>D.int k
 |0,s=>rfl
 |m+1,s=>by
  rw[wa,bq,<- Z0 m (s+1)];rfl
theorem k_weights{C:Cfg}{i1 i2 i3 i4:Nat}(h1:C.ct i1=c_weighted)(h2:C.ct i2=c_cleared)(h3:C.ct i3=c_fnn)(h4:C.ct i4=c_lowest):jB C 5 (b_weights_to_nought i1 i2 i3 i4) c_weights:=by
 rintro ds ⟨n,A,rfl,g,hz⟩;have n4:=g.n4;have hl:=g.len;rw[b_weights_to_nought];simp_all! only[]
 let P:List D->Sto->Prop:=λds σ=>∃(B:List (List Int)) (a b c:Option Sl),(Bas n A B/\B.length<=n/\ds=(jem B.length (n-B.length)).map λk:Nat=>D.int k)/\σ=[some (.sh (wD A)),some (.ow (B.map iD)),a,b,c]
 rw[jO,vF];dsimp! only[wD,bj];refine⟨by unfold qT;lia,?_⟩;refine qb P ⟨[],_,_,_,⟨Bas.nil g hz,mL _,?_⟩,rfl⟩ ?_ ?_
 ·rw[bV,hl];exact Z0 n 0
 ·rintro _ ds σ ⟨B,a,b,c,⟨bs,hB,hd⟩,rfl⟩
  obtain⟨m,hm⟩:∃m,n-B.length=m+1:=⟨n-B.length-1,by
   rcases jc6 (n-B.length) with z|z
   ·rw[z]at hd;simp at hd
   ·lia⟩
  have hk:B.length<n:=by lia
  rw[hm,wa,bq]at hd;simp only[bO]at hd;obtain⟨rfl,rfl⟩:=hd
  have ww:=λQ E=>QL (Q:=Q) (E:=E) g hk
  simp_all! only[h1,ww]
  let P2:List D->Sto->Prop:=λxs σ=>∃(Pf R:List (List Int)) (x:List Int) (c:Option Sl),(B=Pf++R/\xs=R.map iD/\Row n A B Pf x)/\σ=[some (.sh (wD A)),some (.ow (B.map iD)),some (.sh (.int B.length)),some (.sh (iD x)),c]
  refine jP (P2 []) ?_ ?_
  ·rw[ws_forU];simp only[getS,Uk];refine XQ P2 _ _ ⟨[],B,_,_,⟨rfl,rfl,Row.start g bs hk⟩,rfl⟩ ?_ ?_
   rotate_left
   ·exact λσ h=>h
   rintro _ xs σ ⟨Pf,R,x,c,⟨eB,hd,r⟩,rfl⟩
   cases R with
   |nil=>simp at hd
   |cons b R =>
    simp only[bq,bO]at hd;obtain⟨rfl,rfl⟩:=hd
    have hb:b∈B:=by rw[eB];simp
    have hp:=bs.piv b hb;have lb:=bs.len b hb
    have lp:Pf.length<B.length:=by rw[eB];simp
    have eb:B.getD Pf.length []=b:=by rw[eB,bL,dN (df _),tX];rfl
    have wc:=λQ E=>YS (x:=x) (b:=b) (Q:=Q) (E:=E) (by rw[r.len,lb]) (by lia) (by lia) (uU (m:=Pf.length) (by lia) r.bit) (uU (m:=Pf.length) (by lia) (by have:=bs.bit Pf.length lp;rw[eb]at this;exact this))
    dsimp! only[h2,wc];exact⟨Pf ++ [b],R,_,_,⟨by rw[eB];simp,rfl,r.step g bs eB hk⟩,rfl⟩
  rintro σ ⟨Pf,R,x,c,⟨eB,hd,r⟩,rfl⟩
  have:R=[]:=by simpa using hd.symm
  subst this;rw[di]at eB;subst eB;have fx:fnn x<x.length:=jbo r.own;have lx:=r.len
  have wf:=λQ E=>ZA (l:=x) (Q:=Q) (E:=E) fx (by lia)
  rw[jO,qH];dsimp! only[h3,wf,wD,bj];by_cases hf:n<=fnn x
  ·rw[if_pos (by lia)];obtain⟨f1,⟨i,f2,f3⟩,f4⟩:=r.found g hk hf;have cf:=uv (f:=D.int) (r:=x) (j:=A.length) (by lia);simp_all! only[kL,prt,vz,slD,bj,cf,h4];rw[hl];refine⟨⟨x.drop n,rfl,jbo f3,by lia,λj=>?_⟩,λd q=>?_,λ_ z=>z.elim⟩
   ·rw[bL,jc5,<- bL];exact uU (m:=B.length) (by lia) r.bit _
   ·obtain⟨u,rfl,lw⟩:=q _ rfl;intro n' A' e g';have eA:=w1 (M:=A) e;subst eA;obtain rfl:=Y1 g g';exact⟨u,rfl,wts_of f1 f4 lw⟩
  ·rw[if_neg (by lia)];simp_all! only[bj];refine⟨by unfold lim;lia,B ++ [x],_,_,_,⟨bs.grow g r hk (by lia),by simp;lia,?_⟩,by rw[de];rfl⟩;rw[b6,nG,show n-(B.length+1)=m by lia]
 ·rintro σ ⟨B,a,b,c,⟨bs,hB,hd⟩,rfl⟩;have:B.length≠n:=bs.lt g
  have:n-B.length=0:=by
   rcases jc6 (n-B.length) with z|z
   ·exact z
   ·have:=congrArg jdc hd;simp at this;lia
  lia
structure SqR (n:Nat) (T:List (List (Int×Int))) (q:List (Int×Int)):Prop where
 sq:SqT n T
 len:q.length=n
 sm:∀x∈q,SmallP x
theorem SqR.lo{T:List (List (Int×Int))}{q:List (Int×Int)}{low:Int}(g:SqR n T q)(m:IsMin (T ++ [q]) low):-130<=low:=by
 obtain⟨r,hr,x,hx,e⟩:=m.at_
 have sx:SmallP x:=by
  rcases dI.mp hr with z|z
  ·exact g.sq.sm r z x hx
  ·rw[gv.mp z]at hx;exact g.sm x hx
 have:=sx.lo;lia
end Z.J46
set_option exponentiation.threshold 3000
namespace Z.K46
open PySem Z Z.K42 Z.K40 Z.J51 Z.J45 Z.L45 Z.L46 Z.J46
def Meets(n:Nat)(A:List (List Int))(b:List Int)(xs:List Rat):Prop:=∀i,i<n->((bE n).map λj=>(((A.getD i []).getD j 0:Int):Rat)*xs.getD j 0).sum=((b.getD i 0:Int):Rat)
theorem YU(k:Rat)(f:Nat->Rat)(n:Nat):((bE n).map λj=>k*f j).sum=k*((bE n).map f).sum:=by
 induction n with
 |zero=>simp
 |succ n ih=>rw[mG,de,de,gY,gY,ih];simp;grind
theorem Yh(f:Nat->Int)(n:Nat):((bE n).map λj=>((f j:Int):Rat)).sum=(((bE n).map f).sum:Int):=by
 induction n with
 |zero=>simp
 |succ n ih=>rw[mG,de,de,gY,gY,ih];simp;grind
theorem sol_meets{n:Nat}{A:List (List Int)}{b:List Int}(g:SqA n A)(hb:b.length=n)(hz:jI (n-1) A≠0):Meets n A b (yI n A b):=by
 intro i hi;have c:=jba g.n1 g.n4 g.len g.row hb hi
 have e:((bE n).map λj=>(((A.getD i []).getD j 0:Int):Rat)*(yI n A b).getD j 0)=(bE n).map λj=>(1 / (jI (n-1) A:Rat))*((((A.getD i []).getD j 0*jI (n-1) (qS A j b):Int)):Rat):=bQ λj hj=>by
  have hj:=dF.mp hj
  have:(yI n A b).getD j 0=dY (jI (n-1) (qS A j b)) (jI (n-1) A):=by
   unfold yI;rw[bL,bY,w9 hj];rfl
  rw[this,mW,bZ]
  grind
 rw[e,YU,Yh,c,bZ]
 have:(jI (n-1) A:Rat)≠0:=by simpa using hz
 grind
end Z.K46
set_option exponentiation.threshold 3000
namespace Z.J49
open PySem Z Z.K42 Z.K40 Z.J51 Z.J45 Z.L45 Z.L46 Z.J46 Z.K51
def b_column:Sm :=
 (.seq (.ret (.compE (.var 0) (.ix (.var 2) (.var 1))))
 .nop)
def b_turned(i_column:Nat):Sm :=
 (.seq (.ret (.compR [(.bi .len [(.ix (.var 0) (.cst (.int 0)))])] (.call i_column [(.var 0),(.var 1)])))
 .nop)
def b_whole_dots(i_whole_dot:Nat):Sm :=
 (.seq (.ret (.compE (.var 1) (.call i_whole_dot [(.var 0),(.var 2)])))
 .nop)
structure RecW (M:List (List Int)) (A:Nat):Prop where
 ne:M ≠ []
 few:M.length<=200
 row:∀r∈M,r.length=A
 a:A<=200
def YY(M:List (List Int))(j:Nat):List Int:=M.map λr=>r.getD j 0
def trn(A:Nat)(M:List (List Int)):List (List Int):=(bE A).map (YY M)
def c_turned:Ctr where
 pre ds:=∃M A,ds=[wD M]/\RecW M A
 res ds d:=∀M A,ds=[wD M]->RecW M A->d=wD (trn A M)
variable{M:List (List Int)}{A B:Nat}
theorem RecW.uni(g:RecW M A)(h:RecW M B):A=B:=by
 obtain⟨r,R,e⟩:=nF g.ne;have:=g.row r (by rw[e];exact bC ..);have:=h.row r (by rw[e];exact bC ..);lia
variable{Q:D->Prop}{E:XD->Prop}
theorem wp_turned(g:RecW M A):c_turned.wp [wD M] Q E ↔ Q (wD (trn A M)) :=
 ⟨λw=>w.2.1 _ λM' A' e g'=>by
  have e:=yz (n9 e).1;subst e
  rw[g.uni g'],λq=>⟨⟨M,A,rfl,g⟩,λd h=>by rw[h M A rfl g];exact q,λ_ z=>z.elim⟩⟩
structure DotsOk (r:List Int) (M:List (List Int)):Prop where
 few:M.length<=200
 len:r.length<=200
 br:∀a∈r,bits a<=20000
 bm:∀o∈M,∀a∈o,bits a<=20000
def c_whole_dots:Ctr where
 pre ds:=∃r M,ds=[iD r,wD M]/\DotsOk r M
 res ds d:=∀r M,ds=[iD r,wD M]->d=iD (M.map (j8 r))
theorem k_whole_dots{C:Cfg}{i:Nat}(h1:C.ct i=c_whole_dot):jB C 2 (b_whole_dots i) c_whole_dots:=by
 rintro ds ⟨r,M,rfl,g⟩
 have l1:M.length<=lim:=by have:=g.few;unfold lim;lia
 rw[b_whole_dots];simp_all! only[wD,bj,l1]
 rw[jt (g:=λo:List Int=>D.lst (o.map .int)) (h:=λo=>D.int (j8 r o)) (λo ho Q=>by
  have w:=λQ E=>jcg (as:=r) (bs:=o) (Q:=Q) (E:=E) g.len g.br (g.bm o ho)
  dsimp! only[h1,iD,w])]
 intro r' M' e;simp only[bO,and_true]at e;have e1:r=r':=uA e.1;have e2:M=M':=yz (by unfold wD at *;exact e.2);subst e1 e2;unfold iD;rw[bN];rfl
variable{r:List (Int×Int)}
theorem JU{r:List Int}(g:DotsOk r M):c_whole_dots.wp [iD r,wD M] Q E ↔ Q (iD (M.map (j8 r))) :=
 ⟨λw=>w.2.1 _ λr' M' e=>by
  simp only[bO,and_true]at e
  rw[<- uA e.1,<- yz e.2],λq=>⟨⟨r,M,rfl,g⟩,λd h=>by rw[h r M rfl];exact q,λ_ z=>z.elim⟩⟩
theorem Kr{as bs:List Int}(hl:as.length<=63)(ha:∀a∈as,bits a<=A)(hb:∀b∈bs,bits b<=B):bits (j8 as bs)<=A+B+6:=by
 have key:∀(l:List Int),(∀x∈l,x.natAbs<2^(A+B))->l.sum.natAbs<=l.length*2^(A+B):=by
  intro l
  induction l with
  |nil=>intro _;simp
  |cons x l ih =>
   intro h;have h1:=h x (bC ..)
   have h2:=ih λy hy=>h y (bo _ hy)
   rw[dH,dU,jcO];have:=Int.natAbs_add_le x l.sum;lia
 have h:=key ((as.zip bs).map λp=>p.1*p.2) λx hx=>by
  obtain⟨p,hp,rfl⟩:=bH.mp hx;have z:=mn hp;have:=jC p.1 p.2;have:=ha _ z.1;have:=hb _ z.2;exact jh.mp (by lia)
 rw[bj,pR]at h;refine jh.mpr ?_;unfold j8
 have:min as.length bs.length<=63:=by lia
 have e:2^(A+B+6)=64*2^(A+B):=by rw[jd6];grind
 rw[e];have p:=gO (A+B);have:=mM (2^(A+B)) this;lia
variable{low:Int}{x:Int×Int}
theorem Kz(h:x.2+bits x.1<=64)(l:-130<=low)(hx:low<=x.2):bits (atW low x)<=194:=by
 have:=xU (w:=x.1) (k:=(x.2-low).toNat);unfold atW;lia
def xc(low:Int)(T:List (List (Int×Int)))(ps:List Nat)(j:Nat):List Int:=T.map λr=>atW low ((j6 ps r).getD j (0,0))
def yc(low:Int)(T:List (List (Int×Int)))(t:Nat):List Int:=T.map λr=>atW low (r.getD t (0,0))
def nA(low:Int)(T:List (List (Int×Int)))(ps:List Nat):List (List Int):=(bE (ps.length+1)).map λi=>(bE (ps.length+1)).map λj=>j8 (xc low T ps i) (xc low T ps j)
def nB(low:Int)(T:List (List (Int×Int)))(ps:List Nat)(t:Nat):List Int:=(bE (ps.length+1)).map λi=>j8 (xc low T ps i) (yc low T t)
variable{j:Nat}
section
variable {T:List (List (Int×Int))} {ps:List Nat} {t:Nat} {low:Int}
theorem Um(g:FitOk T ps t)(hr:r∈T)(hx:x∈jY ps t r):x.2+bits x.1<=64:=by
 obtain⟨s,ht,hp⟩:=g.row r hr
 have at_:∀p,p<r.length->(r.getD p (0,0)).2+bits (r.getD p (0,0)).1<=64:=λp h=>g.up r hr _ (by rw[K40.getD_at h];exact dP h)
 unfold jY at hx;rcases dI.mp hx with z|z
 ·rcases bz.mp z with rfl|z
  ·decide
  ·obtain⟨p,hp',rfl⟩:=bH.mp z;exact at_ p (hp p hp')
 ·simp only[bz,bK,or_false]at z;subst z;exact at_ t ht
theorem xu(r:List (Int×Int)):(j6 ps r).length=ps.length+1:=by unfold j6;simp
theorem ZW(hj:j<ps.length+1):(j6 ps r).getD j (0,0)∈j6 ps r:=by
 rw[K40.getD_at (by rw[xu];exact hj)];exact dP _
theorem xc_b(g:FitOk T ps t)(L:LowOk T ps t low)(hj:j<ps.length+1):∀a∈xc low T ps j,bits a<=194:=by
 intro a ha;obtain⟨r,hr,rfl⟩:=bH.mp ha
 have hm:(j6 ps r).getD j (0,0)∈jY ps t r:=by unfold jY;exact dh _ (ZW hj)
 exact Kz (Um g hr hm) L.lo (L.le r hr _ hm)
theorem yc_b(g:FitOk T ps t)(L:LowOk T ps t low):∀a∈yc low T t,bits a<=194:=by
 intro a ha;obtain⟨r,hr,rfl⟩:=bH.mp ha
 have hm:r.getD t (0,0)∈jY ps t r:=by unfold jY;simp
 exact Kz (Um g hr hm) L.lo (L.le r hr _ hm)
theorem Z8(g:FitOk T ps t)(L:LowOk T ps t low)(h3:ps.length<=3):SqA (ps.length+1) (nA low T ps):=by
 have few:=g.few;refine⟨by lia,by lia,by unfold nA;simp,λr hr=>?_,λr hr x hx=>?_⟩
 ·obtain⟨i,hi,rfl⟩:=bH.mp hr;simp
 ·obtain⟨i,hi,rfl⟩:=bH.mp hr;obtain⟨j,hj,rfl⟩:=bH.mp hx;have:=Kr (as:=xc low T ps i) (bs:=xc low T ps j) (by unfold xc;rw[bj];lia) (xc_b g L (dF.mp hi)) (xc_b g L (dF.mp hj));lia
theorem nB_b(g:FitOk T ps t)(L:LowOk T ps t low):∀x∈nB low T ps t,bits x<=400:=by
 have few:=g.few;intro x hx;obtain⟨i,hi,rfl⟩:=bH.mp hx;have:=Kr (as:=xc low T ps i) (bs:=yc low T t) (by unfold xc;rw[bj];lia) (xc_b g L (dF.mp hi)) (yc_b g L);lia
theorem X0:(nB low T ps t).length=ps.length+1:=by unfold nB;simp
end
def c_fitted:Ctr where
 pre ds:=∃T ps t,ds=[tabD T,plD ps,.int (t:Nat)]/\FitOk T ps t
 res ds d:=∀T ps t,ds=[tabD T,plD ps,.int (t:Nat)]->∃low,LowOk T ps t low/\jI ps.length (nA low T ps)≠0/\d=.lst ((yI (ps.length+1) (nA low T ps) (nB low T ps t)).map rq)
 exn ds y:=∃T ps t low u,ds=[tabD T,plD ps,.int (t:Nat)]/\LowOk T ps t low/\jI ps.length (nA low T ps)=0/\y.t="Dependent" /\ y.f=[iD u]/\Wts (ps.length+1) (nA low T ps) u
theorem Kf{α:Type}(f:α->D)(r:List α):yr (r.map f) none (some (-1))=r.dropLast.map f:=by
 unfold yr;have e1:sIx (r.map f).length 0 none=0:=rfl
 have e2:sIx (r.map f).length (r.map f).length (some (-1))=r.length-1:=by
  rw[bj];show (if (-1:Int)<0 then ((-1:Int)+(r.length:Int)).toNat else min (-1:Int).toNat r.length)=_;rw[if_pos (by decide)];lia
 rw[e1,e2,gk,jfg,jd5,jdq]
theorem ja7{l:List Int}{z:Int}:atD ((l ++ [z]).map .int) (-1)=some (.int z):=by
 rw[KY (by simp)];unfold yA;simp
theorem cols_eq{T:List (List (Int×Int))}{ps:List Nat}{t:Nat}:trn (ps.length+2) (T.map λr=>(jY ps t r).map (atW low))=((bE (ps.length+1)).map λj=>xc low T ps j) ++ [yc low T t]:=by
 unfold trn;rw[mG,de];congr 1
 ·refine bQ λj hj=>?_
  have hj:=dF.mp hj;unfold YY xc;rw[bN]
  refine bQ λr _=>?_
  simp only[n5];rw[K40.getD_at (by rw[bj,zi];lia),gH,K40.getD_at (by rw[xu];exact hj)];congr 1;unfold jY j6;rw[List.getElem_append_left (by simp;exact hj)]
 ·rw[jc7];congr 1;unfold YY yc;rw[bN]
  refine bQ λr _=>?_
  simp only[n5];rw[K40.getD_at (by rw[bj,zi];lia),gH];congr 1;unfold jY;rw[List.getElem_append_right (by simp)];simp
end Z.J49
set_option exponentiation.threshold 3000
namespace Z.J49
open PySem Z Z.K42 Z.K40 Z.J51 Z.J45 Z.L45 Z.L46 Z.J46 Z.K46 Z.K51
section
variable {α β:Type}
theorem UH(T:List α)(f g:α->Int):j8 (T.map f) (T.map g)=(T.map λr=>f r*g r).sum:=by
 unfold j8
 induction T with
 |nil=>rfl
 |cons a T ih=>simp only[bq,tG,dH,ih]
theorem zy(l:List α)(f:α->Int):(((l.map f).sum:Int):Rat)=(l.map λa=>(f a:Rat)).sum:=by
 induction l with
 |nil=>rfl
 |cons a l ih=>simp only[bq,dH,pQ,ih]
theorem yV(l:List α)(f g:α->Rat):(l.map λa=>f a+g a).sum=(l.map f).sum+(l.map g).sum:=by
 induction l with
 |nil=>simp only[dR,mE];grind
 |cons a l ih=>simp only[bq,dH,ih];grind
theorem ky(l:List α)(k:Rat)(f:α->Rat):(l.map λa=>k*f a).sum=k*(l.map f).sum:=by
 induction l with
 |nil=>simp
 |cons a l ih=>simp only[bq,dH,ih];grind
theorem zl(l:List α):(l.map λ_=>(0:Rat)).sum=0:=by
 induction l with
 |nil=>rfl
 |cons a l ih=>simp only[bq,dH,ih];grind
theorem zr(l:List α)(m:List β)(f:α->β->Rat):(l.map λa=>(m.map λb=>f a b).sum).sum=(m.map λb=>(l.map λa=>f a b).sum).sum:=by
 induction l with
 |nil=>simp only[dR,mE,zl]
 |cons a l ih=>simp only[bq,dH,ih,yV]
end
variable{i j:Nat}
section
variable {T:List (List (Int×Int))} {ps:List Nat} {t:Nat} {low:Int}
def xr(low:Int)(ps:List Nat)(j:Nat)(r:List (Int×Int)):Int:=atW low ((j6 ps r).getD j (0,0))
theorem ZR(hi:i<ps.length+1)(hj:j<ps.length+1):((nA low T ps).getD i []).getD j 0=(T.map λr=>xr low ps i r*xr low ps j r).sum:=by
 unfold nA;rw[K40.getD_at (p:=i) (z:=[]) (by simpa using hi),gH,K40.getD_at (by simpa using hj),gH];simp only[tH];exact UH ..
theorem nB_at(hi:i<ps.length+1):(nB low T ps t).getD i 0=(T.map λr=>xr low ps i r*atW low (r.getD t (0,0))).sum:=by
 unfold nB;rw[K40.getD_at (by simpa using hi),gH];simp only[tH];exact UH ..
theorem nA_sym(hi:i<ps.length+1)(hj:j<ps.length+1):((nA low T ps).getD i []).getD j 0=((nA low T ps).getD j []).getD i 0:=by
 rw[ZR hi hj,ZR hj hi];exact congrArg jeo (bQ λr _=>mK ..)
theorem ja3(L:LowOk T ps t low){r:List (Int×Int)}(hr:r∈T)(hj:j<ps.length+1):((xr low ps j r:Int):Rat)=vr ((j6 ps r).getD j (0,0))*tw (-low) :=
 J51.atW_vr (L.le r hr _ (by unfold jY;exact dh _ (ZW hj)))
theorem yx:∀(xs:List (Int×Int)) (qs:List Rat),qs.length=xs.length->KQ xs qs=((bE xs.length).map λj=>vr (xs.getD j (0,0))*qs.getD j 0).sum
 |[],[],_=>rfl
 |[],_::_,h=>by simp at h
 |_::_,[],h=>by simp at h
 |x::xs,q::qs,h=>by
  rw[u7,yx xs qs (by simpa using h),dU,jdR,bq,dH,bN];rfl
theorem normal{qs:List Rat}(L:LowOk T ps t low)(hl:qs.length=ps.length+1)(m:Meets (ps.length+1) (nA low T ps) (nB low T ps t) qs)(hi:i<ps.length+1):(T.map λr=>vr ((j6 ps r).getD i (0,0))*km ps t qs r).sum=0:=by
 have h:=m i hi
 have t0:tw (-low)≠0:=by have:=kf (-low);grind
 have e1:((bE (ps.length+1)).map λj=>((((nA low T ps).getD i []).getD j 0:Int):Rat)*qs.getD j 0)=(bE (ps.length+1)).map λj=>(T.map λr=>(xr low ps i r:Rat)*(xr low ps j r:Rat)*qs.getD j 0).sum:=bQ λj hj=>by
  have hj:=dF.mp hj;rw[ZR hi hj,zy];rw[nV,<- ky];exact congrArg jeo (bQ λr _=>by rw[bZ];grind)
 rw[e1,<- zr,nB_at hi,zy]at h
 have e2:(T.map λr=>vr ((j6 ps r).getD i (0,0))*km ps t qs r).sum=(1 / (tw (-low)*tw (-low)))*((T.map λr=>(((xr low ps i r*atW low (r.getD t (0,0)):Int)):Rat)).sum+(-1)*(T.map λr=>((bE (ps.length+1)).map λj=>(xr low ps i r:Rat)*(xr low ps j r:Rat)*qs.getD j 0).sum).sum):=by
  rw[<- ky,<- yV,<- ky];refine congrArg jeo (bQ λr hr=>?_);have y1:=J51.atW_vr (L.le r hr (r.getD t (0,0)) (by unfold jY;simp))
  have e3:((bE (ps.length+1)).map λj=>(xr low ps i r:Rat)*(xr low ps j r:Rat)*qs.getD j 0)=(bE (ps.length+1)).map λj=>(xr low ps i r:Rat)*tw (-low)*(vr ((j6 ps r).getD j (0,0))*qs.getD j 0):=bQ λj hj=>by
   rw[ja3 L hr (dF.mp hj)]
   grind
  rw[e3,ky,bZ,y1,ja3 L hr hi];unfold km;rw[yx (j6 ps r) qs (by rw[xu];exact hl),xu];generalize ((bE (ps.length+1)).map λj=>vr ((j6 ps r).getD j (0,0))*qs.getD j 0).sum=S
  grind
 rw[e2,h]
 grind
end
theorem XB{k:Nat}(f:Nat->Rat):∀n,((bE n).map λj=>if j=k then f j else 0).sum=if k<n then f k else 0
 |0=>rfl
 |n+1=>by
  rw[mG,de,gY,XB f n];simp only[bq,dR,dH,mE];by_cases h:n=k
  ·subst h;rw[if_neg (gB _),if_pos rfl,if_pos (t9 _)];grind
  ·rw[if_neg h];by_cases h2:k<n
   ·rw[if_pos h2,if_pos (by lia)];grind
   ·rw[if_neg h2,if_neg (by lia)];grind
theorem ker0{n:Nat}{A:List (List Int)}(g:SqA n A)(sym:∀i j,i<n->j<n->(A.getD i []).getD j 0=(A.getD j []).getD i 0)(hz:jI (n-1) A≠0){v:Nat->Rat}
 (hv:∀i,i<n->((bE n).map λj=>(((A.getD i []).getD j 0:Int):Rat)*v j).sum=0) {j0:Nat} (hj0:j0<n):v j0=0:=by
 let e:List Int:=(bE n).map λi=>if i=j0 then 1 else 0
 have le:e.length=n:=by simp[e]
 have ee:∀i,i<n->e.getD i 0=if i=j0 then 1 else 0:=λi hi=>by
  simp only[e];rw[K40.getD_at (by simpa using hi),gH];simp only[tH]
 have cr:=λi (hi:i<n)=>jba g.n1 g.n4 g.len g.row le hi
 have h1:((bE n).map λi=>v i*((bE n).map λc=>(((A.getD i []).getD c 0:Int):Rat)*((jI (n-1) (qS A c e):Int):Rat)).sum).sum=v j0*(jI (n-1) A:Rat):=by
  have:((bE n).map λi=>v i*((bE n).map λc=>(((A.getD i []).getD c 0:Int):Rat)*((jI (n-1) (qS A c e):Int):Rat)).sum)=(bE n).map λi=>if i=j0 then v i*(jI (n-1) A:Rat) else 0:=bQ λi hi=>by
   have hi:=dF.mp hi;have c:=congrArg (λz:Int=>(z:Rat)) (cr i hi);simp only[zy,bZ]at c;rw[c,ee i hi]
   split<;>simp<;>grind
  rw[this,XB,if_pos hj0]
 have h2:((bE n).map λi=>v i*((bE n).map λc=>(((A.getD i []).getD c 0:Int):Rat)*((jI (n-1) (qS A c e):Int):Rat)).sum).sum=0:=by
  have:((bE n).map λi=>v i*((bE n).map λc=>(((A.getD i []).getD c 0:Int):Rat)*((jI (n-1) (qS A c e):Int):Rat)).sum)=(bE n).map λi=>((bE n).map λc=>((jI (n-1) (qS A c e):Int):Rat)*((((A.getD c []).getD i 0:Int):Rat)*v i)).sum:=bQ λi hi=>by
   rw[<- ky];refine congrArg jeo (bQ λc hc=>?_);rw[sym i c (dF.mp hi) (dF.mp hc)]
   grind
  rw[this,zr]
  have z:((bE n).map λc=>((bE n).map λi=>((jI (n-1) (qS A c e):Int):Rat)*((((A.getD c []).getD i 0:Int):Rat)*v i)).sum)=(bE n).map λ_=>(0:Rat):=bQ λc hc=>by
   rw[ky,hv c (dF.mp hc)];grind
  rw[z,zl]
 rw[h1]at h2
 have d0:(jI (n-1) A:Rat)≠0:=by simpa using hz
 exact(Rat.mul_eq_zero.mp h2).resolve_right d0
end Z.J49
set_option exponentiation.threshold 3000
namespace Z.L50
open PySem Z Z.K42 Z.K40 Z.J51 Z.J45 Z.L45 Z.L46 Z.J46 Z.K46 Z.K51 Z.J49
theorem KG:∀ {l:List Rat},(∀x∈l,0<=x)->0<=l.sum
 |[],_=>by simp
 |a::l,h=>by
  rw[dH];have:=h a (bC ..)
  have:=KG (l:=l) λx hx=>h x (bo _ hx)
  grind
theorem Kc(a:Rat):0<=a*a:=by
 rcases Rat.le_total (a:=0) (b:=a) with q|q
 ·exact jc3 q q
 ·have:=jc3 (a:=-a) (b:=-a) (by grind) (by grind)
  grind
theorem YM{α:Type}(l:List α)(f:α->Rat):0<=(l.map λa=>f a*f a).sum:=KG λx hx=>by
 obtain⟨a,_,rfl⟩:=bH.mp hx;exact Kc _
theorem QQ{α:Type}(f:α->Rat):∀(l:List α),(l.map λa=>f a*f a).sum=0->∀a∈l,f a=0
 |[],_,a,ha=>by simp at ha
 |b::l,h,a,ha=>by
  simp only[bq,dH]at h;have h1:=Kc (f b);have h2:=YM l f
  have e1:f b*f b=0:=by generalize f b*f b=x at *;grind
  have e2:(l.map λa=>f a*f a).sum=0:=by rw[e1]at h;grind
  rcases bz.mp ha with rfl|z
  ·rcases Rat.mul_eq_zero.mp e1 with y|y<;>exact y
  ·exact QQ f l e2 a z
variable{qs zs:List Rat}
section
variable {T:List (List (Int×Int))} {ps:List Nat} {t:Nat} {low:Int}
def lin(ps:List Nat)(d:Nat->Rat)(r:List (Int×Int)):Rat:=((bE (ps.length+1)).map λj=>vr ((j6 ps r).getD j (0,0))*d j).sum
def dif(zs qs:List Rat)(j:Nat):Rat:=zs.getD j 0+(-1)*qs.getD j 0
theorem Zn(h1:qs.length=ps.length+1)(h2:zs.length=ps.length+1)(r:List (Int×Int)):km ps t zs r=km ps t qs r+(-1)*lin ps (dif zs qs) r:=by
 unfold km lin dif;rw[yx (j6 ps r) qs (by rw[xu];exact h1),yx (j6 ps r) zs (by rw[xu];exact h2),xu]
 have e:((bE (ps.length+1)).map λj=>vr ((j6 ps r).getD j (0,0))*(zs.getD j 0+(-1)*qs.getD j 0))=(bE (ps.length+1)).map λj=>vr ((j6 ps r).getD j (0,0))*zs.getD j 0+(-1)*(vr ((j6 ps r).getD j (0,0))*qs.getD j 0):=bQ λj _=>by grind
 rw[e,yV,ky]
 grind
theorem Ud(L:LowOk T ps t low)(h1:qs.length=ps.length+1)(h2:zs.length=ps.length+1)(m:Meets (ps.length+1) (nA low T ps) (nB low T ps t) qs) :
 sqQ T ps t zs=sqQ T ps t qs+(T.map λr=>lin ps (dif zs qs) r*lin ps (dif zs qs) r).sum:=by
 unfold sqQ
 have e:(T.map λr=>km ps t zs r*km ps t zs r)=T.map λr=>(km ps t qs r*km ps t qs r+lin ps (dif zs qs) r*lin ps (dif zs qs) r)+(-2)*(km ps t qs r*lin ps (dif zs qs) r):=bQ λr _=>by
  rw[Zn h1 h2];grind
 rw[e,yV,yV,ky]
 have c:(T.map λr=>km ps t qs r*lin ps (dif zs qs) r).sum=0:=by
  have e2:(T.map λr=>km ps t qs r*lin ps (dif zs qs) r)=T.map λr=>((bE (ps.length+1)).map λj=>dif zs qs j*(vr ((j6 ps r).getD j (0,0))*km ps t qs r)).sum:=bQ λr _=>by
   unfold lin;rw[<- ky];exact congrArg jeo (bQ λj _=>by grind)
  rw[e2,zr]
  have z:((bE (ps.length+1)).map λj=>(T.map λr=>dif zs qs j*(vr ((j6 ps r).getD j (0,0))*km ps t qs r)).sum)=(bE (ps.length+1)).map λ_=>(0:Rat):=bQ λj hj=>by
   rw[ky,normal L h1 m (dF.mp hj)];grind
  rw[z,zl]
 rw[c];grind
theorem no_less(L:LowOk T ps t low)(h1:qs.length=ps.length+1)(h2:zs.length=ps.length+1)(m:Meets (ps.length+1) (nA low T ps) (nB low T ps t) qs):sqQ T ps t qs<=sqQ T ps t zs:=by
 rw[Ud L h1 h2 m];have:=YM T (lin ps (dif zs qs))
 grind
theorem more_of(g:FitOk T ps t)(L:LowOk T ps t low)(h1:qs.length=ps.length+1)(h2:zs.length=ps.length+1)(m:Meets (ps.length+1) (nA low T ps) (nB low T ps t) qs)(hz:jI ps.length (nA low T ps)≠0)
 {j:Nat} (hj:j<ps.length+1) (hd:zs.getD j 0≠qs.getD j 0):sqQ T ps t qs<sqQ T ps t zs:=by
 rw[Ud L h1 h2 m];have nn:=YM T (lin ps (dif zs qs))
 have ne:(T.map λr=>lin ps (dif zs qs) r*lin ps (dif zs qs) r).sum≠0:=λz=>by
  have l0:=QQ (lin ps (dif zs qs)) T z
  have k0:=ker0 (Z8 g L g.pl) (λi j hi hj=>nA_sym hi hj) hz (v:=dif zs qs) (λi hi=>by
   have e1:((bE (ps.length+1)).map λj=>((((nA low T ps).getD i []).getD j 0:Int):Rat)*dif zs qs j)=(bE (ps.length+1)).map λj=>(T.map λr=>(xr low ps i r:Rat)*(xr low ps j r:Rat)*dif zs qs j).sum:=bQ λj hj=>by
    have hj:=dF.mp hj;rw[ZR hi hj,zy,nV,<- ky];exact congrArg jeo (bQ λr _=>by rw[bZ];grind)
   rw[e1,<- zr]
   have e2:(T.map λr=>((bE (ps.length+1)).map λj=>(xr low ps i r:Rat)*(xr low ps j r:Rat)*dif zs qs j).sum)=T.map λ_=>(0:Rat):=bQ λr hr=>by
    have e3:((bE (ps.length+1)).map λj=>(xr low ps i r:Rat)*(xr low ps j r:Rat)*dif zs qs j)=(bE (ps.length+1)).map λj=>(xr low ps i r:Rat)*tw (-low)*(vr ((j6 ps r).getD j (0,0))*dif zs qs j):=bQ λj hj=>by
     rw[ja3 L hr (dF.mp hj)]
     grind
    rw[e3,ky];have:=l0 r hr;unfold lin at this;rw[this,Rat.mul_zero]
   rw[e2,zl]) hj
  unfold dif at k0;exact hd (by grind)
 generalize (T.map λr=>lin ps (dif zs qs) r*lin ps (dif zs qs) r).sum=S at *
 grind
end
end Z.L50
set_option exponentiation.threshold 3000
namespace Z.K50
open PySem Z Z.K42 Z.K40 Z.J51 Z.J45 Z.L45 Z.L46 Z.J46 Z.K46 Z.K51 Z.J49 Z.L50
def kM(i_whole_determinant4 i_weights_to_nought i_ratio i_put_in:Nat):Sm :=
 (.seq (.set 2 (.call i_whole_determinant4 [(.var 0)]))
 (.seq (.ite (.cmp .eq (.var 2) (.cst (.int 0))) (.seq (.raiseA "Dependent" (.call i_weights_to_nought [(.var 0)]))
  .nop) .nop)
 (.seq (.ret (.compR [(.bi .len [(.var 0)])] (.call i_ratio [(.call i_whole_determinant4 [(.call i_put_in [(.var 0),(.var 3),(.var 1)])]),(.var 2)])))
 .nop)))
def uS(i_turned i_rows_of_fit i_whole_dots i_solved_in_wholesX:Nat):Sm :=
 (.seq (.set 3 (.call i_turned [(.call i_rows_of_fit [(.var 0),(.var 1),(.var 2)])]))
 (.seq (.set 4 (.compE (.slc (.var 3) (.cst .non) (.neg (.cst (.int 1)))) (.call i_whole_dots [(.var 5),(.var 3)])))
 (.seq (.retX [] i_solved_in_wholesX [(.compE (.var 4) (.slc (.var 5) (.cst .non) (.neg (.cst (.int 1))))),(.compE (.var 4) (.ix (.var 5) (.neg (.cst (.int 1)))))])
 .nop)))
def z8(i_law_drawn i_law_common:Nat):Sm :=
 (.seq (.set 2 (.call i_law_drawn [(.var 0),(.bin .add (.var 1) (.cst (.int 130)))]))
 (.seq (.set 3 (.bin .mul (.bin .add (.cst (.int 1)) (.bin .mod (.var 2) (.cst (.int 1000)))) (.bin .sub (.cst (.int 1)) (.bin .mul (.cst (.int 2)) (.bin .mod (.bin .fdiv (.var 2) (.cst (.int 1000))) (.cst (.int 2)))))))
 (.seq (.set 4 (.ix (.lst [(.cst (.int 1)),(.bin .shl (.cst (.int 1)) (.cst (.int 20))),(.bin .shl (.cst (.int 1)) (.cst (.int 100))),(.cst (.int 7)),(.bin .add (.bin .pow (.cst (.int 10)) (.cst (.int 9))) (.cst (.int 7)))]) (.bin .mod (.bin .fdiv (.var 2) (.cst (.int 2000))) (.cst (.int 5)))))
 (.seq (.set 5 (.call i_law_common [(.var 3),(.var 4)]))
 (.seq (.ret (.tup [(.bin .fdiv (.var 3) (.var 5)),(.bin .fdiv (.var 4) (.var 5))]))
 .nop)))))
def zN(i_fittedX:Nat):Sm :=
 (.seq (.tryR (.seq (.retX [] i_fittedX [(.var 0),(.var 1),(.var 2)])
  .nop) "Dependent" .non)
 .nop)
def jaq(i_law_width i_law_case i_law_told i_misses i_law_lefts i_law_is_ratio i_residues i_law_cell i_law_drawn i_plus i_law_hair i_order_of i_exact_mean i_column:Nat):Sm :=
 (.seq (.set 1 (.call i_law_width [(.var 0),(.cst (.int 0))]))
 (.seq (.unp [2,3,4] (.call i_law_case [(.var 0),(.var 1),(.cst (.int 30))]))
 (.seq (.set 5 (.call i_law_told [(.var 2),(.var 3),(.var 4)]))
 (.seq (.ite (.cmp .isN (.var 5) (.cst .non)) (.seq (.ret (.cst (.bl true)))
  .nop) .nop)
 (.seq (.set 6 (.call i_misses [(.var 2),(.var 3),(.var 4),(.var 5)]))
 (.seq (.unp [7,8,9] (.call i_law_lefts [(.var 2),(.var 3),(.var 4),(.var 5)]))
 (.seq (.ite (.not (.call i_law_is_ratio [(.var 6),(.bi .sum [(.compE (.var 7) (.bin .mul (.var 16) (.var 16)))]),(.bin .mul (.var 9) (.var 9))])) (.seq (.ret (.cst (.bl false)))
  .nop) .nop)
 (.seq (.ite (.cmp .lt (.var 9) (.bin .shl (.cst (.int 1)) (.cst (.int 300)))) (.seq (.set 10 (.call i_residues [(.var 2),(.var 3),(.var 4),(.var 5)]))
  (.seq (.ite (.not (.bi .all [(.compR [(.bi .len [(.var 2)])] (.call i_law_is_ratio [(.ix (.var 10) (.var 16)),(.ix (.var 7) (.var 16)),(.var 9)]))])) (.seq (.ret (.cst (.bl false)))
   .nop) .nop)
  .nop)) .nop)
 (.seq (.forR 11 [(.bi .max [(.cst (.int 1)),(.bi .min [(.cst (.int 3)),(.bi .len [(.var 0)])])])] (.seq (.set 12 (.call i_law_cell [(.var 0),(.var 11)]))
  (.seq (.set 13 (.bin .mod (.call i_law_drawn [(.var 12),(.bin .add (.var 11) (.cst (.int 131)))]) (.bin .add (.bi .len [(.var 5)]) (.cst (.int 1)))))
  (.seq (.set 14 (.compR [(.bi .len [(.var 5)])] (.ife (.cmp .inn (.var 13) (.tup [(.var 16),(.bi .len [(.var 5)])])) (.call i_plus [(.ix (.var 5) (.var 16)),(.call i_law_hair [(.var 12),(.var 16)])]) (.ix (.var 5) (.var 16)))))
  (.seq (.ite (.cmp .lt (.call i_order_of [(.call i_misses [(.var 2),(.var 3),(.var 4),(.var 14)]),(.var 6)]) (.cst (.int 1))) (.seq (.ret (.cst (.bl false)))
   .nop) .nop)
  .nop)))))
 (.seq (.set 15 (.bin .add (.lst [(.call i_exact_mean [(.call i_column [(.var 2),(.var 4)])])]) (.bin .mul (.lst [(.tup [(.cst (.int 0)),(.cst (.int 1))])]) (.bi .len [(.var 3)]))))
 (.seq (.ret (.cmp .ge (.call i_order_of [(.call i_misses [(.var 2),(.var 3),(.var 4),(.var 15)]),(.var 6)]) (.cst (.int 0))))
 .nop)))))))))))
def z9:Ctr where
 pre ds:=∃(R:List (List D)) (j:Nat),ds=[.lst (R.map .lst),.int j]/\R.length<=lim/\∀r∈R,j<r.length
 res ds d:=∀(R:List (List D)) (j:Nat),ds=[.lst (R.map .lst),.int j]->d=.lst (R.map λr=>r.getD j .non)
variable{R:List (List D)}{j:Nat}
theorem ZK{R':List (List D)}{j':Nat}(e:[D.lst (R.map .lst),D.int j]=[.lst (R'.map .lst),.int j']):R=R'/\j=j':=by
 simp only[bO,D.lst.injEq,D.int.injEq,and_true]at e;exact⟨kq (λa b h=>by injection h) e.1,by lia⟩
theorem k_colD{C:Cfg}:jB C 2 J49.b_column z9:=by
 rintro ds ⟨R,j,rfl,hl,hr⟩;rw[J49.b_column];simp_all! only[bj,hl]
 rw[jt (g:=D.lst) (h:=λr=>r.getD j .non) (λr hr' Q=>by
  have a:atD r (j:Int)=some (r.getD j .non):=by
   unfold atD;rw[if_pos (by lia),bV,bL,bD (hr r hr')];rfl
  dsimp! only[a])]
 intro R' j' e;obtain⟨rfl,rfl⟩:=ZK (R:=R) (j:=j) e;rfl
variable{Q:D->Prop}{E:XD->Prop}
theorem Z6(hl:R.length<=lim)(hr:∀r∈R,j<r.length):z9.wp [.lst (R.map .lst),.int j] Q E ↔ Q (.lst (R.map λr=>r.getD j .non)) :=
 ⟨λw=>w.2.1 _ λR' j' e=>by obtain⟨rfl,rfl⟩:=ZK e;rfl,λq=>⟨⟨R,j,rfl,hl,hr⟩,λd h=>by rw[h R j rfl];exact q,λ_ z=>z.elim⟩⟩
theorem wp_colW{M:List (List Int)}{A:Nat}(g:RecW M A)(hj:j<A):z9.wp [wD M,.int j] Q E ↔ Q (iD (YY M j)):=by
 have e:wD M=.lst ((M.map λr=>r.map .int).map .lst):=by unfold wD;rw[bN];rfl
 rw[e,Z6 (by rw[bj];have:=g.few;unfold lim;lia) (λr hr=>by obtain⟨q,hq,rfl⟩:=bH.mp hr;rw[bj,g.row q hq];exact hj),bN]
 have e2:(M.map ((λr:List D=>r.getD j .non) ∘ λr=>r.map .int))=(YY M j).map .int:=by
  unfold YY;rw[bN]
  refine bQ λr hr=>?_
  have h:=g.row r hr;simp only[n5];rw[K40.getD_at (by rw[bj];lia),gH,K40.getD_at (by lia)]
 rw[e2,iD]
theorem wp_colN{T:List (List (Int×Int))}(hl:T.length<=60)(hr:∀r∈T,j<r.length):z9.wp [tabD T,.int j] Q E ↔ Q (.lst ((T.map λr=>r.getD j (0,0)).map nq)):=by
 have e:tabD T=.lst ((T.map λr=>r.map nq).map .lst):=by unfold tabD;rw[bN];rfl
 rw[e,Z6 (by rw[bj];unfold lim;lia) (λr h=>by obtain⟨q,hq,rfl⟩:=bH.mp h;rw[bj];exact hr q hq),bN,bN]
 have e2:(T.map ((λr:List D=>r.getD j .non) ∘ λr=>r.map nq))=T.map (nq ∘ λr=>r.getD j (0,0)):=by
  refine bQ λr h=>?_
  have h:=hr r h;simp only[n5];rw[K40.getD_at (by rw[bj];lia),gH,K40.getD_at (by lia)]
 rw[e2]
variable{i:Nat}
theorem VU{C:Cfg}(h1:C.ct i=z9):jB C 1 (J49.b_turned i) J49.c_turned:=by
 rintro ds ⟨M,A,rfl,g⟩;have ga:=g.a;obtain⟨r,R,e⟩:=nF g.ne;have rl:r.length=A:=g.row r (by rw[e];exact bC ..)
 have a0:∀(Q:D->Prop),ixD (wD M) (.int 0) Q ↔ Q (.lst (r.map .int)):=by
  intro Q;rw[e];simp only[wD,bq,Yu,KC,gc,exists_eq_left']
 rw[J49.b_turned];simp_all! only[a0,bj,rl];refine⟨by unfold qT;lia,by rw[YT];unfold lim;lia,?_⟩
 rw[bV,qB (h:=λj=>iD (YY M j)) (λj hj Q=>by
  have w:=λQ E=>wp_colW (Q:=Q) (E:=E) g hj
  dsimp! only[h1,w])]
 intro M' A' e' g';have e':=yz (n9 e').1;subst e';obtain rfl:=g.uni g';unfold wD trn iD;rw[bN];rfl
variable{i1 i2 i3 i4:Nat}
theorem k_siwX{C:Cfg}(h1:C.ct i1=qz 4)(h2:C.ct i2=c_weights)(h3:C.ct i3=kT)(h4:C.ct i4=c_put_in):KP C 3 (kM i1 i2 i3 i4) c_siw:=by
 rintro ds ⟨n,A,b,rfl,g,hb,hx⟩;have n4:=g.n4;have hl:=g.len
 have wd:=λQ E=>Z1 (Q:=Q) (E:=E) g
 rw[kM];simp_all! only[h1,wd];rw[jO,qH];dsimp! only[];by_cases hz:jI (n-1) A=0
 ·rw[if_pos hz,jO,Vv];dsimp! only[h2];refine⟨⟨n,A,rfl,g,hz⟩,λd r=>?_,λ_ z=>z.elim⟩;obtain⟨u,rfl,hu⟩:=r n A rfl g;exact⟨λ_=>⟨_,rfl⟩,n,A,b,u,rfl,g,hz,rfl,rfl,hu⟩
 ·rw[if_neg hz];simp_all! only[wD,bj];refine⟨by unfold qT;lia,by rw[YT];unfold lim;lia,?_⟩
  rw[bV,qB (h:=λj=>rq (dY (jI (n-1) (qS A j b)) (jI (n-1) A))) (λj hj Q=>by
   have gp:=jcC g hb hx (show j<n by lia)
   have w1:=λQ E=>Vn (Q:=Q) (E:=E) g hb (show j<n by lia)
   rw[wD,iD]at w1
   have w2:=λQ E=>Z1 (Q:=Q) (E:=E) gp
   have w3:=λQ E=>Jy (t:=jI (n-1) (qS A j b)) (u:=jI (n-1) A) (Q:=Q) (E:=E) hz (by have:=jbh g;lia)
   dsimp! only[h1,h3,h4,w1,w2,w3])]
  intro m A' b' e g';obtain⟨rfl,rfl⟩:=injAb (A:=A) (b:=b) e;obtain rfl:=Y1 g g';refine⟨hz,?_⟩;unfold yI;rw[bN,hl];rfl
theorem U2{C:Cfg}(h1:C.ct i1=J49.c_turned)(h2:C.ct i2=c_rows_of_fit)(h3:C.ct i3=c_whole_dots)(h4:C.ct i4=c_siw):KP C 5 (uS i1 i2 i3 i4) c_fitted:=by
 rintro ds ⟨T,ps,t,rfl,g⟩;have p3:=g.pl;have few:=g.few
 have w2:=λQ E=>jag (Q:=Q) (E:=E) g
 rw[uS];simp_all! only[h2,w2];intro low L
 have gM:RecW (T.map λr=>(jY ps t r).map (atW low)) (ps.length+2):=⟨by simpa using g.n0,by rw[bj];lia,λr hr=>by obtain⟨q,_,rfl⟩:=bH.mp hr;rw[bj,zi],by lia⟩
 rw[h1,J49.wp_turned gM,cols_eq]
 have bx:=λj (hj:j<ps.length+1)=>xc_b g L hj
 have by':=yc_b g L
 have sq:=Z8 g L p3;have nb:=nB_b g L;generalize hcs:((bE (ps.length+1)).map λj=>xc low T ps j)=cs
 have lc:cs.length=ps.length+1:=by rw[<- hcs];simp
 have ll:cs.length<=lim:=by unfold lim;lia
 have bc:∀c∈cs,c.length<=200/\∀a∈c,bits a<=20000:=λc hc=>by
  rw[<- hcs]at hc;obtain⟨j,hj,rfl⟩:=bH.mp hc;exact⟨by unfold xc;rw[bj];lia,λa ha=>bS (bx j (dF.mp hj) a ha) (by decide)⟩
 have dk:∀c∈cs,DotsOk c (cs ++ [yc low T t]):=λc hc=>⟨by rw[b6,lc];simp;lia,(bc c hc).1,(bc c hc).2,λo ho a ha=>by
  rcases dI.mp ho with z|z
  ·exact(bc o z).2 a ha
  ·rw[gv.mp z]at ha
   exact bS (by' a ha) (by decide)⟩
 have eA:(cs.map λc=>cs.map (j8 c))=nA low T ps:=by
  rw[<- hcs,bN];unfold nA
  refine bQ λi _=>?_
  simp only[n5];rw[bN];rfl
 have eB:(cs.map λc=>j8 c (yc low T t))=nB low T ps t:=by
  rw[<- hcs,bN];rfl
 have cw:yr ((cs ++ [yc low T t]).map λr=>D.lst (r.map .int)) none (some (-1))=cs.map λr=>D.lst (r.map .int):=by rw[Kf,wO]
 simp_all! only[wD,prt,kL,vz,slD,yB,cw,bj,ll]
 rw[jt (g:=λr:List Int=>D.lst (r.map .int)) (h:=λc=>iD ((cs ++ [yc low T t]).map (j8 c))) (λc hc Q=>by
  have w:=λQ E=>JU (Q:=Q) (E:=E) (dk c hc)
  rw[wD,iD]at w
  dsimp! only[h3,w])]
 simp_all! only[iD];rw[jO,ZJ];dsimp! only[bj,ll]
 rw[jt (g:=λc:List Int=>D.lst (((cs ++ [yc low T t]).map (j8 c)).map .int)) (h:=λc=>D.lst ((cs.map (j8 c)).map .int)) (λc hc Q=>by
  have b:yr (((cs ++ [yc low T t]).map (j8 c)).map .int) none (some (-1))=(cs.map (j8 c)).map .int:=by rw[Kf,de,jc7,wO]
  dsimp! only[prt,kL,vz,slD,yB,b])]
 rw[jt (g:=λc:List Int=>D.lst (((cs ++ [yc low T t]).map (j8 c)).map .int)) (h:=λc=>D.int (j8 c (yc low T t))) (λc hc Q=>by
  have b:atD (((cs ++ [yc low T t]).map (j8 c)).map .int) (-1)=some (.int (j8 c (yc low T t))):=by rw[de,jc7,ja7]
  dsimp! only[b])]
 have d1:D.lst (cs.map λc=>D.lst ((cs.map (j8 c)).map .int))=wD (nA low T ps):=by rw[<- eA];unfold wD;rw[bN];rfl
 have d2:D.lst (cs.map λc=>D.int (j8 c (yc low T t)))=iD (nB low T ps t):=by rw[<- eB];unfold iD;rw[bN];rfl
 rw[d1,d2,h4];refine⟨⟨_,_,_,rfl,sq,X0,nb⟩,λd r=>?_,λy hy=>?_⟩
 ·obtain⟨hz,rfl⟩:=r _ _ _ rfl sq;intro T' ps' t' e;obtain⟨rfl,rfl,rfl⟩:=injf (T:=T) (ps:=ps) (t:=t) e;exact⟨low,L,hz,rfl⟩
 ·obtain⟨n,A,b,u,e,g',hz,yt,yf,hw⟩:=hy;obtain⟨rfl,rfl⟩:=injAb e;obtain rfl:=Y1 sq g';exact⟨T,ps,t,low,u,rfl,L,hz,yt,yf,hw⟩
def Zj:Ctr where
 pre ds:=∃T ps t,ds=[tabD T,plD ps,.int (t:Nat)]/\FitOk T ps t
 res ds d:=∀T ps t,ds=[tabD T,plD ps,.int (t:Nat)]->d=.non\/∃low,LowOk T ps t low/\jI ps.length (nA low T ps)≠0/\d=.lst ((yI (ps.length+1) (nA low T ps) (nB low T ps t)).map rq)
theorem k_told{C:Cfg}(h1:C.ct i=c_fitted):KP C 3 (zN i) Zj:=by
 rintro ds ⟨T,ps,t,rfl,g⟩;rw[zN,jO,ws_tryR,jO,ZJ];dsimp! only[h1];refine⟨⟨T,ps,t,rfl,g⟩,λd hd=>λT' ps' t' e=>.inr (hd T' ps' t' e),λz hz=>?_⟩;obtain⟨_,_,_,_,_,_,_,_,ht,_⟩:=hz;exact⟨ht,λ_ _ _ _=>.inl rfl⟩
def uJ:Int:=2^100*(7*(10^9+7))
structure Hair (h:Rat):Prop where
 ne:h≠0
 den:(h.den:Int) ∣ uJ
 nb:bits h.num<=12
theorem Hair.den4{h:Rat}(hh:Hair h):bits (h.den:Int)<=4400:=by
 have hM:0<uJ/\bits uJ<=140:=by decide +kernel
 refine bS (jX ?_) (bS hM.2 (by decide));have:=jdr hM.1 hh.den;have:=qq h;lia
def Qg:Ctr where
 pre ds:=∃c k:Int,ds=[.int c,.int k]
 res _ d:=∃h:Rat,Hair h/\d=rq h
theorem wp_hair{c k:Int}:Qg.wp [.int c,.int k] Q E ↔ ∀h,Hair h->Q (rq h) :=
 ⟨λw h hh=>w.2.1 _ ⟨h,hh,rfl⟩,λq=>⟨⟨c,k,rfl⟩,λd ⟨h,hh,e⟩=>by rw[e];exact q h hh,λ_ z=>z.elim⟩⟩
theorem hair_of{t u:Int}(t0:t≠0)(tb:bits t<=12)(u0:0<u)(ud:u ∣ uJ):Hair (dY t u):=by
 have hg:0<gf u t:=mY _ t0;refine⟨λz=>?_,?_,?_⟩
 ·have e:dY t u*(u:Rat)=t:=by
   rw[mW,jdf,n8,Rat.inv_mul_cancel _ (by intro z;have z:((u:Int):Rat)=((0:Int):Rat):=z;have:=mr.mp z;lia),jdg]
  rw[z,Rat.zero_mul]at e;exact t0 (mr.mp e.symm)
 ·rw[pC,if_neg (by lia)];refine pU ?_ ud;have d:=tM u t;have:((u.natAbs / gf u t:Nat):Int) ∣ (u.natAbs:Int):=pE.mpr (jc8 d)
  rwa [show (u.natAbs:Int)=u by lia]at this
 ·have:=qw t (u:=u) (by lia);exact bS this.1 tb
theorem k_hair{C:Cfg}(h1:C.ct i1=kr)(h2:C.ct i2=kR):jB C 6 (z8 i1 i2) Qg:=by
 rintro ds ⟨c,k,rfl⟩;rw[z8];simp_all! only[h1,yU];intro m m0 m1
 have f1000:∀z:Int,z.fmod 1000=z%1000:=λz=>jA (by decide)
 have f2:∀z:Int,z.fmod 2=z%2:=λz=>jA (by decide)
 have f5:∀z:Int,z.fmod 5=z%5:=λz=>jA (by decide)
 have b1:bits 1000<=9000:=by decide
 have b2:bits 2000<=9000:=by decide
 have s1:ShlOk 1 20:=⟨by decide,by decide⟩
 have s2:ShlOk 1 100:=⟨by decide,by decide⟩
 have p1:ja8 10 9:=⟨by decide,by decide⟩
 have t1:(20:Int).toNat=20:=rfl;have t2:(100:Int).toNat=100:=rfl;have t3:(9:Int).toNat=9:=rfl
 have ms:∀z:Int,ku 2 z:=λz=>.inl (by decide)
 have q0:0<=m.fdiv 1000%2/\m.fdiv 1000%2<2:=by lia
 have r0:0<=m%1000/\m%1000<1000:=by lia
 have mo:ku (1+m%1000) (1-2*(m.fdiv 1000%2)):=.inl (bS (jh (n:=12).mpr (by lia)) (by decide));simp_all! only[f1000,f2,b1,ms,mo];generalize m.fdiv 1000%2=q at *;generalize m%1000=r at *
 have tt:(1+r)*(1-2*q)≠0/\bits ((1+r)*(1-2*q))<=12:=by
  rcases(show q=0\/q=1 by lia) with rfl|rfl
  ·exact⟨by lia,jh.mpr (by lia)⟩
  ·exact⟨by lia,jh.mpr (by lia)⟩
 generalize (1+r)*(1-2*q)=t at *;simp_all! only[f5,b2,s1,s2,p1,t1,t2,t3,uC];obtain⟨d,e,hd⟩:=yX (xs:=[.int 1,.int (2^20),.int (2^100),.int 7,.int (10^9+7)]) (i:=m.fdiv 2000%5) (by lia) (by simp;lia)
 have hd:∃u:Int,d=.int u/\0<u/\bits u<=110/\u ∣ uJ:=by
  simp only[bz,bK,or_false]at hd
  rcases hd with rfl|rfl|rfl|rfl|rfl<;>exact⟨_,rfl,by decide,by decide,by decide +kernel⟩
 obtain⟨u,rfl,u0,ub,ud⟩:=hd;refine⟨_,e,?_⟩;have hg:0<gf t u:=mY _ (by lia)
 have gb:bits (gf t u:Int)<=9000:=by
  refine bS (jX ?_) (bS ub (by decide));have:=wA (by lia) (n6 t u);lia
 have pc:bits t<=9000/\bits u<=9000:=⟨by lia,by lia⟩
 have gd:(gf t u:Int)≠0/\bits (gf t u:Int)<=9000:=⟨by lia,gb⟩
 simp_all! only[h2,Ctr.wp,kR,pc,gd];rw[rq_div u0];exact⟨_,hair_of tt.1 tt.2 u0 ud,rfl⟩
end Z.K50
set_option exponentiation.threshold 3000
namespace Z.K50
open PySem Z Z.K42 Z.K40 Z.J51 Z.J45 Z.L45 Z.L46 Z.J46 Z.K46 Z.K51 Z.J49 Z.L50
abbrev Uw:Ctr:=K1 30
variable{i1 i2:Nat}
theorem k_caseN{C:Cfg}{i3 i4:Nat}(h1:C.ct i1=kr)(h2:C.ct i2=xj)(h3:C.ct i3=c_tab)(h4:C.ct i4=qM)(g3:C.fr i3=false/\C.f2 i3=true):jB C 14 (b_law_case i1 i2 i3 i4) Uw:=k_case (a:=5) h1 h2 h3 h4 g3 (by decide) (by decide) (by decide) (by decide)
def zI(i_missed i_ratio:Nat):Sm :=
 (.seq (.set 4 (.call i_missed [(.var 0),(.var 1),(.var 2),(.var 3)]))
 (.seq (.ret (.compE (.ix (.var 4) (.cst (.int 0))) (.call i_ratio [(.var 5),(.ix (.var 4) (.cst (.int 1)))])))
 .nop))
theorem Q3{C:Cfg}(h1:C.ct i1=c_missed)(h2:C.ct i2=kT):jB C 5 (zI i1 i2) c_residues:=by
 rintro ds ⟨T,ps,t,qs,rfl,g,p⟩;have few:=g.few
 have w1:=λQ E=>KD (Q:=Q) (E:=E) g p
 rw[zI,z7];simp_all! only[h1,w1,bj];intro F u m;simp_all! only[bj];refine⟨by unfold lim;lia,?_⟩
 rw[jt (g:=λr=>D.int (F r)) (h:=λr=>rq (km ps t qs r)) (λr hr Q=>by
  have w:=λQ E=>Jy (t:=F r) (u:=u) (Q:=Q) (E:=E) (by have:=m.pos;lia) (by have:=m.bu;lia)
  dsimp! only[h2,w,XU m r hr])]
 simp_all! only[];intro T' ps' t' qs' e;obtain⟨rfl,rfl,rfl,rfl⟩:=xD (T:=T) (ps:=ps) (t:=t) (qs:=qs) e;rfl
variable{qs:List Rat}{m:Int}
section
variable {T:List (List (Int×Int))} {ps:List Nat} {t:Nat} {low:Int}
abbrev Zl(low:Int)(T:List (List (Int×Int)))(ps:List Nat)(t:Nat):List Rat:=yI (ps.length+1) (nA low T ps) (nB low T ps t)
theorem Xq:(Zl low T ps t).length=ps.length+1:=by unfold Zl yI;simp
theorem Uv(g:FitOk T ps t)(L:LowOk T ps t low)(hz:jI ps.length (nA low T ps)≠0):(∀q∈Zl low T ps t,szr 1700 q)/\∃m:Int,0<m/\bits m<=1700/\∀q∈Zl low T ps t,(q.den:Int) ∣ m:=by
 have ga:=Z8 g L g.pl;have db:=jbh ga;refine⟨λx hx=>?_,((jI ps.length (nA low T ps)).natAbs:Int),by lia,?_,λx hx=>?_⟩
 ·unfold Zl yI at hx;obtain⟨j,hj,rfl⟩:=bH.mp hx;have h1:=jbh (jcC ga X0 (nB_b g L) (dF.mp hj));have sz:=qw (jI (ps.length+1-1) (qS (nA low T ps) j (nB low T ps t))) hz;exact⟨by lia,by lia⟩
 ·rw[vO];exact bS db (by decide)
 ·unfold Zl yI at hx;obtain⟨j,hj,rfl⟩:=bH.mp hx;have hz':jI (ps.length+1-1) (nA low T ps)≠0:=hz;rw[pC,if_neg hz'];have d:=tM (jI (ps.length+1-1) (nA low T ps)) (jI (ps.length+1-1) (qS (nA low T ps) j (nB low T ps t)));exact pE.mpr (jc8 d)
theorem Zb(g:FitOk T ps t)(L:LowOk T ps t low)(hz:jI ps.length (nA low T ps)≠0):PartsOk ps (Zl low T ps t):=by
 obtain⟨h1,m,m0,mb,md⟩:=Uv g L hz;exact⟨Xq,λq hq=>(h1 q hq).mono (by decide),m,m0,bS mb (by decide),md⟩
theorem Qh(g:FitOk T ps t)(p:PartsOk ps qs):szr 9000 (sqQ T ps t qs):=by
 obtain⟨F,u,m⟩:=Kt g p;have u0:=m.pos;have ub:=m.bu;have few:=g.few;have uu:=nU u0 u0;have buu:=jC u u;have eq2:=Qe T m.eq
 have bs:=y8 (B:=8600) (l:=T.map λr=>F r*F r) λy hy=>by
  obtain⟨r,hr,rfl⟩:=bH.mp hy;have:=jC (F r) (F r);have:=m.bF r hr;lia
 rw[bj]at bs
 have e:dY (T.map λr=>F r*F r).sum (u*u)=sqQ T ps t qs:=by
  rw[mW,eq2,jdf,n8,jc4 _ (by intro z;have z:((u*u:Int):Rat)=((0:Int):Rat):=z;have:=mr.mp z;lia),jdg]
 rw[<- e];have:=qw (T.map λr=>F r*F r).sum (u:=u*u) (by lia);exact⟨by lia,by lia⟩
def Near(q z:Rat):Prop:=z=q\/∃h,Hair h/\z=q+h
theorem den_add{q h:Rat}{k:Int}(hq:(q.den:Int) ∣ m)(hh:(h.den:Int) ∣ k):((q+h).den:Int) ∣ m*k:=by
 have d:((q+h).den:Int) ∣ (q.den:Int)*h.den:=by
  have hq0:(q.den:Int)≠0:=by have:=qq q;lia
  have hh0:(h.den:Int)≠0:=by have:=qq h;lia
  have hn:(q.den:Int)*h.den≠0:=mq hq0 hh0
  have e:q+h=dY (q.num*h.den+h.num*q.den) (q.den*h.den):=by
   rw[<- jd3 _ _ hq0 hh0,tF,tF]
  rw[e,pC,if_neg hn];have d:=tM ((q.den:Int)*h.den) (q.num*h.den+h.num*q.den);have:((((q.den:Int)*h.den).natAbs / gf ((q.den:Int)*h.den) (q.num*h.den+h.num*q.den):Nat):Int) ∣ (((q.den:Int)*h.den).natAbs:Int):=pE.mpr (jc8 d);exact Int.dvd_natAbs.mp this
 exact pU d (Int.mul_dvd_mul hq hh)
theorem Yc{zs:List Rat}(hl:zs.length=ps.length+1)(hs:∀q∈qs,szr 1700 q)(m0:0<m)(mb:bits m<=1700)(md:∀q∈qs,(q.den:Int) ∣ m)(hn:∀z∈zs,∃q∈qs,Near q z):PartsOk ps zs:=by
 have hM:0<uJ/\bits uJ<=140:=by decide +kernel
 have bm:=jC m uJ;refine⟨hl,λz hz=>?_,m*uJ,nU m0 hM.1,by lia,λz hz=>?_⟩
 ·obtain⟨q,hq,e|⟨h,hh,e⟩⟩:=hn z hz
  ·rw[e];exact(hs q hq).mono (by decide)
  ·rw[e]
   have hd:szr 140 h:=⟨bS hh.nb (by decide),bS (jX (by have:=jdr hM.1 hh.den;have:=qq h;lia)) hM.2⟩
   exact(szr_add (hs q hq) hd).mono (by decide)
 ·obtain⟨q,hq,e|⟨h,hh,e⟩⟩:=hn z hz
  ·rw[e];exact pU (md q hq) (Int.dvd_mul_right ..)
  ·rw[e];exact den_add (md q hq) hh.den
theorem YL{M:Rat}(h:szr 1900 M):PartsOk ps (M::bR ps.length 0):=by
 refine⟨by simp,λz hz=>?_,M.den,qq M,h.2,λz hz=>?_⟩
 ·rcases bz.mp hz with rfl|hz
  ·exact h
  ·rw[jds hz];exact⟨by decide,by decide⟩
 ·rcases bz.mp hz with rfl|hz
  ·exact Int.dvd_refl _
  ·rw[jds hz];exact jej _
end
section
variable {Q:D->Prop}
theorem isN_non:yD .isN .non .non Q=Q (.bl true):=rfl
theorem isN_lst{l:List D}:yD .isN (.lst l) .non Q=Q (.bl false):=rfl
theorem in2{i a b:Int}:yD .inn (.int i) (.tup [.int a,.int b]) Q ↔ Q (.bl (decide (i=a\/i=b))):=by
 have e:∀l:List Int,l=[a,b]->(l.contains i == true)=decide (i=a\/i=b):=λl z=>by
  rw[z]
  by_cases h1:i=a<;>by_cases h2:i=b<;>simp[h1,h2]
 constructor
 ·rintro⟨ns,h,_,q⟩;have:=kq (λa b h=>by injection h) (show [a,b].map D.int=ns.map D.int from h);rw[<- e ns this.symm];exact q
 ·intro q;exact⟨[a,b],rfl,(by decide:2<=lim),by rw[e _ rfl];exact q⟩
end
theorem Uj{P:Nat->Rat->Prop}:∀(ys:List D),(∀i y,ys[i]?=some y->∃z,y=rq z/\P i z)->∃zs:List Rat,ys=zs.map rq/\∀i z,zs[i]?=some z->P i z
 |[],_=>⟨[],rfl,λi z h=>by simp at h⟩
 |y::ys,h=>by
  obtain⟨z,e,hz⟩:=h 0 y rfl
  obtain⟨zs,e2,hs⟩:=Uj (P:=λi=>P (i+1)) ys λi x hx=>h (i+1) x (by simpa using hx)
  refine⟨z::zs,by rw[bq,<- e,<- e2],λi x hx=>?_⟩
  cases i with
  |zero=>simp at hx;subst hx;exact hz
  |succ i=>exact hs i x (by simpa using hx)
theorem at_rq{j:Nat}(h:j<qs.length):atD (qs.map rq) (j:Int)=some (rq (qs.getD j 0)):=by
 unfold atD;rw[if_pos (by lia),bV,bY,bD h,K40.getD_at h];rfl
end Z.K50
set_option exponentiation.threshold 3000
namespace Z.K50
open PySem Z Z.K42 Z.K40 Z.J51 Z.J45 Z.L45 Z.L46 Z.J46 Z.K46 Z.K51 Z.J49 Z.L50
theorem k_law{C:Cfg}{i1 i2 i3 i4 i5 i6 i7 i8 i9 i10 i11 i12 i13 i14:Nat}(h1:C.ct i1=zx)(h2:C.ct i2=K1 30)(h3:C.ct i3=Zj)(h4:C.ct i4=c_misses)(h5:C.ct i5=c_lefts)(h6:C.ct i6=kY)(h7:C.ct i7=c_residues)(h8:C.ct i8=xj)(h9:C.ct i9=kr)
 (h10:C.ct i10=vQ) (h11:C.ct i11=Qg) (h12:C.ct i12=xi) (h13:C.ct i13=qh) (h14:C.ct i14=z9):jB C 16 (jaq i1 i2 i3 i4 i5 i6 i7 i8 i9 i10 i11 i12 i13 i14) vk:=by
 rintro ds ⟨ns,rfl,hl⟩
 have z0:(0:Int)<=0:=by decide
 rw[jaq];simp_all! only[h1,jcx hl z0];intro n n1 n2;simp_all! only[h2,wp_case hl n1 n2];intro T ps t g;have few:=g.few;have pl:=g.pl;rw[h3];refine⟨⟨T,ps,t,rfl,g⟩,λd hd=>?_,λ_ z=>z.elim⟩;rcases hd T ps t rfl with rfl|⟨low,L,hz,rfl⟩
 ·rw[jO,qH];dsimp! only[isN_non];simp_all! only[vk]
 have p:PartsOk ps (yI (ps.length+1) (nA low T ps) (nB low T ps t)):=Zb g L hz;obtain⟨sz,m0,mp,mb,md⟩:(∀q∈yI (ps.length+1) (nA low T ps) (nB low T ps t),szr 1700 q)/\∃m:Int,0<m/\bits m<=1700/\∀q∈yI (ps.length+1) (nA low T ps) (nB low T ps t),(q.den:Int) ∣ m:=Uv g L hz;have me:=K46.sol_meets (b:=nB low T ps t) (Z8 g L pl) X0 hz;have lq:(yI (ps.length+1) (nA low T ps) (nB low T ps t)).length=ps.length+1:=Xq;generalize yI (ps.length+1) (nA low T ps) (nB low T ps t)=qs at *
 have tl:T.length<=lim:=by unfold lim;lia
 refine XH (by dsimp! only[isN_lst]) ?_;obtain⟨F0,v0,q0⟩:=Kt g p;have sm:=jaV q0;have sq:=Qh g p
 have wM:=λQ E=>uQ (Q:=Q) (E:=E) g p
 have wL:=λQ E=>jcd (Q:=Q) (E:=E) g p
 have wR:=λQ E=>XG (Q:=Q) (E:=E) g p
 simp_all! only[h4,wM];simp_all! only[h5,wL];intro F u lw m _;generalize wD ((T.map (xl ps t)).map λr=>r.map (atW lw))=W;have u0:=m.pos;have ub:=m.bu;simp_all! only[];have mu:ku u u:=ji (by lia);have uu:=nU u0 u0;have buu:=jC u u;have eq2:=Qe T m.eq
 have bs:=y8 (B:=8600) (l:=T.map λr=>F r*F r) λy hy=>by
  obtain⟨r,hr,rfl⟩:=bH.mp hy;have:=jC (F r) (F r);have:=m.bF r hr;lia
 rw[bj]at bs
 have wI:=λQ E=>JI (r:=sqQ T ps t qs) (t:=(T.map λr=>F r*F r).sum) (u:=u*u) (Q:=Q) (E:=E) sq uu (by lia) (by lia) eq2.symm
 have wC:∀Q:List D->Prop,kD (λd Q=>x5 .mul d d Q) (T.map λr=>D.int (F r)) Q ↔ Q ((T.map λr=>F r*F r).map .int):=λQ=>by
  rw[jt (g:=λr=>D.int (F r)) (h:=λr=>D.int (F r*F r)) (λr hr Q=>by
   have mo:ku (F r) (F r):=ji (by have:=m.bF r hr;lia)
   dsimp! only[mo]),bN]
  rfl
 refine XH ?_ ?_
 ·dsimp! only[bj,tl,wC,mu,h6,wI]
 let S (x10 x11 x12 x13 x14:Option Sl):Sto:=[some (.sh (.lst (ns.map .int))),some (.sh (.int n)),some (.sh (tabD T)),some (.sh (plD ps)),some (.sh (.int t)),some (.sh (.lst (qs.map rq))),some (.sh (rq (sqQ T ps t qs))),some (.sh (.lst (T.map λr=>.int (F r)))),some (.sh W),some (.sh (.int u)),x10,x11,x12,x13,x14,none]
 refine jP (λσ=>∃x,σ=S x none none none none) ?_ ?_
 ·have s300:ShlOk 1 300:=⟨by decide,by decide⟩
  rw[qH];dsimp! only[s300];split
  ·simp_all! only[h7,wR];refine XH ?_ ?_
   ·have bl:∀Q:D->Prop,biD .len [tabD T] Q=Q (.int (T.length:Int)):=λQ=>by show Q _=Q _;rw[bj]
    dsimp! only[bl];refine⟨by unfold qT;lia,by rw[YT];unfold lim;lia,?_⟩
    rw[bV,qB (h:=λ_=>D.bl true) (λk hk Q=>by
     have a1:atD (T.map λr=>rq (km ps t qs r)) (k:Int)=some (rq (km ps t qs T[k])):=by
      unfold atD;rw[if_pos (by lia),bV,bY,bD hk];rfl
     have a2:atD (T.map λr=>D.int (F r)) (k:Int)=some (.int (F T[k])):=by
      unfold atD;rw[if_pos (by lia),bV,bY,bD hk];rfl
     have hm:=dP hk
     have wI:=λQ E=>JI (r:=km ps t qs T[k]) (t:=F T[k]) (u:=u) (Q:=Q) (E:=E) (sm _ hm) u0 (by have:=m.bF _ hm;lia) (by lia) (m.eq _ hm).symm
     dsimp! only[a1,a2,h6,wI])]
    rw[show ((bE T.length).map λ_=>D.bl true)=((bE T.length).map λ_=>true).map .bl by rw[bN];rfl];dsimp! only[];simp
   rw[qG];exact⟨_,rfl⟩
  ·rw[qG];exact⟨_,rfl⟩
 rintro σ ⟨x,rfl⟩;have so:szr 60000 (sqQ T ps t qs):=sq.mono (by decide);refine jP (λσ=>∃a b c d e,σ=S a b c d e) ?_ ?_
 ·refine jbV (λd=>∃k:Int,d=.int k/\0<=k) (λσ=>∃a b c d e,σ=S a b c d e) ?_ ⟨_,_,_,_,_,rfl⟩ ?_ λσ h=>h
  ·simp only[S];dsimp! only[bj];exact⟨by unfold qT;split<;>(try split)<;>lia,Jh (P:=λk=>0<=k) _ _ _ λi _=>by lia⟩
  ·rintro _ _ ⟨k,rfl,hk⟩ ⟨a,b,c,d,e,rfl⟩;simp only[S];simp_all! only[h8,K6 hl hk];intro c
   have ne:¬ ((qs.length:Int)+1)=0:=by lia
   simp_all! only[h9,yU,bj,ne];intro mm _ _;rw[jA (by lia)]
   have w0:0<=mm%((qs.length:Int)+1)/\mm%((qs.length:Int)+1)<(qs.length:Int)+1:=⟨gR _ (by lia),gK _ (by lia)⟩
   generalize mm%((qs.length:Int)+1)=w at *;simp_all! only[bj];refine⟨by unfold qT;lia,by rw[YT];unfold lim;lia,?_⟩;rw[bV]
   refine QO ?_ (λx y=>∀j:Nat,x=.int j->∃z,y=rq z/\Near (qs.getD j 0) z/\((w=j\/w=qs.length)->z≠qs.getD j 0)) (λd hd=>?_) λys hy hr=>?_
   ·intro d Q Q' h wx;refine xZ (λx hx=>?_) wx
    cases x<;>first|exact hx.elim|skip
    next k =>
    cases k with
    |true=>exact yL (λd1 w1=>Ctr.wp_mono (λd2 w2=>Ctr.wp_mono h w2) w1) hx
    |false=>exact yL h hx
   ·rw[kx]at hd;obtain⟨j,hj,rfl⟩:=bH.mp hd;have hj:=dF.mp hj;rw[t4];refine in2.mpr ?_;have aj:=at_rq hj
    have mj:qs.getD j 0∈qs:=by rw[K40.getD_at hj];exact dP hj
    by_cases hw:w=j\/w=qs.length
    ·rw[decide_eq_true hw];dsimp! only[aj,h11,wp_hair];intro h hh
     have hs:szr 4400 (qs.getD j 0)/\szr 4400 h:=⟨(sz _ mj).mono (by decide),⟨bS hh.nb (by decide),hh.den4⟩⟩
     dsimp! only[h10,wp_plus,hs];intro j' e
     have:j=j':=by injection e with e;lia
     subst this;exact⟨_,rfl,.inr ⟨h,hh,rfl⟩,λ_ z=>hh.ne (by grind)⟩
    ·rw[decide_eq_false hw];dsimp! only[aj];intro j' e
     have:j=j':=by injection e with e;lia
     subst this;exact⟨_,rfl,.inl rfl,λz=>absurd z hw⟩
   ·rw[YT]at hy
    obtain⟨zs,rfl,hz'⟩:=Uj (P:=λj z=>Near (qs.getD j 0) z/\((w=j\/w=qs.length)->z≠qs.getD j 0)) ys λi y hi=>by
     have il:i<qs.length:=by have:=(g6.mp hi).1;lia
     exact hr i (.int i) y (by rw[kx,bY,w9 il];simp) hi i rfl
    rw[bj]at hy
    have lz:zs.length=ps.length+1:=by lia
    have zat:∀i (h:i<zs.length),Near (qs.getD i 0) zs[i]/\((w=i\/w=qs.length)->zs[i]≠qs.getD i 0):=λi h=>hz' i _ (bD h)
    have pz:PartsOk ps zs:=Yc lz sz mp mb md λz hz=>by
     obtain⟨i,hi,rfl⟩:=jeg.mp hz;exact⟨_,by rw[K40.getD_at (by lia)];exact dP _,(zat i hi).1⟩
    have lt:sqQ T ps t qs<sqQ T ps t zs:=by
     obtain⟨j,hj,hw⟩:∃j:Nat,j<ps.length+1/\(w=j\/w=qs.length):=by
      by_cases z:w=qs.length
      ·exact⟨0,by lia,.inr z⟩
      ·exact⟨w.toNat,by lia,.inl (by lia)⟩
     exact more_of g L lq lz me hz hj (by rw[K40.getD_at (by lia)];exact(zat j (by lia)).2 hw)
    have wz:=λQ E=>uQ (Q:=Q) (E:=E) g pz
    have sz':szr 60000 (sqQ T ps t zs):=(Qh g pz).mono (by decide)
    have oe:JS (sqQ T ps t zs) (sqQ T ps t qs)=1:=by
     unfold JS;rw[if_neg (by grind),if_pos lt]
    refine XH (by dsimp! only[h4,wz,h12,Xx,sz',so,oe,decide_false]) ?_;rw[qG];exact⟨_,_,_,_,_,rfl⟩
 rintro σ ⟨a,b,c,d,e,rfl⟩;simp only[S];have n0:1<=T.length:=ph.mpr g.n0
 have cs:Smalls (T.map λr=>r.getD t (0,0)):=⟨by rw[bj];lia,λx hx=>by
  obtain⟨r,hr,rfl⟩:=bH.mp hx
  exact vV (g.row r hr).1 (g.row r hr).2.1⟩
 have gW:Wides (T.map λr=>r.getD t (0,0))/\1<=(T.map λr=>r.getD t (0,0)).length:=⟨cs.wide,by rw[bj];exact n0⟩
 have wc:=λQ E=>wp_colN (j:=t) (Q:=Q) (E:=E) few λr hr=>(g.row r hr).2.1
 have bl2:∀Q:D->Prop,biD .len [plD ps] Q=Q (.int (ps.length:Int)):=λQ=>by show Q _=Q _;rw[bj]
 have rp:Uq 1 (ps.length:Int):=⟨⟨by lia,by lia⟩,by unfold lim;lia⟩
 have sM:szr 1900 (vw (T.map λr=>r.getD t (0,0)) / (((T.map λr=>r.getD t (0,0)).length:Int):Rat)):=by
  have o:szr 100 ((((T.map λr=>r.getD t (0,0)).length:Int):Rat)):=(ZP (by rw[bj];lia)).mono (by decide);exact(szr_div (ZQ gW.2) (Xu cs.wide) o).mono (by decide)
 simp_all! only[h14,wc,h13,qh,wp_1,gW,bl2,rp];generalize vw (T.map λr=>r.getD t (0,0)) / (((T.map λr=>r.getD t (0,0)).length:Int):Rat)=M at *
 have fl:[rq M]++(bR ps.length [D.tup [.int 0,.int 1]]).flatten=(M::bR ps.length 0).map rq:=by
  rw[bq,List.map_replicate];show _::_=_::_;congr 1
  have:∀k:Nat,(bR k [D.tup [.int 0,.int 1]]).flatten=bR k (rq 0):=λk=>by
   induction k with
   |zero=>rfl
   |succ k ih=>rw[dX,ma,ih,dX];rfl
  exact this _
 have pf:=YL (ps:=ps) sM
 have wf:=λQ E=>uQ (Q:=Q) (E:=E) g pf
 have le:=no_less L lq pf.len me;have sf:szr 60000 (sqQ T ps t (M::bR ps.length 0)):=(Qh g pf).mono (by decide)
 have oe:0<=JS (sqQ T ps t (M::bR ps.length 0)) (sqQ T ps t qs):=by
  unfold JS;rw[if_neg (by grind)]
  split<;>decide
 rw[bV];refine⟨?_,?_⟩
 ·have:=congrArg jdc fl;simp only[b6,dU,mF,bj,pV]at this;unfold lim;lia
 rw[show rq M::(bR ps.length [D.tup [.int 0,.int 1]]).flatten=(M::bR ps.length 0).map rq from fl,h4,wf,h12,Xx];refine⟨⟨sf,so⟩,?_⟩;dsimp! only[decide_eq_true oe];rfl
end Z.K50
namespace Z.K50
open PySem PySem.Spec PyProof.Rows L2 Z
def top(i:Nat):Stmt:=PySem.Challenge.pw_trueline_k50_whole_no_fit_misses_less.main.body.getD i (.Pass ⟨0,0,0,0⟩)
def fi_law_drawn:FnI:=⟨"_law_drawn",top 51,["_law_cell_here","_law_k","_law_more"],["_law_cell_here","_law_k"],yQ,kr,false,false,[],false,false⟩
def fi_law_cell:FnI:=⟨"_law_cell",top 50,["_law_script","_law_k"],["_law_script","_law_k"],zX,xj,false,false,[],false,false⟩
def fi_law_width:FnI:=⟨"_law_width",top 60,["_law_script","_law_k"],["_law_script","_law_k"],yH 0 1,zx,false,false,[],false,false⟩
def fi_law_bare:FnI:=⟨"_law_bare",top 52,["_law_whole_here","_law_power","_law_low"],["_law_whole_here","_law_power"],zM,qM,false,false,[],false,false⟩
def fi_law_number:FnI:=⟨"_law_number",top 53,["_law_cell_here","_law_k","_law_width_here","_law_far","_law_more","_law_kind","_law_power","_law_whole_here"],["_law_cell_here","_law_k","_law_width_here","_law_far"],yj 0 3,xA,false,false,[],false,false⟩
def fi_law_measure:FnI:=⟨"_law_measure",top 54,["_law_cell_here","_law_k","_law_width_here","_law_whole_here","_law_place"],["_law_cell_here","_law_k","_law_width_here"],xM 4 0 3,qZ,false,false,[],false,false⟩
def fi_law_row:FnI:=⟨"_law_row",top 55,["_law_script","_law_start","_law_many","_law_width_here","_law_row_here","_law_k","_law_cell_here","_law_more","_law_number_here","_law_old","_law_place"],["_law_script","_law_start","_law_many","_law_width_here"],vf 1 0 5 3,XT,false,false,[],false,false⟩
def fi_law_table:FnI:=⟨"_law_table",top 56,["_law_script","_law_start","_law_down","_law_across","_law_width_here","_law_row_here"],["_law_script","_law_start","_law_down","_law_across","_law_width_here"],K51.b_law_table 6,K51.c_tab,false,false,[],false,true⟩
def fi_law_case:FnI:=⟨"_law_case",top 62,["_law_script","_law_width_here","_law_most","_law_across","_law_down","_law_table_here","_law_more","_law_little","_law_places","_law_k","_law_left","_law_target","_law_way","_law_row_here"],["_law_script","_law_width_here","_law_most"],K51.b_law_case 0 1 7 3,Uw,false,false,[],false,false⟩
def fi_column:FnI:=⟨"column",top 22,["table","place"],["table","place"],J49.b_column,z9,false,false,[],false,false⟩
def fi_turned:FnI:=⟨"turned",top 23,["table"],["table"],J49.b_turned 9,J49.c_turned,false,false,[],false,false⟩
def fi_two_to:FnI:=⟨"two_to",top 11,["count","told","factor","left"],["count"],vL,kO,false,false,[],false,false⟩
def fi_in_steps:FnI:=⟨"in_steps",top 26,["numbers","power"],["numbers","power"],K42.b_in_steps 11,K42.c_in_steps,false,false,[],false,false⟩
def fi_rows_in_steps:FnI:=⟨"rows_in_steps",top 27,["rows","power"],["rows","power"],J51.b_rows_in_steps 12,J51.c_rows_in_steps,false,false,[],false,false⟩
def fi_least_power:FnI:=⟨"least_power",top 25,["numbers"],["numbers"],K42.b_least_power,K42.c_least_power,false,false,[],false,false⟩
def fi_one_by_one:FnI:=⟨"one_by_one",top 24,["rows","told","row"],["rows"],K42.b_one_by_one,K42.c_one_by_one,false,false,[],false,false⟩
def fi_rows_of_fit:FnI:=⟨"rows_of_fit",top 40,["table","places","target","rows"],["table","places","target"],J51.b_rows_of_fit 13 14 15 0,J51.c_rows_of_fit,false,false,[],false,false⟩
def fi_whole_dot:FnI:=⟨"whole_dot",top 41,["row","other"],["row","other"],J51.b_whole_dot,J51.c_whole_dot,false,false,[],false,false⟩
def fi_whole_dots:FnI:=⟨"whole_dots",top 42,["row","others"],["row","others"],J49.b_whole_dots 17,J49.c_whole_dots,false,false,[],false,false⟩
def fi_whole_determinant1:FnI:=⟨"whole_determinant",top 30,["rows","total","sign","pair"],["rows"],J45.b_whole_determinant1,J45.c_det1,false,false,[],false,false⟩
def fi_without:FnI:=⟨"without",top 29,["rows","place"],["rows","place"],J45.b_without,J45.c_without,false,false,[],false,false⟩
def fi_whole_determinant2:FnI:=⟨"whole_determinant",top 30,["rows","total","sign","pair"],["rows"],J45.b_whole_determinant2 19 20,J45.c_det2,false,false,[],false,false⟩
def fi_whole_determinant3:FnI:=⟨"whole_determinant",top 30,["rows","total","sign","pair"],["rows"],J45.b_whole_determinant3 21 20,J45.c_det3,false,false,[],false,false⟩
def fi_whole_determinant4:FnI:=⟨"whole_determinant",top 30,["rows","total","sign","pair"],["rows"],J45.b_whole_determinant4 22 20,J45.c_det4,false,false,[],false,false⟩
def fi_weighted:FnI:=⟨"weighted",top 34,["rows","place"],["rows","place"],J46.b_weighted,J46.c_weighted,false,false,[],false,false⟩
def fi_first_not_nought:FnI:=⟨"first_not_nought",top 31,["row","place"],["row"],J46.b_first_not_nought,J46.c_fnn,false,false,[],false,false⟩
def fi_cleared:FnI:=⟨"cleared",top 32,["row","base","place"],["row","base"],J46.b_cleared 25,J46.c_cleared,false,false,[],false,false⟩
def fi_common_divisor:FnI:=⟨"common_divisor",top 5,["one","other","greater","lesser","left"],["one","other"],qm,jD,false,false,[],false,false⟩
def fi_in_lowest_terms:FnI:=⟨"in_lowest_terms",top 33,["weights","divisor","weight"],["weights"],J46.b_in_lowest_terms 27 25,J46.c_lowest,false,false,[],false,false⟩
def fi_weights_to_nought:FnI:=⟨"weights_to_nought",top 35,["rows","bases","place","row","base"],["rows"],J46.b_weights_to_nought 24 26 25 28,J46.c_weights,false,false,[],false,false⟩
def fi_ratio:FnI:=⟨"ratio",top 6,["top","under","divisor"],["top","under"],Qq 27,kT,false,false,[],false,false⟩
def fi_put_in:FnI:=⟨"put_in",top 36,["rows","place","right"],["rows","place","right"],J46.b_put_in,J46.c_put_in,false,false,[],false,false⟩
def fi_solved_in_wholesX:FnI:=⟨"solved_in_wholes",top 37,["rows","right","whole"],["rows","right"],kM 23 29 30 31,J46.c_siw,false,true,["Dependent"],false,false⟩
def fi_fittedX:FnI:=⟨"fitted",top 43,["table","places","target","columns","lists"],["table","places","target"],uS 10 16 18 32,J49.c_fitted,false,true,["Dependent"],false,false⟩
def fi_law_told:FnI:=⟨"_law_told",top 65,["_law_table_here","_law_places","_law_target"],["_law_table_here","_law_places","_law_target"],zN 33,Zj,false,true,["Dependent"],false,false⟩
def fi_common_under:FnI:=⟨"common_under",top 44,["parts","told","part"],["parts"],J51.b_common_under 27,J51.c_common_under,false,false,[],false,false⟩
def fi_missed_tops:FnI:=⟨"missed_tops",top 45,["rows","tops","under"],["rows","tops","under"],J51.b_missed_tops 17,J51.c_missed_tops,false,false,[],false,false⟩
def fi_missed:FnI:=⟨"missed",top 46,["table","places","target","parts","rows","under","tops"],["table","places","target","parts"],J51.b_missed 16 35 36,J51.c_missed,false,false,[],false,false⟩
def fi_misses:FnI:=⟨"misses",top 48,["table","places","target","parts","pair"],["table","places","target","parts"],J51.b_misses 37 30 17,J51.c_misses,false,false,[],false,false⟩
def fi_law_wholes:FnI:=⟨"_law_wholes",top 61,["_law_rows","_law_low"],["_law_rows"],K51.b_law_wholes,K51.c_wholes,false,false,[],false,false⟩
def fi_law_common:FnI:=⟨"_law_common",top 58,["_law_one","_law_other","_law_left"],["_law_one","_law_other"],ya,kR,false,false,[],false,false⟩
def fi_law_lefts:FnI:=⟨"_law_lefts",top 63,["_law_table_here","_law_places","_law_target","_law_answer","_law_wholes_here","_law_low","_law_under","_law_one","_law_tops","_law_down","_law_made","_law_row_here","_law_told_here"],["_law_table_here","_law_places","_law_target","_law_answer"],K51.b_law_lefts 39 40,K51.c_lefts,false,false,[],false,false⟩
def fi_law_whole:FnI:=⟨"_law_whole",top 57,["_law_thing"],["_law_thing"],zd,zm,false,false,[],false,false⟩
def fi_law_is_ratio:FnI:=⟨"_law_is_ratio",top 59,["_law_thing","_law_top","_law_under"],["_law_thing","_law_top","_law_under"],xm 42 40,kY,false,false,[],false,false⟩
def fi_residues:FnI:=⟨"residues",top 47,["table","places","target","parts","pair"],["table","places","target","parts"],zI 37 30,J51.c_residues,false,false,[],false,false⟩
def fi_plus:FnI:=⟨"plus",top 7,["one","other"],["one","other"],Zr 30,vQ,false,false,[],false,false⟩
def fi_law_hair:FnI:=⟨"_law_hair",top 64,["_law_cell_here","_law_k","_law_more","_law_top","_law_under","_law_divisor"],["_law_cell_here","_law_k"],z8 0 40,Qg,false,false,[],false,false⟩
def fi_order_of:FnI:=⟨"order_of",top 9,["one","other","left","right"],["one","other"],z4,xi,false,false,[],false,false⟩
def fi_over:FnI:=⟨"over",top 8,["one","other"],["one","other"],X7 30,JH,false,false,[],false,false⟩
def fi_joined:FnI:=⟨"joined",top 15,["one","other","power","whole"],["one","other"],vI 11,yF,false,false,[],false,false⟩
def fi_value:FnI:=⟨"value",top 12,["number"],["number"],KL 11,yu,false,false,[],false,false⟩
def fi_odd_form:FnI:=⟨"odd_form",top 13,["whole","power"],["whole","power"],zL,qk,false,false,[],false,false⟩
def fi_one_form:FnI:=⟨"one_form",top 16,["pair"],["pair"],zZ 51,xk,false,false,[],false,false⟩
def fi_exact_total:FnI:=⟨"exact_total",top 18,["pairs","total","pair"],["pairs"],xP 49 50 52,kQ,false,false,[],false,false⟩
def fi_exact_sum:FnI:=⟨"exact_sum",top 19,["row"],["row"],yJ 53,qC,false,false,[],false,false⟩
def fi_exact_mean:FnI:=⟨"exact_mean",top 20,["row"],["row"],yg 48 54,qh,false,false,[],false,false⟩
def fi_law:FnI:=⟨"law",top 66,["_law_script","_law_width_here","_law_table_here","_law_places","_law_target","_law_answer","_law_least","_law_left","_law_wholes_here","_law_under","_law_told_here","_law_k","_law_cell_here","_law_at","_law_other","_law_flat"],["_law_script"],jaq 2 8 34 38 41 43 44 1 0 45 46 47 55 9,vk,false,false,[],false,false⟩
def fi_ini_Dependent:FnI:=⟨"__init__",clsDef (top 3),["self","text","weights"],["self","text","weights"],.nop,vk,false,false,[],true,false⟩
def fns:List FnI:=[fi_law_drawn,fi_law_cell,fi_law_width,fi_law_bare,fi_law_number,fi_law_measure,fi_law_row,fi_law_table,fi_law_case,fi_column,fi_turned,fi_two_to,fi_in_steps,fi_rows_in_steps,fi_least_power,fi_one_by_one,fi_rows_of_fit,fi_whole_dot,fi_whole_dots,fi_whole_determinant1,fi_without,fi_whole_determinant2,fi_whole_determinant3,fi_whole_determinant4,fi_weighted,fi_first_not_nought,fi_cleared,fi_common_divisor,fi_in_lowest_terms,fi_weights_to_nought,fi_ratio,fi_put_in,fi_solved_in_wholesX,fi_fittedX,fi_law_told,fi_common_under,fi_missed_tops,fi_missed,fi_misses,fi_law_wholes,fi_law_common,fi_law_lefts,fi_law_whole,fi_law_is_ratio,fi_residues,fi_plus,fi_law_hair,fi_order_of,fi_over,fi_joined,fi_value,fi_odd_form,fi_one_form,fi_exact_total,fi_exact_sum,fi_exact_mean,fi_law]
def C:Cfg where
 ct n:=((fns.map (·.c))[n]?).getD ⟨λ_=>False,λ_ _=>False,λ_ _=>False⟩
 cn n:=match n with|0=>.tup [.int 1,.int 0]|_=>.non
 fr n:=((fns.map (·.fr))[n]?).getD false
 f2 n:=((fns.map (·.g))[n]?).getD false
theorem chk:vZ fns ["ONE"]=true:=by decide +kernel
theorem ct:∀n i,fns[n]?=some i->C.ct n=i.c/\C.fr n=i.fr/\C.f2 n=i.g:=by
 intro n i e;refine⟨?_,?_,?_⟩
 ·show ((fns.map (·.c))[n]?).getD _=i.c;rw[bY,e];rfl
 ·show ((fns.map (·.fr))[n]?).getD _=i.fr;rw[bY,e];rfl
 ·show ((fns.map (·.g))[n]?).getD _=i.g;rw[bY,e];rfl
theorem keeps:∀i∈fns,i.Keep C:=by
 intro i hi;simp only[fns,bz,bK,or_false]at hi;rcases hi with rfl|rfl|rfl|rfl|rfl|rfl|rfl|rfl|rfl|rfl|rfl|rfl|rfl|rfl|rfl|rfl|rfl|rfl|rfl|rfl|rfl|rfl|rfl|rfl|rfl|rfl|rfl|rfl|rfl|rfl|rfl|rfl|rfl|rfl|rfl|rfl|rfl|rfl|rfl|rfl|rfl|rfl|rfl|rfl|rfl|rfl|rfl|rfl|rfl|rfl|rfl|rfl|rfl|rfl|rfl|rfl|rfl
 ·exact jcI
 ·exact k_cell
 ·exact k_width rfl rfl
 ·exact k_bare
 ·exact jbS rfl rfl
 ·exact V0 rfl rfl rfl
 ·exact k_row rfl rfl rfl rfl
 ·exact K51.k_tab rfl
 ·exact k_caseN rfl rfl rfl rfl ⟨rfl,rfl⟩
 ·exact k_colD
 ·exact VU rfl
 ·exact jcA
 ·exact K42.k_in_steps rfl
 ·exact J51.k_rows_in_steps rfl
 ·exact K42.k_least_power
 ·exact K42.k_one_by_one
 ·exact J51.k_rows_of_fit rfl rfl rfl rfl
 ·exact J51.k_whole_dot
 ·exact J49.k_whole_dots rfl
 ·exact J45.k_det1
 ·exact J45.k_without
 ·exact J45.k_det2 rfl rfl
 ·exact J45.k_det3 rfl rfl
 ·exact J45.k_det4 rfl rfl
 ·exact J46.k_weighted
 ·exact J46.k_fnn
 ·exact J46.k_cleared rfl
 ·exact uR
 ·exact J46.k_lowest rfl rfl
 ·exact J46.k_weights rfl rfl rfl rfl
 ·exact k_ratio rfl
 ·exact J46.k_put_in
 ·exact⟨rfl,k_siwX rfl rfl rfl rfl⟩
 ·exact⟨rfl,U2 rfl rfl rfl rfl⟩
 ·exact⟨rfl,k_told rfl⟩
 ·exact J51.k_common_under rfl
 ·exact J51.k_missed_tops rfl
 ·exact J51.k_missed rfl rfl rfl
 ·exact J51.k_misses rfl rfl rfl
 ·exact K51.k_wholes
 ·exact V1
 ·exact K51.k_lefts rfl rfl
 ·exact k_whole
 ·exact Zp rfl rfl
 ·exact Q3 rfl rfl
 ·exact k_plus rfl
 ·exact k_hair rfl rfl
 ·exact Y2
 ·exact k_over rfl
 ·exact jbv rfl
 ·exact k_value rfl
 ·exact Yt
 ·exact Y4 rfl
 ·exact JV rfl rfl rfl
 ·exact XF rfl
 ·exact QB rfl rfl
 ·exact k_law rfl rfl rfl rfl rfl rfl rfl rfl rfl rfl rfl rfl rfl rfl
end Z.K50
local macro_rules | `(command|universe $x)=>`(command|theorem $x:ident:True:=⟨⟩)
local macro_rules | `(command|universe $x $y $z*)=>`(theorem $x:ident:True:=⟨⟩ universe $y $z*)
namespace PySem.W.Fast
universe tw10915552674902504710 tw7474085683170905937 tw7877221774736587332 tw6231758660309513231 tw3574485146872757034 tw1371051105749025208 tw9193112184056751409 tw8173859912219675786 tw11253753853567047044 tw15013177403146088139 tw17203635032473957747 tw4540142770657409693 tw11187388278350503487 tw14098239884862577451 tw12377397687022558618 tw1845915061895817478 tw13536469897599488745 tw11843895873158375257 tw10567788776038321824 tw17811515350827167625 tw4662264257299420704 tw10259090499284826824 tw12718754355262294886 tw12594210490169907921 tw2037743946510987460 tw11091483676056341170 tw3060261726255704633 tw1444330762868955915 tw14872097882117511220 tw8618099764422027844 tw3748213710310875167 tw7569125944151754734 tw10891129560929276652 tw14733363859565503288 tw4545164135487064666 tw9226644942660133370 tw107931498638949861 tw10953140472960233885 tw18432504358268699253 tw6138501374725967075 tw18020534053495390864 tw4038267624579974371 tw4051464347576168041 tw814185376210033196 tw4257340877598493539 tw1636910190492431808 tw7056993697920604056 tw6827054702472183303 tw97051828307611385 tw8653440644310312994 tw13120735043211214110 tw16140265404974831182 tw1054637985361137070 tw16848562754378903851 tw15917682584151984138 tw7851805843209775826 tw7746493603946760551 tw14030249735092255034 tw4207198650487463390 tw7403736525792420941 tw18410097004761386654 tw15192147373434748017 tw10384956462122954476 tw16254527862547436501 tw6623685294556012561 tw14502740643858398158 tw5622338849861849194 tw633545823396835334 tw9540420914339344039 tw14664132107174001088 tw5030814169221183782 tw2733658939264847815 tw5894903846998143876 tw4856413793722634223 tw12470333752014765996 tw11602109476197030274 tw11871289267269438775 tw11952663936824087139 tw6965481502646165236 tw12859130763938052849 tw3431581538523946475 tw8128951591681541936 tw13620477495296430565 tw13775013082847150098 tw3183436282560765767 tw2838163752471823024 tw4503683111425749979 tw16426850037747590175 tw9949916807786350495 tw13571239145472710738 tw5505462637613152834 tw7710043534301724646 tw13905966474888757021 tw9797985033509320665 tw663506674089749984 tw6252626758701649682 tw7532364321012227252 tw14419818750478052344 tw4815977904500657266 tw2970986087405024131 tw15504357983242643346 tw17400948153153803777 tw15271042280444105623 tw7900040533695792637 tw18290954779242818044 tw7829977295356085474 tw983903793799486280 tw5739974152118781438 tw10291013762185404813 tw2847541291733378192 tw14368042757388171519 tw18289212694928688171 tw1069606955177747030 tw5855146853831234533 tw14771839200113937073 tw11297726051821782730 tw10367468904544943685 tw14112794353514710498 tw11778230822011438534 tw6886582763985758477 tw4329443939808881644 tw15336836590313330387 tw8578095996547911039 tw17656085372151465468 tw16504310740135641026 tw15439361047811516556 tw13743864174255380467 tw6335340011993831603 tw11153789874783872887 tw17969669299542744375 tw6113431936788628210 tw14488666889070970218 tw8687161802402618029 tw3193053811188061179 tw1746748681884736771 tw1145038425972174568 tw1673334867607268361 tw6287303958068323377 tw13015756148745910602 tw17831195944071638087 tw13090660083048548131 tw1665314116494849289 tw342896255747634458 tw16268670022542815724 tw647102587183125105 tw518700168636157147 tw1497707962803575260 tw6792982986761528474 tw700319968738600151 tw12724138846575381970 tw15120375021379395958 tw9645122982167463003 tw15378512264752079122 tw9582703958703696429 tw14643049496360138265 tw9811207615963609874 tw9371602902540831780 tw3086159836906802221 tw12115683466618905842 tw7939724332995391203 tw10614722316948277131 tw15307824215550207466 tw716967111045946892 tw15907976945756661788 tw2680540614895867509 tw5965539660397640359 tw12030886955171625202 tw7170035982053560224 tw15462760497517438486 tw11274469917782907951 tw13879010587384748245 tw2836802561744962904 tw8515888219577354412 tw9451530234991507725 tw13962641205770640879 tw14435806126278309740 tw1174684126718930828 tw7208602192242960485 tw10105406354688553238 tw6185966269577582162 tw7536245899875772455 tw18101235049763691782 tw6649690065296898209 tw9040776075694683438 tw3644452470029272943 tw2846223253341579058 tw1879530285033725959 tw2266311413802042533 tw15159247607120876296 tw15875392400762705761 tw11337489762428102192 tw12249609404279912839 tw72642721933808743 tw13632607614985521882 tw14646472374077688124 tw7599915261680976071 tw16058057655067657738 tw3944995043539512786 tw16301192663283202893 tw6241228390798264272 tw2664127299812388080 tw5685336411697505341 tw11624465626244875131 tw1600908501815950782 tw10082712278618516753 tw14280488585820758386 tw633599429660136473 tw7348713726288864088 tw9518535447910754297 tw16171572698501676114 tw4186543475002267587 tw12059312155321053296 tw16509439737509370049 tw2742054474250542764 tw5934255127639882042 tw6170210515827134419 tw2577796589962487196 tw12928783702567406312 tw15617048169122779025 tw9344082842341600034 tw10265042616373743414 tw2497479015649171573 tw7014756828129742891 tw5077865491481371226 tw9190970991853841202 tw55882233442998671 tw7539880838070466860 tw2647315755367174385 tw1823270889540694449 tw4253594619490465145 tw9504461439392169847 tw16103759281782372707 tw1375675056725007690 tw4608039518626063140 tw2303712322674545348 tw3856408871581173925 tw5449067301475200034 tw13536401154094616654 tw1525836549354708785 tw3090408742037596716 tw18397452942665582839 tw9994894158547335489 tw5861027677001327398 tw3666830811311186883 tw4594681871852236453 tw10344436712611860291 tw17053162212129644524 tw17737136975088704464 tw5513534829928925264 tw790569839337684039
end PySem.W.Fast
open PySem PySem.W PyProof.Rows
set_option maxRecDepth 100000 in
set_option maxHeartbeats 0 in
theorem PySem.Challenge.cw_trueline_k50_whole_no_fit_misses_less_holds : PySem.Challenge.rw_trueline_k50_whole_no_fit_misses_less.Holds := by
 w_on;o_law;k_head;(case hw=>w_witness2)
 k_fill
 refine Z.law_walkX (l:=PySem.Challenge.rw_trueline_k50_whole_no_fit_misses_less) Z.K50.fns ["ONE"] Z.K50.C 56 Z.K50.fi_law rfl rfl (λw h Y=>jfK Y) ⟨λ_=>rfl,by decide,by decide⟩ rfl rfl rfl ⟨rfl,rfl⟩ rfl Z.K50.chk Z.K50.keeps Z.K50.ct (λ_ z=>z) ?F
 case F =>
  intro w mg h KX G;refine⟨?fns,?cns,?blt,?exc⟩
  case fns =>
   intro i hi;simp only[Z.K50.fns,bz,bK,or_false]at hi
   rcases hi with rfl|rfl|rfl|rfl|rfl|rfl|rfl|rfl|rfl|rfl|rfl|rfl|rfl|rfl|rfl|rfl|rfl|rfl|rfl|rfl|rfl|rfl|rfl|rfl|rfl|rfl|rfl|rfl|rfl|rfl|rfl|rfl|rfl|rfl|rfl|rfl|rfl|rfl|rfl|rfl|rfl|rfl|rfl|rfl|rfl|rfl|rfl|rfl|rfl|rfl|rfl|rfl|rfl|rfl|rfl|rfl|rfl<;>((first|refine' Z.fact_mk KX G (λ_ _ _ _ _ _=>Z.len1 λ_=>rfl) ?a ?l ?c ?k|refine' Z.fact_mk KX G (λ_ _ _ _ _ _=>Z.len2 λ_ _=>rfl) ?a ?l ?c ?k|refine' Z.fact_mk KX G (λ_ _ _ _ _ _=>Z.len3 λ_ _ _=>rfl) ?a ?l ?c ?k|refine' Z.fact_mk KX G (λ_ _ _ _ _ _=>Z.len4 λ_ _ _ _=>rfl) ?a ?l ?c ?k|refine' Z.fact_mk KX G (λ_ _ _ _ _ _=>Z.len5 λ_ _ _ _ _=>rfl) ?a ?l ?c ?k);(all_goals try dsimp only[Z.K50.fi_law_drawn,Z.K50.fi_law_cell,Z.K50.fi_law_width,Z.K50.fi_law_bare,Z.K50.fi_law_number,Z.K50.fi_law_measure,Z.K50.fi_law_row,Z.K50.fi_law_table,Z.K50.fi_law_case,Z.K50.fi_column,Z.K50.fi_turned,Z.K50.fi_two_to,Z.K50.fi_in_steps,Z.K50.fi_rows_in_steps,Z.K50.fi_least_power,Z.K50.fi_one_by_one,Z.K50.fi_rows_of_fit,Z.K50.fi_whole_dot,Z.K50.fi_whole_dots,Z.K50.fi_whole_determinant1,Z.K50.fi_without,Z.K50.fi_whole_determinant2,Z.K50.fi_whole_determinant3,Z.K50.fi_whole_determinant4,Z.K50.fi_weighted,Z.K50.fi_first_not_nought,Z.K50.fi_cleared,Z.K50.fi_common_divisor,Z.K50.fi_in_lowest_terms,Z.K50.fi_weights_to_nought,Z.K50.fi_ratio,Z.K50.fi_put_in,Z.K50.fi_solved_in_wholesX,Z.K50.fi_fittedX,Z.K50.fi_law_told,Z.K50.fi_common_under,Z.K50.fi_missed_tops,Z.K50.fi_missed,Z.K50.fi_misses,Z.K50.fi_law_wholes,Z.K50.fi_law_common,Z.K50.fi_law_lefts,Z.K50.fi_law_whole,Z.K50.fi_law_is_ratio,Z.K50.fi_residues,Z.K50.fi_plus,Z.K50.fi_law_hair,Z.K50.fi_order_of,Z.K50.fi_over,Z.K50.fi_joined,Z.K50.fi_value,Z.K50.fi_odd_form,Z.K50.fi_one_form,Z.K50.fi_exact_total,Z.K50.fi_exact_sum,Z.K50.fi_exact_mean,Z.K50.fi_law]);(case a=>k_is);(case l=>k_is);(case c=>k_is);(case k=>k_is))
  case cns =>
   intro n x e
   match n,e with
   |0,e =>
    cases e;refine' Z.cn_mkT KX G ?z ?l ?c ?e
    case z=>k_is
    case l=>k_is
    case c=>rfl
    case e=>rfl
   |n+1,e=>simp at e
  case blt =>
   intro x hx;simp only[Z.blts,bz,bK,or_false]at hx
   rcases hx with rfl|rfl|rfl|rfl|rfl|rfl|rfl|rfl|rfl|rfl|rfl|rfl|rfl|rfl|rfl|rfl|rfl|rfl|rfl<;>(refine' jeU KX G ?z;(case z=>k_is))
  case exc =>
   refine'(λ(E:Z.ExcOk _ mg ["Dependent"] false)=>?main) (Z.exc_okR KX ?ex)
   case ex =>
    intro x hx;simp only[bz,bK,or_false]at hx;rcases hx with rfl
    ·refine' Z.exc_mkO (i:=Z.K50.fi_ini_Dependent) KX G (by decide +kernel) (by decide +kernel) (λ_ _ _ _ _ _ _ _ _ _ _=>⟨_,rfl,rfl⟩) ?oa ?ote ?oml ?ol ?oln ?orN ?oT ?oM ?orM ?oi ?on1 ?on2 ?on3 ?on4 ?om1 ?om2 ?om3 ?om4 ?om5 ?om6 ?oop ?ofi ?ofn ?okp ?olf ?olD ?ocd (λz=>bG z);(case oa=>k_is);(case ote=>k_is);(case oml=>k_is);(case ol=>k_is);(case oln=>k_is);(case orN=>rfl);(case oT=>k_is);(case oM=>k_is);(case orM=>rfl);(case oi=>k_is);(case on1=>k_is);(case on2=>k_is);(case on3=>k_is);(case on4=>k_is);(case om1=>k_is);(case om2=>k_is);(case om3=>k_is);(case om4=>k_is);(case om5=>k_is);(case om6=>k_is);(case oop=>k_is);(case ofi=>k_is);(case ofn=>k_is);(case okp=>k_is);(case olf=>k_is);(case olD=>k_is);(case ocd=>k_is)
   case main =>
    intro i hi hz;simp only[Z.K50.fns,bz,bK,or_false]at hi
    rcases hi with rfl|rfl|rfl|rfl|rfl|rfl|rfl|rfl|rfl|rfl|rfl|rfl|rfl|rfl|rfl|rfl|rfl|rfl|rfl|rfl|rfl|rfl|rfl|rfl|rfl|rfl|rfl|rfl|rfl|rfl|rfl|rfl|rfl|rfl|rfl|rfl|rfl|rfl|rfl|rfl|rfl|rfl|rfl|rfl|rfl|rfl|rfl|rfl|rfl|rfl|rfl|rfl|rfl|rfl|rfl|rfl|rfl<;>first|exact E|cases hz