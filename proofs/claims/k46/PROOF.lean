import PyProof.Rows.All
import Wide.All
import OpenK.AllK
import Wide.FinOn
import PyProof.EqAt
import PyProof.EqKinds
import PyProof.TupleCall
import PySem.Challenge.RW_trueline_k46_whole_solutions_meet
set_option Elab.async false
set_option linter.all false
set_option maxRecDepth 100000
set_option bootstrap.genMatcherCode false
set_option genSizeOfSpec false
set_option genInjectivity false
set_option compiler.extract_closed false
noncomputable section
open And renaming intro->QI
open Array renaming getElem?_eq_some_iff->Yd,length_toList->Ud
open Bool renaming and_eq_true->KM,noConfusion->KZ,false_eq_true->Qk,not_eq_true'->Ql,false_ne_true->Xf,or_eq_true->Yl,eq_iff_iff->YK,or_true->Ug
open False renaming elim->XL
open Int renaming toNat_natCast->Qm,gcd->Xb,emod_lt_of_pos->Xg,mul_le_mul_of_nonneg_right->Xq,emod_nonneg->Xy,natAbs_mul->XF,pow_succ->XR,pow_add->XT,mul_fdiv_cancel->X3,mul_comm->X5,natAbs_pow->Yy,mul_le_mul_of_nonneg_left->YB,natAbs_natCast->YF,le_ediv_of_mul_le->YS,gcd_pos_of_ne_zero_left->YU,mul_ediv_cancel_left->Zn,mul_ne_zero->Zq,le_of_lt->ZC,lt_trichotomy->ZI,mul_zero->ZK,one_mul->Z0,lt_or_le->Ul
open List renaming length_map->KP,mem_cons_of_mem->KR,mem_cons->KS,getElem?_eq_none->KT,getElem?_eq_getElem->KU,getD_eq_getElem?_getD->KY,mem_cons_self->K0,map_cons->K1,range->K3,not_mem_nil->K4,replicate->K5,mem_map->K7,mem_append_right->K8,length_append->K9,cons_append->Qb,size_toArray->Qc,getElem?_set_ne->Qe,getElem?_map->Qg,nil_append->Qo,getElem?_set_self->Qq,map_map->Qr,getElem?_append_right->Qs,getElem?_append_left->Qt,append_nil->Qu,map_append->Qw,mem_singleton->Qz,mem_append->QA,replicate_succ->QC,mem_of_getElem?->QD,getElem_mem->QJ,map_congr_left->QK,drop_succ_cons->QL,getD_cons_zero->QM,getD_cons_succ->QN,zipWith_cons_cons->QO,map_nil->QP,drop_eq_getElem_cons->QS,zipWith_nil_right->QU,mem_of_mem_drop->QV,lookup_cons->QW,drop_zero->QZ,zipWith_nil_left->Q2,getElem?_eq_some_iff->Q4,length_take->Q6,length_cons->Xc,isEmpty_iff->Xd,mem_append_left->Xe,mem_range->Xh,length_set->Xi,take_succ_cons->Xk,flatten_cons->Xw,length_drop->Xz,length_nil->XG,sum_append->XI,length_singleton->XJ,all_eq_true->XM,getElem_map->XN,mem_of_mem_take->XV,sum_cons->X7,take_zero->Ye,nodup_cons->Yj,of_mem_zip->Yk,range_succ->Yo,append_assoc->Ys,getElem?_take_of_lt->Yv,filterMap_cons->Yw,replicate_zero->Yx,eq_nil_of_length_eq_zero->YC,sum_nil->YI,foldl_cons->YL,forIn_cons->YM,forIn_nil->YY,range'_succ->Y8,mem_flatten->Y9,mem_or_eq_of_mem_set->Zc,map_eq_nil_iff->Ze,mem_filterMap->Zs,contains_cons->Zv,range'->Zy,drop_of_length_le->ZE,drop_eq_nil_of_le->ZH,length_range->ZJ,length_replicate->ZL,filter_cons->ZQ,range_zero->Uc,getD->Um,getElem?_drop->Uv,map_drop->Uz
open List.cons renaming injEq->Qj,inj->UA
open Nat renaming le_refl->K6,lt_or_ge->Qd,lt_of_lt_of_le->Qn,le_trans->Qx,ne_of_lt->Q0,lt_irrefl->Q9,two_pow_pos->Xj,pow_le_pow_right->XA,zero_le->XB,pow_succ->XQ,ne_of_gt->YE,mul_le_mul_right->YX,mul_le_mul->Y3,sub_self->Za,min_eq_left->Ub,gcd_comm->Uh,not_lt->Ur,eq_zero_or_pos->Uw
open Ne renaming symm->Xm
open Option renaming isSome_some->Yc,map_some->Z7
open Option.some renaming inj->Q5,injEq->Q8
open Prod.mk renaming injEq->ZU
open PyProof.Rows renaming boot_isinstance->X1,callWith_type1->X4,boot_list->X6,boot_int->ZM,callWith_builtin1->ZO,AllBare->Ue
open PySem renaming wpAny_bind->KL,Value->KO,wpAny_pure->KW,starEach->Qa,Spec->Qi,Program->Qp,wpAny_holding->QB,Heap->QG,Around->QH,wpAny_setField_rec->QQ,wpAny_loadPart_at->QX,wpAny_mono->QY,wpAny_field->Q3,mainGlobals->Q7,excClassObj->Xn,wpAny_nextOf_list_item->Xp,wpAny_truthy_bool->Xu,sizeLine_eq->Xv,codeAny_call_builtin->XC,typeLookup->XE,wpAny_of_eq->XH,wpAny_seqItems->XU,wpAny_pyIter_list->XW,foldedSetIterable->XX,Builtin->XY,mem_of_lookup->X2,assignEach->X9,FuncData->Ya,NameKind->Yb,wpAny_nextOf_list_end->Yf,compareOp->Yh,wpAny_passesOwn->Yi,GenState->Yp,behindInMarks->Yu,wpAny_callSpecial?_slot->Yz,wpAny_call_entry->YA,letOwnedTupleGo->YJ,wpAny_standAt->YO,wpAny_attempt->YQ,wpAny_letGo->YZ,bootBuiltins->Y4,swapsWith->Y5,checkBuiltinCall->Y6,wpAny_isSubtype_exc->Zd,binaryOp->Zf,attributeBase->Zg,ExceptHandler->Zj,holding->Zo,wpAny_call->Zt,wpAny_Call_Name_kw->Zu,sliceBounds->Zx,setField->ZG,cellsFrom->ZN,isInstance->ZR,quietNames->ZS,codeAny->ZT,wpAny_onRaise->ZX,Builtin->ZZ,lookup_relabel_local->Z1,wpAny_updateSeq_pair->Z3,unbindBehindTheSuite->Z4,wpAny_execs_nil->Z6,codeAny_builtin->Z8,wpAny_updateSeq->Z9,getAttrByItsOwn->Ua,codeAny_mono->Uf,relabel->Ui,ExcBaseFacts->Uk,recursionLimit->Uo,intText?->Uq,wpAny_tryCatch->Us
open PySem.Around renaming under_plainId->Z2
open PySem.Builtin renaming bitAnd->YW,intMaxStrDigits->Zz
open PySem.Builtin.Builtins renaming bindParams->Uj
open PySem.Builtin.Int renaming intBits->Xr
open PySem.Builtin.List renaming listTooLong->XO
open PySem.Builtin.ObjectAttr renaming find->UB
open PySem.Builtin.Range renaming rangeSize->ZA
open PySem.Builtin.SmallTypes renaming ownedTupleIsFree->QE,nextOf->QF,ownedTupleHandOut->Xt
open PySem.Builtin.Str renaming strSliceIndices->YT
open PySem.Code renaming quiet_builtin->Ut
open PySem.F renaming plainAttrs_list->X0,plain_min_loop->X8,slot_enumerate_next->Yg,excBase_ValueError->Y2,slot_list_append->Zk,type_list_append->Zl,slot_zip_next->Zp
open PySem.Heap renaming get?_push_of_some->KQ,lt_size->K2,get?_push_size->Qh,get?_update_other->Qy,get?_update_self->Xx,SameBut->Yq,FlyingW->YG,get?_none_of_le->YV,MadeExcOf->Y0,size_push->ZD
open PySem.Heap.SameBut renaming refl->XZ
open PySem.NameKind renaming cell->Zi,free->ZV
open PySem.Obj renaming mapSeq->ZP,mapFields->ZY
open PySem.PassesOwn renaming never->Yn
open PySem.PyData renaming strOk->Xo,eqvAll->ZW,bool->Z5
open PySem.Str renaming ofString->Yt
open PySem.Value renaming ref->Xa,none->YD,builtin->YR,bool->Zr
open PySem.W renaming Frag->KN,nsIn->QT,keepIn->XS,kia_one->Ym,fnOf->Yr,kitOne->Y1,looks_findIn->Y7,mg_of->Zh,mroIn->Zm,mg_none_of->Zw,codeIn->ZB,findIn->Uu,methodObj->Ux,subIn->Uy
open Rat renaming intCast_mul->QR,divInt->Xl,intCast_lt_intCast->YH,intCast_neg->YN,mul_comm->Zb
open Sum renaming inl->UC,inr->UD
namespace L2
open PySem PySem.Spec PyProof.Rows
abbrev Key:=Sum Int Str
noncomputable def keyIs:Key->KO->Bool
 |.inl k,v=>KO.isInt k v
 |.inr x,v=>KO.isStrOf x v
noncomputable def keyH(w:World):Key->Int
 |.inl k=>hashInt k
 |.inr x=>hashStr w x
theorem ke:∀ {k:Key} {v:KO},keyIs k v=true->(∃i t,k=UC i/\v=Value.int i t)\/(∃x t,k=UD x/\v=Value.str x t)
 |.inl i,v,h=>by
  obtain⟨t,e⟩:=KO.isInt_shape (k:=i) (v:=v) h
  exact .inl ⟨i,t,rfl,e⟩
 |.inr x,v,h=>by
  obtain⟨t,e⟩:=KO.isStrOf_shape (x:=x) (v:=v) h;exact .inr ⟨x,t,rfl,e⟩
theorem key_ll(a b:Int):decide ((UC a:Key)=UC b)=(a == b):=by
 by_cases e:a=b
 ·subst e;simp
 ·have h:¬ (UC a:Key)=UC b:=fun q=>e (UC.inj q)
  rw[decide_eq_false h];exact(beq_eq_false_iff_ne.mpr e).symm
theorem key_rr(a b:Str):decide ((UD a:Key)=UD b)=decide (a=b):=by
 by_cases e:a=b
 ·subst e;simp
 ·have h:¬ (UD a:Key)=UD b:=fun q=>e (UD.inj q)
  rw[decide_eq_false h,decide_eq_false e]
theorem key_lr(a:Int)(b:Str):decide ((UC a:Key)=UD b)=false:=decide_eq_false (fun q=>nomatch q)
theorem key_rl(a:Str)(b:Int):decide ((UD a:Key)=UC b)=false:=decide_eq_false (fun q=>nomatch q)
noncomputable def mixKind(prog:Qp)(w:World):PySem.KeyKind prog w Key where
 is:=keyIs
 hash:=keyH w
 inj:=fun v a b ha hb=>by
  rcases ke ha with⟨i,t,rfl,rfl⟩|⟨x,t,rfl,rfl⟩
  ·rcases ke hb with⟨j,u,rfl,e⟩|⟨y,u,rfl,e⟩
   ·injection e with e1 _;rw[e1]
   ·exact nomatch e
  ·rcases ke hb with⟨j,u,rfl,e⟩|⟨y,u,rfl,e⟩
   ·exact nomatch e
   ·injection e with e1 _;rw[e1]
 byValue:=fun k v h=>by
  rcases ke h with⟨i,t,rfl,rfl⟩|⟨x,t,rfl,rfl⟩<;>rfl
 pyHash:=fun hv h=>by
  rcases ke hv with⟨i,t,rfl,rfl⟩|⟨x,t,rfl,rfl⟩
  ·exact wpAny_pyHash_int h
  ·exact wpAny_pyHash_str h
 eqBool:=fun hu hv h=>by
  rcases ke hu with⟨i,t,rfl,rfl⟩|⟨x,t,rfl,rfl⟩
  ·rcases ke hv with⟨j,u,rfl,rfl⟩|⟨y,u,rfl,rfl⟩
   ·rw[key_ll]at h;exact wpAny_eqBool_int h
   ·rw[key_lr]at h;exact SeqAt.EqAt.int_str i t y u _ _ _ _ h
  ·rcases ke hv with⟨j,u,rfl,rfl⟩|⟨y,u,rfl,rfl⟩
   ·rw[key_rl]at h;exact SeqAt.EqAt.str_int x t j u _ _ _ _ h
   ·rw[key_rr]at h;exact wpAny_eqBool_str h
 «strs»:=fun k x t v h=>by
  rcases ke h with⟨i,u,rfl,e⟩|⟨y,u,rfl,e⟩
  ·exact nomatch e
  ·injection e with e1 _;subst e1
   cases v<;>rfl
end L2
namespace L2
open PySem PySem.Spec PyProof.Rows
set_option genInjectivity true in
inductive V where
 |non|bl (b:Bool)|int (i:Int)|str (x:Str)|byt (b:Array UInt8)|flt (b:UInt64)|ref (a:Addr)|ty (n:String)
 deriving DecidableEq
noncomputable def jV:V->KO->Prop
 |.non,u=>u=YD
 |.bl b,u=>u=Zr b
 |.int i,u=>∃t,u=Value.int i t
 |.str x,u=>∃t,u=Value.str x t
 |.byt b,u=>∃t,u=KO.bytes b t
 |.flt b,u=>∃t,u=KO.float b t
 |.ref a,u=>u=Xa a
 |.ty n,u=>u=KO.type n
abbrev jG:List V->List KO->Prop:=Paired jV
theorem jG.length{xs:List V}{us:List KO}(r:jG xs us):xs.length=us.length:=Paired.length r
theorem jG.get:∀ {xs:List V} {us:List KO} {i:Nat} {x:V},jG xs us->xs[i]?=some x->∃u,us[i]?=some u/\jV x u
 |_,_,_,_,.nil,e=>by simp at e
 |_,_,0,_,.cons r _,e=>by simp at e;subst e;exact⟨_,rfl,r⟩
 |_,_,i+1,x,.cons _ t,e=>by
  obtain⟨u,h1,h2⟩:=jG.get (i:=i) (x:=x) t (by simpa using e);exact⟨u,by simpa using h1,h2⟩
theorem jG.set{x:V}{u:KO}(r:jV x u):∀ {xs:List V} {us:List KO} (i:Nat),jG xs us->jG (xs.set i x) (us.set i u)
 |_,_,_,.nil=>.nil
 |_,_,0,.cons _ t=>.cons r t
 |_,_,i+1,.cons q t=>.cons q (jG.set r i t)
theorem jG.append:∀ {xs ys:List V} {us ws:List KO},jG xs us->jG ys ws->jG (xs++ys) (us++ws)
 |_,_,_,_,.nil,s=>s
 |_,_,_,_,.cons r t,s=>.cons r (jG.append t s)
theorem jG.take:∀ {xs:List V} {us:List KO} (n:Nat),jG xs us->jG (xs.take n) (us.take n)
 |_,_,0,_=>.nil
 |_,_,_+1,.nil=>.nil
 |_,_,n+1,.cons r t=>.cons r (jG.take n t)
theorem jG.drop:∀ {xs:List V} {us:List KO} (n:Nat),jG xs us->jG (xs.drop n) (us.drop n)
 |_,_,0,r=>r
 |_,_,_+1,.nil=>.nil
 |_,_,n+1,.cons _ t=>jG.drop n t
noncomputable def RelO:Option V->Option KO->Prop
 |some v,some u=>jV v u
 |none,none=>True
 |_,_=>False
noncomputable def KV{κ:Type}:List (κ×V)->List (κ×KO)->Prop:=Paired fun(p:κ×V) (q:κ×KO)=>p.1=q.1/\jV p.2 q.2
noncomputable def kV:Key->V
 |.inl i=>.int i
 |.inr x=>.str x
inductive HO where
 |lst (xs:List V)
 |tup (xs:List V)
 |dK (kvs:List (Key×V))|dT (kvs:List (List Key×V))
 |set (S:Int->Bool) (n:Nat)
 |ins (C dx:Addr) (fs:List (Str×V))
 |own (x:Addr)
 |xd (fs:List (Str×V))
 |met (f x:Addr)
 |rng (lo hi:Int)
 |frz (o:Obj) (u:HO)
 |tbl (ps:Array KO)
 |ext (φ:QG->Prop)
abbrev Hp:=Addr->Option HO
noncomputable def upd(H:Hp)(a:Addr)(o:HO):Hp:=fun b=>if b=a then some o else H b
theorem jm{H:Hp}{a:Addr}{o:HO}:upd H a o a=some o:=by unfold upd;rw[if_pos rfl]
theorem jh{H:Hp}{a b:Addr}{o:HO}(h:b≠a):upd H a o b=H b:=by unfold upd;rw[if_neg h]
theorem kO{H:Hp}{a b:Addr}{o:HO}(h:H a=some o)(h':H b=none):a≠b:=by
 intro e;subst e;rw[h]at h';cases h'
section
variable (P:Qp) (w:World)
noncomputable def qF(H:Hp)(h:QG)(a:Addr):HO->Prop
 |.lst xs=>xs.length<=sizeLine/\∃(its:List KO) (n:Nat),jG xs its/\h.get? a=some { cls:=.type "list",data:=.seq its.toArray n }
 |.tup xs=>xs.length<=sizeLine/\∃its:List KO,jG xs its/\IsTup h a its.toArray
 |.dK kvs=>kvs.length<=sizeLine/\(a == sysModules)=false/\∃vs,KV kvs vs/\h.DictOf (mixKind P w) a vs
 |.dT kvs=>kvs.length<=sizeLine/\(a == sysModules)=false/\∃xs:List (List Key×Addr×KO),
  Paired (fun(p:List Key×V) (q:List Key×Addr×KO)=>p.1=q.1/\H q.2.1=some (.tup (p.1.map kV))/\jV p.2 q.2.2) kvs xs /\
  ∃o es ep,h.get? a=some o/\o.ExactDict/\o.data=.dict es ep/\es.toList=xs.map (entryOfKey (tupleKind (mixKind P w)))/\(xs.map (·.1)).Nodup
 |.set S n=>h.SetOf (intKind P w) a S n
 |.ins C dx fs=>H dx=some (.own a)/\fs.length<=1000/\dx≠a/\h.get? a=some (PySem.W.instObj C dx) /\
  ∃mA,h.Ns1 dx mA/\(∀f,RelO (fs.lookup f) (mA f))/\PySem.Within mA (fs.map (·.1))
 |.own _=>∃o,h.get? a=some o
 |.xd fs=>∃mA,h.Ns1 a mA/\∀f,RelO (fs.lookup f) (mA f)
 |.rng lo hi=>∃t u v,h.get? a=some { cls:=.type "range",data:=.fields #[.int lo t,.int hi u,.int 1 v] }
 |.frz o u=>h.get? a=some o/\qF H h a u
 |.tbl ps=>h.get? a=some { cls:=.none,data:=.fields ps }
 |.met f x=>h.get? a=some (Ux (.ref f) (.ref x))
 |.ext φ=>φ h/\(∃o,h.get? a=some o)/\∀h1 h2:QG,φ h1->(∀o,h1.get? a=some o->h2.get? a=some o)->φ h2
noncomputable def HOk(H:Hp)(h:QG):Prop:=∀a o,H a=some o->qF P w H h a o
end
section
variable {P:Qp} {w:World} {H H':Hp} {h h':QG} {a:Addr} {o:HO}
theorem qF.lt(x:qF P w H h a o):a<h.objs.size:=by
 cases o with
 |lst xs=>obtain⟨_,_,_,_,e⟩:=x;exact K2 e
 |tup xs=>obtain⟨_,_,_,p⟩:=x;exact p.lt
 |dK kvs=>obtain⟨_,_,_,_,o,_,_,e,_⟩:=x;exact K2 e
 |dT kvs=>obtain⟨_,_,_,_,o,_,_,e,_⟩:=x;exact K2 e
 |set S n=>obtain⟨o,_,_,_,e,_⟩:=x;exact K2 e
 |ins C dx fs=>obtain⟨_,_,_,e,_⟩:=x;exact K2 e
 |own y=>obtain⟨_,e⟩:=x;exact K2 e
 |xd fs=>obtain⟨_,⟨_,_,_,e,_⟩,_⟩:=x;exact K2 e
 |rng lo hi=>obtain⟨_,_,_,e⟩:=x;exact K2 e
 |frz ob u=>obtain⟨e,_⟩:=x;exact K2 e
 |tbl ps=>exact K2 (show h.get? a=some _ from x)
 |met f y=>exact K2 (show h.get? a=some _ from x)
 |ext φ=>obtain⟨_,⟨_,e⟩,_⟩:=x;exact K2 e
theorem Paired.mapP{α β:Type}{F G:α->β->Prop}:∀ {l₁:List α} {l₂:List β},Paired F l₁ l₂->(∀a b,F a b->G a b)->Paired G l₁ l₂
 |_,_,.nil,_=>.nil
 |_,_,.cons r t,f=>.cons (f _ _ r) (Paired.mapP t f)
theorem qF.stay(x:qF P w H h a o)(k:∀b u,(b=a\/H b=some (.own a))->h.get? b=some u->h'.get? b=some u)
 (ho:∀b,H b=some (.own a)->H' b=some (.own a)) (ht:∀b xs,H b=some (.tup xs)->H' b=some (.tup xs)):qF P w H' h' a o:=by
 induction o with
 |lst xs=>obtain⟨z,its,n,r,e⟩:=x;exact⟨z,its,n,r,k _ _ (.inl rfl) e⟩
 |tup xs=>obtain⟨z,its,r,ob,e,c⟩:=x;exact⟨z,its,r,ob,k _ _ (.inl rfl) e,c⟩
 |dK kvs=>obtain⟨z,y,vs,r,ob,es,ep,e,c⟩:=x;exact⟨z,y,vs,r,ob,es,ep,k _ _ (.inl rfl) e,c⟩
 |dT kvs =>
  obtain⟨z,y,xs,r,ob,es,ep,e,c⟩:=x
  exact⟨z,y,xs,Paired.mapP r fun p q z=>⟨z.1,ht _ _ z.2.1,z.2.2⟩,ob,es,ep,k _ _ (.inl rfl) e,c⟩
 |set S n=>obtain⟨ob,es,ep,t,e,c⟩:=x;exact⟨ob,es,ep,t,k _ _ (.inl rfl) e,c⟩
 |ins C dx fs =>
  obtain⟨d,z,ne,e,mA,⟨od,es,ep,e2,c⟩,r⟩:=x
  exact⟨ho _ d,z,ne,k _ _ (.inl rfl) e,mA,⟨od,es,ep,k _ _ (.inr d) e2,c⟩,r⟩
 |own y=>obtain⟨ob,e⟩:=x;exact⟨ob,k _ _ (.inl rfl) e⟩
 |xd fs=>obtain⟨mA,⟨od,es,ep,e,c⟩,r⟩:=x;exact⟨mA,⟨od,es,ep,k _ _ (.inl rfl) e,c⟩,r⟩
 |rng lo hi=>obtain⟨t,u,v,e⟩:=x;exact⟨t,u,v,k _ _ (.inl rfl) e⟩
 |frz ob u ih=>obtain⟨e,q⟩:=x;exact⟨k _ _ (.inl rfl) e,ih q⟩
 |tbl ps =>
  have e:h.get? a=some { cls:=.none,data:=.fields ps }:=x;show h'.get? a=some { cls:=.none,data:=.fields ps }
  exact k a _ (.inl rfl) e
 |met f y =>
  have e:h.get? a=some (Ux (.ref f) (.ref y)):=x;show h'.get? a=some (Ux (.ref f) (.ref y))
  exact k a _ (.inl rfl) e
 |ext φ=>obtain⟨p,⟨o,e⟩,st⟩:=x;exact⟨st _ _ p fun o q=>k _ _ (.inl rfl) q,⟨o,k _ _ (.inl rfl) e⟩,st⟩
theorem HOk.lt(x:HOk P w H h)(e:H a=some o):a<h.objs.size:=(x a o e).lt
theorem HOk.fresh(x:HOk P w H h)(e:h.objs.size<=a):H a=none:=by
 cases q:H a with
 |none=>rfl
 |some u=>exact absurd (Qn (x.lt q) e) (Q9 _)
theorem HOk.kept(x:HOk P w H h)(k:∀b u,h.get? b=some u->h'.get? b=some u):HOk P w H h':=fun a o e =>
 (x a o e).stay (fun b u _ q=>k b u q) (fun _ q=>q) fun _ _ q=>q
theorem HOk.laid(x:HOk P w H h)(k:∀b u,h.get? b=some u->h'.get? b=some u)(hp:h.objs.size<=a)(new:qF P w (upd H a o) h' a o):HOk P w (upd H a o) h':=fun b u e=>by
 have hn:=x.fresh hp;by_cases hb:b=a
 ·subst hb;rw[jm]at e;cases e;exact new
 ·rw[jh hb]at e
  exact(x b u e).stay (fun c v _ q=>k c v q) (fun c q=>by rw[jh (kO q hn)];exact q) fun c xs q=>by rw[jh (kO q hn)];exact q
end
noncomputable def Rd(H:Hp)(a:Addr)(u:HO):Prop:=H a=some u\/∃o,H a=some (.frz o u)
theorem Rd.ok{P:Qp}{w:World}{H:Hp}{h:QG}{a:Addr}{u:HO}(r:Rd H a u)(x:HOk P w H h):qF P w H h a u:=by
 rcases r with r|⟨o,r⟩
 ·exact x a u r
 ·obtain⟨_,q⟩:=x a _ r;exact q
noncomputable def Mut:Option HO->Prop
 |some (.lst _)=>True
 |some (.dK _)=>True
 |some (.dT _)=>True
 |some (.set _ _)=>True
 |some (.ins _ _ _)=>True
 |some (.ext _)=>True
 |_=>False
section
variable {P:Qp} {w:World} {H:Hp} {h h':QG} {x e:Addr} {o':HO}
theorem HOk.write(ok:HOk P w H h)(mu:Mut (H x))(he:e=x\/H e=some (.own x))(k:∀b u,b≠e->h.get? b=some u->h'.get? b=some u)(heo:∃u,h'.get? e=some u)
 (new:qF P w (upd H x o') h' x o'):HOk P w (upd H x o') h':=fun b u q=>by
 have nown:∀c y,H c=some (.own y)->c≠x:=fun c y r z=>by subst z;rw[r]at mu;exact mu
 have ntup:∀c xs,H c=some (.tup xs)->c≠x:=fun c xs r z=>by subst z;rw[r]at mu;exact mu
 by_cases hb:b=x
 ·subst hb;rw[jm]at q;cases q;exact new
 ·rw[jh hb]at q;by_cases hbe:b=e
  ·have q':H b=some (.own x):=by
    rcases he with z|z
    ·exact absurd (hbe.trans z) hb
    ·rw[hbe];exact z
   rw[q]at q';cases q';obtain⟨v,hv⟩:=heo;exact⟨v,by rw[hbe];exact hv⟩
  ·refine(ok b u q).stay (fun c v hc r=>k c v ?_ r) (fun c r=>by rw[jh (nown c b r)];exact r) fun c xs r=>by rw[jh (ntup c xs r)];exact r
   rcases hc with rfl|hc
   ·exact hbe
   ·rintro rfl;rcases he with z|z
    ·exact nown c b hc z
    ·rw[hc]at z;cases z;exact hb rfl
end
structure Un (fs ex:List Addr) (H H':Hp) (h h':QG):Prop where
 keep:∀b o,h.get? b=some o->H b=none->b ∉ fs->b ∉ ex->h'.get? b=some o
 slot:∀b o,h.get? b=some o->H b=none->b∈fs->b ∉ ex->∃sl,h'.get? b=some { o with slots:=sl }
 free:∀b o,h.get? b=some o->H b=none->b ∉ ex->H' b=none
 there:∀b o,h.get? b=some o->b ∉ ex->∃o',h'.get? b=some o'
 tups:∀b xs,H b=some (.tup xs)->H' b=some (.tup xs)
 frzs:∀b o u,H b=some (.frz o u)->H' b=some (.frz o u)
 tbls:∀b ps,H b=some (.tbl ps)->∃more,H' b=some (.tbl (ps++more))
section
variable {fs fs' ex ex':List Addr} {H H1 H2:Hp} {h h1 h2 h':QG} {a x e:Addr} {o:HO}
theorem Un.any(u:Un fs ex H H1 h h1){b:Addr}{ob:Obj}(q:h.get? b=some ob)(n:H b=none)(hx:b ∉ ex):∃sl,h1.get? b=some { ob with slots:=sl }:=by
 by_cases hb:b∈fs
 ·exact u.slot b ob q n hb hx
 ·exact⟨ob.slots,u.keep b ob q n hb hx⟩
theorem Un.kept(k:∀b u,h.get? b=some u->h'.get? b=some u):Un fs ex H H h h' :=
 ⟨fun b ob q _ _ _=>k b ob q,fun b ob q _ _ _=>⟨ob.slots,k b ob q⟩,fun _ _ _ n _=>n,fun b ob q _=>⟨ob,k b ob q⟩,fun _ _ q=>q,fun _ _ _ q=>q,fun _ ps q=>⟨#[],by rw[q];simp⟩⟩
theorem Un.refl:Un fs ex H H h h:=Un.kept fun _ _ q=>q
theorem Un.laid(k:∀b u,h.get? b=some u->h'.get? b=some u)(hp:h.objs.size<=a)(hn:H a=none):Un fs ex H (upd H a o) h h' where
 keep:=fun b u q _ _ _=>k b u q
 slot:=fun b u q _ _ _=>⟨u.slots,k b u q⟩
 free:=fun b u q n _=>by rw[jh (Q0 (Qn (K2 q) hp))];exact n
 there:=fun b u q _=>⟨u,k b u q⟩
 tups:=fun b xs q=>by rw[jh (kO q hn)];exact q
 frzs:=fun b u xs q=>by rw[jh (kO q hn)];exact q
 tbls:=fun b ps q=>⟨#[],by rw[jh (kO q hn),q];simp⟩
theorem Un.write(mu:Mut (H x))(he:e=x\/H e=some (.own x))(k:∀b u,b≠e->h.get? b=some u->h'.get? b=some u)(heo:∃u,h'.get? e=some u):Un fs ex H (upd H x o) h h':=by
 have hx:∀b,H b=none->b≠x:=fun b n z=>by subst z;rw[n]at mu;exact mu
 have hb:∀b,H b=none->b≠e:=fun b n z=>by
  subst z;rcases he with r|r
  ·exact hx b n r
  ·rw[n]at r;cases r
 have hm:∀b u,H b=some u->¬ Mut (some u)->b≠x:=fun b u q nm z=>by subst z;rw[q]at mu;exact nm mu
 refine⟨fun b u q n _ _=>k b u (hb b n) q,fun b u q n _ _=>⟨u.slots,k b u (hb b n) q⟩,fun b u q n _=>by rw[jh (hx b n)];exact n,fun b u q _=>?_,
  fun b xs q=>by rw[jh (hm b _ q fun z=>z)];exact q,fun b u xs q=>by rw[jh (hm b _ q fun z=>z)];exact q,fun b ps q=>⟨#[],by rw[jh (hm b _ q fun z=>z),q];simp⟩⟩
 by_cases hbe:b=e
 ·subst hbe;exact heo
 ·exact⟨u,k b u hbe q⟩
end
noncomputable def trk(h:QG)(H:Hp):List Addr:=(K3 h.objs.size).filter fun a=>(H a).isSome
noncomputable def Kk(h:QG)(H:Hp):QG:=PySem.W.hideAll h (trk h H)
theorem hidT_size(h:QG)(H:Hp):(Kk h H).objs.size=h.objs.size:=PySem.W.hideAll_size _ _
theorem hidT_get{h:QG}{H:Hp}{b:Addr}{o:Obj}(e:h.get? b=some o)(n:H b=none):(Kk h H).get? b=some o :=
 PySem.W.hideAll_get _ e fun hm=>by
  have q:(H b).isSome=true:=(List.mem_filter.mp hm).2;rw[n]at q;simp at q
theorem of_hidT{h:QG}{H:Hp}{b:Addr}{o:Obj}(e:(Kk h H).get? b=some o):h.get? b=some o/\H b=none:=by
 have e':h.get? b=some o:=PySem.W.of_hideAll (trk h H) e;refine⟨e',?_⟩
 cases q:H b with
 |none=>rfl
 |some x =>
  have hm:b∈trk h H:=List.mem_filter.mpr ⟨Xh.mpr (K2 e'),by simp[q]⟩;have z:(Kk h H).get? b=none:=PySem.W.hideAll_none (trk h H) hm;rw[z]at e;cases e
end L2
namespace L2
open PySem PySem.Spec PyProof.Rows
structure Mod (K:KN) (mg:Str->Option KO) (base:QG):Prop where
 kin:K.In base
 glob:base.Ns Q7 mg
 blt:∃mb,base.Ns builtinsNs mb/\∀x:Str,x ≠ "__name__"->mb x=Y4 x
 nolimit:base.NoLimit/\base.NoDigits
structure Cx where
 prog:Qp
 w:World
 K:KN
 mg:Str->Option KO
 base:QG
 A:QH
 N:List Str
 s₀:Shared
 H₀:Hp
 env:Env
 outer:List Env
 stack:List Env
 ex:List Addr
 fn:Str->Bool
 calm:Bool
 pn:List (Addr×Obj)
 xe:KO->Shared->Prop
noncomputable def frs(l:List Env):List Addr:=l.filterMap (·.frame)
abbrev Cx.fs(X:Cx):List Addr:=frs X.outer
noncomputable def Vis(sc:Scope)(x:Str):Prop:=sc.names.lookup x=some .local\/sc.names.lookup x=some .cell\/sc.names.lookup x=some .free
noncomputable def Loc(sc:Scope)(x:Str):Prop:=sc.names.lookup x=some .local\/sc.names.lookup x=some .cell
noncomputable def Look(env:Env)(h:QG)(m:Str->Option KO)(x:Str)(u:KO):Prop :=
 (env.kindOf x=some .local/\m x=some u)\/((env.kindOf x=some .cell\/env.kindOf x=some .free)/\∃c,env.cells.lookup x=some c/\h.IsCell c (some u))
structure Cx.Ok (X:Cx):Prop where
 mod:Mod X.K X.mg X.base
 kind:X.env.scope.kind=.function
 glob:X.env.globals=Q7
 blt:X.env.builtins=builtinsNs
 above:X.s₀.heap.objs.size<=X.env.locals
 inj:∀x y c,X.env.cells.lookup x=some c->X.env.cells.lookup y=some c->x=y
 has:∀x,(X.env.kindOf x=some .cell\/X.env.kindOf x=some .free)->∃c,X.env.cells.lookup x=some c
 cab:∀x c,X.fn x=true->X.env.cells.lookup x=some c->X.s₀.heap.objs.size<=c
 hd:X.calm=true->X.A.handled=none
 frames:X.A.frames=some X.stack
 stk:X.stack=X.outer\/(X.stack=X.env::X.outer/\X.env.frame=some X.env.locals)
 exf:∀b∈X.ex,b≠X.env.locals/\∀x c,X.env.cells.lookup x=some c->c≠b
 bs:∀b o,X.base.get? b=some o->X.s₀.heap.get? b=some o/\X.H₀ b=none
 bsz:X.base.objs.size<=X.s₀.heap.objs.size
 noex:∀b o,X.base.get? b=some o->b ∉ X.ex
 exfs:∀b∈X.ex,b ∉ X.fs
 funs:X.s₀.heap.FunFrames X.base X.outer
 frf:∀b∈X.fs,X.H₀ b=none
structure Inv (X:Cx) (pins:List (Addr×Obj)) (σ:List (Option V)) (H:Hp) (s:Shared):Prop where
 ok:X.Ok
 os:s.os=X.s₀.os
 bare:Ue s.gens
 base:Un X.fs X.ex X.H₀ H X.s₀.heap s.heap
 loc:∃m,s.heap.Ns X.env.locals m/\∀(i:Nat) (x:Str) (v:V),X.N[i]?=some x->σ[i]?=some (some v)->Vis X.env.scope x->∃u,jV v u/\Look X.env s.heap m x u
 cell:∀x c,X.env.cells.lookup x=some c->∃v,s.heap.IsCell c v
 free:H X.env.locals=none
 freeC:∀x c,X.env.cells.lookup x=some c->H c=none
 pin:∀p∈X.pn++pins,s.heap.get? p.1=some p.2/\H p.1=none/\p.1≠X.env.locals/\p.1 ∉ X.fs/\∀v,p.2.data ≠ .cell v
 hok:HOk X.prog X.w H s.heap
 len:σ.length=X.N.length
section
variable {X:Cx} {pins:List (Addr×Obj)} {σ:List (Option V)} {H H':Hp} {s:Shared} {h':QG}
theorem Cx.Ok.nofr(ok:X.Ok){b:Addr}{o:Obj}(e:X.base.get? b=some o):b ∉ X.fs:=fun hb=>by
 have:=(ok.funs.mem hb).1;rw[e]at this;cases this
theorem Inv.bs(I:Inv X pins σ H s):∀b o,X.base.get? b=some o->s.heap.get? b=some o/\H b=none:=fun b o e =>
 ⟨I.base.keep b o (I.ok.bs b o e).1 (I.ok.bs b o e).2 (I.ok.nofr e) (I.ok.noex b o e),I.base.free b o (I.ok.bs b o e).1 (I.ok.bs b o e).2 (I.ok.noex b o e)⟩
theorem Inv.bk(I:Inv X pins σ H s):∀b o,X.base.get? b=some o->s.heap.get? b=some o:=fun b o e=>(I.bs b o e).1
theorem Inv.mod(I:Inv X pins σ H s):Mod X.K X.mg X.base:=I.ok.mod
theorem Inv.kIn(I:Inv X pins σ H s):X.K.In s.heap:=I.ok.mod.kin.keeps I.bk
theorem Inv.lt(I:Inv X pins σ H s):X.env.locals<s.heap.objs.size:=let ⟨_,hn,_⟩:=I.loc;hn.lt
theorem Inv.sz(I:Inv X pins σ H s):X.s₀.heap.objs.size<=s.heap.objs.size:=Qx I.ok.above (Nat.le_of_lt I.lt)
theorem Inv.nofs(I:Inv X pins σ H s){a:Addr}(h:s.heap.objs.size<=a):a ∉ X.fs:=fun hb=>by
 obtain⟨_,o,ho,_⟩:=I.ok.funs.mem hb;exact absurd (Qn (K2 ho) (Qx I.sz h)) (Q9 _)
theorem Inv.cne(I:Inv X pins σ H s):∀x c,X.env.cells.lookup x=some c->c≠X.env.locals:=fun x c e z=>by
 obtain⟨v,o,ho,hd⟩:=I.cell x c e;obtain⟨m,⟨o',es,ep,ho',hd',_⟩,_⟩:=I.loc;rw[z,ho']at ho;cases ho;rw[hd']at hd;cases hd
theorem Inv.funs(I:Inv X pins σ H s):s.heap.FunFrames X.base X.outer:=by
 have all:∀(l:List Env),(∀b∈frs l,b∈X.fs)->X.s₀.heap.FunFrames X.base l->s.heap.FunFrames X.base l:=by
  intro l
  induction l with
  |nil=>intro _ _;trivial
  |cons env r ih =>
   intro hs hl;obtain⟨hk,⟨L,o,hf,hn,ho,hd⟩,hr⟩:=hl;have hL:L∈X.fs:=hs L (by unfold frs;rw[Yw,hf];exact K0)
   obtain⟨sl,e⟩:=I.base.slot L o ho (I.ok.frf L hL) hL fun z=>I.ok.exfs L z hL
   exact⟨hk,⟨L,_,hf,hn,e,hd⟩,ih (fun b hb=>hs b (by unfold frs;rw[Yw,hf];exact KR _ hb)) hr⟩
 exact all X.outer (fun _ hb=>hb) I.ok.funs
theorem Inv.stack(I:Inv X pins σ H s):s.heap.FunFrames X.base X.stack:=by
 rcases I.ok.stk with e|⟨e,hf⟩
 ·rw[e];exact I.funs
 ·rw[e];obtain⟨m,hn,_⟩:=I.loc;refine .cons (by rw[I.ok.kind];decide) hf hn ?_ I.funs;exact YV (Qx I.ok.bsz I.ok.above)
theorem Inv.stkSub(I:Inv X pins σ H s):∀b∈frs X.stack,b∈X.env.locals::X.fs:=fun b hb=>by
 rcases I.ok.stk with e|⟨e,hf⟩
 ·rw[e]at hb;exact KR _ hb
 ·rw[e]at hb;unfold frs at hb;rw[Yw,hf]at hb;exact hb
theorem Inv.stkFree(I:Inv X pins σ H s):∀b∈frs X.stack,H b=none:=fun b hb=>by
 rcases KS.mp (I.stkSub b hb) with e|hb
 ·rw[e];exact I.free
 ·obtain⟨_,o,ho,_⟩:=I.ok.funs.mem hb
  exact I.base.free b o ho (I.ok.frf b hb) fun z=>I.ok.exfs b z hb
theorem Inv.step{g':Array Yp}{t':Nat}{d':Drawn}{ch:List Addr}(I:Inv X pins σ H s)
 (hch:∀b∈ch,(b∈X.ex\/X.s₀.heap.objs.size<=b)/\b≠X.env.locals/\(∀x c,X.env.cells.lookup x=some c->c≠b)/\∀p∈X.pn++pins,p.1≠b)
 (keep:∀b o,b≠X.env.locals->b ∉ X.fs->b ∉ ch->s.heap.get? b=some o->H b=none->h'.get? b=some o)
 (slot:∀b o,b≠X.env.locals->b∈X.fs->b ∉ ch->s.heap.get? b=some o->H b=none->∃sl,h'.get? b=some { o with slots:=sl }) (free:∀b o,b ∉ ch->s.heap.get? b=some o->H b=none->H' b=none)
 (there:∀b o,b ∉ ch->s.heap.get? b=some o->∃o',h'.get? b=some o')
 (tups:∀b xs,H b=some (.tup xs)->H' b=some (.tup xs)) (frzs:∀b o u,H b=some (.frz o u)->H' b=some (.frz o u)) (tbls:∀b ps,H b=some (.tbl ps)->∃more,H' b=some (.tbl (ps++more)))
 (ns:∀m,s.heap.Ns X.env.locals m->h'.Ns X.env.locals m) (hok:HOk X.prog X.w H' h') (hg:Ue g') :
 Inv X pins σ H' { s with heap:=h',gens:=g',drawn:=d',toks:=t' }:=by
 have neL:∀b o,X.s₀.heap.get? b=some o->b≠X.env.locals:=fun b o e=>Q0 (Qn (K2 e) I.ok.above)
 have neC:∀b o,X.s₀.heap.get? b=some o->b ∉ X.ex->b ∉ ch:=fun b o e hx hb=>by
  rcases(hch b hb).1 with z|z
  ·exact hx z
  ·exact absurd (Qn (K2 e) z) (Q9 _)
 have cellK:∀x c,X.env.cells.lookup x=some c->∀v,s.heap.IsCell c v->h'.IsCell c v:=fun x c e v ⟨o,ho,hd⟩=>by
  have nch:c ∉ ch:=fun z=>(hch c z).2.2.1 x c e rfl
  by_cases hc:c∈X.fs
  ·obtain⟨sl,q⟩:=slot c o (I.cne x c e) hc nch ho (I.freeC x c e);exact⟨_,q,hd⟩
  ·exact⟨o,keep c o (I.cne x c e) hc nch ho (I.freeC x c e),hd⟩
 refine⟨I.ok,I.os,hg,⟨fun b o e n hb hx=>?_,fun b o e n hb hx=>?_,fun b o e n hx=>?_,fun b o e hx=>?_,fun b xs e=>tups b xs (I.base.tups b xs e),fun b o xs e=>frzs b o xs (I.base.frzs b o xs e),fun b ps e=>?_⟩,?_,fun x c e=>?_,?_,fun x c e=>?_,fun p hp=>?_,hok,I.len⟩
 ·exact keep b o (neL b o e) hb (neC b o e hx) (I.base.keep b o e n hb hx) (I.base.free b o e n hx)
 ·obtain⟨sl,e1⟩:=I.base.slot b o e n hb hx;obtain⟨sl',e2⟩:=slot b _ (neL b o e) hb (neC b o e hx) e1 (I.base.free b o e n hx);exact⟨sl',e2⟩
 ·obtain⟨o',e1⟩:=I.base.there b o e hx;exact free b o' (neC b o e hx) e1 (I.base.free b o e n hx)
 ·obtain⟨o',e1⟩:=I.base.there b o e hx;exact there b o' (neC b o e hx) e1
 ·obtain⟨m1,e1⟩:=I.base.tbls b ps e;obtain⟨m2,e2⟩:=tbls b _ e1;exact⟨m1++m2,by rw[e2,Array.append_assoc]⟩
 ·obtain⟨m,hn,hl⟩:=I.loc;refine⟨m,ns m hn,fun i x v e1 e2 e3=>?_⟩;obtain⟨u,r,l⟩:=hl i x v e1 e2 e3;refine⟨u,r,?_⟩;rcases l with l|⟨k,c,e,z⟩
  ·exact .inl l
  ·exact .inr ⟨k,c,e,cellK x c e _ z⟩
 ·obtain⟨v,z⟩:=I.cell x c e;exact⟨v,cellK x c e v z⟩
 ·obtain⟨m,⟨o,_,_,ho,_⟩,_⟩:=I.loc;exact free _ o (fun z=>(hch _ z).2.1 rfl) ho I.free
 ·obtain⟨v,o,ho,hd⟩:=I.cell x c e;exact free c o (fun z=>(hch c z).2.2.1 x c e rfl) ho (I.freeC x c e)
 ·obtain⟨e,n,ne,nf,d⟩:=I.pin p hp
  have nch:p.1 ∉ ch:=fun z=>(hch p.1 z).2.2.2 p hp rfl
  exact⟨keep p.1 p.2 ne nf nch e n,free p.1 p.2 nch e n,ne,nf,d⟩
theorem Inv.un{t':Nat}(I:Inv X pins σ H s)(u:Un X.fs [] H H' s.heap h')(hok:HOk X.prog X.w H' h'):Inv X pins σ H' { s with heap:=h',toks:=t' }:=by
 obtain⟨m,⟨o,es,ep,ho,r⟩,_⟩:=id I.loc;obtain⟨sl,hL⟩:=u.any ho I.free (by simp)
 exact I.step (g':=s.gens) (d':=s.drawn) (ch:=[]) (fun _ z=>nomatch z) (fun b o _ hb _ e n=>u.keep b o e n hb (by simp)) (fun b o _ hb _ e n=>u.slot b o e n hb (by simp)) (fun b o _ e n=>u.free b o e n (by simp)) (fun b o _ e=>u.there b o e (by simp)) u.tups u.frzs u.tbls (fun m' hm=>by
  obtain⟨o',es',ep',ho',r'⟩:=hm;rw[ho]at ho';cases ho'
  exact⟨_,es',ep',hL,r'⟩) hok I.bare
theorem Inv.call{g':Array Yp}{t':Nat}{d':Drawn}{ch:List Addr}(I:Inv X pins σ H s)(u:Un (frs X.stack) ch H H' s.heap h')(hok:HOk X.prog X.w H' h')(hg:Ue g')
 (hch:∀b∈ch,(b∈X.ex\/X.s₀.heap.objs.size<=b)/\b≠X.env.locals/\(∀x c,X.env.cells.lookup x=some c->c≠b)/\∀p∈X.pn++pins,p.1≠b) :
 Inv X pins σ H' { s with heap:=h',gens:=g',drawn:=d',toks:=t' }:=by
 obtain⟨m,⟨o,es,ep,ho,r⟩,_⟩:=id I.loc
 obtain⟨sl,hL⟩:=u.any ho I.free fun z=>(hch _ z).2.1 rfl
 exact I.step (ch:=ch) hch (fun b o hL hb hc e n=>u.keep b o e n (fun z=>(KS.mp (I.stkSub b z)).elim hL hb) hc) (fun b o _ _ hc e n=>u.any e n hc) (fun b o hc e n=>u.free b o e n hc) (fun b o hc e=>u.there b o e hc) u.tups u.frzs u.tbls (fun m' hm=>by
  obtain⟨o',es',ep',ho',r'⟩:=hm;rw[ho]at ho';cases ho'
  exact⟨_,es',ep',hL,r'⟩) hok hg
theorem Inv.turned{t':Nat}{it:Addr}(I:Inv X pins σ H s)(k:∀b o,b≠it->s.heap.get? b=some o->h'.get? b=some o)(hn:H it=none)(hL:it≠X.env.locals)
 (h1:it∈X.ex\/X.s₀.heap.objs.size<=it) (h2:∀x c,X.env.cells.lookup x=some c->c≠it) (h3:∀p∈X.pn++pins,p.1≠it):Inv X pins σ H { s with heap:=h',toks:=t' }:=by
 have nit:∀b u,H b=some u->b≠it:=fun b u e z=>by rw[z,hn]at e;cases e
 refine I.step (g':=s.gens) (d':=s.drawn) (ch:=[it]) (fun b hb=>?_) (fun b o _ _ hc e _=>k b o (fun z=>hc (by simp[z])) e) (fun b o _ _ hc e _=>⟨o.slots,k b o (fun z=>hc (by simp[z])) e⟩) (fun _ _ _ _ n=>n)
  (fun b o hc e=>⟨o,k b o (fun z=>hc (by simp[z])) e⟩) (fun _ _ e=>e) (fun _ _ _ e=>e) (fun b ps e=>⟨#[],by rw[e];simp⟩) (fun m hm=>?_) (fun b u e=>?_) I.bare
 ·have e:b=it:=by simpa using hb
  subst e;exact⟨h1,hL,h2,h3⟩
 ·obtain⟨o,es,ep,ho,r⟩:=hm;exact⟨o,es,ep,k _ o (Xm hL) ho,r⟩
 ·refine(I.hok b u e).stay (fun c v hc q=>k c v ?_ q) (fun _ q=>q) fun _ _ q=>q
  rcases hc with z|z
  ·rw[z];exact nit b u e
  ·exact nit c _ z
theorem Inv.tok(I:Inv X pins σ H s)(t:Nat):Inv X pins σ H { s with toks:=t }:=I.un (h':=s.heap) (t':=t) Un.refl I.hok
theorem Inv.kept{t':Nat}(I:Inv X pins σ H s)(k:∀b u,s.heap.get? b=some u->h'.get? b=some u):Inv X pins σ H { s with heap:=h',toks:=t' }:=I.un (Un.kept k) (I.hok.kept k)
theorem Inv.laid{a:Addr}{o:HO}{t':Nat}(I:Inv X pins σ H s)(k:∀b u,s.heap.get? b=some u->h'.get? b=some u)(hp:s.heap.objs.size<=a)(new:qF X.prog X.w (upd H a o) h' a o) :
 Inv X pins σ (upd H a o) { s with heap:=h',toks:=t' }:=I.un (Un.laid k hp (I.hok.fresh hp)) (I.hok.laid k hp new)
theorem Inv.write{x e:Addr}{o:HO}{t':Nat}(I:Inv X pins σ H s)(mu:Mut (H x))(he:e=x\/H e=some (.own x))(k:∀b u,b≠e->s.heap.get? b=some u->h'.get? b=some u)(heo:∃u,h'.get? e=some u)
 (new:qF X.prog X.w (upd H x o) h' x o):Inv X pins σ (upd H x o) { s with heap:=h',toks:=t' }:=I.un (Un.write mu he k heo) (I.hok.write mu he k heo new)
theorem Inv.pins_of{pins':List (Addr×Obj)}(I:Inv X pins σ H s)(h:∀p∈pins',s.heap.get? p.1=some p.2/\H p.1=none/\p.1≠X.env.locals/\p.1 ∉ X.fs/\∀v,p.2.data ≠ .cell v):Inv X pins' σ H s :=
 ⟨I.ok,I.os,I.bare,I.base,I.loc,I.cell,I.free,I.freeC,fun p hp=>(QA.mp hp).elim (fun z=>I.pin p (Xe _ z)) (h p),I.hok,I.len⟩
theorem nodup_ix{N:List Str}(hN:N.Nodup){i j:Nat}{x:Str}(a:N[i]?=some x)(b:N[j]?=some x):i=j:=by
 obtain⟨h1,e1⟩:=Q4.mp a;obtain⟨h2,e2⟩:=Q4.mp b;exact(List.getElem_inj hN).mp (e1.trans e2.symm)
theorem Jp{M:Model}{A:QH}{E:KO->Shared->Prop}{i:Nat}{x:Str}{v:V}{u:KO}{Q:Unit->Shared->Prop}(I:Inv X pins σ H s)(hN:X.N.Nodup)(hi:X.N[i]?=some x)(hx:Loc X.env.scope x)(r:jV v u)
 (h:∀s',Inv X pins (σ.set i (some v)) H s'->(∃a,Yq a s.heap s'.heap/\(a=X.env.locals\/X.env.cells.lookup x=some a))->Q () s') (hf:X.fn x=true\/X.env.scope.names.lookup x=some .local:=by first|exact .inl rfl|exact .inr rfl|assumption):wpAny M A (storeName X.env x u) Q E s:=by
 obtain⟨m,hn,hl⟩:=id I.loc
 have hcls:(X.env.scope.kind == .class ||(X.env.scope.kind == .module&&X.env.locals != X.env.globals))=false:=by rw[I.ok.kind];rfl
 have hiσ:i<σ.length:=by rw[I.len];exact(Q4.mp hi).1
 have cne:=I.cne
 have tracked:∀ {a:Addr} {h':QG},(∃o,s.heap.get? a=some o/\H a=none)->Yq a s.heap h'->HOk X.prog X.w H h':=fun {a h'} ha hs b ob e=>by
  obtain⟨_,_,hfree⟩:=ha
  refine(I.hok b ob e).stay (fun c w' hc q=>(hs.2 c ?_).trans q) (fun _ q=>q) fun _ _ q=>q
  rintro rfl;rcases hc with rfl|hc
  ·rw[hfree]at e;cases e
  ·rw[hfree]at hc;cases hc
 rcases hx with hk|hk
 ·refine wpAny_storeName_local hk hn (fun h' hn' hs=>?_) hcls;obtain⟨oL,_,_,hoL,_⟩:=id hn;refine h _ ⟨I.ok,I.os,I.bare,⟨fun b o e n hb hx=>?_,fun b o e n hb hx=>?_,I.base.free,fun b o e hx=>?_,I.base.tups,I.base.frzs,I.base.tbls⟩,⟨_,hn',fun j y v' e1 e2 e3=>?_⟩,fun y c e=>?_,I.free,I.freeC,fun p hp=>?_,tracked ⟨oL,hoL,I.free⟩ hs,by simpa using I.len⟩ ⟨_,hs,.inl rfl⟩
  ·exact(hs.2 b (Q0 (Qn (K2 e) I.ok.above))).trans (I.base.keep b o e n hb hx)
  ·obtain⟨sl,e1⟩:=I.base.slot b o e n hb hx;exact⟨sl,(hs.2 b (Q0 (Qn (K2 e) I.ok.above))).trans e1⟩
  ·obtain⟨o',e1⟩:=I.base.there b o e hx;exact⟨o',(hs.2 b (Q0 (Qn (K2 e) I.ok.above))).trans e1⟩
  ·by_cases hj:j=i
   ·subst hj;rw[hi]at e1;cases e1;rw[Qq hiσ]at e2;cases e2;exact⟨u,r,.inl ⟨hk,by simp⟩⟩
   ·rw[Qe (Xm hj)]at e2;obtain⟨u',r',q⟩:=hl j y v' e1 e2 e3;refine⟨u',r',?_⟩;rcases q with⟨k,e⟩|⟨k,c,e,z⟩
    ·refine .inl ⟨k,?_⟩
     have:y≠x:=fun e=>hj (nodup_ix hN e1 (e ▸ hi))
     simp[this,e]
    ·exact .inr ⟨k,c,e,z.sameBut hs (cne y c e)⟩
  ·obtain⟨w',z⟩:=I.cell y c e;exact⟨w',z.sameBut hs (cne y c e)⟩
  ·obtain⟨e,n,ne,nf,d⟩:=I.pin p hp;exact⟨(hs.2 p.1 ne).trans e,n,ne,nf,d⟩
 ·have hfn:X.fn x=true:=by
   rcases hf with z|z
   ·exact z
   ·rw[z]at hk;cases hk
  obtain⟨c,hc⟩:=I.ok.has x (.inl hk);obtain⟨w',z⟩:=I.cell x c hc;refine wpAny_storeName_cell I.ok.kind hk hc z (fun h' hc' hs=>?_);obtain⟨oc,hoc,hocd⟩:=id z;refine h { s with heap:=h' } ⟨I.ok,I.os,I.bare,⟨fun b o e n hb hx=>?_,fun b o e n hb hx=>?_,I.base.free,fun b o e hx=>?_,I.base.tups,I.base.frzs,I.base.tbls⟩,⟨m,hn.sameBut hs (Xm (cne x c hc)),fun j y v' e1 e2 e3=>?_⟩,fun y c' e=>?_,I.free,I.freeC,fun p hp=>?_,tracked ⟨oc,hoc,I.freeC x c hc⟩ hs,by simpa using I.len⟩ ⟨c,hs,.inr hc⟩
  ·exact(hs.2 b (Q0 (Qn (K2 e) (I.ok.cab x c hfn hc)))).trans (I.base.keep b o e n hb hx)
  ·obtain⟨sl,e1⟩:=I.base.slot b o e n hb hx;exact⟨sl,(hs.2 b (Q0 (Qn (K2 e) (I.ok.cab x c hfn hc)))).trans e1⟩
  ·obtain⟨o',e1⟩:=I.base.there b o e hx;exact⟨o',(hs.2 b (Q0 (Qn (K2 e) (I.ok.cab x c hfn hc)))).trans e1⟩
  ·by_cases hj:j=i
   ·subst hj;rw[hi]at e1;cases e1;rw[Qq hiσ]at e2;cases e2;exact⟨u,r,.inr ⟨.inl hk,c,hc,hc'⟩⟩
   ·rw[Qe (Xm hj)]at e2;obtain⟨u',r',q⟩:=hl j y v' e1 e2 e3;refine⟨u',r',?_⟩;rcases q with q|⟨k,c',e,z'⟩
    ·exact .inl q
    ·refine .inr ⟨k,c',e,z'.sameBut hs ?_⟩;rintro rfl;exact hj (nodup_ix hN e1 (I.ok.inj _ _ _ e hc ▸ hi))
  ·by_cases hcc:c'=c
   ·subst hcc;exact⟨_,hc'⟩
   ·obtain⟨w2,z2⟩:=I.cell y c' e;exact⟨w2,z2.sameBut hs hcc⟩
  ·obtain⟨e,n,ne,nf,d⟩:=I.pin p hp;refine⟨(hs.2 p.1 ?_).trans e,n,ne,nf,d⟩;intro q;rw[q,hoc]at e;have q':oc=p.2:=Q5 e;exact d w' (by rw[<- q'];exact hocd)
theorem zQ{M:Model}{A:QH}{E:KO->Shared->Prop}{i:Nat}{x:Str}{v:V}{u:KO}{Q:Unit->Shared->Prop}(I:Inv X pins σ H s)(hN:X.N.Nodup)(hi:X.N[i]?=some x)(hx:Loc X.env.scope x)(r:jV v u)
 (h:∀s',Inv X pins (σ.set i (some v)) H s'->Q () s') (hf:X.fn x=true\/X.env.scope.names.lookup x=some .local:=by first|exact .inl rfl|exact .inr rfl|assumption):wpAny M A (storeName X.env x u) Q E s :=
 Jp I hN hi hx r (fun s' I' _=>h s' I') hf
theorem Inv.call'{s':Shared}{ch:List Addr}(I:Inv X pins σ H s)(ho:s'.os=s.os)(u:Un (frs X.stack) ch H H' s.heap s'.heap)(hok:HOk X.prog X.w H' s'.heap)(hg:Ue s'.gens)
 (hch:∀b∈ch,(b∈X.ex\/X.s₀.heap.objs.size<=b)/\b≠X.env.locals/\(∀x c,X.env.cells.lookup x=some c->c≠b)/\∀p∈X.pn++pins,p.1≠b):Inv X pins σ H' s':=by
 obtain⟨h',g',d',t',o'⟩:=s';have e:o'=s.os:=ho;subst e;exact I.call (g':=g') (t':=t') (d':=d') u hok hg hch
end
abbrev XK:=KO->Option Addr->Hp->Prop
abbrev St:=List (Option V)
abbrev VK:=V->Hp->Prop
abbrev TE:=St->Hp->VK->Prop
abbrev TT:=St->Hp->(Bool->Hp->Prop)->Prop
abbrev TA:=St->Hp->(List V->Hp->Prop)->Prop
structure Ends where
 nx:St->Hp->Prop
 rt:VK
 bk:St->Hp->Prop:=fun _ _=>False
 ct:St->Hp->Prop:=fun _ _=>False
abbrev TS:=Ends->St->Hp->Prop
noncomputable def EP(X:Cx)(pins:List (Addr×Obj))(σ:St)(Q:VK)(u:KO)(s':Shared):Prop:=∃v H',Inv X pins σ H' s'/\jV v u/\Q v H'
noncomputable def TP(X:Cx)(pins:List (Addr×Obj))(σ:St)(Q:Bool->Hp->Prop)(b:Bool)(s':Shared):Prop:=∃H',Inv X pins σ H' s'/\Q b H'
noncomputable def AP(X:Cx)(pins:List (Addr×Obj))(σ:St)(Q:List V->Hp->Prop)(us:List KO)(s':Shared):Prop:=∃vs H',Inv X pins σ H' s'/\jG vs us/\Q vs H'
noncomputable def SP(X:Cx)(pins:List (Addr×Obj))(D:Ends)(f:Flow)(s':Shared):Prop :=
 match f with
 |.next=>∃σ' H',Inv X pins σ' H' s'/\D.nx σ' H'
 |.brk=>∃σ' H',Inv X pins σ' H' s'/\D.bk σ' H'
 |.cont=>∃σ' H',Inv X pins σ' H' s'/\D.ct σ' H'
 |.ret u=>∃v σ' H',Inv X pins σ' H' s'/\jV v u/\D.rt v H'
noncomputable def PE(X:Cx)(e:Expr)(t:TE):Prop :=
 ∀(pins:List (Addr×Obj)) (s:Shared) (σ:St) (H:Hp) (Q:VK),Inv X pins σ H s->t σ H Q->wpAny (model X.prog X.w) X.A (eval e X.env) (EP X pins σ Q) X.xe s
noncomputable def PT(X:Cx)(e:Expr)(t:TT):Prop :=
 ∀(pins:List (Addr×Obj)) (s:Shared) (σ:St) (H:Hp) (Q:Bool->Hp->Prop),Inv X pins σ H s->t σ H Q->wpAny (model X.prog X.w) X.A (isTrue e X.env (eval e X.env)) (TP X pins σ Q) X.xe s
noncomputable def PW(X:Cx)(e:Expr)(t:TT):Prop :=
 ∀(whole:Sem KO) (pins:List (Addr×Obj)) (s:Shared) (σ:St) (H:Hp) (Q:Bool->Hp->Prop),Inv X pins σ H s->t σ H Q->wpAny (model X.prog X.w) X.A (isTrue e X.env whole) (TP X pins σ Q) X.xe s
theorem PW.pt{X:Cx}{e:Expr}{t:TT}(h:PW X e t):PT X e t:=h _
noncomputable def PA(X:Cx)(es:List Expr)(t:TA):Prop :=
 ∀(pos:Pos) (pins:List (Addr×Obj)) (s:Shared) (σ:St) (H:Hp) (Q:List V->Hp->Prop),Inv X pins σ H s->t σ H Q->wpAny (model X.prog X.w) X.A (spliced (backTo pos (Qa es X.env))) (AP X pins σ Q) X.xe s
noncomputable def PS(X:Cx)(st:Stmt)(t:TS):Prop :=
 ∀(pins:List (Addr×Obj)) (s:Shared) (σ:St) (H:Hp) (D:Ends),Inv X pins σ H s->t D σ H->wpAny (model X.prog X.w) X.A (exec st X.env) (SP X pins D) X.xe s
noncomputable def PSs(X:Cx)(st:List Stmt)(t:TS):Prop :=
 ∀(pins:List (Addr×Obj)) (s:Shared) (σ:St) (H:Hp) (D:Ends),Inv X pins σ H s->t D σ H->wpAny (model X.prog X.w) X.A (execs st X.env) (SP X pins D) X.xe s
theorem thn{α:Type}{t:Sem α}{Q Q':α->Shared->Prop}{M:Model}{A:QH}{E:KO->Shared->Prop}{s:Shared}(h:wpAny M A t Q E s)(hQ:∀a s,Q a s->Q' a s):wpAny M A t Q' E s:=QY h hQ fun _ _ x=>x
end L2
namespace L2
open PySem PySem.Spec PyProof.Rows
section
variable {X:Cx}
noncomputable def tVar(i:Nat):TE:=fun σ H Q=>∃v,σ[i]?=some (some v)/\Q v H
noncomputable def tC(v:V):TE:=fun _ H Q=>Q v H
theorem j9{i:Nat}{x:Str}{pos:Pos}(hN:X.N[i]?=some x)(hv:Vis X.env.scope x)(hd:(x == ("__debug__":Str))=false:=by decide)(hcd:(x == ("__classdict__":Str))=false:=by decide):PE X (.Name x pos) (tVar i):=by
 intro pins s σ H Q I h;obtain⟨v,e,h⟩:=h;obtain⟨m,hn,hl⟩:=I.loc;obtain⟨u,r,l⟩:=hl i x v hN e hv
 have fin:EP X pins σ Q u s:=⟨v,H,I,r,h⟩
 rcases l with⟨hk,hm⟩|⟨hk,c,hc,hcell⟩
 ·exact wpAny_Name (wpAny_loadName_local I.ok.kind hk hn hm fin) hd
 ·rcases hk with hk|hk
  ·exact wpAny_Name (wpAny_loadName_cell I.ok.kind hk hc hcell fin) hd
  ·exact wpAny_Name (wpAny_loadName_free I.ok.kind hk hc hcell fin hcd) hd
theorem Kq{i j pos}:PE X (.Constant (.int i) j pos) (tC (.int i)):=fun _ _ _ H _ I h=>wpAny_Constant_int ⟨.int i,H,I.tok _,⟨_,rfl⟩,h⟩
theorem pe_bl{b j pos}:PE X (.Constant (.bool b) j pos) (tC (.bl b)):=fun _ _ _ H _ I h=>Constant_bool ⟨.bl b,H,I,rfl,h⟩
theorem pe_non{j pos}:PE X (.Constant .none j pos) (tC .non):=fun _ _ _ H _ I h=>Constant_none ⟨.non,H,I,rfl,h⟩
theorem vd{x j pos}:PE X (.Constant (.str x) j pos) (tC (.str x)):=fun _ _ _ H _ I h=>Calls.Constant_str ⟨.str x,H,I.tok _,⟨_,rfl⟩,h⟩
noncomputable def Gl(X:Cx)(x:Str):Prop:=X.env.kindOf x=some .globalImplicit
theorem yE{E:KO->Shared->Prop}{pins:List (Addr×Obj)}{s:Shared}{σ:St}{H:Hp}{x:Str}{u:KO}{pos:Pos}{Q:KO->Shared->Prop}(I:Inv X pins σ H s)(hg:Gl X x)(hm:X.mg x=some u)(h:Q u s)
 (hd:(x == ("__debug__":Str))=false:=by decide):wpAny (model X.prog X.w) X.A (eval (.Name x pos) X.env) Q E s :=
 Calls.Name_function_global I.ok.kind hg (Calls.loadGlobal_global (by rw[I.ok.glob];exact I.mod.glob.keeps I.bk) hm h) hd
theorem uc{E:KO->Shared->Prop}{pins:List (Addr×Obj)}{s:Shared}{σ:St}{H:Hp}{x:Str}{u:KO}{pos:Pos}{Q:KO->Shared->Prop}(I:Inv X pins σ H s)(hg:Gl X x)(hm:X.mg x=none)(hv:Y4 x=some u)(h:Q u s)
 (hn:x ≠ "__name__":=by decide) (hd:(x == ("__debug__":Str))=false:=by decide):wpAny (model X.prog X.w) X.A (eval (.Name x pos) X.env) Q E s:=by
 obtain⟨mb,h1,h2⟩:=I.mod.blt;exact Calls.Name_function_global I.ok.kind hg (Calls.loadGlobal_builtin (by rw[I.ok.glob];exact I.mod.glob.keeps I.bk) hm (by rw[I.ok.blt];exact h1.keeps I.bk) ((h2 x hn).trans hv) h) hd
theorem KK{x:Str}{v:V}{u:KO}{pos:Pos}(hg:Gl X x)(hm:X.mg x=some u)(r:jV v u)(hd:(x == ("__debug__":Str))=false:=by decide):PE X (.Name x pos) (tC v) :=
 fun _ _ _ H _ I h=>yE I hg hm ⟨v,H,I,r,h⟩ hd
theorem pe_bltn{x:Str}{v:V}{u:KO}{pos:Pos}(hg:Gl X x)(hm:X.mg x=none)(hv:Y4 x=some u)(r:jV v u)(hn:x ≠ "__name__":=by decide)(hd:(x == ("__debug__":Str))=false:=by decide):PE X (.Name x pos) (tC v) :=
 fun _ _ _ H _ I h=>uc I hg hm hv ⟨v,H,I,r,h⟩ hn hd
variable {a b:Expr} {ta tb:TE} {pos:Pos}
noncomputable def PC(X:Cx)(op:CmpOp)(a b:Expr)(t:TE):Prop :=
 ∀(pins:List (Addr×Obj)) (s:Shared) (σ:St) (H:Hp) (Q:VK),Inv X pins σ H s->t σ H Q ->
  wpAny (model X.prog X.w) X.A (eval a X.env) (fun v s₁=>wpAny (model X.prog X.w) X.A (eval b X.env) (fun u s₂=>wpAny (model X.prog X.w) X.A (Yh op v u) (EP X pins σ Q) X.xe s₂) X.xe s₁) X.xe s
theorem nobehind(b:Expr){op:CmpOp}(h:op ≠ .In)(h2:op ≠ .NotIn):Yu op b=false:=by
 have e1:(op == CmpOp.In)=false:=by cases op<;>first|rfl|exact absurd rfl h
 have e2:(op == CmpOp.NotIn)=false:=by cases op<;>first|rfl|exact absurd rfl h2
 cases b<;>simp[Yu,e1,e2]
noncomputable def tIsN(ta:TE):TE:=fun σ H Q=>ta σ H fun x H1=>Q (.bl (decide (x=.non))) H1
theorem jV.none_iff{x:V}{v:KO}(r:jV x v):(v == YD)=decide (x=.non):=by
 cases x with
 |non=>cases r;rfl
 |bl _=>cases r;rfl
 |int _=>obtain⟨t,rfl⟩:=r;rfl
 |str _=>obtain⟨t,rfl⟩:=r;rfl
 |byt _=>obtain⟨t,rfl⟩:=r;rfl
 |flt _=>obtain⟨t,rfl⟩:=r;rfl
 |ref _=>cases r;rfl
 |ty _=>cases r;rfl
theorem pc_isN{j pos'}(ha:PE X a ta):PC X .Is a (.Constant .none j pos') (tIsN ta):=by
 intro pins s σ H Q I h
 refine thn (ha pins s σ H _ I h) fun v s1 ⟨x,H1,I1,r1,q1⟩=>?_
 exact Constant_none (is_none_gen ⟨.bl _,H1,I1,by rw[r1.none_iff];rfl,q1⟩)
noncomputable def tB(t:TE):TT:=fun σ H Q=>t σ H fun x H1=>∃c,x=.bl c/\Q c H1
theorem pt_cmp{op:CmpOp}{t:TE}(h:PC X op a b t)(h1:Yu op b=false:=by first|exact nobehind _ (by decide) (by decide)|rfl):PT X (.Compare a [op] [b] pos) (tB t):=by
 intro pins s σ H Q I hw;refine wpAny_isTrue_Compare1 (thn (h pins s σ H _ I hw) fun v s1 h1=>thn h1 fun u s2 h2=>thn h2 fun c s3 ⟨x,H1,I1,r1,q1⟩=>?_) h1;obtain⟨d,rfl,q⟩:=q1;cases r1;exact Xu ⟨H1,I1,q⟩
theorem pt_val{e:Expr}{t:TE}(h:PE X e t)(he:∀whole,isTrue e X.env whole=(do let v <- whole;standAt e.pos;Zo [v] (truthy v)):=by intro _;rfl):PT X e (tB t):=by
 intro pins s σ H Q I hw;refine isTrue_plain (thn (h pins s σ H _ I hw) fun v s1 ⟨x,H1,I1,r1,q1⟩=>?_) (he _);obtain⟨d,rfl,q⟩:=q1;cases r1;exact Xu ⟨H1,I1,q⟩
variable {tA tB':TT} {rest:List Expr}
noncomputable def tAnd(t u:TT):TT:=fun σ H Q=>t σ H fun c H1=>if c=true then u σ H1 Q else Q false H1
noncomputable def tOr(t u:TT):TT:=fun σ H Q=>t σ H fun c H1=>if c=true then Q true H1 else u σ H1 Q
noncomputable def tNot(t:TT):TT:=fun σ H Q=>t σ H fun c H1=>Q (!c) H1
theorem pw_and1(ha:PT X a tA):PW X (.BoolOp .And [a] pos) tA:=by
 intro wh pins s σ H Q I h;refine isTrue_and (thn (ha pins s σ H Q I h) fun c s1 e=>?_)
 cases c with
 |true=>exact isTrue_and_nil e
 |false=>exact e
theorem pw_or1(ha:PT X a tA):PW X (.BoolOp .Or [a] pos) tA:=by
 intro wh pins s σ H Q I h;refine isTrue_or (thn (ha pins s σ H Q I h) fun c s1 e=>?_)
 cases c with
 |false=>exact isTrue_or_nil e
 |true=>exact e
theorem pw_and(ha:PT X a tA)(hb:PW X (.BoolOp .And (b::rest) pos) tB'):PW X (.BoolOp .And (a::b::rest) pos) (tAnd tA tB'):=by
 intro wh pins s σ H Q I h;refine isTrue_and (thn (ha pins s σ H _ I h) fun c s1 ⟨H1,I1,q1⟩=>?_)
 cases c with
 |true=>exact hb wh pins s1 σ H1 Q I1 q1
 |false=>exact⟨H1,I1,q1⟩
theorem pw_or(ha:PT X a tA)(hb:PW X (.BoolOp .Or (b::rest) pos) tB'):PW X (.BoolOp .Or (a::b::rest) pos) (tOr tA tB'):=by
 intro wh pins s σ H Q I h;refine isTrue_or (thn (ha pins s σ H _ I h) fun c s1 ⟨H1,I1,q1⟩=>?_)
 cases c with
 |true=>exact⟨H1,I1,q1⟩
 |false=>exact hb wh pins s1 σ H1 Q I1 q1
theorem pt_not(ha:PT X a tA):PT X (.UnaryOp .Not a pos) (tNot tA):=by
 intro pins s σ H Q I h;exact isTrue_not (ha pins s σ H (fun c H1=>Q (!c) H1) I h)
noncomputable def tAndV(ta tb:TE):TE:=fun σ H Q=>ta σ H fun x H1=>∃c,x=.bl c/\if c=true then tb σ H1 Q else Q (.bl false) H1
noncomputable def tOrV(ta tb:TE):TE:=fun σ H Q=>ta σ H fun x H1=>∃c,x=.bl c/\if c=true then Q (.bl true) H1 else tb σ H1 Q
noncomputable def tNotV(ta:TE):TE:=fun σ H Q=>ta σ H fun x H1=>∃c,x=.bl c/\Q (.bl (!c)) H1
theorem pe_one{op}{t:TE}(h:PE X a t):PE X (.BoolOp op [a] pos) t:=fun pins s σ H Q I hw=>BoolOp_one (h pins s σ H Q I hw)
theorem pe_and(ha:PE X a ta)(hb:PE X (.BoolOp .And (b::rest) pos) tb):PE X (.BoolOp .And (a::b::rest) pos) (tAndV ta tb):=by
 intro pins s σ H Q I h;refine BoolOp_and (thn (ha pins s σ H _ I h) fun v s1 ⟨x,H1,I1,r1,q1⟩=>?_);obtain⟨c,rfl,q1⟩:=q1;cases r1;refine Xu ?_
 cases c with
 |true=>exact hb pins s1 σ H1 Q I1 q1
 |false=>exact⟨.bl false,H1,I1,rfl,q1⟩
theorem pe_or(ha:PE X a ta)(hb:PE X (.BoolOp .Or (b::rest) pos) tb):PE X (.BoolOp .Or (a::b::rest) pos) (tOrV ta tb):=by
 intro pins s σ H Q I h;refine BoolOp_or (thn (ha pins s σ H _ I h) fun v s1 ⟨x,H1,I1,r1,q1⟩=>?_);obtain⟨c,rfl,q1⟩:=q1;cases r1;refine Xu ?_
 cases c with
 |false=>exact hb pins s1 σ H1 Q I1 q1
 |true=>exact⟨.bl true,H1,I1,rfl,q1⟩
theorem pe_not(ha:PE X a ta):PE X (.UnaryOp .Not a pos) (tNotV ta):=by
 intro pins s σ H Q I h;refine UnaryOp_ (thn (ha pins s σ H _ I h) fun v s1 ⟨x,H1,I1,r1,q1⟩=>?_);obtain⟨c,rfl,q1⟩:=q1;cases r1;exact not_of (Xu ⟨.bl (!c),H1,I1,rfl,q1⟩)
noncomputable def tIf(t:TT)(ta tb:TE):TE:=fun σ H Q=>t σ H fun c H1=>if c=true then ta σ H1 Q else tb σ H1 Q
theorem pe_ifExp{c:Expr}(hc:PT X c tA)(ha:PE X a ta)(hb:PE X b tb):PE X (.IfExp c a b pos) (tIf tA ta tb):=by
 intro pins s σ H Q I h;refine wpAny_IfExp (thn (hc pins s σ H _ I h) fun d s1 ⟨H1,I1,q1⟩=>?_)
 cases d with
 |true=>exact ha pins s1 σ H1 Q I1 q1
 |false=>exact hb pins s1 σ H1 Q I1 q1
end
end L2
namespace L2
open PySem PySem.Spec PyProof.Rows
noncomputable def SqL(K:KN)(H:Hp)(a:Addr)(xs:List V):Prop :=
 Rd H a (.lst xs) \/
  ∃(o:Obj) (its:Array KO) (n:Nat),K.lookup a=some o/\o.cls=.type "list" /\ o.dict=none/\o.data=.seq its n/\its.size<=sizeLine/\jG xs its.toList
noncomputable def SqT(K:KN)(H:Hp)(a:Addr)(xs:List V):Prop :=
 Rd H a (.tup xs) \/
  ∃(o:Obj) (its:Array KO) (n:Nat),K.lookup a=some o/\o.cls=.type "tuple" /\ o.data=.seq its n/\its.size<=sizeLine/\jG xs its.toList
noncomputable def absV:KO->Option V
 |.none=>some .non
 |.bool b=>some (.bl b)
 |.int i _=>some (.int i)
 |.str x _=>some (.str x)
 |.bytes b _=>some (.byt b)
 |.float b _=>some (.flt b)
 |.ref a=>some (.ref a)
 |.type n=>some (.ty n)
 |_=>none
theorem jV.abs{x:V}{u:KO}(r:jV x u):absV u=some x:=by
 cases x with
 |non=>cases r;rfl
 |bl _=>cases r;rfl
 |int _=>obtain⟨t,rfl⟩:=r;rfl
 |str _=>obtain⟨t,rfl⟩:=r;rfl
 |byt _=>obtain⟨t,rfl⟩:=r;rfl
 |flt _=>obtain⟨t,rfl⟩:=r;rfl
 |ref _=>cases r;rfl
 |ty _=>cases r;rfl
theorem jV.inj{x y:V}{u:KO}(r:jV x u)(q:jV y u):x=y:=Q5 (r.abs.symm.trans q.abs)
theorem jG.inj:∀ {xs ys:List V} {us:List KO},jG xs us->jG ys us->xs=ys
 |_,_,_,.nil,.nil=>rfl
 |_,_,_,.cons r t,.cons r' t'=>by rw[r.inj r',jG.inj t t']
section
variable {X:Cx} {pins:List (Addr×Obj)} {σ:St} {H:Hp} {s:Shared} {a:Addr} {xs ys:List V}
theorem SqL.of{K:KN}(h:H a=some (.lst xs)):SqL K H a xs:=.inl (.inl h)
theorem SqT.of{K:KN}(h:H a=some (.tup xs)):SqT K H a xs:=.inl (.inl h)
theorem Inv.list(I:Inv X pins σ H s)(h:SqL X.K H a xs):∃its:List KO,jG xs its/\PlainL s.heap a its.toArray/\xs.length<=sizeLine:=by
 rcases h with h|⟨o,its,n,hk,hc,hd,hs,hz,r⟩
 ·obtain⟨z,its,n,r,e⟩:=h.ok I.hok;exact⟨its,r,⟨_,n,e,rfl,rfl,rfl⟩,z⟩
 ·refine⟨its.toList,r,⟨o,n,I.kIn a o hk,hc,hd,by simpa using hs⟩,?_⟩;have e:=r.length;simp only[Ud]at e;omega
theorem Inv.tuple(I:Inv X pins σ H s)(h:SqT X.K H a xs):∃its:List KO,jG xs its/\IsTup s.heap a its.toArray/\xs.length<=sizeLine:=by
 rcases h with h|⟨o,its,n,hk,hc,hs,hz,r⟩
 ·obtain⟨z,its,r,p⟩:=h.ok I.hok;exact⟨its,r,p,z⟩
 ·refine⟨its.toList,r,⟨o,I.kIn a o hk,hc,n,by simpa using hs⟩,?_⟩;have e:=r.length;simp only[Ud]at e;omega
theorem Inv.list_inj(I:Inv X pins σ H s)(h:SqL X.K H a xs)(h':SqL X.K H a ys):xs=ys:=by
 obtain⟨its,r,⟨o,n,e,_,_,d⟩,_⟩:=I.list h;obtain⟨its',r',⟨o',n',e',_,_,d'⟩,_⟩:=I.list h';rw[e]at e';cases e';rw[d]at d';injection d' with d1 _
 have:its=its':=by simpa using congrArg Array.toList d1
 subst this;exact r.inj r'
theorem Inv.tuple_inj(I:Inv X pins σ H s)(h:SqT X.K H a xs)(h':SqT X.K H a ys):xs=ys:=by
 obtain⟨its,r,⟨o,e,_,n,d⟩,_⟩:=I.tuple h;obtain⟨its',r',⟨o',e',_,n',d'⟩,_⟩:=I.tuple h';rw[e]at e';cases e';rw[d]at d';injection d' with d1 _
 have:its=its':=by simpa using congrArg Array.toList d1
 subst this;exact r.inj r'
end
abbrev Cx.wish(X:Cx)(E:KO->Shared->Prop):Cx:={ X with xe:=E }
abbrev Cx.nox(X:Cx):Cx:=X.wish fun _ _=>False
theorem Cx.Ok.wish{X:Cx}(ok:X.Ok)(E:KO->Shared->Prop):(X.wish E).Ok :=
 ⟨ok.mod,ok.kind,ok.glob,ok.blt,ok.above,ok.inj,ok.has,ok.cab,ok.hd,ok.frames,ok.stk,ok.exf,ok.bs,ok.bsz,ok.noex,ok.exfs,ok.funs,ok.frf⟩
theorem Cx.Ok.unwish{X:Cx}{E:KO->Shared->Prop}(ok:(X.wish E).Ok):X.Ok :=
 ⟨ok.mod,ok.kind,ok.glob,ok.blt,ok.above,ok.inj,ok.has,ok.cab,ok.hd,ok.frames,ok.stk,ok.exf,ok.bs,ok.bsz,ok.noex,ok.exfs,ok.funs,ok.frf⟩
section
variable {X:Cx} {pins:List (Addr×Obj)} {σ:St} {H:Hp} {s:Shared} {E:KO->Shared->Prop}
theorem Inv.wish(I:Inv X pins σ H s)(E:KO->Shared->Prop):Inv (X.wish E) pins σ H s:=⟨I.ok.wish E,I.os,I.bare,I.base,I.loc,I.cell,I.free,I.freeC,I.pin,I.hok,I.len⟩
theorem Inv.unwish(I:Inv (X.wish E) pins σ H s):Inv X pins σ H s:=⟨I.ok.unwish,I.os,I.bare,I.base,I.loc,I.cell,I.free,I.freeC,I.pin,I.hok,I.len⟩
theorem SP.unwish{D:Ends}{f:Flow}{s':Shared}(h:SP (X.wish E) pins D f s'):SP X pins D f s':=by
 cases f with
 |next=>obtain⟨σ',H',I,q⟩:=h;exact⟨σ',H',I.unwish,q⟩
 |brk=>obtain⟨σ',H',I,q⟩:=h;exact⟨σ',H',I.unwish,q⟩
 |cont=>obtain⟨σ',H',I,q⟩:=h;exact⟨σ',H',I.unwish,q⟩
 |ret u=>obtain⟨v,σ',H',I,r,q⟩:=h;exact⟨v,σ',H',I.unwish,r,q⟩
theorem PT.nox{e:Expr}{t:TT}(h:PT X.nox e t):PT X e t:=fun pins s σ H Q I hw =>
 QY (h pins s σ H Q (I.wish _) hw) (fun _ _ ⟨H',I',q⟩=>⟨H',I'.unwish,q⟩) fun _ _ z=>XL z
theorem PSs.nox{st:List Stmt}{t:TS}(h:PSs X.nox st t):PSs X st t:=fun pins s σ H D I hw =>
 QY (h pins s σ H D (I.wish _) hw) (fun _ _ q=>q.unwish) fun _ _ z=>XL z
end
section
variable {X:Cx} {st:Stmt} {rest:List Stmt} {t u:TS} {e:Expr} {te:TE} {pos:Pos}
noncomputable def yQ:TS:=fun D σ H=>D.nx σ H
noncomputable def tSeq(t u:TS):TS:=fun D σ H=>t { D with nx:=u D } σ H
theorem j7:PSs X [] yQ:=fun _ _ σ H _ I h=>Z6 ⟨σ,H,I,h⟩
theorem jr(h1:PS X st t)(h2:PSs X rest u):PSs X (st::rest) (tSeq t u):=by
 intro pins s σ H D I h;refine wpAny_execs_cons (thn (h1 pins s σ H { D with nx:=u D } I h) fun f s1 q=>?_)
 cases f with
 |next =>
  obtain⟨σ',H',I',q⟩:=q
  exact h2 pins s1 σ' H' D I' q
 |ret v=>exact q
 |brk=>exact q
 |cont=>exact q
theorem pss_one(h1:PS X st t):PSs X [st] t:=by
 intro pins s σ H D I h;refine wpAny_execs_cons (thn (h1 pins s σ H D I h) fun f s1 q=>?_)
 cases f with
 |next=>exact Z6 q
 |ret v=>exact q
 |brk=>exact q
 |cont=>exact q
noncomputable def tBreak:TS:=fun D σ H=>D.bk σ H
noncomputable def tCont:TS:=fun D σ H=>D.ct σ H
theorem ps_break:PS X (.Break pos) tBreak:=fun _ _ σ H _ I h=>wpAny_Break ⟨σ,H,I,h⟩
theorem ps_continue:PS X (.Continue pos) tCont:=fun _ _ σ H _ I h=>wpAny_Continue ⟨σ,H,I,h⟩
theorem Inv.quiet{pins:List (Addr×Obj)}{σ:St}{H:Hp}{s:Shared}(I:Inv X pins σ H s):interactive X.env=false:=by simp[interactive,I.ok.kind]
noncomputable def tDrop(te:TE):TS:=fun D σ H=>te σ H fun _ H1=>D.nx σ H1
theorem zO(he:PE X e te)(hs:Y5 e none pos.line X.env=pure false:=by rfl):PS X (.Expr e pos) (tDrop te):=by
 intro pins s σ H D I h;exact wpAny_Expr_any (thn (he pins s σ H _ I h) fun v s1 ⟨x,H1,I1,r1,q1⟩=>⟨σ,H1,I1,q1⟩) I.quiet hs
noncomputable def tRet(te:TE):TS:=fun D σ H=>te σ H D.rt
theorem qY(he:PE X e te):PS X (.Return (some e) pos) (tRet te):=by
 intro pins s σ H D I h;exact wpAny_Return_some (thn (he pins s σ H _ I h) fun v s1 ⟨x,H1,I1,r1,q1⟩=>⟨x,σ,H1,I1,r1,q1⟩)
noncomputable def tIfS(c:TT)(t u:TS):TS:=fun D σ H=>c σ H fun b H1=>if b=true then t D σ H1 else u D σ H1
theorem ps_if{c:Expr}{a b:List Stmt}{tc:TT}(hc:PT X c tc)(ha:PSs X a t)(hb:PSs X b u):PS X (.If c a b pos) (tIfS tc t u):=by
 intro pins s σ H D I h;refine wpAny_If (thn (hc pins s σ H _ I h) fun d s1 ⟨H1,I1,q1⟩=>?_)
 cases d with
 |true=>exact ha pins s1 σ H1 D I1 q1
 |false=>exact hb pins s1 σ H1 D I1 q1
noncomputable def tNever:TS:=fun _ _ _=>False
theorem ps_never:PS X st tNever:=fun _ _ _ _ _ _ h=>h.elim
end
abbrev TG:=V->St->Hp->(St->Hp->Prop)->Prop
abbrev TGs:=List V->St->Hp->(St->Hp->Prop)->Prop
noncomputable def PG(X:Cx)(target:Expr)(t:TG):Prop :=
 ∀(pins:List (Addr×Obj)) (s:Shared) (σ:St) (H:Hp) (v:V) (u:KO) (Q:St->Hp->Prop),Inv X pins σ H s->jV v u->t v σ H Q ->
  wpAny (model X.prog X.w) X.A (assign target X.env u) (fun _ s'=>∃σ' H',Inv X pins σ' H' s'/\Q σ' H') X.xe s
noncomputable def PGs(X:Cx)(ts:List Expr)(t:TGs):Prop :=
 ∀(pins:List (Addr×Obj)) (s:Shared) (σ:St) (H:Hp) (vs:List V) (us:List KO) (Q:St->Hp->Prop),Inv X pins σ H s->jG vs us->t vs σ H Q ->
  wpAny (model X.prog X.w) X.A (assignInOrder ((X9 ts X.env).map (·.2)) us) (fun _ s'=>∃σ' H',Inv X pins σ' H' s'/\Q σ' H') X.xe s
abbrev TSet:=V->V->V->Hp->(Hp->Prop)->Prop
noncomputable def PSet(X:Cx)(t:TSet):Prop :=
 ∀(pins:List (Addr×Obj)) (s:Shared) (σ:St) (H:Hp) (o i v:V) (ov iv u:KO) (Q:Hp->Prop),Inv X pins σ H s->jV o ov->jV i iv->jV v u->t o i v H Q ->
  wpAny (model X.prog X.w) X.A (setItem ov iv u) (fun _ s'=>∃H',Inv X pins σ H' s'/\Q H') X.xe s
section
variable {X:Cx} {pos:Pos}
noncomputable def k7(i:Nat):TG:=fun v σ H Q=>Q (σ.set i (some v)) H
theorem xY{i:Nat}{x:Str}(hN:X.N.Nodup)(hi:X.N[i]?=some x)(hx:Loc X.env.scope x)(hf:X.fn x=true\/X.env.scope.names.lookup x=some .local:=by first|exact .inl rfl|exact .inr rfl|assumption):PG X (.Name x pos) (k7 i):=by
 intro pins s σ H v u Q I r h;exact wpAny_assign_Name (zQ I hN hi hx r (fun s' I'=>⟨_,H,I',h⟩) hf)
noncomputable def gNil:TGs:=fun vs σ H Q=>vs=[]/\Q σ H
noncomputable def gCons(t:TG)(u:TGs):TGs:=fun vs σ H Q=>∃v r,vs=v::r/\t v σ H fun σ' H'=>u r σ' H' Q
theorem pgs_nil:PGs X [] gNil:=by
 intro pins s σ H vs us Q I r h;obtain⟨e,h⟩:=h;subst e;cases r;exact assignInOrder_nil ⟨σ,H,I,h⟩
theorem uV{e:Expr}{es:List Expr}{t:TG}{u:TGs}(h1:PG X e t)(h2:PGs X es u)
 (hs:(X9 (e::es) X.env).map (·.2)=assign e X.env::(X9 es X.env).map (·.2):=by rfl):PGs X (e::es) (gCons t u):=by
 intro pins s σ H vs us Q I r h;obtain⟨v,vr,e1,h⟩:=h;subst e1
 cases r with
 |cons r rr =>
  rw[hs];refine assignInOrder_cons (thn (h1 pins s σ H _ _ _ I r h) fun _ s1 ⟨σ1,H1,I1,q1⟩=>?_);exact h2 pins s1 σ1 H1 _ _ Q I1 rr q1
noncomputable def gTup(K:KN)(n:Nat)(t:TGs):TG:=fun v σ H Q=>∃a xs,v=.ref a/\SqT K H a xs/\xs.length=n/\t xs σ H Q
theorem pg_tup{es:List Expr}{k:Nat}{t:TGs}{n:Nat}(hc:X.calm=true)(h:PGs X es t)
 (hn:(X9 es X.env).length=n:=by rfl) (hst:(X9 es X.env).findIdx? (·.1)=none:=by rfl):PG X (.Tuple es k pos) (gTup X.K n t):=by
 intro pins s σ H v u Q I r hw;obtain⟨a,xs,e1,hq,hl,hw⟩:=hw;subst e1;cases r;obtain⟨its,rv,ht,hz⟩:=I.tuple hq
 refine assign_Tuple_tuple (I.ok.hd hc) ht (by simp[hn,<- hl,rv.length]) hst fun h' hx=>?_
 have I1:Inv X pins σ H { s with heap:=h' }:=I.kept (t':=s.toks) fun b o e=>hx b o (Q0 (K2 e)) e
 exact h pins _ σ H xs _ Q I1 (by simpa using rv) hw
noncomputable def gSub(to ti:TE)(t:TSet):TG:=fun v σ H Q=>to σ H fun o H1=>ti σ H1 fun i H2=>t o i v H2 fun H3=>Q σ H3
theorem pg_sub{o i:Expr}{to ti:TE}{t:TSet}(ho:PE X o to)(hi:PE X i ti)(hs:PSet X t)
 (ha:∀v,assign (.Subscript o i pos) X.env v=(do
  let ov <- Zo [v] (eval o X.env)
  let iv <- Zo [v,ov] (eval i X.env)
  standAt pos
  Zo [v,ov,iv] (setItem ov iv v)
  release [v,ov,iv] []):=by intro _;rfl):PG X (.Subscript o i pos) (gSub to ti t):=by
 intro pins s σ H v u Q I r h;rw[ha];refine KL (QB (thn (ho pins s σ H _ I h) fun ov s1 ⟨x,H1,I1,r1,q1⟩=>?_));refine KL (QB (thn (hi pins s1 σ H1 _ I1 q1) fun iv s2 ⟨y,H2,I2,r2,q2⟩=>?_));refine KL (YO (KL (QB (thn (hs pins s2 σ H2 x y v ov iv u _ I2 r1 r2 r q2) fun _ s3 ⟨H3,I3,q3⟩=>?_))));exact wpAny_release ⟨σ,H3,I3,q3⟩
noncomputable def vS(te:TE)(g:TG):TS:=fun D σ H=>te σ H fun x H1=>g x σ H1 D.nx
theorem Ks{tg e:Expr}{te:TE}{g:TG}(he:PE X e te)(hg:PG X tg g)(hs:swapsWithSole [tg] e pos.line X.env=pure false:=by rfl)(hw:swappedStores [tg] e X.env=pure none:=by rfl)
 (h1:(X9 [tg] X.env).map (·.2)=[assign tg X.env]:=by rfl):PS X (.Assign [tg] e pos) (vS te g):=by
 intro pins s σ H D I h;refine wpAny_Assign_stores (thn (he pins s σ H _ I h) fun v s1 ⟨x,H1,I1,r1,q1⟩=>?_) hs hw;rw[h1]
 exact thn (hg pins s1 σ H1 x v _ I1 r1 q1) fun _ s2 q=>q
theorem yh{i:Nat}{x:Str}{e:Expr}{te:TE}{pos':Pos}(hN:X.N.Nodup)(hi:X.N[i]?=some x)(hx:Loc X.env.scope x)(he:PE X e te)(hs:Y5 e (some (.Name x pos')) pos.line X.env=pure false:=by rfl)(hf:X.fn x=true\/X.env.scope.names.lookup x=some .local:=by first|exact .inl rfl|exact .inr rfl|assumption) :
 PS X (.Assign [.Name x pos'] e pos) (vS te (k7 i)):=by
 intro pins s σ H D I h;refine wpAny_Assign_Name (thn (he pins s σ H _ I h) fun v s1 ⟨y,H1,I1,r1,q1⟩=>?_) hs;exact zQ I1 hN hi hx r1 (fun s2 I2=>⟨_,H1,I2,q1⟩) hf
end
section
variable {X:Cx} {pos:Pos}
noncomputable def tWhile(c:TT)(tb:TS):TS:=fun D σ H=>∃W:Nat->St->Hp->Prop,(∃m,W m σ H)/\∀m σ H,W m σ H ->
 c σ H fun b H1=>if b=true then ∃N:St->Hp->Prop,(∀σ' H',N σ' H'->∃m',m'<m/\W m' σ' H')/\tb { D with nx:=N,ct:=N,bk:=D.nx } σ H1 else D.nx σ H1
theorem ps_while{c:Expr}{body:List Stmt}{tc:TT}{tb:TS}(hp:PassesOwn (model X.prog X.w) X.A X.env X.xe)(hc:PT X c tc)(hb:PSs X body tb):PS X (.While c body [] pos) (tWhile tc tb):=by
 intro pins s σ H D I h;obtain⟨W,⟨m0,w0⟩,turn⟩:=h;refine wpAny_While (codeAny_whileLoop (fun n s'=>∃σ' H',Inv X pins σ' H' s'/\W n σ' H') ?_ m0 ⟨σ,H,I,w0⟩);rintro n s1 ⟨σ1,H1,I1,w1⟩;refine Yi hp (thn (hc pins s1 σ1 H1 _ I1 (turn n σ1 H1 w1)) fun b s2 ⟨H2,I2,q2⟩=>?_)
 cases b with
 |true =>
  obtain⟨N,hN,q2⟩:=q2;rw[if_pos rfl];refine Yi hp (thn (hb pins s2 σ1 H2 _ I2 q2) fun f s3 q3=>?_)
  cases f with
  |next =>
   obtain⟨σ3,H3,I3,n3⟩:=q3;obtain⟨m',hm,w3⟩:=hN σ3 H3 n3
   exact⟨m',hm,σ3,H3,I3,w3⟩
  |cont =>
   obtain⟨σ3,H3,I3,n3⟩:=q3;obtain⟨m',hm,w3⟩:=hN σ3 H3 n3
   exact⟨m',hm,σ3,H3,I3,w3⟩
  |brk=>exact q3
  |ret v=>exact q3
 |false =>
  rw[if_neg Xf];exact Z6 ⟨σ1,H2,I2,q2⟩
end
structure It where
 go:Nat->Hp->Prop
 yld:Nat->Hp->V->Hp->Prop
 stop:Nat->Hp->Prop
noncomputable def ur(X:Cx)(pins:List (Addr×Obj))(H:Hp)(b:Addr):Prop :=
 H b=none/\b≠X.env.locals/\b ∉ X.fs/\(b∈X.ex\/X.s₀.heap.objs.size<=b)/\(∀x c,X.env.cells.lookup x=some c->c≠b)/\∀p∈X.pn++pins,p.1≠b
theorem Inv.fpOk{X:Cx}{pins:List (Addr×Obj)}{σ:St}{H H':Hp}{s:Shared}{b:Addr}(I:Inv X pins σ H s)(hb:s.heap.objs.size<=b)(hn:H' b=none):ur X pins H' b:=by
 refine⟨hn,YE (Qn I.lt hb),I.nofs hb,.inr (Qx I.sz hb),fun x c e z=>?_,fun p hp z=>?_⟩
 ·obtain⟨v,q⟩:=I.cell x c e;exact absurd (Qn q.lt (by rw[z];exact hb)) (Q9 _)
 ·exact absurd (Qn (K2 (I.pin p hp).1) (by rw[z];exact hb)) (Q9 _)
structure Turn (P:Qp) (w:World) (K:KN) (tg:Expr) (J:It) (fp:List Addr) (it:Addr) (tn:Nat->QG->Prop):Prop where
 mem:it∈fp
 obj:∀i h,tn i h->∀b∈fp,∃o,h.get? b=some o/\∀v,o.data ≠ .cell v
 keep:∀i h h',tn i h->(∀b∈fp,∀o,h.get? b=some o->h'.get? b=some o)->tn i h'
 item:∀(X:Cx),X.prog=P->X.w=w->X.K=K->X.calm=true->∀(i:Nat) (pins:List (Addr×Obj)) (s:Shared) (σ:St) (H:Hp) (E:KO->Shared->Prop),Inv X pins σ H s->(∀b∈fp,ur X pins H b)->tn i s.heap->J.go i H ->
  wpAny (model P w) X.A (pyNext (.ref it)) (fun r s1=>∃u,r=some u /\
   wpAny (model P w) X.A (YJ tg (.ref it) u) (fun _ s2=>∃x H',Inv X pins σ H' s2/\jV x u/\J.yld i H x H'/\tn (i+1) s2.heap/\∀b∈fp,H' b=none) E s1) E s
 done:∀(X:Cx),X.prog=P->X.w=w->X.K=K->X.calm=true->∀(i:Nat) (pins:List (Addr×Obj)) (s:Shared) (σ:St) (H:Hp) (E:KO->Shared->Prop),Inv X pins σ H s->(∀b∈fp,ur X pins H b)->tn i s.heap->J.stop i H ->
  wpAny (model P w) X.A (pyNext (.ref it)) (fun r s1=>r=none/\Inv X pins σ H s1) E s
 self:∀(A:QH) (i:Nat) (s:Shared) (Q:KO->Shared->Prop) (E:KO->Shared->Prop),tn i s.heap->Q (.ref it) s->wpAny (model P w) A (pyIter (.ref it)) Q E s
abbrev TI:=St->Hp->(It->Hp->Prop)->Prop
noncomputable def PIE(X:Cx)(pins:List (Addr×Obj))(σ:St)(tg:Expr)(R:It->Hp->Prop)(itv:KO)(s2:Shared):Prop :=
 ∃(it:Addr) (fp:List Addr) (tn:Nat->QG->Prop) (J:It) (H':Hp),itv=.ref it/\Inv X pins σ H' s2/\Turn X.prog X.w X.K tg J fp it tn/\tn 0 s2.heap/\(∀b∈fp,ur X pins H' b)/\R J H'
noncomputable def PI(X:Cx)(tg iter:Expr)(wi:TI):Prop :=
 ∀(pins:List (Addr×Obj)) (s:Shared) (σ:St) (H:Hp) (R:It->Hp->Prop),Inv X pins σ H s->wi σ H R ->
  wpAny (model X.prog X.w) X.A (eval iter X.env) (fun v s1=>wpAny (model X.prog X.w) X.A (pyIter v) (PIE X pins σ tg R) X.xe s1) X.xe s
theorem go_of{M:Model}{A:QH}{E:KO->Shared->Prop}{s:Shared}{tg:Expr}{it:Addr}{u:KO}{o:Obj}{n:String}{vs:Array KO}{Q:Unit->Shared->Prop}(ho:s.heap.get? it=some o)(hc:o.cls=.type n)(hd:o.data=.fields vs)
 (hn:["enumerate","zip","dict_itemiterator","dict_reverseitemiterator","odict_iterator","itertools.zip_longest","itertools.pairwise"].contains n=false) (hQ:Q () s):wpAny M A (YJ tg (.ref it) u) Q E s:=by
 unfold YJ
 cases tg<;>first
  |exact KW hQ
  |(cases u<;>first
   |exact KW hQ
   |(refine KL (wpAny_load ho ?_)
     rw[hc,hd];show wpAny M A (if (["enumerate","zip","dict_itemiterator","dict_reverseitemiterator","odict_iterator","itertools.zip_longest","itertools.pairwise"].contains n&&vs[0]? == some (rawInt _))=true then _ else _) Q E s;rw[if_neg (by intro h;rw[hn,Bool.false_and]at h;cases h)]
     exact KW hQ))
noncomputable def Itl(K:KN)(a:Addr):It :=
 ⟨fun i H=>∃xs x,SqL K H a xs/\xs[i]?=some x,fun i H x H'=>H'=H/\∀xs,SqL K H a xs->xs[i]?=some x,fun i H=>∃xs,SqL K H a xs/\xs.length<=i⟩
noncomputable def Itt(K:KN)(a:Addr):It :=
 ⟨fun i H=>∃xs x,SqT K H a xs/\xs[i]?=some x,fun i H x H'=>H'=H/\∀xs,SqT K H a xs->xs[i]?=some x,fun i H=>∃xs,SqT K H a xs/\xs.length<=i⟩
theorem Jl{P:Qp}{w:World}{K:KN}{tg:Expr}(a it:Addr):Turn P w K tg (Itl K a) [it] it (fun i h=>h.IsListIter it a i) where
 mem:=by simp
 obj:=fun i h st b hb=>by
  have e:b=it:=by simpa using hb
  subst e;obtain⟨o,e,c,d⟩:=st;exact⟨o,e,fun v z=>by rw[d]at z;cases z⟩
 keep:=fun i h h' st k=>st.at fun o e=>k it (by simp) o e
 item:=by
  intro X hP hw hK hc i pins s σ H E I hf st hg;subst hP hw hK;obtain⟨xs,x,hq,hx⟩:=hg;obtain⟨its,rv,p,hz⟩:=I.list hq;obtain⟨u,hu,ru⟩:=rv.get hx;obtain⟨f0,f1,f2,f3,f4,f5⟩:=hf it (by simp)
  refine wpAny_pyNext_list_item st p.isList (x:=u) (by simpa using hu) fun h' st' sb=>?_
  have I1:Inv X pins σ H { s with heap:=h' }:=I.turned (t':=s.toks) (fun b o hb e=>(sb.2 b hb).trans e) f0 f1 f3 f4 f5;obtain⟨o,e,c,d⟩:=id st';exact⟨u,rfl,go_of (s:={ s with heap:=h' }) e c d (by decide) ⟨x,H,I1,ru,⟨rfl,fun ys hy=>by rw[I.list_inj hy hq];exact hx⟩,st',fun b hb=>(hf b hb).1⟩⟩
 done:=by
  intro X hP hw hK hc i pins s σ H E I hf st hg;subst hP hw hK;obtain⟨xs,hq,hx⟩:=hg;obtain⟨its,rv,p,hz⟩:=I.list hq;obtain⟨f0,f1,f2,f3,f4,f5⟩:=hf it (by simp);have hl:=rv.length
  exact wpAny_pyNext_list_end (I.ok.hd hc) st p.isList (by simp;omega) fun h' eb=>⟨rfl,I.turned (t':=s.toks) (fun b o hb e=>eb b o hb e) f0 f1 f3 f4 f5⟩
 self:=fun _ _ _ _ _ st h=>wpAny_pyIter_listiter st h
theorem turn_tuple{P:Qp}{w:World}{K:KN}{tg:Expr}(a it:Addr):Turn P w K tg (Itt K a) [it] it (fun i h=>h.IsTupleIter it a i) where
 mem:=by simp
 obj:=fun i h st b hb=>by
  have e:b=it:=by simpa using hb
  subst e;obtain⟨o,e,c,d⟩:=st;exact⟨o,e,fun v z=>by rw[d]at z;cases z⟩
 keep:=fun i h h' st k=>st.at fun o e=>k it (by simp) o e
 item:=by
  intro X hP hw hK hc i pins s σ H E I hf st hg;subst hP hw hK;obtain⟨xs,x,hq,hx⟩:=hg;obtain⟨its,rv,p,hz⟩:=I.tuple hq;obtain⟨u,hu,ru⟩:=rv.get hx;obtain⟨f0,f1,f2,f3,f4,f5⟩:=hf it (by simp)
  refine wpAny_pyNext_tuple_item st (show s.heap.IsTuple a its.toArray from p) (x:=u) (by simpa using hu) fun h' st' sb=>?_
  have I1:Inv X pins σ H { s with heap:=h' }:=I.turned (t':=s.toks) (fun b o hb e=>(sb.2 b hb).trans e) f0 f1 f3 f4 f5;obtain⟨o,e,c,d⟩:=id st';exact⟨u,rfl,go_of (s:={ s with heap:=h' }) e c d (by decide) ⟨x,H,I1,ru,⟨rfl,fun ys hy=>by rw[I.tuple_inj hy hq];exact hx⟩,st',fun b hb=>(hf b hb).1⟩⟩
 done:=by
  intro X hP hw hK hc i pins s σ H E I hf st hg;subst hP hw hK;obtain⟨xs,hq,hx⟩:=hg;obtain⟨its,rv,p,hz⟩:=I.tuple hq;obtain⟨f0,f1,f2,f3,f4,f5⟩:=hf it (by simp);have hl:=rv.length
  exact wpAny_pyNext_tuple_end (I.ok.hd hc) st (show s.heap.IsTuple a its.toArray from p) (by simp;omega) fun h' eb=>⟨rfl,I.turned (t':=s.toks) (fun b o hb e=>eb b o hb e) f0 f1 f3 f4 f5⟩
 self:=fun _ _ _ _ _ st h=>wpAny_pyIter_tupleiter st h
end L2
namespace L2
open PySem PySem.Spec PyProof.Rows
section
variable {X:Cx} {tg:Expr}
noncomputable def iList(K:KN)(tl:TE):TI:=fun σ H R=>tl σ H fun x H1=>∃a,x=.ref a/\(∃xs,SqL K H1 a xs)/\R (Itl K a) H1
theorem pi_list{l:Expr}{tl:TE}(hl:PE X l tl):PI X tg l (iList X.K tl):=by
 intro pins s σ H R I h
 refine thn (hl pins s σ H _ I h) fun v s1 ⟨x,H1,I1,r1,q1⟩=>?_
 obtain⟨a,e,⟨xs,hq⟩,q⟩:=q1;subst e;cases r1;obtain⟨its,rv,p,hz⟩:=I1.list hq;refine XW p.isList ?_;refine⟨s1.heap.objs.size,[s1.heap.objs.size],_,_,H1,rfl,I1.kept (t':=s1.toks) fun b o e=>KQ _ e,Jl a _,⟨_,Qh _ rfl,rfl,rfl⟩,fun b hb=>?_,q⟩
 have e:b=s1.heap.objs.size:=by simpa using hb
 subst e;exact I1.fpOk (K6 _) (I1.hok.fresh (K6 _))
noncomputable def tFor(wi:TI)(g:TG)(tb:TS):TS:=fun D σ H=>wi σ H fun J H1=>∃W:Nat->Nat->St->Hp->Prop,(∃m,W 0 m σ H1)/\∀i m σ H,W i m σ H ->
 (J.stop i H/\D.nx σ H)\/(J.go i H/\∃N:St->Hp->Prop,(∀σ' H',N σ' H'->∃m',m'<m/\W (i+1) m' σ' H')/\∀x H',J.yld i H x H'->g x σ H' fun σ2 H2=>tb { D with nx:=N,ct:=N,bk:=D.nx } σ2 H2)
noncomputable def JW(fp:List Addr)(h:QG):List (Addr×Obj):=fp.filterMap fun b=>(h.get? b).map fun o=>(b,o)
theorem qo{fp:List Addr}{h:QG}{b:Addr}{o:Obj}(hb:b∈fp)(e:h.get? b=some o):(b,o)∈JW fp h:=Zs.mpr ⟨b,hb,by rw[e];rfl⟩
theorem of_pinsAt{fp:List Addr}{h:QG}{p:Addr×Obj}(hp:p∈JW fp h):p.1∈fp/\h.get? p.1=some p.2:=by
 obtain⟨b,hb,e⟩:=Zs.mp hp
 cases q:h.get? b with
 |none=>rw[q]at e;cases e
 |some o =>
  rw[q]at e;have e':(b,o)=p:=Q5 e;subst e';exact⟨hb,q⟩
theorem Inv.pinned{pins:List (Addr×Obj)}{σ:St}{H:Hp}{s:Shared}{fp:List Addr}(I:Inv X pins σ H s)(hf:∀b∈fp,ur X pins H b)(ho:∀b∈fp,∃o,s.heap.get? b=some o/\∀v,o.data ≠ .cell v):Inv X (pins++JW fp s.heap) σ H s :=
 I.pins_of fun p hp=>(QA.mp hp).elim (fun z=>I.pin p (K8 _ z)) fun z=>by
  obtain⟨hb,e⟩:=of_pinsAt z;obtain⟨f0,f1,f2,_⟩:=hf p.1 hb;obtain⟨o,e',d⟩:=ho p.1 hb;rw[e]at e';cases e';exact⟨e,f0,f1,f2,d⟩
theorem Inv.unpinned{pins pl:List (Addr×Obj)}{σ:St}{H:Hp}{s:Shared}(I:Inv X (pins++pl) σ H s):Inv X pins σ H s:=I.pins_of fun p hp=>I.pin p (K8 _ (Xe _ hp))
theorem z9{iter:Expr}{body:List Stmt}{wi:TI}{g:TG}{tb:TS}{pos:Pos}(hp:PassesOwn (model X.prog X.w) X.A X.env X.xe)(hc:X.calm=true)(hi:PI X tg iter wi)(hg:PG X tg g)(hb:PSs X body tb)
 (hs:∀x,XX iter X.env x=pure x:=by intro _;rfl):PS X (.For tg iter body [] pos) (tFor wi g tb):=by
 intro pins s σ H D I h;refine wpAny_For (thn (hi pins s σ H _ I h) fun v s1 h1=>thn h1 fun itv s2 h2=>?_) hs;obtain⟨it,fp,tn,J,H2,e,I2,T,st2,f2,W,⟨m0,w0⟩,turn⟩:=h2;subst e
 have stat:∀ {H':Hp},(∀b∈fp,H' b=none)->∀b∈fp,ur X pins H' b:=fun hn b hb=>⟨hn b hb,(f2 b hb).2⟩
 refine codeAny_forLoop_any (fun n s'=>∃i σ' H',Inv X pins σ' H' s'/\tn i s'.heap/\(∀b∈fp,H' b=none)/\W i n σ' H') ?_ m0 ⟨0,σ,H2,I2,st2,fun b hb=>(f2 b hb).1,w0⟩;rintro n s3 ⟨i,σ3,H3,I3,st3,fr3,w3⟩;rcases turn i n σ3 H3 w3 with⟨stop,qn⟩|⟨go,N,hN,step⟩
 ·refine Yi hp (thn (T.done X rfl rfl rfl hc i pins s3 σ3 H3 X.xe I3 (stat fr3) st3 stop) fun r s4 ⟨hr,I4⟩=>?_);subst hr;exact Z6 ⟨σ3,H3,I4,qn⟩
 ·refine Yi hp (thn (T.item X rfl rfl rfl hc i pins s3 σ3 H3 X.xe I3 (stat fr3) st3 go) fun r s4 ⟨u,hr,h4⟩=>?_);subst hr;refine Yi hp (thn h4 fun _ s5 ⟨x,H5,I5,r5,y5,st5,fr5⟩=>?_);have I5':=I5.pinned (stat fr5) (T.obj _ _ st5);refine Yi hp (thn (hg _ s5 σ3 H5 x u _ I5' r5 (step x H5 y5)) fun _ s6 ⟨σ6,H6,I6,q6⟩=>?_);refine Yi hp (thn (hb _ s6 σ6 H6 _ I6 q6) fun f s7 q7=>?_)
  have again:∀ {σ7:St} {H7:Hp},Inv X (pins++JW fp s5.heap) σ7 H7 s7->N σ7 H7->∃m,m<n/\∃i σ' H',Inv X pins σ' H' s7/\tn i s7.heap/\(∀b∈fp,H' b=none)/\W i m σ' H':=fun {σ7 H7} I7 n7=>by
   obtain⟨m',hm,w7⟩:=hN σ7 H7 n7;refine⟨m',hm,i+1,σ7,H7,I7.unpinned,T.keep _ _ _ st5 fun b hb o e=>(I7.pin (b,o) (K8 _ (K8 _ (qo hb e)))).1,fun b hb=>?_,w7⟩;obtain⟨o,e,d⟩:=T.obj _ _ st5 b hb;exact(I7.pin (b,o) (K8 _ (K8 _ (qo hb e)))).2.1
  cases f with
  |next=>obtain⟨σ7,H7,I7,n7⟩:=q7;exact again I7 n7
  |cont=>obtain⟨σ7,H7,I7,n7⟩:=q7;exact again I7 n7
  |brk=>obtain⟨σ7,H7,I7,q7⟩:=q7;exact⟨σ7,H7,I7.unpinned,q7⟩
  |ret v=>obtain⟨x7,σ7,H7,I7,r7,q7⟩:=q7;exact⟨x7,σ7,H7,I7.unpinned,r7,q7⟩
end
end L2
namespace L2
open PySem PySem.Spec PyProof.Rows
abbrev R2:=V->V->Hp->VK->Prop
noncomputable def OpR(X:Cx)(f:KO->KO->Sem KO)(r:R2):Prop :=
 ∀(pins:List (Addr×Obj)) (s:Shared) (σ:St) (H:Hp) (x y:V) (v u:KO) (Q:VK),Inv X pins σ H s->jV x v->jV y u->r x y H Q ->
  wpAny (model X.prog X.w) X.A (f v u) (EP X pins σ Q) X.xe s
noncomputable def UnR(X:Cx)(f:KO->Sem KO)(r:V->Hp->VK->Prop):Prop :=
 ∀(pins:List (Addr×Obj)) (s:Shared) (σ:St) (H:Hp) (x:V) (v:KO) (Q:VK),Inv X pins σ H s->jV x v->r x H Q ->
  wpAny (model X.prog X.w) X.A (f v) (EP X pins σ Q) X.xe s
noncomputable def kU(X:Cx)(f:KO)(r:List V->Hp->VK->Prop):Prop :=
 ∀(pins:List (Addr×Obj)) (s:Shared) (σ:St) (H:Hp) (xs:List V) (us:List KO) (Q:VK),Inv X pins σ H s->jG xs us->r xs H Q ->
  wpAny (model X.prog X.w) X.A (call f us) (EP X pins σ Q) X.xe s
noncomputable def tOp(r:R2)(ta tb:TE):TE:=fun σ H Q=>ta σ H fun x H1=>tb σ H1 fun y H2=>r x y H2 Q
noncomputable def tUn(r:V->Hp->VK->Prop)(ta:TE):TE:=fun σ H Q=>ta σ H fun x H1=>r x H1 Q
noncomputable def rI(C:Int->Int->Prop)(g:Int->Int->V):R2:=fun x y H Q=>∃i j,x=.int i/\y=.int j/\C i j/\Q (g i j) H
noncomputable def rI0(g:Int->Int->V):R2:=fun x y H Q=>∃i j,x=.int i/\y=.int j/\Q (g i j) H
noncomputable def rU(g:Int->V):V->Hp->VK->Prop:=fun x H Q=>∃i,x=.int i/\Q (g i) H
section
variable {X:Cx} {a b c:Expr} {ta tb tc:TE} {pos:Pos}
theorem binT(ha:PE X a ta)(hb:PE X b tb){pins:List (Addr×Obj)}{s:Shared}{σ:St}{H:Hp}{R:V->V->Hp->Prop}(I:Inv X pins σ H s)
 (h:ta σ H fun x H1=>tb σ H1 fun y H2=>R x y H2) {Q:KO->Shared->Prop} {f:KO->KO->Sem KO}
 (hf:∀v u s2 x y H2,Inv X pins σ H2 s2->jV x v->jV y u->R x y H2->wpAny (model X.prog X.w) X.A (f v u) Q X.xe s2) :
 wpAny (model X.prog X.w) X.A (eval a X.env) (fun v s₁=>wpAny (model X.prog X.w) X.A (eval b X.env) (fun u s₂=>wpAny (model X.prog X.w) X.A (f v u) Q X.xe s₂) X.xe s₁) X.xe s:=by
 refine thn (ha pins s σ H _ I h) fun v s1 ⟨x,H1,I1,r1,q1⟩=>?_
 refine thn (hb pins s1 σ H1 _ I1 q1) fun u s2 ⟨y,H2,I2,r2,q2⟩=>?_
 exact hf v u s2 x y H2 I2 r1 r2 q2
theorem pe_op{op:Operator}{r:R2}(ho:OpR X (Zf op) r)(ha:PE X a ta)(hb:PE X b tb):PE X (.BinOp a op b pos) (tOp r ta tb):=by
 intro pins s σ H Q I h;exact wpAny_BinOp (binT ha hb I h fun v u s2 x y H2 I2 rx ry q=>ho pins s2 σ H2 x y v u Q I2 rx ry q)
theorem pe_un{op:UnaryOp}{r:V->Hp->VK->Prop}(ho:UnR X (unaryOp op) r)(ha:PE X a ta):PE X (.UnaryOp op a pos) (tUn r ta):=by
 intro pins s σ H Q I h;exact UnaryOp_ (thn (ha pins s σ H _ I h) fun v s1 ⟨x,H1,I1,r1,q1⟩=>ho pins s1 σ H1 x v Q I1 r1 q1)
theorem opI{f:KO->KO->Sem KO}{C:Int->Int->Prop}{g:Int->Int->Int}
 (rule:∀(i j:Int) (t u:Tok) (s:Shared) (Q:KO->Shared->Prop) (E:KO->Shared->Prop),C i j->Q (.int (g i j) s.toks) { s with toks:=s.toks+1 }->wpAny (model X.prog X.w) X.A (f (.int i t) (.int j u)) Q E s) :
 OpR X f (rI C fun i j=>.int (g i j)):=by
 intro pins s σ H x y v u Q I rx ry h;obtain⟨i,j,rfl,rfl,hc,q⟩:=h;obtain⟨t,rfl⟩:=rx;obtain⟨t',rfl⟩:=ry;exact rule i j t t' s _ _ hc ⟨.int (g i j),H,I.tok _,⟨_,rfl⟩,q⟩
theorem opI0{f:KO->KO->Sem KO}{g:Int->Int->Int}
 (rule:∀(i j:Int) (t u:Tok) (s:Shared) (Q:KO->Shared->Prop) (E:KO->Shared->Prop),Q (.int (g i j) s.toks) { s with toks:=s.toks+1 }->wpAny (model X.prog X.w) X.A (f (.int i t) (.int j u)) Q E s) :
 OpR X f (rI0 fun i j=>.int (g i j)):=by
 intro pins s σ H x y v u Q I rx ry h;obtain⟨i,j,rfl,rfl,q⟩:=h;obtain⟨t,rfl⟩:=rx;obtain⟨t',rfl⟩:=ry;exact rule i j t t' s _ _ ⟨.int (g i j),H,I.tok _,⟨_,rfl⟩,q⟩
theorem opB0{f:KO->KO->Sem KO}{g:Int->Int->Bool}
 (rule:∀(i j:Int) (t u:Tok) (s:Shared) (Q:KO->Shared->Prop) (E:KO->Shared->Prop),Q (.bool (g i j)) s->wpAny (model X.prog X.w) X.A (f (.int i t) (.int j u)) Q E s) :
 OpR X f (rI0 fun i j=>.bl (g i j)):=by
 intro pins s σ H x y v u Q I rx ry h;obtain⟨i,j,rfl,rfl,q⟩:=h;obtain⟨t,rfl⟩:=rx;obtain⟨t',rfl⟩:=ry;exact rule i j t t' s _ _ ⟨.bl (g i j),H,I,rfl,q⟩
theorem two_pow_nn(k:Nat):(0:Int)<=2^k:=by
 rw[two_pow_cast];exact Int.natCast_nonneg _
theorem op_shr:OpR X (Zf .RShift) (rI (fun _ j=>0<=j) fun i j=>.int (i / 2^j.toNat)):=opI fun i j _ _ _ _ _ hc q =>
 rshift_int hc (by rw[Int.fdiv_eq_ediv_of_nonneg i (two_pow_nn _)];exact q)
theorem op_and:OpR X (Zf .BitAnd) (rI0 fun i j=>.int (YW i j)):=opI0 fun _ _ _ _ _ _ _ q=>and_int q
theorem unI{f:KO->Sem KO}{g:Int->Int}
 (rule:∀(i:Int) (t:Tok) (s:Shared) (Q:KO->Shared->Prop) (E:KO->Shared->Prop),Q (.int (g i) s.toks) { s with toks:=s.toks+1 }->wpAny (model X.prog X.w) X.A (f (.int i t)) Q E s) :
 UnR X f (rU fun i=>.int (g i)):=by
 intro pins s σ H x v Q I rx h;obtain⟨i,rfl,q⟩:=h;obtain⟨t,rfl⟩:=rx;exact rule i t s _ _ ⟨.int (g i),H,I.tok _,⟨_,rfl⟩,q⟩
theorem un_neg:UnR X (unaryOp .USub) (rU fun i=>.int (-i)):=unI fun _ _ _ _ _ q=>neg_int q
end
noncomputable def scal:V->V->Bool
 |.non,.non=>true|.non,.int _=>true|.int _,.non=>true|.non,.bl _=>true|.bl _,.non=>true|.non,.str _=>true|.str _,.non=>true
 |.int _,.int _=>true|.bl _,.bl _=>true|.str _,.str _=>true|.byt _,.byt _=>true
 |.int _,.str _=>true|.str _,.int _=>true|.bl _,.str _=>true|.str _,.bl _=>true
 |_,_=>false
noncomputable def rEq:R2:=fun x y H Q=>scal x y=true/\Q (.bl (decide (x=y))) H
theorem dec_int{i j:Int}:decide (V.int i=V.int j)=(i == j):=by
 rw[YK];simp
theorem dec_bl{i j:Bool}:decide (V.bl i=V.bl j)=(i == j):=by
 rw[YK];simp
theorem dec_str{i j:Str}:decide (V.str i=V.str j)=(i == j):=by
 rw[YK];simp
theorem dec_byt{i j:Array UInt8}:decide (V.byt i=V.byt j)=(i.toList == j.toList):=by
 rw[YK];cases i;cases j;simp
section
variable {X:Cx} {a b c:Expr} {ta tb tc:TE} {pos:Pos}
theorem ku{pins:List (Addr×Obj)}{σ:St}{H:Hp}{s:Shared}{Q:VK}{k k':Bool}(I:Inv X pins σ H s)(q:Q (.bl k) H)(e:k=k'):EP X pins σ Q (.bool k') s:=by
 subst e;exact⟨.bl k,H,I,rfl,q⟩
theorem op_eq:OpR X (Yh .Eq) rEq:=by
 intro pins s σ H x y v u Q I rx ry h;obtain⟨hs,q⟩:=h
 cases x with
 |non =>
  cases rx
  cases y with
  |non=>cases ry;exact PySem.EqNone.eq_none_none (ku I q (by simp))
  |bl j=>cases ry;exact PySem.EqNone.eq_none_bool (ku I q (by simp))
  |int j=>obtain⟨t',rfl⟩:=ry;exact PySem.EqNone.eq_none_int (ku I q (by simp))
  |str j=>obtain⟨t',rfl⟩:=ry;exact PySem.EqNone.eq_none_str (ku I q (by simp))
  |_=>exact absurd (show false=true from hs) Xf
 |bl i =>
  cases rx
  cases y with
  |non=>cases ry;exact PySem.EqNone.eq_bool_none (ku I q (by simp))
  |bl j=>cases ry;exact eq_bool (ku I q dec_bl)
  |str j=>obtain⟨t',rfl⟩:=ry;exact PySem.EqMixed.eq_bool_str (ku I q (by simp))
  |_=>exact absurd (show false=true from hs) Xf
 |int i =>
  obtain⟨t,rfl⟩:=rx
  cases y with
  |non=>cases ry;exact PySem.EqNone.eq_int_none (ku I q (by simp))
  |int j=>obtain⟨t',rfl⟩:=ry;exact eq_int (ku I q dec_int)
  |str j=>obtain⟨t',rfl⟩:=ry;exact PySem.EqMixed.eq_int_str (ku I q (by simp))
  |_=>exact absurd (show false=true from hs) Xf
 |str i =>
  obtain⟨t,rfl⟩:=rx
  cases y with
  |non=>cases ry;exact PySem.EqNone.eq_str_none (ku I q (by simp))
  |bl j=>cases ry;exact PySem.EqMixed.eq_str_bool (ku I q (by simp))
  |int j=>obtain⟨t',rfl⟩:=ry;exact PySem.EqMixed.eq_str_int (ku I q (by simp))
  |str j=>obtain⟨t',rfl⟩:=ry;exact eq_str (ku I q dec_str)
  |_=>exact absurd (show false=true from hs) Xf
 |byt i =>
  obtain⟨t,rfl⟩:=rx
  cases y with
  |byt j=>obtain⟨t',rfl⟩:=ry;exact PySem.W.eq_bytes (ku I q dec_byt)
  |_=>exact absurd (show false=true from hs) Xf
 |_=>cases y<;>exact absurd (show false=true from hs) Xf
theorem op_lt:OpR X (Yh .Lt) (rI0 fun i j=>.bl (decide (i<j))):=opB0 fun _ _ _ _ _ _ _ q=>lt_int q
theorem op_le:OpR X (Yh .LtE) (rI0 fun i j=>.bl (decide (i<=j))):=opB0 fun _ _ _ _ _ _ _ q=>le_int q
theorem op_gt:OpR X (Yh .Gt) (rI0 fun i j=>.bl (decide (j<i))):=opB0 fun _ _ _ _ _ _ _ q=>gt_int q
theorem op_ge:OpR X (Yh .GtE) (rI0 fun i j=>.bl (decide (j<=i))):=opB0 fun _ _ _ _ _ _ _ q=>ge_int q
theorem op_isN:OpR X (Yh .Is) (fun x y H Q=>y=.non/\Q (.bl (decide (x=.non))) H):=by
 intro pins s σ H x y v u Q I rx ry h;obtain⟨rfl,q⟩:=h;cases ry;refine is_none_gen (ku I q ?_)
 cases x<;>first
  |(cases rx;rfl)
  |(obtain⟨t,rfl⟩:=rx;rfl)
theorem op_notN:OpR X (Yh .IsNot) (fun x y H Q=>y=.non/\Q (.bl (!decide (x=.non))) H):=by
 intro pins s σ H x y v u Q I rx ry h;obtain⟨rfl,q⟩:=h;cases ry;refine isnot_none_gen (ku I q ?_)
 cases x<;>first
  |(cases rx;rfl)
  |(obtain⟨t,rfl⟩:=rx;rfl)
theorem nomark(b:Expr){op:CmpOp}(h:op ≠ .In:=by decide)(h2:op ≠ .NotIn:=by decide):Yu op b=false:=by
 have e1:(op == CmpOp.In)=false:=by cases op<;>first|rfl|exact absurd rfl h
 have e2:(op == CmpOp.NotIn)=false:=by cases op<;>first|rfl|exact absurd rfl h2
 cases b<;>simp[Yu,e1,e2]
theorem pe_cmpR{op:CmpOp}{r:R2}(ho:OpR X (Yh op) r)(ha:PE X a ta)(hb:PE X b tb)(hm:Yu op b=false):PE X (.Compare a [op] [b] pos) (tOp r ta tb):=by
 intro pins s σ H Q I h;exact wpAny_Compare1 (binT ha hb I h fun v u s2 x y H2 I2 rx ry q=>ho pins s2 σ H2 x y v u Q I2 rx ry q) hm
noncomputable def tTest(t:TE):TT:=fun σ H Q=>t σ H fun x H'=>∃k,x=.bl k/\Q k H'
theorem pt_cmpR{op:CmpOp}{r:R2}(ho:OpR X (Yh op) r)(ha:PE X a ta)(hb:PE X b tb)(hm:Yu op b=false):PT X (.Compare a [op] [b] pos) (tTest (tOp r ta tb)):=by
 intro pins s σ H Q I h
 refine wpAny_isTrue_Compare1 (thn (ha pins s σ H _ I h) fun v s1 ⟨x,H1,I1,r1,q1⟩=>thn (hb pins s1 σ H1 _ I1 q1) fun u s2 ⟨y,H2,I2,r2,q2⟩ =>
  thn (ho pins s2 σ H2 x y v u _ I2 r1 r2 q2) fun c s3 ⟨z,H3,I3,r3,k,e,q3⟩=>?_) hm
 subst e;cases r3;exact Xu ⟨H3,I3,q3⟩
theorem ue:(sizeLine:Nat)<2^63:=by rw[Xv];decide
theorem op_add_str:OpR X (Zf .Add) (fun x y H Q=>∃i j,x=.str i/\y=.str j/\i.length+j.length<=sizeLine/\Q (.str (i++j)) H):=by
 intro pins s σ H x y v u Q I rx ry h;obtain⟨i,j,rfl,rfl,hz,q⟩:=h;obtain⟨t,rfl⟩:=rx;obtain⟨t',rfl⟩:=ry;exact add_str (fun t' tk=>⟨.str (i++j),H,I.tok _,⟨_,rfl⟩,q⟩) hz
theorem xi{x:V}{us:List KO}(r:jG [x] us):∃u,us=[u]/\jV x u:=by
 cases r with
 |cons r1 r2=>cases r2;exact⟨_,rfl,r1⟩
theorem vals2{x y:V}{us:List KO}(r:jG [x,y] us):∃u w',us=[u,w']/\jV x u/\jV y w':=by
 cases r with
 |cons r1 r2 =>
  cases r2 with
  |cons r3 r4=>cases r4;exact⟨_,_,rfl,r1,r3⟩
theorem call_abs:kU X (.builtin "abs") (fun xs H Q=>∃i,xs=[.int i]/\Q (.int (if i<0 then -i else i)) H):=by
 intro pins s σ H xs us Q I r h;obtain⟨i,rfl,q⟩:=h;obtain⟨u,rfl,t,rfl⟩:=xi r
 exact call_abs_int fun u tk=>⟨.int (if i<0 then -i else i),H,I.tok _,⟨_,rfl⟩,q⟩
theorem call_max2(hc:X.calm=true):kU X (.builtin "max") (fun xs H Q=>∃i j,xs=[.int i,.int j]/\Q (.int (if j > i then j else i)) H):=by
 intro pins s σ H xs us Q I r h;obtain⟨i,j,rfl,q⟩:=h;obtain⟨u,w',rfl,⟨t,rfl⟩,⟨t',rfl⟩⟩:=vals2 r
 refine max_two_ints (I.ok.hd hc) fun h' tk k=>⟨_,H,I.kept k,?_,q⟩
 by_cases hj:j > i
 ·rw[if_pos hj,if_pos hj];exact⟨_,rfl⟩
 ·rw[if_neg hj,if_neg hj];exact⟨_,rfl⟩
theorem call_min2(hc:X.calm=true):kU X (.builtin "min") (fun xs H Q=>∃i j,xs=[.int i,.int j]/\Q (.int (if j<i then j else i)) H):=by
 intro pins s σ H xs us Q I r h;obtain⟨i,j,rfl,q⟩:=h;obtain⟨u,w',rfl,⟨t,rfl⟩,⟨t',rfl⟩⟩:=vals2 r
 refine min_two_ints (I.ok.hd hc) fun h' tk k=>⟨_,H,I.kept k,?_,q⟩
 by_cases hj:j<i
 ·rw[if_pos hj,if_pos hj];exact⟨_,rfl⟩
 ·rw[if_neg hj,if_neg hj];exact⟨_,rfl⟩
theorem zX:kU X (.type "int") (fun xs H Q=>(∃i,xs=[.int i]/\Q (.int i) H)\/∃k,xs=[.bl k]/\Q (.int (if k then 1 else 0)) H):=by
 intro pins s σ H xs us Q I r h;rcases h with⟨i,rfl,q⟩|⟨k,rfl,q⟩
 ·obtain⟨u,rfl,t,rfl⟩:=xi r;exact call_int_int ⟨.int i,H,I,⟨_,rfl⟩,q⟩
 ·obtain⟨u,rfl,r1⟩:=xi r;cases r1;exact call_int_bool ⟨.int (if k then 1 else 0),H,I.tok _,⟨_,rfl⟩,q⟩
theorem Kj:kU X (.type "str") (fun xs H Q=>∃i,xs=[.int i]/\i.natAbs.log2<1920/\Q (.str (toString i)) H):=by
 intro pins s σ H xs us Q I r h;obtain⟨i,rfl,hz,q⟩:=h;obtain⟨u,rfl,t,rfl⟩:=xi r;exact PySem.P.str_of_int hz ⟨.str _,H,I.tok _,⟨_,rfl⟩,q⟩
end
end L2
namespace L2
open PySem PySem.Spec PyProof.Rows
section
variable {prog:Qp} {w:World} {A:QH} {E:KO->Shared->Prop} {s:Shared} {K:KN} {x dx C f:Addr} {mA:Str->Option KO} {name:Str} {v:KO}
end
section
variable {P:Qp} {w:World} {H H':Hp} {h h':QG} {a C dx:Addr} {fs fs':List (Str×V)}
end
section
variable {X:Cx} {pins:List (Addr×Obj)} {σ:St} {H:Hp} {s:Shared} {a C dx:Addr} {fs:List (Str×V)} {f:Str} {v:V} {A:QH} {E:KO->Shared->Prop}
theorem attr_of{prog:Qp}{w:World}{env:Env}{e:Expr}{f:Str}{pos:Pos}{s:Shared}{Q:KO->Shared->Prop}(hb:Zg e f env (eval e env)=eval e env)
 (h:wpAny (model prog w) A (eval e env) (fun o s₁=>wpAny (model prog w) A (getAttr o f true) Q E s₁) E s):wpAny (model prog w) A (eval (.Attribute e f pos) env) Q E s :=
 Attribute_any_ h (by rw[arm_eval_Attribute,hb])
end
section
variable {X:Cx} {o e value:Expr} {f:Str} {pos pos' tpos:Pos} {ta tv:TE}
end
section
variable {X:Cx} {pins:List (Addr×Obj)} {σ:St} {H:Hp} {s:Shared} {A:QH} {E:KO->Shared->Prop} {Q:KO->Shared->Prop} {c:KO} {b:Bool}
end
end L2
namespace L2
open PySem PySem.Spec PyProof.Rows
structure Room (k:Nat) (A:QH):Prop where
 hd:2<=k->A.handled=none
 dp:A.depth+3*k+5<Uo
 un:A.units+16*k+200<cLine
theorem Room.mono{j k:Nat}{A:QH}(r:Room k A)(h:j<=k):Room j A:=⟨fun z=>r.hd (by omega),by have:=r.dp;omega,by have:=r.un;omega⟩
theorem Room.deeper{k:Nat}{A:QH}(r:Room (k+1) A)(env:Env):Room k (A.deeper env) :=
 ⟨fun z=>r.hd (by omega),by have:=r.dp;show A.depth+1+3*k+5<_;omega,by have:=r.un;show A.units+3+16*k+200<_;omega⟩
theorem make_depth{A:QH}{C:Addr}{us:List KO}{kw:List (Str×KO)}:(A.under (.builtin "type.__call__" ⟨.ref C::us,kw⟩)).depth=A.depth+1:=by
 first|rfl|simp[Around.under,Code.weight,Code.isCreation,Code.isGuard,Code.isCaller,Code.frames,Code.isFrame,guardIds]
theorem make_units{A:QH}{C:Addr}{us:List KO}{kw:List (Str×KO)}:(A.under (.builtin "type.__call__" ⟨.ref C::us,kw⟩)).units=A.units+1:=by
 first|rfl|simp[Around.under,Code.cUnits,Code.frames,Code.isFrame]
theorem Room.make{k:Nat}{A:QH}(r:Room (k+1) A)(C:Addr)(us:List KO)(kw:List (Str×KO)):Room k (A.under (.builtin "type.__call__" ⟨.ref C::us,kw⟩)) :=
 ⟨fun z=>r.hd (by omega),by have:=r.dp;rw[make_depth];omega,by have:=r.un;rw[make_units];omega⟩
theorem Room.depth{k:Nat}{A:QH}(r:Room k A):A.depth<Uo:=by have:=r.dp;omega
noncomputable def tNil:TA:=fun _ H Q=>Q [] H
noncomputable def vY(ta:TE)(tr:TA):TA:=fun σ H Q=>ta σ H fun x H1=>tr σ H1 fun xs H2=>Q (x::xs) H2
section
variable {X:Cx} {e:Expr} {es:List Expr} {te:TE} {t:TA} {pos:Pos}
theorem jU:PA X [] tNil:=fun _ _ _ _ H Q I h=>Calls.spliced_nil ⟨[],H,I,.nil,h⟩
theorem js(ha:PE X e te)(hr:PA X es t)(hs:Qa (e::es) X.env=(false,eval e X.env)::Qa es X.env:=by rfl):PA X (e::es) (vY te t):=by
 intro pos pins s σ H Q I h;rw[hs];show wpAny _ _ (spliced ((false,eval e X.env)::backTo pos (Qa es X.env))) _ _ s;refine Calls.spliced_cons (thn (ha pins s σ H _ I h) fun u s1 ⟨x,H1,I1,r1,q1⟩=>?_)
 exact thn (hr pos pins s1 σ H1 _ I1 q1) fun us s2 ⟨xs,H2,I2,r2,q2⟩=>⟨x::xs,H2,I2,.cons r1 r2,q2⟩
noncomputable def tTup(t:TA):TE:=fun σ H Q=>t σ H fun xs H1=>xs.length<=sizeLine/\∀p,H1 p=none->Q (.ref p) (upd H1 p (.tup xs))
noncomputable def tLst(t:TA):TE:=fun σ H Q=>t σ H fun xs H1=>xs.length<=sizeLine/\∀p,H1 p=none->Q (.ref p) (upd H1 p (.lst xs))
theorem Kz{x1}(h:PA X es t):PE X (.Tuple es x1 pos) (tTup t):=by
 intro pins s σ H Q I hq;refine wpAny_Tuple_spliced (thn (h pos pins s σ H _ I hq) fun us s1 ⟨xs,H1,I1,r,z,q⟩=>⟨by rw[<- r.length];exact z,?_⟩);have hf:H1 s1.heap.objs.size=none:=I1.hok.fresh (K6 _);refine⟨.ref s1.heap.objs.size,upd H1 s1.heap.objs.size (.tup xs),I1.laid (t':=s1.toks) (fun b u e=>KQ _ e) (K6 _) ?_,rfl,q _ hf⟩;exact⟨z,us,r,⟨_,Qh _ rfl,rfl,_,rfl⟩⟩
theorem vo(h:PA X es t):PE X (.List es pos) (tLst t):=by
 intro pins s σ H Q I hq;refine wpAny_List_spliced (thn (h pos pins s σ H _ I hq) fun us s1 ⟨xs,H1,I1,r,z,q⟩=>⟨by rw[<- r.length];exact z,?_⟩);have hf:H1 s1.heap.objs.size=none:=I1.hok.fresh (K6 _);refine⟨.ref s1.heap.objs.size,upd H1 s1.heap.objs.size (.lst xs),I1.laid (t':=s1.toks) (fun b u e=>KQ _ e) (K6 _) ?_,rfl,q _ hf⟩;exact⟨z,us,0,r,Qh _ rfl⟩
end
abbrev Sp:=List V->Hp->VK->XK->Prop
abbrev CXT:=List Env->Hp->Shared->XK->KO->Shared->Prop
structure Env0 (P:Qp) (w:World) (K:KN) (mg:Str->Option KO) (base:QG) (A:QH) (outer:List Env) (s:Shared) (H:Hp):Prop where
 frames:A.frames=some outer
 mod:Mod K mg base
 bs:∀b o,base.get? b=some o->s.heap.get? b=some o/\H b=none
 bsz:base.objs.size<=s.heap.objs.size
 funs:s.heap.FunFrames base outer
 frf:∀b∈frs outer,H b=none
 hok:HOk P w H s.heap
 bare:Ue s.gens
noncomputable def CE(outer:List Env)(P:Qp)(w:World)(H:Hp)(s:Shared)(Q:VK)(u:KO)(s':Shared):Prop :=
 ∃v H',s'.os=s.os/\Ue s'.gens/\Un (frs outer) [] H H' s.heap s'.heap/\HOk P w H' s'.heap/\jV v u/\Q v H'
noncomputable def CR(CX:CXT)(outer:List Env)(P:Qp)(w:World)(H:Hp)(s:Shared)(Q:VK)(E:XK)(r:Result)(s':Shared):Prop :=
 match r with
 |.ok (.ret u)=>CE outer P w H s Q u s'
 |.ok _=>False
 |.error e=>CX outer H s E e s'
structure FnOk (P:Qp) (w:World) (K:KN) (mg:Str->Option KO) (base:QG) (CX:CXT) (k:Nat) (f:Addr) (fd:Ya) (ps:List Str) (sp:Sp):Prop where
 len:∀vs H Q E,sp vs H Q E->vs.length=ps.length
 run:∀(A:QH) (outer:List Env) (s:Shared) (H:Hp) (args:Args) (us:List KO) (vs:List V) (Q:VK) (E:XK),Room k A->Env0 P w K mg base A outer s H->BindsTo s fd args (ps.zip us)->jG vs us->sp vs H Q E ->
  ZT (model P w) A (.call (.ref f) args) (CR CX outer P w H s Q E) s
theorem FnOk.mono{P:Qp}{w:World}{K:KN}{mg:Str->Option KO}{base:QG}{CX:CXT}{j k:Nat}{f:Addr}{fd:Ya}{ps:List Str}{sp:Sp}(F:FnOk P w K mg base CX j f fd ps sp)(h:j<=k) :
 FnOk P w K mg base CX k f fd ps sp:=⟨F.len,fun A outer s H args us vs Q E hr=>F.run A outer s H args us vs Q E (hr.mono h)⟩
theorem Env0.make{P:Qp}{w:World}{K:KN}{mg:Str->Option KO}{base:QG}{A:QH}{outer:List Env}{s:Shared}{H:Hp}(e:Env0 P w K mg base A outer s H)(C:Addr)(us:List KO)(kw:List (Str×KO)) :
 Env0 P w K mg base (A.under (.builtin "type.__call__" ⟨.ref C::us,kw⟩)) outer s H:=⟨by first|exact e.frames|(simpa[Around.under,Code.envs,Code.isFrame,pushEnvs]using e.frames),e.mod,e.bs,e.bsz,e.funs,e.frf,e.hok,e.bare⟩
section
variable {X:Cx} {pins:List (Addr×Obj)} {σ:St} {H:Hp} {s s':Shared}
theorem Inv.env0(I:Inv X pins σ H s):Env0 X.prog X.w X.K X.mg X.base X.A X.stack s H :=
 ⟨I.ok.frames,I.ok.mod,I.bs,Qx I.ok.bsz I.sz,I.stack,I.stkFree,I.hok,I.bare⟩
theorem Inv.after{Q:VK}{u:KO}(I:Inv X pins σ H s)(h:CE X.stack X.prog X.w H s Q u s'):EP X pins σ Q u s':=by
 obtain⟨v,H',os,bare,un,hok,r,q⟩:=h;obtain⟨hh,g,d,t,os'⟩:=s';obtain rfl:os'=s.os:=os;exact⟨v,H',I.call (h':=hh) (g':=g) (d':=d) (t':=t) (ch:=[]) un hok bare (fun b z=>absurd z (by simp)),r,q⟩
end
noncomputable def tCall(sp:Sp)(dvs:List V)(E:XK)(t:TA):TE:=fun σ H Q=>t σ H fun vs H1=>sp (vs++dvs) H1 Q E
noncomputable def yP(K:KN)(fd:Ya)(ps:List Str)(ds:List KO):Prop :=
 ∀(s:Shared) (us:List KO),K.In s.heap->(us++ds).length=ps.length->BindsTo s fd ⟨us,[]⟩ (ps.zip (us++ds))
theorem yP.all{K:KN}{fd:Ya}{ps:List Str}(h:∀us:List KO,us.length=ps.length->bindArgs fd ⟨us,[]⟩=pure (ps.zip us)):yP K fd ps []:=fun s us _ hl=>by
 rw[Qu]at hl ⊢;exact .of_eq (h us hl)
noncomputable def KJ(CX:CXT)(X:Cx)(E:XK):Prop:=∀(pins:List (Addr×Obj)) (σ:St) (H:Hp) (s:Shared) (e:KO) (s':Shared),Inv X pins σ H s->CX X.stack H s E e s'->X.xe e s'
section
variable {X:Cx} {CX:CXT} {k:Nat} {f C:Addr} {fd:Ya} {ps:List Str} {sp:Sp} {dvs:List V} {ds:List KO} {E:XK} {x m:Str} {p pos apos:Pos} {e o:Expr} {es:List Expr} {ta:TE} {t:TA}
theorem run_fn{pins:List (Addr×Obj)}{σ:St}{H:Hp}{s:Shared}{Q:VK}{us:List KO}{vs:List V}(F:FnOk X.prog X.w X.K X.mg X.base CX k f fd ps sp)(hr:Room k X.A)(hb:yP X.K fd ps ds)(hd:jG dvs ds)(hx:KJ CX X E)
 (I:Inv X pins σ H s) (r:jG vs us) (h:sp (vs++dvs) H Q E):wpAny (model X.prog X.w) X.A (call (.ref f) us) (EP X pins σ Q) X.xe s:=by
 have r2:jG (vs++dvs) (us++ds):=r.append hd
 have hl:(us++ds).length=ps.length:=by rw[<- r2.length];exact F.len _ _ _ _ h
 refine Zt (Uf (F.run X.A X.stack s H ⟨us,[]⟩ (us++ds) (vs++dvs) Q E hr I.env0 (hb s us I.kIn hl) r2 h) fun r s' hq=>?_)
 cases r with
 |error e=>exact hx pins σ H s e s' I hq
 |ok fl =>
  cases fl with
  |ret u=>exact I.after hq
  |next=>exact XL hq
  |brk=>exact XL hq
  |cont=>exact XL hq
theorem zl(F:FnOk X.prog X.w X.K X.mg X.base CX k f fd ps sp)(hr:Room k X.A)(hg:Gl X x)(hm:X.mg x=some (.ref f))(hk:XS X.K (.ref f)=true)(hb:yP X.K fd ps ds)(hd:jG dvs ds)(hx:KJ CX X E)
 (ha:PA X (e::es) t) (hdb:(x == ("__debug__":Str))=false:=by decide) (he:Qa (e::es) X.env=(false,eval e X.env)::Qa es X.env:=by rfl) (hpl:(backTo pos (Qa es X.env)).any (·.1)=false:=by rfl) :
 PE X (.Call (.Name x p) (e::es) [] pos) (tCall sp dvs E t):=by
 intro pins s σ H Q I h;refine Zu (yE I hg hm ?_ hdb);refine PySem.W.callWith_K (h₀:=X.base) I.ok.mod.kin hk (thn (ha pos pins s σ H _ I h) fun us s1 ⟨vs,H1,I1,r,q⟩=>⟨I1.kIn,?_⟩) he hpl;exact run_fn F hr hb hd hx I1 r q
end
section
variable {X:Cx} {CX:CXT} {k:Nat} {f C:Addr} {fd:Ya} {ps ks:List Str} {sp:Sp} {E:XK} {x m:Str} {p pos apos kpos:Pos} {e o:Expr} {es:List Expr} {kws:List Keyword} {te ta:TE} {t tk:TA} {nm:Option Str}
variable {g:List KO->List KO->List KO} {gV:List V->List V->List V}
end
structure FnScope (N P:List Str) (sc:Scope):Prop where
 kind:sc.kind=.function
 co:sc.isCoroutine=false
 gen:sc.isGenerator=false
 nd:N.Nodup
 pre:N.take P.length=P
 par:∀x∈P,sc.names.lookup x=some .local\/sc.names.lookup x=some .cell
 nofree:∀y∈sc.names,y.2 ≠ .free
theorem JC{kindOf:Str->Option Yb}{x:Str}:∀ {binds:List (Str×KO)} {m:Str->Option KO},(∀v,(x,v) ∉ binds)->bindL kindOf binds m x=m x
 |[],_,_=>rfl
 |(n,v)::r,m,h=>by
  unfold bindL;rw[JC fun w hw=>h w (KR _ hw)];split
  ·have:x≠n:=by rintro rfl;exact h v K0
   simp[this]
  ·rfl
theorem Jx{kindOf:Str->Option Yb}{x:Str}:∀ {binds:List (Str×KO)} {m:Str->Option KO},(∀v,(x,v) ∉ binds)->bindC kindOf binds m x=m x
 |[],_,_=>rfl
 |(n,v)::r,m,h=>by
  unfold bindC;rw[Jx fun w hw=>h w (KR _ hw)];split
  ·rfl
  ·have:x≠n:=by rintro rfl;exact h v K0
   simp[this]
theorem Jw{kindOf:Str->Option Yb}{x:Str}{v:KO}:∀ {P:List Str} {vs:List KO} {i:Nat} {m:Str->Option KO},P.Nodup->P[i]?=some x->vs[i]?=some v->kindOf x=some .local ->
 bindL kindOf (P.zip vs) m x=some v
 |[],_,_,_,_,h,_,_=>by simp at h
 |_::_,[],_,_,_,_,h,_=>by simp at h
 |p::P,w::vs,0,m,nd,h1,h2,hk=>by
  simp at h1 h2;subst h1;subst h2;show bindL kindOf ((p,w)::P.zip vs) m p=_;unfold bindL;rw[JC fun v hv=>(Yj.mp nd).1 (Yk hv).1,if_pos hk]
  simp
 |p::P,w::vs,i+1,m,nd,h1,h2,hk=>by
  show bindL kindOf ((p,w)::P.zip vs) m x=_;unfold bindL;exact Jw (i:=i) (Yj.mp nd).2 (by simpa using h1) (by simpa using h2) hk
theorem JA{kindOf:Str->Option Yb}{x:Str}{v:KO}:∀ {P:List Str} {vs:List KO} {i:Nat} {m:Str->Option KO},P.Nodup->P[i]?=some x->vs[i]?=some v->kindOf x≠some .local ->
 bindC kindOf (P.zip vs) m x=some v
 |[],_,_,_,_,h,_,_=>by simp at h
 |_::_,[],_,_,_,_,h,_=>by simp at h
 |p::P,w::vs,0,m,nd,h1,h2,hk=>by
  simp at h1 h2;subst h1;subst h2;show bindC kindOf ((p,w)::P.zip vs) m p=_;unfold bindC;rw[Jx fun v hv=>(Yj.mp nd).1 (Yk hv).1,if_neg hk]
  simp
 |p::P,w::vs,i+1,m,nd,h1,h2,hk=>by
  show bindC kindOf ((p,w)::P.zip vs) m x=_;unfold bindC;exact JA (i:=i) (Yj.mp nd).2 (by simpa using h1) (by simpa using h2) hk
noncomputable def start(N:List Str)(vs:List V):St:=vs.map some++K5 (N.length-vs.length) none
noncomputable def uk(CX:CXT)(P:Qp)(w:World)(K:KN)(mg:Str->Option KO)(base:QG)(N:List Str)(qual:Str)(scope:Scope)(f:Addr)(cd:KO)(A:QH)(outer:List Env)(s:Shared)(H:Hp)(E:XK):Cx where
 prog:=P
 w:=w
 K:=K
 mg:=mg
 base:=base
 A:=A.deeper (envOfC qual scope s.heap.objs.size f cd)
 N:=N
 s₀:=s
 H₀:=H
 env:=envOfC qual scope s.heap.objs.size f cd
 outer:=outer
 stack:=envOfC qual scope s.heap.objs.size f cd::outer
 ex:=[]
 calm:=A.handled.isNone
 fn:=fun _=>true
 pn:=[]
 xe:=fun e s'=>wpAny (model P w) (A.deeper (envOfC qual scope s.heap.objs.size f cd)) (leaving (envOfC qual scope s.heap.objs.size f cd) e) (fun _ s''=>CX outer H s E e s'') (fun e' s''=>CX outer H s E e' s'') s'
theorem cell_has{sc:Scope}{n:Nat}{x:Str}(h:sc.names.lookup x=some .cell):∃c,(ZN n sc.names []).lookup x=some c:=by
 have q:=PySem.W.cellsFrom_some sc.names n [] (.inl h);exact Option.isSome_iff_exists.mp q
theorem inv_start{CX:CXT}{P:Qp}{w:World}{K:KN}{mg:Str->Option KO}{base:QG}{N ps:List Str}{qual:Str}{scope:Scope}{f:Addr}{cd:KO}{A:QH}{outer:List Env}{s s1:Shared}{H:Hp}{E:XK}{us:List KO}{vs:List V}
 (S:FnScope N ps scope) (hd:A.handled.isNone=true->A.handled=none) (e0:Env0 P w K mg base A outer s H) (hl:vs.length=ps.length) (r:jG vs us)
 (x:InCallC s s.heap.objs.size (bindL (envOfC qual scope s.heap.objs.size f cd).kindOf (ps.zip us) fun _=>none) (ZN (s.heap.objs.size+1) scope.names []) (bindC (envOfC qual scope s.heap.objs.size f cd).kindOf (ps.zip us) fun _=>none) s1) :
 Inv (uk CX P w K mg base N qual scope f cd A outer s H E) [] (start N vs) H s1:=by
 have hpl:ps.length<=N.length:=by have:=congrArg List.length S.pre;rw[Q6]at this;omega
 obtain⟨h1,tk,rfl,hk⟩:=x.done
 have noA:∀b:Addr,b ∉ (uk CX P w K mg base N qual scope f cd A outer s H E).ex:=fun b z=>absurd (show b∈([]:List Addr) from z) (by simp)
 refine⟨⟨e0.mod,S.kind,rfl,rfl,K6 _,fun y z c h1 h2=>?_,fun y hy=>?_,fun y c _ h=>?_,hd,QH.frames_deeper e0.frames,.inr ⟨rfl,rfl⟩,fun b z=>absurd z (noA b),e0.bs,e0.bsz,fun b _ _=>noA b,fun b z=>absurd z (noA b),e0.funs,e0.frf⟩,
  rfl,e0.bare,Un.kept hk,⟨_,x.toInCall.ns,fun i y v h1 h2 h3=>?_⟩,fun y c h=>⟨_,x.cell y c h⟩,e0.hok.fresh (K6 _),fun y c h=>?_,fun p hp=>absurd (show p∈([]:List (Addr×Obj)) from hp) (by simp),e0.hok.kept hk,?_⟩
 ·exact name_of_addr x.apart (X2 h1) (X2 h2)
 ·have hy:scope.names.lookup y=some .cell\/scope.names.lookup y=some .free:=hy;rcases hy with hy|hy
  ·exact cell_has hy
  ·exact absurd rfl (S.nofree _ (X2 hy))
 ·exact Nat.le_of_lt (x.above y c (X2 h))
 ·have hi:i<vs.length:=by
   unfold start at h2;by_cases hi:i<vs.length
   ·exact hi
   ·rw[Qs (by simpa using hi)]at h2;rw[List.getElem?_replicate]at h2
    split at h2<;>cases h2
  have ha:vs[i]?=some v:=by
   unfold start at h2;rw[Qt (by simpa using hi),Qg]at h2
   cases e:vs[i]? with
   |none=>rw[e]at h2;cases h2
   |some a=>rw[e]at h2;cases h2;rfl
  obtain⟨u,hu,rv⟩:=r.get ha
  have hp:ps[i]?=some y:=by
   rw[<- S.pre,Yv (by omega)];exact h1
  have ndP:ps.Nodup:=by rw[<- S.pre];exact S.nd.sublist (List.take_sublist _ _)
  refine⟨u,rv,?_⟩;rcases S.par y (QD hp) with k|k
  ·exact .inl ⟨k,Jw ndP hp hu k⟩
  ·obtain⟨c,e⟩:=cell_has (n:=s.heap.objs.size+1) k;refine .inr ⟨.inl k,c,e,?_⟩;have q:=x.cell y c e;rw[JA ndP hp hu (by show scope.names.lookup y≠_;rw[k];decide)]at q;exact q
 ·exact e0.hok.fresh (Nat.le_of_lt (x.above y c (X2 h)))
 ·unfold start;show _=N.length;rw[K9,KP,ZL];omega
theorem fn_of{CX:CXT}{P:Qp}{w:World}{K:KN}{mg:Str->Option KO}{base:QG}{k:Nat}{f:Addr}{name qual:Str}{params:Arguments}{body:List Stmt}{scope:Scope}{dV kV doc pm cdv ct oc:KO}{an od:Option Addr}
 {osl:Array (Option KO)} {N ps:List Str} {sp:Sp} (lk:K.lookup f=some ⟨oc,od,.func (Yr name qual params body scope dV kV doc pm an cdv ct),osl⟩) (hcd:ZB K cdv qual=true) (S:FnScope N ps scope)
 (len:∀vs H Q E,sp vs H Q E->vs.length=ps.length)
 (hbody:∀(A:QH) (outer:List Env) (s:Shared) (H:Hp) (vs:List V) (Q:VK) (E:XK),Room k (A.deeper (envOfC qual scope s.heap.objs.size f cdv))->sp vs H Q E ->
  ∃t,PSs (uk CX P w K mg base N qual scope f cdv A outer s H E) body t/\t { nx:=fun _ H'=>Q .non H',rt:=Q } (start N vs) H) :
 FnOk P w K mg base CX (k+1) f (Yr name qual params body scope dV kV doc pm an cdv ct) ps sp:=by
 refine⟨len,fun A outer s H args us vs Q E hr e0 hb r hsp=>?_⟩;have hl:=len _ _ _ _ hsp
 have KX:K.In s.heap:=e0.mod.kin.keeps fun b o e=>(e0.bs b o e).1
 have lim:s.heap.NoLimit:=e0.mod.nolimit.1.keeps fun b o e=>(e0.bs b o e).1
 have hkind:∀y∈ps.zip us,scope.names.lookup y.1=some .local\/(scope.names.lookup y.1=some .cell/\((ZN (s.heap.objs.size+1) scope.names []).lookup y.1).isSome=true):=fun⟨n,v⟩ hy=>by
  rcases S.par n (Yk hy).1 with q|q
  ·exact .inl q
  ·exact .inr ⟨q,PySem.W.cellsFrom_some _ _ _ (.inl q)⟩
 refine codeAny_call_function hr.depth (KX _ _ lk) rfl S.co S.gen rfl (PySem.W.codeRec_of KX hcd) (hb _ _ _ _ ?_)
 refine wpAny_newFunctionEnv_cells S.kind hkind fun env he s1 x=>?_
 subst he;refine⟨lim.keeps x.toInCall.keep,codeAny_func ?_⟩;obtain⟨t,ht,hq⟩:=hbody A outer s H vs Q E (hr.deeper _) hsp;have I:Inv (uk CX P w K mg base N qual scope f cdv A outer s H E) [] (start N vs) H s1:=inv_start S (fun z=>by simpa using z) e0 hl r x
 refine QY (ht [] s1 (start N vs) H _ I hq) (fun fl s' hs=>?_) fun e s' hs=>hs
 have fin:∀ {σ':St} {H':Hp} {v:V} {u:KO},Inv (uk CX P w K mg base N qual scope f cdv A outer s H E) [] σ' H' s'->jV v u->Q v H'->CE outer P w H s Q u s' :=
  fun {σ' H' v u} J rv q=>⟨v,H',J.os,J.bare,J.base,J.hok,rv,q⟩
 cases fl with
 |ret u =>
  obtain⟨v,σ',H',J,rv,q⟩:=hs
  exact fin J rv q
 |next =>
  obtain⟨σ',H',J,q⟩:=hs
  exact fin (v:=V.non) (u:=YD) J rfl q
 |brk =>
  obtain⟨_,_,_,q⟩:=hs
  exact XL q
 |cont =>
  obtain⟨_,_,_,q⟩:=hs;exact XL q
end L2
namespace L2
open PySem PySem.Spec PyProof.Rows
section
variable {X:Cx} {x:Str} {p pos:Pos} {e:Expr} {es:List Expr} {t:TA} {id T:String} {r:List V->Hp->VK->Prop}
noncomputable def tCB(r:List V->Hp->VK->Prop)(t:TA):TE:=fun σ H Q=>t σ H fun vs H1=>r vs H1 Q
theorem kr(hc:kU X (.builtin id) r)(hg:Gl X x)(hm:X.mg x=none)(hv:Y4 x=some (.builtin id))(ha:PA X (e::es) t)(hn:x ≠ "__name__":=by decide)(hdb:(x == ("__debug__":Str))=false:=by decide)
 (he:Qa (e::es) X.env=(false,eval e X.env)::Qa es X.env:=by rfl) (hpl:(backTo pos (Qa es X.env)).any (·.1)=false:=by rfl):PE X (.Call (.Name x p) (e::es) [] pos) (tCB r t):=by
 intro pins s σ H Q I h;refine Zu (uc I hg hm hv ?_ hn hdb);exact ZO (thn (ha pos pins s σ H _ I h) fun us s1 ⟨vs,H1,I1,r1,q1⟩=>hc pins s1 σ H1 vs us Q I1 r1 q1) he hpl
theorem kR(hc:kU X (.type T) r)(hg:Gl X x)(hm:X.mg x=none)(hv:Y4 x=some (.type T))(ha:PA X (e::es) t)(hn:x ≠ "__name__":=by decide)(hdb:(x == ("__debug__":Str))=false:=by decide)
 (he:Qa (e::es) X.env=(false,eval e X.env)::Qa es X.env:=by rfl) (hpl:(backTo pos (Qa es X.env)).any (·.1)=false:=by rfl):PE X (.Call (.Name x p) (e::es) [] pos) (tCB r t):=by
 intro pins s σ H Q I h;refine Zu (uc I hg hm hv ?_ hn hdb);exact X4 (thn (ha pos pins s σ H _ I h) fun us s1 ⟨vs,H1,I1,r1,q1⟩=>hc pins s1 σ H1 vs us Q I1 r1 q1) he hpl
end
end L2
namespace HT
open PySem PyProof.Rows
section
open PySem.SeqAt
open PySem.AutoSeq1 (wpAny_loadPart')
open PySem.MeetsSeq PySem.MeetsSeq2 PySem.MeetsSeq3
end
section
variable {prog:Qp} {w:World} {A:QH} {E:KO->Shared->Prop} {s:Shared}
noncomputable def sIx(n d:Nat):Option Int->Nat
 |none=>d
 |some v=>if v<0 then (v+(n:Int)).toNat else min v.toNat n
end
end HT
namespace L2
open PySem PySem.Spec PyProof.Rows
abbrev TO:=St->Hp->(Option Int->Hp->Prop)->Prop
noncomputable def PO(X:Cx)(e:Option Expr)(t:TO):Prop :=
 ∀(pins:List (Addr×Obj)) (s:Shared) (σ:St) (H:Hp) (Q:Option Int->Hp->Prop),Inv X pins σ H s->t σ H Q ->
  wpAny (model X.prog X.w) X.A (evalPart e X.env) (fun u s'=>∃o H',Inv X pins σ H' s'/\IsPart u o/\Q o H') X.xe s
noncomputable def tNoPart:TO:=fun _ H Q=>Q none H
noncomputable def tPart(t:TE):TO:=fun σ H Q=>t σ H fun x H1=>∃i,x=.int i/\Q (some i) H1
section
variable {X:Cx} {e:Expr} {te:TE} {lo hi:Option Expr} {tl th:TO} {pos p2:Pos}
theorem po_none:PO X none tNoPart:=by
 intro pins s σ H Q I h;rw[evalPart_none];exact KW ⟨none,H,I,.none,h⟩
theorem po_some(h:PE X e te):PO X (some e) (tPart te):=by
 intro pins s σ H Q I hw;rw[evalPart_some]
 refine thn (h pins s σ H _ I hw) fun u s1 ⟨x,H1,I1,r1,q1⟩=>?_
 obtain⟨i,rfl,q⟩:=q1;obtain⟨t,rfl⟩:=r1;exact⟨some i,H1,I1,.int i t,q⟩
noncomputable def SlR(X:Cx)(r:V->Option Int->Option Int->Hp->VK->Prop):Prop :=
 ∀(pins:List (Addr×Obj)) (s:Shared) (σ:St) (H:Hp) (x:V) (v vl vu:KO) (lo hi:Option Int) (sl:Addr) (Q:VK),Inv X pins σ H s->jV x v->s.heap.IsSliceOf sl vl vu .none->IsPart vl lo->IsPart vu hi->r x lo hi H Q ->
  ∃T id,XE (.type T) "__getitem__"=pure (some (.builtin id))/\s.TypeIs v T/\wpAny (model X.prog X.w) X.A (getItem v (.ref sl)) (EP X pins σ Q) X.xe s
theorem SlR.or{r r':V->Option Int->Option Int->Hp->VK->Prop}(h:SlR X r)(h':SlR X r'):SlR X (fun x lo hi H Q=>r x lo hi H Q\/r' x lo hi H Q):=by
 intro pins s σ H x v vl vu lo hi sl Q I rx hs pl pu q;rcases q with q|q
 ·exact h pins s σ H x v vl vu lo hi sl Q I rx hs pl pu q
 ·exact h' pins s σ H x v vl vu lo hi sl Q I rx hs pl pu q
noncomputable def tSl(r:V->Option Int->Option Int->Hp->VK->Prop)(te:TE)(tl th:TO):TE:=fun σ H Q=>te σ H fun x H1=>tl σ H1 fun l H2=>th σ H2 fun u H3=>r x l u H3 Q
theorem pe_slice{r:V->Option Int->Option Int->Hp->VK->Prop}(hr:SlR X r)(he:PE X e te)(hl:PO X lo tl)(hu:PO X hi th):PE X (.Subscript e (.Slice lo hi none p2) pos) (tSl r te tl th):=by
 intro pins s σ H Q I h;refine Subscript_ (thn (he pins s σ H _ I h) fun v s1 ⟨x,H1,I1,r1,q1⟩=>?_);refine wpAny_Slice (thn (hl pins s1 σ H1 _ I1 q1) fun vl s2 ⟨l,H2,I2,pl,q2⟩=>thn (hu pins s2 σ H2 _ I2 q2) fun vu s3 ⟨u,H3,I3,pu,q3⟩=>?_);rw[evalPart_none];refine KW ?_
 have I4:Inv X pins σ H3 { s3 with heap:=s3.heap.push { cls:=.type "slice",data:=.fields #[vl,vu,.none] } }:=I3.kept (t':=s3.toks) fun b ob q=>KQ _ q
 obtain⟨T,id,hT,ht,hg⟩:=hr pins { s3 with heap:=s3.heap.push { cls:=.type "slice",data:=.fields #[vl,vu,.none] } } σ H3 x v vl vu l u s3.heap.objs.size Q I4 r1 (QG.IsSliceOf.new ..) pl pu q3;show wpAny (model X.prog X.w) X.A (subscriptTail e (.Slice lo hi none p2) v (.ref s3.heap.objs.size)) (EP X pins σ Q) X.xe { s3 with heap:=s3.heap.push { cls:=.type "slice",data:=.fields #[vl,vu,.none] } };exact tail_any (ops:=[.ref s3.heap.objs.size,v]) ht hT hg (by with_unfolding_all rfl)
noncomputable def cutV(xs:List V)(lo hi:Option Int):List V:=(xs.drop (HT.sIx xs.length 0 lo)).take (HT.sIx xs.length xs.length hi-HT.sIx xs.length 0 lo)
theorem cutV_length(xs:List V)(lo hi:Option Int):(cutV xs lo hi).length<=xs.length:=by
 unfold cutV;rw[Q6,Xz];omega
end
end L2
namespace L2
open PySem PySem.Spec PyProof.Rows
noncomputable def ixN(n:Nat)(i:Int):Option Nat:=if 0<=i then (if i<n then some i.toNat else none) else if -(n:Int)<=i then some (i+n).toNat else none
noncomputable def atI{α:Type}(xs:List α)(i:Int):Option α:=(ixN xs.length i).bind fun j=>xs[j]?
theorem ixN_seq{n:Nat}{i:Int}{j:Nat}(h:ixN n i=some j):seqIndex? i n=some j/\j<n /\ -(n:Int)<=i/\i<n:=by
 unfold ixN at h;by_cases h0:0<=i
 ·rw[if_pos h0]at h;by_cases h1:i<n
  ·rw[if_pos h1]at h;have e:i.toNat=j:=Q5 h;exact⟨by rw[seqIndex_of h0 h1,e],by omega,by omega,h1⟩
  ·rw[if_neg h1]at h;cases h
 ·rw[if_neg h0]at h;by_cases h1:-(n:Int)<=i
  ·rw[if_pos h1]at h;have e:(i+n).toNat=j:=Q5 h;exact⟨by rw[seqIndex_neg (by omega) h1,e],by omega,h1,by omega⟩
  ·rw[if_neg h1]at h;cases h
theorem JK{α:Type}{xs:List α}{i:Int}{v:α}(h:atI xs i=some v):∃j,seqIndex? i xs.length=some j/\xs[j]?=some v/\j<xs.length /\ -(xs.length:Int)<=i/\i<xs.length:=by
 unfold atI at h
 cases e:ixN xs.length i with
 |none=>rw[e]at h;cases h
 |some j =>
  rw[e]at h;obtain⟨h1,h2,h3,h4⟩:=ixN_seq e;exact⟨j,h1,h,h2,h3,h4⟩
noncomputable def PlainIx(b:Expr):Prop:=∀o i,subscripted b false o i=operate [o,i] (getItem o i)
noncomputable def IxR(X:Cx)(r:R2):Prop :=
 ∀(value slice:Expr) (pins:List (Addr×Obj)) (s:Shared) (σ:St) (H:Hp) (x y:V) (v u:KO) (Q:VK),Inv X pins σ H s->jV x v->jV y u->r x y H Q ->
  subscripted slice false v u=operate [v,u] (getItem v u)->wpAny (model X.prog X.w) X.A (subscriptTail value slice v u) (EP X pins σ Q) X.xe s
noncomputable def MtR(X:Cx)(id:String)(r:V->List V->Hp->VK->Prop):Prop :=
 ∀(pins:List (Addr×Obj)) (s:Shared) (σ:St) (H:Hp) (x:V) (xs:List V) (v:KO) (us:List KO) (Q:VK),Inv X pins σ H s->jV x v->jG xs us->r x xs H Q ->
  wpAny (model X.prog X.w) X.A (call (.builtin id) (v::us)) (EP X pins σ Q) X.xe s
section
variable {X:Cx} {a b:Expr} {ta tb:TE} {pos:Pos}
theorem pe_ix{r:R2}(hr:IxR X r)(ha:PE X a ta)(hb:PE X b tb)(hs:PlainIx b):PE X (.Subscript a b pos) (tOp r ta tb):=by
 intro pins s σ H Q I h;exact Subscript_ (binT ha hb I h fun v u s2 x y H2 I2 rx ry q=>hr a b pins s2 σ H2 x y v u Q I2 rx ry q (hs _ _))
noncomputable def rIxL(K:KN):R2:=fun x y H Q=>∃p xs i v,x=.ref p/\y=.int i/\SqL K H p xs/\atI xs i=some v/\Q v H
noncomputable def rIxT(K:KN):R2:=fun x y H Q=>∃p xs i v,x=.ref p/\y=.int i/\SqT K H p xs/\atI xs i=some v/\Q v H
noncomputable def rIxS:R2:=fun x y H Q=>∃z i c,x=.str z/\y=.int i/\z.length<=sizeLine/\atI z.cps.toList i=some c/\Q (.str ⟨#[c]⟩) H
theorem ix_list:IxR X (rIxL X.K):=by
 intro value slice pins s σ H x y v u Q I rx ry h hs;obtain⟨p,xs,i,z,rfl,rfl,hq,he,q⟩:=h;cases rx;obtain⟨t,rfl⟩:=ry;obtain⟨its,r,pl,hz⟩:=I.list hq;obtain⟨j,h1,h2,h3,h4,h5⟩:=JK he;obtain⟨w,ew,rw'⟩:=r.get h2;have hl:=r.length;have hn:=ue
 have fin:EP X pins σ Q w s:=⟨z,H,I,rw',q⟩
 by_cases h0:0<=i
 ·have hj:i.toNat=j:=by
   rw[seqIndex_of h0 h5]at h1;exact Q5 h1
  exact item_listR pl.isList h0 (by omega) (by rw[hj];simpa using ew) fin hs
 ·have hj:(i+(its.toArray.size:Int)).toNat=j:=by
   rw[seqIndex_neg (by omega) h4]at h1;rw[Qc,<- hl];exact Q5 h1
  exact subscriptTail_builtinR (x:=w) pl.isList.typeIs slot_list_getitem.lookup
   (wpAny_getItem_list_neg (Q:=fun r s'=>r=w/\EP X pins σ Q r s') pl.isList (by omega) (by rw[Qc]<;>omega) (by omega) (by rw[hj];simpa using ew) ⟨rfl,fin⟩) hs
theorem ix_tup:IxR X (rIxT X.K):=by
 intro value slice pins s σ H x y v u Q I rx ry h hs;obtain⟨p,xs,i,z,rfl,rfl,hq,he,q⟩:=h;cases rx;obtain⟨t,rfl⟩:=ry;obtain⟨its,r,pl,hz⟩:=I.tuple hq;obtain⟨j,h1,h2,h3,h4,h5⟩:=JK he;obtain⟨w,ew,rw'⟩:=r.get h2;have hl:=r.length;have hn:=ue
 have fin:EP X pins σ Q w s:=⟨z,H,I,rw',q⟩
 exact subscriptTail_builtinR (x:=w) pl.typeIs slot_tuple_getitem.lookup
  (getItem_tuple (j:=j) (Q:=fun r s'=>r=w/\EP X pins σ Q r s') pl (by omega) (by omega) (by rw[Qc,<- hl];exact h1) (by simpa using ew) ⟨rfl,fin⟩) hs
theorem ix_str:IxR X rIxS:=by
 intro value slice pins s σ H x y v u Q I rx ry h hs;obtain⟨z,i,c,rfl,rfl,hz,he,q⟩:=h;obtain⟨t,rfl⟩:=rx;obtain⟨t',rfl⟩:=ry;obtain⟨j,h1,h2,h3,h4,h5⟩:=JK he
 have hl:z.cps.toList.length=z.length:=by simp[Str.length]
 rw[hl]at h1 h4 h5;have hn:=ue
 exact tail_any (typeIs_str s z t) slot_str_getitem.lookup (getItem_str (c:=c) (by
  have e1:decide (i < -(2^63:Int))=false:=decide_eq_false (by omega);have e2:decide (i ≥ 2^63)=false:=decide_eq_false (by omega)
  rw[e1,e2,Bool.or_false]) (by rw[h1];simpa using h2) ⟨.str ⟨#[c]⟩,H,I.tok _,⟨_,rfl⟩,q⟩) hs
theorem mapSeq_set(its:List KO)(n j:Nat)(u:KO):ZP (·.setIfInBounds j u) { cls:=.type "list",data:=.seq its.toArray n }={ cls:=.type "list",data:=.seq (its.set j u).toArray n }:=by
 simp[ZP]
theorem Inv.lst{pins:List (Addr×Obj)}{σ:St}{H:Hp}{s:Shared}{p:Addr}{xs:List V}(I:Inv X pins σ H s)(h:H p=some (.lst xs)) :
 ∃(its:List KO) (n:Nat),jG xs its/\s.heap.get? p=some { cls:=.type "list",data:=.seq its.toArray n }/\xs.length<=sizeLine:=by
 obtain⟨z,its,n,r,e⟩:=I.hok p _ h;exact⟨its,n,r,e,z⟩
theorem Inv.lstUpd{pins:List (Addr×Obj)}{σ:St}{H:Hp}{s:Shared}{p:Addr}{xs ys:List V}{its its':List KO}{n n':Nat}{f:Obj->Obj}(I:Inv X pins σ H s)(h:H p=some (.lst xs))
 (ho:s.heap.get? p=some { cls:=.type "list",data:=.seq its.toArray n }) (hf:f { cls:=.type "list",data:=.seq its.toArray n }={ cls:=.type "list",data:=.seq its'.toArray n' }) (r:jG ys its') (hz:ys.length<=sizeLine) (t:Nat) :
 Inv X pins σ (upd H p (.lst ys)) { s with heap:=s.heap.update p f,toks:=t }:=by
 have e:(s.heap.update p f).get? p=some { cls:=.type "list",data:=.seq its'.toArray n' }:=by
  rw[Xx f ho (by rw[hf]<;>rfl),hf]
 refine I.write (x:=p) (e:=p) (by rw[h];trivial) (.inl rfl) (fun b u hb q=>(Qy _ _ (Xm hb)).trans q) ⟨_,e⟩ ?_;exact⟨hz,its',n',r,e⟩
noncomputable def rSetL:V->V->V->Hp->(Hp->Prop)->Prop:=fun o i v H Q=>∃p xs k j,o=.ref p/\i=.int k/\H p=some (.lst xs)/\ixN xs.length k=some j/\Q (upd H p (.lst (xs.set j v)))
theorem set_list:PSet X rSetL:=by
 intro pins s σ H o i v ov iv u Q I ro ri rv h;obtain⟨p,xs,k,j,rfl,rfl,hp,hj,q⟩:=h;cases ro;obtain⟨t,rfl⟩:=ri;obtain⟨its,n,r,ho,hz⟩:=I.lst hp;obtain⟨h1,h2,h3,h4⟩:=ixN_seq hj;have hl:=r.length;have hn:=ue
 have I':Inv X pins σ (upd H p (.lst (xs.set j v))) { s with heap:=s.heap.update p (ZP (·.setIfInBounds j u)) } :=
  I.lstUpd hp ho (mapSeq_set its n j u) (r.set rv j) (by rw[Xi];exact hz) s.toks
 by_cases h0:0<=k
 ·have hk:k.toNat=j:=by
   rw[seqIndex_of h0 h4]at h1;exact Q5 h1
  exact PySem.W.ki_setAt ho h0 (by omega) (by rw[Qc,<- hl];exact h4) (by rw[hk];exact⟨_,I',q⟩)
 ·have hk:(k+(its.toArray.size:Int)).toNat=j:=by
   rw[seqIndex_neg (by omega) h3]at h1;rw[Qc,<- hl];exact Q5 h1
  exact PySem.W.ki_setBack ho (by omega) (by rw[Qc,<- hl];exact h3) (by omega) (by rw[hk];exact⟨_,I',q⟩)
theorem Kh(lo hi:Option Int)(n:Nat):(Zx lo hi none n).1=((HT.sIx n 0 lo:Nat):Int)/\(Zx lo hi none n).2.1=((HT.sIx n n hi:Nat):Int)/\(Zx lo hi none n).2.2=1:=by
 refine⟨?_,?_,rfl⟩
 ·cases lo with
  |none=>simp[Zx,HT.sIx]
  |some i =>
   simp only[Zx,HT.sIx,Option.getD_none,show (1:Int) > 0 by decide,if_true];by_cases h:i<0
   ·simp only[h,if_true]<;>omega
   ·simp only[h,if_false]<;>omega
 ·cases hi with
  |none=>simp[Zx,HT.sIx]
  |some i =>
   simp only[Zx,HT.sIx,Option.getD_none,show (1:Int) > 0 by decide,if_true];by_cases h:i<0
   ·simp only[h,if_true]<;>omega
   ·simp only[h,if_false]<;>omega
theorem Ja(its:List KO)(lo hi:Option Int):slicePick its.toArray lo hi none=((its.drop (HT.sIx its.length 0 lo)).take (HT.sIx its.length its.length hi-HT.sIx its.length 0 lo)).toArray:=by
 obtain⟨h1,h2,h3⟩:=Kh lo hi its.toArray.size;unfold slicePick;rw[h1,h2,h3]
 simp only[sliceRange_one,pick_run,Qc]<;>rfl
noncomputable def rSlL(K:KN):V->Option Int->Option Int->Hp->VK->Prop:=fun x lo hi H Q=>∃a xs,x=.ref a/\SqL K H a xs/\∀p,H p=none->Q (.ref p) (upd H p (.lst (cutV xs lo hi)))
theorem sl_list:SlR X (rSlL X.K):=by
 intro pins s σ H x v vl vu lo hi sl Q I rx hs pl pu h;obtain⟨a,xs,rfl,hx,q⟩:=h;cases rx;obtain⟨its,r,ht,hz⟩:=I.list hx;have hlen:=r.length;refine⟨"list",_,slot_list_getitem.lookup,ht.isList.typeIs,?_⟩;refine wpAny_getItem_list_slice ht.isList hs pl pu .none (by simp) ?_ (by rw[Qc]<;>omega);rw[Ja,<- hlen];refine⟨.ref s.heap.objs.size,_,I.laid (t':=s.toks) (o:=.lst (cutV xs lo hi)) (fun b ob q=>KQ _ q) (K6 _) ?_,rfl,q _ (I.hok.fresh (K6 _))⟩;exact⟨Qx (cutV_length xs lo hi) hz,_,0,(r.drop (HT.sIx xs.length 0 lo)).take (HT.sIx xs.length xs.length hi-HT.sIx xs.length 0 lo),Qh _ rfl⟩
theorem zJ:kU X (.builtin "len") (fun xs H Q=>∃p ys,xs=[.ref p]/\(SqL X.K H p ys\/SqT X.K H p ys)/\Q (.int ys.length) H):=by
 intro pins s σ H xs us Q I r h;obtain⟨p,ys,rfl,hq,q⟩:=h;obtain⟨u,rfl,rx⟩:=xi r;cases rx;have hn:=ue;rcases hq with hq|hq
 ·obtain⟨its,r',pl,hz⟩:=I.list hq;have hlen:=r'.length;exact Calls.call_len_list pl.isList (by simp only[Qc]<;>omega) ⟨.int ys.length,H,I.tok _,⟨s.toks+1,by rw[Qc,hlen]⟩,q⟩
 ·obtain⟨its,r',pl,hz⟩:=I.tuple hq;have hlen:=r'.length;exact len_tuple pl (by simp only[Qc]<;>omega) ⟨.int ys.length,H,I.tok _,⟨s.toks+1,by rw[Qc,hlen]⟩,q⟩
theorem Ky:kU X (.builtin "len") (fun xs H Q=>∃z,xs=[.str z]/\z.length<=sizeLine/\Q (.int z.length) H):=by
 intro pins s σ H xs us Q I r h;obtain⟨z,rfl,hz,q⟩:=h;obtain⟨u,rfl,t,rfl⟩:=xi r;have hn:=ue;exact len_str (by omega) ⟨.int z.length,H,I.tok _,⟨_,rfl⟩,q⟩
theorem kX:kU X (.type "list") (fun xs H Q=>∃p ys,xs=[.ref p]/\(SqL X.K H p ys\/SqT X.K H p ys)/\∀l,H l=none->Q (.ref l) (upd H l (.lst ys))):=by
 intro pins s σ H xs us Q I r h;obtain⟨p,ys,rfl,hq,q⟩:=h;obtain⟨u,rfl,rx⟩:=xi r;cases rx
 have fin:∀(its:List KO),jG ys its->ys.length<=sizeLine->∀(h':QG) (c':Nat),(∀b o',s.heap.get? b=some o'->h'.get? b=some o') ->
  h'.get? s.heap.objs.size=some { cls:=.type "list",dict:=none,data:=.seq its.toArray c',slots:=#[] }->EP X pins σ Q (.ref s.heap.objs.size) { s with heap:=h' }:=fun its r' hz h' c' kp e =>
  ⟨.ref s.heap.objs.size,_,I.laid (t':=s.toks) kp (K6 _) (show qF X.prog X.w _ h' _ (.lst ys) from ⟨hz,its,c',r',e⟩),rfl,q _ (I.hok.fresh (K6 _))⟩
 rcases hq with hq|hq
 ·obtain⟨its,r',pl,hz⟩:=I.list hq;have hlen:=r'.length;obtain⟨o,ho,hc,n,hd⟩:=pl.isList;exact call_list_seq p (.inl rfl) ho hc hd (fun h' c' kp e=>fin its r' hz h' c' kp e) (by simp only[Qc]<;>omega)
 ·obtain⟨its,r',pl,hz⟩:=I.tuple hq;have hlen:=r'.length;obtain⟨o,ho,hc,n,hd⟩:=pl;exact call_list_seq p (.inr rfl) ho hc hd (fun h' c' kp e=>fin its r' hz h' c' kp e) (by simp only[Qc]<;>omega)
theorem yR:kU X (.type "tuple") (fun xs H Q=>∃p ys,xs=[.ref p]/\((SqL X.K H p ys/\∀l,H l=none->Q (.ref l) (upd H l (.tup ys)))\/(SqT X.K H p ys/\Q (.ref p) H))):=by
 intro pins s σ H xs us Q I r h;obtain⟨p,ys,rfl,h⟩:=h;obtain⟨u,rfl,rx⟩:=xi r;cases rx;rcases h with⟨hq,q⟩|⟨hq,q⟩
 ·obtain⟨its,r',pl,hz⟩:=I.list hq;have hlen:=r'.length;refine call_tuple_list pl.isList (fun h' kp=>?_) (by simp only[Qc]<;>omega);have I1:Inv X pins σ H { s with heap:=h' }:=I.kept (t':=s.toks) kp
  have I2:Inv X pins σ (upd H h'.objs.size (.tup ys)) { s with heap:=h'.push { cls:=.type "tuple",data:=.seq its.toArray } } :=
   I1.laid (t':=s.toks) (fun b o e=>KQ _ e) (K6 _) (show qF X.prog X.w _ _ _ (.tup ys) from ⟨hz,its,r',IsTup.new _ _⟩)
  exact⟨.ref h'.objs.size,_,I2,rfl,q _ (I1.hok.fresh (K6 _))⟩
 ·obtain⟨its,r',pl,hz⟩:=I.tuple hq;exact call_tuple_same pl ⟨.ref p,H,I,rfl,q⟩
noncomputable def tyV(K:KN)(T:String)(x:V)(H:Hp):Prop:=match x with
 |.str _=>T="str"
 |.int _=>T="int"
 |.ref p=>(T="list" /\ ∃xs,SqL K H p xs)\/(T="tuple" /\ ∃o,K.lookup p=some o/\o.cls=.type "tuple" /\ o.dict=none) \/
  (T="dict" /\ ((∃kvs,H p=some (.dK kvs))\/∃kvs,H p=some (.dT kvs)))\/(T="set" /\ ∃S n,H p=some (.set S n))
 |_=>False
theorem tyV_is{pins:List (Addr×Obj)}{σ:St}{H:Hp}{s:Shared}{T:String}{x:V}{v:KO}(I:Inv X pins σ H s)(r:jV x v)(ty:tyV X.K T x H) :
 s.TypeIs v T/\∀a,v=.ref a->∃ob,s.heap.get? a=some ob/\ob.dict=none:=by
 cases x with
 |str z =>
  obtain⟨t,rfl⟩:=r;cases (show T="str" from ty)
  exact⟨typeIs_str s z t,fun _ e=>nomatch e⟩
 |int i =>
  obtain⟨t,rfl⟩:=r;cases (show T="int" from ty)
  exact⟨typeIs_int s i t,fun _ e=>nomatch e⟩
 |ref p =>
  cases r;rcases ty with⟨rfl,xs,hq⟩|⟨rfl,o,hk,hc,hd⟩|⟨rfl,hk⟩|⟨rfl,S,n,hk⟩
  ·obtain⟨its,_,pl,_⟩:=I.list hq;refine⟨pl.isList.typeIs,fun a e=>?_⟩;cases e;obtain⟨o,n,e,c,hd,_⟩:=pl;exact⟨o,e,hd⟩
  ·refine⟨⟨o,I.kIn p o hk,hc⟩,fun a e=>?_⟩;cases e;exact⟨o,I.kIn _ o hk,hd⟩
  ·have z:∃o,s.heap.get? p=some o/\o.ExactDict:=by
    rcases hk with⟨kvs,hk⟩|⟨kvs,hk⟩
    ·obtain⟨_,_,_,_,o,_,_,e,ex,_⟩:=I.hok p _ hk;exact⟨o,e,ex⟩
    ·obtain⟨_,_,_,_,o,_,_,e,ex,_⟩:=I.hok p _ hk;exact⟨o,e,ex⟩
   obtain⟨o,e,ex⟩:=z;refine⟨⟨o,e,ex.1⟩,fun a e2=>?_⟩;cases e2;exact⟨o,e,ex.2.1⟩
  ·obtain⟨o,_,_,_,e,ex,_⟩:=I.hok p _ hk;refine⟨⟨o,e,ex.1⟩,fun a e2=>?_⟩;cases e2
   exact⟨o,e,ex.2.1⟩
 |_=>exact XL ty
noncomputable def tBM0(K:KN)(T:String)(r:V->List V->Hp->VK->Prop)(to:TE):TE:=fun σ H Q=>to σ H fun x H1=>tyV K T x H1/\r x [] H1 Q
noncomputable def tBM(K:KN)(T:String)(r:V->List V->Hp->VK->Prop)(to:TE)(t:TA):TE:=fun σ H Q=>to σ H fun x H1=>tyV K T x H1/\t σ H1 fun xs H2=>r x xs H2 Q
variable {o e:Expr} {es:List Expr} {to:TE} {t:TA} {name:Str} {apos cpos:Pos} {T id:String} {r:V->List V->Hp->VK->Prop}
theorem pe_bm0(pa:PlainAttrs T)(slot:Slot T name id)(hty:typeOf (.builtin id)=pure (.type "method_descriptor"))(hm:MtR X id r)(ho:PE X o to)
 (hbase:Zg o name X.env (eval o X.env)=eval o X.env:=by rfl) (hline:(apos.endLine == cpos.line)=true:=by rfl):PE X (.Call (.Attribute o name apos) [] [] cpos) (tBM0 X.K T r to):=by
 intro pins s σ H Q I h;refine wpAny_Call_method0_late hbase hline (thn (ho pins s σ H _ I h) fun v s1 ⟨x,H1,I1,r1,ty,q1⟩=>?_);obtain⟨h1,h2⟩:=tyV_is I1 r1 ty;exact⟨T,id,pa,slot,hty,h1,h2,Calls.callWith_builtin rfl (PySem.evalArgs_none (hm pins s1 σ H1 x [] v [] Q I1 r1 .nil q1))⟩
theorem pe_bm(pa:PlainAttrs T)(slot:Slot T name id)(hty:typeOf (.builtin id)=pure (.type "method_descriptor"))(hm:MtR X id r)(ho:PE X o to)(ha:PA X (e::es) t)
 (hbase:Zg o name X.env (eval o X.env)=eval o X.env:=by rfl)
 (hfew:((backTo cpos (Qa (e::es) X.env)).all (fun x=>!x.1)&&(backToKw cpos (keywordEach [] X.env)).all (fun x=>x.1.isSome)
  && decide ((e::es).length+([]:List Keyword).length+(if ([]:List Keyword).isEmpty then 0 else 1)<30))=true:=by rfl)
 (hline:(apos.endLine == cpos.line)=true:=by rfl) (hs:Qa (e::es) X.env=(false,eval e X.env)::Qa es X.env:=by rfl) (hplain:(backTo cpos (Qa es X.env)).any (·.1)=false:=by rfl) :
 PE X (.Call (.Attribute o name apos) (e::es) [] cpos) (tBM X.K T r to t):=by
 intro pins s σ H Q I h;refine wpAny_Call_method_late hbase hfew hline rfl (thn (ho pins s σ H _ I h) fun v s1 ⟨x,H1,I1,r1,ty,q1⟩=>?_);obtain⟨h1,h2⟩:=tyV_is I1 r1 ty;refine⟨T,id,pa,slot,hty,h1,h2,?_⟩;have hA:=ha cpos pins s1 σ H1 _ I1 q1;rw[hs]at hA ⊢;refine Calls.callWith_builtin (by show (false ||(backTo cpos (Qa es X.env)).any (·.1))=false;rw[hplain]<;>rfl) (Calls.evalArgs_plain ?_)
 exact thn hA fun us s2 ⟨vs,H2,I2,r2,q2⟩=>hm pins s2 σ H2 x vs v us Q I2 r1 r2 q2
/- xs.append(e),list.index on a module's tuple .. are MtR facts of 06m -/
end
end L2
namespace L2
open PySem PySem.Spec PyProof.Rows
noncomputable def MtM(X:Cx)(id:String)(r:V->List V->Hp->VK->Prop):Prop :=
 ∀(pins:List (Addr×Obj)) (s:Shared) (σ:St) (H:Hp) (x:V) (xs:List V) (v:KO) (us:List KO) (Q:VK),Inv X pins σ H s->jV x v->jG xs us->r x xs H Q ->
  wpAny (model X.prog X.w) X.A (call (.builtin id) (v::us)) (EP X pins σ Q) X.xe s
theorem jG.one:∀ {x:V} {us:List KO},jG [x] us->∃u,us=[u]/\jV x u
 |_,_,.cons r .nil=>⟨_,rfl,r⟩
theorem jG.rep{xs:List V}{us:List KO}(h:jG xs us):∀k:Nat,jG (K5 k xs).flatten (K5 k us).flatten
 |0=>.nil
 |k+1=>by
  rw[QC,QC,Xw,Xw];exact jG.append h (jG.rep h k)
theorem foldl_rep(its:List KO):∀(k:Nat) (acc:List KO),
 List.foldl (fun x1 x2=>x1++x2) acc.toArray (K5 k its.toArray)=(acc++(K5 k its).flatten).toArray
 |0,acc=>by simp
 |k+1,acc=>by
  have e:acc.toArray++its.toArray=(acc++its).toArray:=by simp
  have e2:(acc++its)++(K5 k its).flatten=acc++(K5 (k+1) its).flatten:=by
   rw[QC,Xw,Ys]
  rw[<- e2,<- foldl_rep its k (acc++its),<- e,QC,YL]
section
variable {X:Cx} {pins:List (Addr×Obj)} {σ:St} {H:Hp} {s:Shared} {l b:Addr} {xs ys zs:List V}
theorem Inv.lset{its its':List KO}{n:Nat}{f:Array KO->Array KO}{t':Nat}(I:Inv X pins σ H s)(hH:H l=some (.lst xs))
 (e:s.heap.get? l=some { cls:=.type "list",data:=.seq its.toArray n }) (hf:f its.toArray=its'.toArray) (hv:jG ys its') (hz:ys.length<=sizeLine) :
 Inv X pins σ (upd H l (.lst ys)) { s with heap:=s.heap.update l (ZP f),toks:=t' }:=by
 have q:=PySem.IsL.update e f;rw[hf]at q;refine I.write (x:=l) (e:=l) (by rw[hH];exact trivial) (.inl rfl) (fun b' u hb hu=>(Qy s.heap (ZP f) (Xm hb)).trans hu) ⟨_,q⟩ ?_;exact⟨hz,its',_,hv,q⟩
theorem Inv.lnew{its:List KO}{t':Nat}(I:Inv X pins σ H s)(hv:jG ys its)(hz:ys.length<=sizeLine) :
 Inv X pins σ (upd H s.heap.objs.size (.lst ys)) { s with heap:=s.heap.push { cls:=.type "list",data:=.seq its.toArray },toks:=t' } :=
 I.laid (fun _ _ q=>KQ _ q) (K6 _) ⟨hz,its,0,hv,Qh _ rfl⟩
theorem Inv.fresh(I:Inv X pins σ H s):H s.heap.objs.size=none:=I.hok.fresh (K6 _)
theorem Inv.lstM(I:Inv X pins σ H s)(hH:H l=some (.lst xs)):xs.length<=sizeLine/\∃(its:List KO) (n:Nat),jG xs its/\xs.length=its.length/\s.heap.get? l=some { cls:=.type "list",data:=.seq its.toArray n }:=by
 obtain⟨z,its,n,r,e⟩:=I.hok l _ hH;exact⟨z,its,n,r,r.length,e⟩
theorem notLongL{n:Nat}(h:n<=sizeLine):XO n=false:=by
 unfold XO;exact decide_eq_false (by omega)
end
section
variable {X:Cx}
noncomputable def rAppend:V->List V->Hp->VK->Prop:=fun x vs H Q=>∃l xs y,x=.ref l/\vs=[y]/\H l=some (.lst xs)/\xs.length<sizeLine/\Q .non (upd H l (.lst (xs ++ [y])))
theorem uh:MtM X "list.append" rAppend:=by
 intro pins s σ H x vs v us Q I rx rv h;obtain⟨l,xs,y,rfl,rfl,hH,hz,q⟩:=h;cases rx;obtain⟨u,rfl,ru⟩:=rv.one;obtain⟨z,its,n,r,hl,e⟩:=I.lstM hH;refine call_meets F.slot_list_append ⟨_,e,rfl⟩ F.entry_list_append (F.args_list_append_2 _ _) (PySem.list_append l its.toArray n u (by rw[Qc];omega)) ⟨e,?_⟩;refine⟨.non,_,I.lset (its':=its ++ [u]) hH e (by simp) (r.append (.cons ru .nil)) ?_,rfl,q⟩;rw[K9,XJ];omega
theorem len_rep{α:Type}(xs:List α)(k:Nat):(K5 k xs).flatten.length=k*xs.length:=by
 induction k with
 |zero=>simp
 |succ k ih=>rw[QC,Xw,K9,ih,Nat.succ_mul,Nat.add_comm]
end
section
variable {prog:Qp} {w:World} {A:QH} {E:KO->Shared->Prop} {s:Shared}
set_option maxRecDepth 100000 in
end
section
variable {X:Cx}
end
end L2
namespace Att
open PySem PySem.W PySem.Calls PyProof.Rows
theorem uE{P:Params}{h:QG}:∀(ns:List Int) (vs:List KO),WellAll P h vs (ns.map WData.int)->IntsAre vs ns:=by
 intro ns
 induction ns with
 |nil =>
  intro vs w;rw[QP]at w;cases w
  exact .nil
 |cons n ns ih =>
  intro vs w;rw[K1]at w
  cases w with
  |cons a b =>
   cases a;exact .cons _ _ (ih _ b)
theorem script_of{l:OpenLaw}{n:Nat}(hn:l.most=some n){P:Params}{h:QG}{args:List WData}{vals:List KO}
 (hpre:l.row.toRowW.claim.pre args=true) (hwl:WellAll P h vals args) :
 ∃a vs ns,vals=[Xa a]/\args=[WData.list (ns.map WData.int)]/\h.get? a=some { cls:=.type "list",data:=.seq vs.toArray }/\IntsAre vs ns/\ns.length<=n:=by
 have hsh:WShape.hasAll [] args [.list .int]=true:=(pre_splitW hpre).1;have hc:l.pre.holds [] { args:=args }=true:=(pre_splitW hpre).2;obtain⟨d,r,rfl,h1,h2⟩:=hasAllW_cons hsh;obtain rfl:=hasAllW_nil h2;obtain⟨xs,rfl,h3⟩:=hasW_list h1;obtain⟨ns,rfl⟩:=items_int h3
 have hlen:ns.length<=n:=by
  unfold OpenLaw.pre at hc
  have h4:(WTm.not (.lt (.lit (.int (n:Int))) (.len (.arg 0)))).holds [] { args:=[.list (ns.map .int)] }=true:=by
   have h4:=(holds_andW hc).1;rw[hn]at h4;exact h4
  have h5:=condW_of h4 (w_not (w_lt w_lit (w_len_list (w_arg rfl))));rw[KP]at h5
  refine Nat.le_of_not_lt fun q=>?_
  have q':(n:Int)<((ns.length:Nat):Int):=by omega
  first
   |(rw[decide_eq_true q']at h5;exact absurd h5 (by decide))
   |(simp at h5;omega)
 cases hwl with
 |cons w1 w2 =>
  cases w2
  cases w1 with
  |list ho hall=>exact⟨_,_,ns,rfl,rfl,ho,uE ns _ hall,hlen⟩
theorem post_true(l:OpenLaw)(args:List WData):l.row.toRowW.claim.post args (.bool true) args=true :=
 postW_of (r:=l.row.toRowW) (X:=(true == true))
  (show WShape.has [] (.bool true) .bool=true by first|rfl|decide|simp[WShape.has,WShape.arms,WShape.armsAll])
  (show (WTm.eq .res (.lit (.bool true))).value [] { args:=args,res:=some (.bool true),after:=args }=some (.bool (true == true)) from w_eq_bool (w_res rfl) w_lit) rfl
theorem attach_call{l:OpenLaw}{n:Nat}{q:Qp}{loose:List Str}{XP:(Str->Option KO)->QG->Prop}{YP:World->QG->Prop}{d:DefRec}
 (hn:l.most=some n) (hdf:d.params.defaults=[])
 (call:∀(w:World) (s₀ s₁:Shared) (mg mb:Str->Option KO) (fa:Addr) (o:Obj) (pm cd doc:KO) (a:Addr) (vs:List KO) (ns:List Int),
  Ground q loose [] XP w s₀ mg mb s₁.heap->YP w s₁.heap ->
  s₁.heap.get? fa=some o->o.data=.func (docDef d.name d.params d.body d.scope pm cd doc)->s₁.heap.CodeRec cd d.name->mg d.name=some (.ref fa) ->
  s₁.heap.get? a=some { cls:=.type "list",data:=.seq vs.toArray }->IntsAre vs ns->ns.length<=n->s₁.gens=#[] ->
  ZT (model l.prog w) callerA (.call (.ref fa) ⟨[.ref a],[]⟩) (fun r s'=>r=.ok (.ret (.bool true))/\OldK s₁.heap s'.heap/\s'.os=s₁.os/\Ue s'.gens) s₁) :
 WalkO q loose XP YP l.row.toRowW d [] (fun f vs=>PySem.call f vs):=by
 intro w s₀ s₁ mg mb G Y fa o pm cd doc dV kV ho hd hcd hD hmg hg args vals as hpre hlay hrd hwl hlo;obtain rfl:dV=.none:=Dflts.none hD hdf;obtain rfl:kV=.none:=Dflts.noKw hD;obtain⟨a,vs,ns,rfl,rfl,hobj,hints,hlen⟩:=script_of hn hpre hwl;refine enter_call (Uf (call w s₀ s₁ mg mb fa o pm cd doc a vs ns G Y ho (fd_plain hd) hcd hmg hobj hints hlen hg) fun r s' hq=>?_);obtain⟨rfl,h2,h3,h4⟩:=hq;exact⟨.inl ⟨.bool true,.bool true,[],rfl,fun _=>rfl,.bool true,post_true l _,fun _=>⟨List.Pairwise.nil,fun _ hm=>(nomatch hm)⟩⟩,h2,h3,h4⟩
section
variable {prog:Qp} {w:World} {A:QH} {E:KO->Shared->Prop} {s:Shared} {K:Frag}
end
end Att
namespace L2
open PySem PySem.Spec PyProof.Rows
theorem xF:∀ {vs:List KO} {ns:List Int},IntsAre vs ns->jG (ns.map V.int) vs
 |_,_,.nil=>.nil
 |_,_,.cons n t h=>.cons ⟨t,rfl⟩ (xF h)
noncomputable def Only(H:Hp):Prop:=∀b,H b=none\/∃o xs,H b=some (.frz o (.lst xs))
theorem law_call{P:Qp}{w:World}{K:KN}{mg mb:Str->Option KO}{CX:CXT}{k:Nat}{fa a:Addr}{fd:Ya}{x:Str}{sp:Sp}{s₁:Shared}{vs:List KO}{ns:List Int}
 (KX:K.In s₁.heap) (hns:s₁.heap.Ns Q7 mg) (hb:s₁.heap.Ns builtinsNs mb) (hbb:∀x:Str,x ≠ "__name__"->mb x=Y4 x) (hlim:s₁.heap.NoLimit/\s₁.heap.NoDigits) (hg:s₁.gens=#[])
 (ha:s₁.heap.get? a=some { cls:=.type "list",data:=.seq vs.toArray }) (hi:IntsAre vs ns) (hl:ns.length<=sizeLine) (hr:Room k callerA)
 (F:∀base:QG,K.In base->base.Ns Q7 mg->FnOk P w K mg base CX k fa fd [x] sp) (hbind:∀(s:Shared) (u:KO),BindsTo s fd ⟨[u],[]⟩ [(x,u)])
 (hsp:∀H:Hp,Only H->SqL K H a (ns.map V.int)->sp [.ref a] H (fun v _=>v=.bl true) fun _ _ _=>False)
 (hCX:∀H e s',CX [] H s₁ (fun _ _ _=>False) e s'->False) :
 ZT (model P w) callerA (.call (.ref fa) ⟨[.ref a],[]⟩) (fun r s'=>r=.ok (.ret (.bool true))/\OldK s₁.heap s'.heap/\s'.os=s₁.os/\Ue s'.gens) s₁:=by
 have rv:=xF hi;have lenV:=hi.length
 have core:∀H:Hp,Only H->SqL K H a (ns.map V.int)->HOk P w H s₁.heap->(∀b,H b≠none->b=a)->(H a≠none->K.lookup a=none) ->
  ZT (model P w) callerA (.call (.ref fa) ⟨[.ref a],[]⟩) (fun r s'=>r=.ok (.ret (.bool true))/\OldK s₁.heap s'.heap/\s'.os=s₁.os/\Ue s'.gens) s₁:=by
  intro H hO hS hok hA hK
  have base_of:∀ {b:Addr} {o:Obj},s₁.heap.get? b=some o->H b=none->(Kk s₁.heap H).get? b=some o:=fun e n=>hidT_get e n
  have noA:∀ {b:Addr} {o:Obj} {es:Array DictEntry} {ep:Nat},s₁.heap.get? b=some o->o.data=.dict es ep->H b=none:=fun {b o es ep} e d=>by
   cases q:H b with
   |none=>rfl
   |some u =>
    have e':b=a:=hA b (by rw[q];simp);subst e';rw[ha]at e;cases e;have d':Data.seq vs.toArray _=Data.dict es ep:=d;cases d'
  have nsK:∀ {b:Addr} {m:Str->Option KO},s₁.heap.Ns b m->(Kk s₁.heap H).Ns b m:=fun {b m} ⟨o,es,ep,e,d,r⟩=>⟨o,es,ep,base_of e (noA e d),d,r⟩
  have hKb:K.In (Kk s₁.heap H):=fun b o e=>base_of (KX b o e) (by
   cases q:H b with
   |none=>rfl
   |some u =>
    have e':b=a:=hA b (by rw[q];simp);subst e'
    rw[hK (by rw[q];simp)]at e;cases e)
  have hM:Mod K mg (Kk s₁.heap H):=⟨hKb,nsK hns,⟨mb,nsK hb,hbb⟩,(let ⟨mc,h1,h2⟩:=hlim.1;⟨mc,nsK h1,h2⟩),(let ⟨mc,h1,h2⟩:=hlim.2;⟨mc,nsK h1,h2⟩)⟩
  have e0:Env0 P w K mg (Kk s₁.heap H) callerA [] s₁ H:=⟨rfl,hM,fun b o e=>of_hidT e,Nat.le_of_eq (hidT_size _ _),trivial,fun b hb=>absurd (show b∈([]:List Addr) from hb) (by simp),hok,.of_eq hg⟩
  refine Uf ((F _ hKb (nsK hns)).run callerA [] s₁ H ⟨[.ref a],[]⟩ [.ref a] [.ref a] _ _ hr e0 (hbind s₁ (.ref a)) (.cons rfl .nil) (hsp H hO hS)) fun r s' h=>?_
  cases r with
  |error e=>exact(hCX H e s' h).elim
  |ok fl =>
   cases fl with
   |next=>exact XL h
   |brk=>exact XL h
   |cont=>exact XL h
   |ret u =>
    obtain⟨v,H',os,bare,un,hok',r',q⟩:=h;have q':v=.bl true:=q;subst q';obtain rfl:u=Zr true:=r';refine⟨rfl,OldK.of_keep fun b o e=>?_,os,bare⟩
    cases q:H b with
    |none=>exact un.keep b o e q (by intro z;exact absurd (show b∈([]:List Addr) from z) (by simp)) (by simp)
    |some u =>
     rcases hO b with z|⟨ob,xs,z⟩
     ·rw[q]at z;cases z
     ·have z2:=un.frzs b ob _ z;obtain⟨e1,_⟩:=hok b _ z;obtain⟨e2,_⟩:=hok' b _ z2;rw[e]at e1;cases e1;exact e2
 cases hk:K.lookup a with
 |some o =>
  have e:=KX a o hk;rw[ha]at e;cases e
  refine core (fun _=>none) (fun _=>.inl rfl) (.inr ⟨_,vs.toArray,_,hk,rfl,rfl,rfl,by rw[Qc,lenV];exact hl,by simpa using rv⟩) (fun b u z=>by have z':(none:Option HO)=some u:=z;cases z') (fun b z=>absurd rfl z) fun z=>absurd rfl z
 |none =>
  refine core (fun b=>if b=a then some (.frz { cls:=.type "list",data:=.seq vs.toArray } (.lst (ns.map V.int))) else none) (fun b=>?_) (.inl (.inr ⟨{ cls:=.type "list",data:=.seq vs.toArray },if_pos rfl⟩)) (fun b u z=>?_) (fun b z=>?_) fun _=>hk
  ·by_cases hb:b=a
   ·exact .inr ⟨_,_,if_pos hb⟩
   ·exact .inl (if_neg hb)
  ·by_cases hb:b=a
   ·have z':=(if_pos hb).symm.trans z;cases z';subst hb;exact⟨ha,by rw[KP];exact hl,vs,_,rv,ha⟩
   ·have z':=(if_neg hb).symm.trans z;cases z'
  ·by_cases hb:b=a
   ·exact hb
   ·exact absurd (if_neg hb) z
end L2
namespace L2
open PySem PySem.Spec PyProof.Rows
theorem walk_of{l:PySem.W.OpenLaw}{n k:Nat}{q:Qp}{loose:List Str}{XP:(Str->Option KO)->QG->Prop}{YP:World->QG->Prop}{d:DefRec}{K:Params->KN}{CX:World->CXT}{sp:World->Sp}{x:Str}
 (hn:l.most=some n) (hn2:n<=sizeLine) (hdf:d.params.defaults=[]) (hr:Room k callerA)
 (hY:∀(w:World) (h:QG),YP w h->(K w.params).In h)
 (F:∀(w:World) (mg:Str->Option KO) (fa:Addr) (h:QG),(K w.params).In h->h.Ns Q7 mg->mg d.name=some (.ref fa) ->
  ∃fd:Ya,(∀(s:Shared) (u:KO),BindsTo s fd ⟨[u],[]⟩ [(x,u)]) /\
   ∀base:QG,(K w.params).In base->base.Ns Q7 mg->FnOk l.prog w (K w.params) mg base (CX w) k fa fd [x] (sp w))
 (hsp:∀(w:World) (H:Hp) (a:Addr) (ns:List Int),ns.length<=n->Only H->SqL (K w.params) H a (ns.map V.int)->sp w [.ref a] H (fun v _=>v=.bl true) fun _ _ _=>False)
 (hCX:∀(w:World) (H:Hp) (s:Shared) (e:KO) (s':Shared),CX w [] H s (fun _ _ _=>False) e s'->False) :
 PySem.W.WalkO q loose XP YP l.row.toRowW d [] (fun f vs=>PySem.call f vs):=by
 refine Att.attach_call hn hdf fun w s₀ s₁ mg mb fa o pm cd doc a vs ns G Y ho hd hcd hmg hobj hints hlen hg=>?_
 have KX:=hY w _ Y;obtain⟨fd,hb,hF⟩:=F w mg fa _ KX G.T.g hmg
 exact law_call KX G.T.g G.T.b G.T.builtins ⟨G.T.nolimit,G.T.nodigits⟩ hg hobj hints (Qx hlen hn2) hr hF hb (fun H hO hS=>hsp w H a ns hlen hO hS) fun H e s'=>hCX w H s₁ e s'
end L2
/- THE LAST THEOREM (shape;LID,My.* are yours):
   My.Adr: a structure of the addresses that your layer names (classes,functions);My.Txt K t: a structure (Prop) of the equations over K;
   My.txt_mk:{K} {implicit addresses ..} (e1:nsIn K Q7 "law"=some (some (.ref f))) (e2:K.lookup f=some ⟨oc,od,.func (fnOf "law" "law" params body scope dV kV doc pm an cdv ct),sl⟩) (e3:codeIn K cdv "law"=true) ..:∃t,My.Txt K t
set_option maxRecDepth 100000 in
set_option maxHeartbeats 0 in
theorem PySem.Challenge.cw_LID_holds : PySem.Challenge.rw_LID.Holds := by
 w_on;o_law;k_head;(case hw=>w_witness2)
 k_fill
 refine L2.walk_of (l:=PySem.Challenge.rw_LID) (n:=63) (k:=40) (x:="script") (CX:=fun w=>..) (sp:=fun _=>My.sp_law) rfl (by decide) rfl ⟨rfl,by decide,by decide⟩ (fun w h Y=>PySem.W.kIn_of Y) ?F ?S ?C
 case F =>
  intro w mg fa h KX G hmg
  have T:∃t,My.Txt (L2.KOf KX) t:=by
   dsimp only[L2.KOf]                          -- K must stand as «<heap const> w.params» for k_is
   refine' My.txt_mk ?e1 ?e2 ?e3 ..
   (case e1=>PySem.W.k_is)                    -- in the order: a name -> its address -> its object -> its parts
   (case e2=>PySem.W.k_is)
   ..
  obtain⟨t,T⟩:=T;have e0:=hmg.symm.trans (Zh KX G T.law)
  cases e0                                       -- fa is the law's own address
  exact⟨_,fun s u=>.of_eq rfl,fun base kb nb=>My.law_fn T kb nb⟩     -- if «.of_eq rfl» comes too early: refine'⟨_,?b,fun base kb nb=>My.law_fn T kb nb⟩;exact fun s u=>.of_eq rfl
 case S=>exact fun w H a ns hl hO hS=>..
 case C=>exact ..
(the tactic k_is has no namespace: write k_is) -/
namespace L2
open PySem PySem.Spec PyProof.Rows
noncomputable def qN(s:Stmt):Arguments:=match s with
 |.FunctionDef _ a _ _ _ _ _ _ _ _=>a
 |_=>{ posonlyargs:=[],args:=[],vararg:=none,kwonlyargs:=[],kw_defaults:=[],kwarg:=none,defaults:=[] }
noncomputable def jT(s:Stmt):List Stmt:=match s with
 |.FunctionDef _ _ b _ _ _ _ _ _ _=>b
 |_=>[]
noncomputable def ji(s:Stmt):Scope:=match s with
 |.FunctionDef _ _ _ _ _ _ sc _ _ _=>sc
 |_=>{ kind:=.function,names:=[],isGenerator:=false,isCoroutine:=false }
abbrev E0:XK:=fun _ _ _=>False
structure Fun (K:KN) (x qual:Str) (st:Stmt) (f:Addr) (fd:Ya):Prop where
 ex:∃(oc:KO) (od:Option Addr) (kV doc pm:KO) (an:Option Addr) (cdv ct:KO) (osl:Array (Option KO)),
  fd=Yr x qual (qN st) (jT st) (ji st) .none kV doc pm an cdv ct/\K.lookup f=some ⟨oc,od,.func fd,osl⟩/\ZB K cdv qual=true
 kp:XS K (.ref f)=true
section
variable {P:Qp} {w:World} {K:KN} {mg:Str->Option KO} {base:QG}
theorem fun_mk{x qual:Str}{st:Stmt}{f:Addr}{oc:KO}{od an:Option Addr}{osl:Array (Option KO)}{kV doc pm cdv ct:KO}(l:K.lookup f=some ⟨oc,od,.func (Yr x qual (qN st) (jT st) (ji st) .none kV doc pm an cdv ct),osl⟩)
 (c:ZB K cdv qual=true) (k:XS K (.ref f)=true):Fun K x qual st f (Yr x qual (qN st) (jT st) (ji st) .none kV doc pm an cdv ct):=⟨⟨oc,od,kV,doc,pm,an,cdv,ct,osl,rfl,l,c⟩,k⟩
end
section
variable {X:Cx}
end
noncomputable def jf(H H':Hp):Prop:=∀b o,H b=some o->H' b=some o
theorem jf.refl(H:Hp):jf H H:=fun _ _ h=>h
theorem jf.trans{H H1 H2:Hp}(a:jf H H1)(b:jf H1 H2):jf H H2:=fun c o h=>b c o (a c o h)
theorem jf.free{H H':Hp}(e:jf H H'){l:Addr}(h:H' l=Option.none):H l=Option.none:=by
 cases q:H l with
 |none=>rfl
 |some o =>
  rw[e l o q]at h;cases h
theorem jf.seq{K:KN}{H H':Hp}{a:Addr}{xs:List V}(e:jf H H')(h:SqL K H a xs):SqL K H' a xs:=by
 rcases h with(h|⟨o,h⟩)|h
 ·exact .inl (.inl (e _ _ h))
 ·exact .inl (.inr ⟨o,e _ _ h⟩)
 ·exact .inr h
end L2
namespace Z
open PySem
set_option genInjectivity true in
inductive D where
 |non|bl (b:Bool)|int (i:Int)|str (x:Str)|tup (xs:List D)|lst (xs:List D)
mutual
noncomputable def eqD:D->D->Bool
 |.non,.non=>true
 |.bl a,.bl b=>a == b
 |.bl a,.int j=>(if a then 1 else 0) == j
 |.int i,.bl b=>i == (if b then 1 else 0)
 |.int i,.int j=>i == j
 |.str x,.str y=>x == y
 |.tup xs,.tup ys=>qO xs ys
 |.lst xs,.lst ys=>qO xs ys
 |_,_=>false
noncomputable def qO:List D->List D->Bool
 |[],[]=>true
 |x::xs,y::ys=>eqD x y&&qO xs ys
 |_,_=>false
end
mutual
noncomputable def kD:D->Nat
 |.tup xs=>qB xs+1
 |.lst xs=>qB xs+1
 |_=>0
noncomputable def qB:List D->Nat
 |[]=>0
 |x::xs=>max (kD x) (qB xs)
end
mutual
noncomputable def nol:D->Bool
 |.tup xs=>nols xs
 |.lst _=>false
 |_=>true
noncomputable def nols:List D->Bool
 |[]=>true
 |x::xs=>nol x&&nols xs
end
structure XD where
 c:Nat
 t:Str
 f:List D
inductive BOp where
 |add|sub|mul|fdiv|mod|shl|shr|band|pow
 deriving DecidableEq
inductive COp where
 |eq|ne|lt|le|gt|ge|isN|notN|isT|notT
 deriving DecidableEq
inductive Bi where
 |abs|max|min|len|int|list|sum|all|any|tuple|str
 deriving DecidableEq
inductive Mt where
 |bitlen
 deriving DecidableEq
inductive Ty where
 |int|bool|tuple|list|str
 deriving DecidableEq
inductive SOp where
 |idx|join|part
 deriving DecidableEq
noncomputable def SOp.nm:SOp->Str
 |.idx=>"index"
 |.join=>"join"
 |.part=>"partition"
inductive Ex where
 |var (i:Nat)
 |cst (d:D)
 |con (k:Nat)
 |bin (o:BOp) (a b:Ex)
 |neg (a:Ex)
 |not (a:Ex)
 |cmp (o:COp) (a b:Ex)
 |and (a b:Ex)
 |or (a b:Ex)
 |ife (c a b:Ex)
 |tup (es:List Ex)
 |lst (es:List Ex)
 |ix (a b:Ex)
 |call (f:Nat) (es:List Ex)
 |bi (f:Bi) (es:List Ex)
 |meth (m:Mt) (o:Ex)
 |isi (a:Ex) (t:Ty)
 |compR (es:List Ex) (e:Ex)
 |compE (a e:Ex)
 |oix (i:Nat) (e:Ex)
 |compZ (a b e:Ex)
 |compF (a c e:Ex)
 |slc (a l h:Ex)
inductive RSt where
 |sto (c:Option Ex) (e v:Ex)
 |app (v:Ex)
inductive Sm where
 |nop
 |seq (a b:Sm)
 |set (i:Nat) (e:Ex)
 |unp (is:List Nat) (e:Ex)
 |ret (e:Ex)
 |ite (c:Ex) (a b:Sm)
 |whl (c:Ex) (b:Sm)
 |forR (i:Nat) (es:List Ex) (b:Sm)
 |forE (i:Nat) (e:Ex) (b:Sm)
 |brk|cnt
 |never
 |new (i:Nat)
 |app (i:Nat) (e:Ex)
 |sto (i:Nat) (e v:Ex)
 |shr (i:Nat)
 |retO (i:Nat)
 |raiseA (x:Str) (e:Ex)
 |ext (i:Nat) (e:Ex)
 |forU (i j s:Nat) (e:Ex)
 |retF (e:Ex)
 |retY (f:Nat) (es:List Ex)
 |ownG (i:Nat) (e:Ex)
 |forT (j i:Nat) (ss:List RSt)
 |shrT (i:Nat)
 |hlfT (i:Nat)
 |forN (i:Nat) (e:Ex) (b:Sm)
inductive Sl where
 |sh (d:D)
 |ow (ds:List D)
 |ot (rows:List (List D))
abbrev Sto:=List (Option Sl)
noncomputable def getS:Sto->Nat->Option Sl
 |[],_=>none
 |x::_,0=>x
 |_::r,i+1=>getS r i
noncomputable def setS:Sto->Nat->Option Sl->Sto
 |[],_,_=>[]
 |_::r,0,v=>v::r
 |x::r,i+1,v=>x::setS r i v
abbrev bits(i:Int):Nat:=Xr i
noncomputable def lim:Nat:=16777216
noncomputable def kH(i j:Int):Prop:=bits i<=64\/bits j<=64\/bits i+bits j<=134217728
noncomputable def ShlOk(i j:Int):Prop:=0<=j/\(bits i:Int)+j<=134217728
noncomputable def PowOk(i j:Int):Prop:=0<=j/\(bits i:Int)*j<=134217728
noncomputable def RepOk(n:Nat)(k:Int):Prop:=(-9223372036854775808<=k/\k<9223372036854775808)/\n*k.toNat<=lim
noncomputable def yw(f:Int->Int->(D->Prop)->Prop):D->D->(D->Prop)->Prop
 |.int i,.int j,Q=>f i j Q
 |_,_,_=>False
noncomputable def addD:D->D->(D->Prop)->Prop
 |.int i,.int j,Q=>Q (.int (i+j))
 |.str x,.str y,Q=>x.length+y.length<=lim/\Q (.str (x++y))
 |.lst xs,.lst ys,Q=>xs.length+ys.length<=lim/\Q (.lst (xs++ys))
 |_,_,_=>False
noncomputable def mulD:D->D->(D->Prop)->Prop
 |.int i,.int j,Q=>kH i j/\Q (.int (i*j))
 |.lst xs,.int k,Q=>RepOk xs.length k/\Q (.lst (K5 k.toNat xs).flatten)
 |.str x,.int k,Q=>RepOk x.length k/\Q (.str ⟨(K5 k.toNat x.cps.toList).flatten.toArray⟩)
 |_,_,_=>False
noncomputable def xI:BOp->D->D->(D->Prop)->Prop
 |.add=>addD
 |.sub=>yw fun i j Q=>Q (.int (i-j))
 |.mul=>mulD
 |.fdiv=>yw fun i j Q=>(j≠0/\bits j<=9000)/\Q (.int (i.fdiv j))
 |.mod=>yw fun i j Q=>j≠0/\Q (.int (i.fmod j))
 |.shl=>yw fun i j Q=>ShlOk i j/\Q (.int (i*2^j.toNat))
 |.shr=>yw fun i j Q=>0<=j/\Q (.int (i / 2^j.toNat))
 |.band=>yw fun i j Q=>Q (.int (YW i j))
 |.pow=>yw fun i j Q=>PowOk i j/\Q (.int (i^j.toNat))
noncomputable def isNonD:D->Bool
 |.non=>true
 |_=>false
noncomputable def nonD(t:Bool):D->D->(D->Prop)->Prop
 |x,.non,Q=>Q (.bl (isNonD x == t))
 |_,_,_=>False
noncomputable def isTD(t:Bool):D->D->(D->Prop)->Prop
 |.bl b,.bl c,Q=>Q (.bl ((b == c) == t))
 |_,_,_=>False
noncomputable def lexlt(p q:Int×Int):Bool:=decide (p.1<q.1\/(p.1=q.1/\p.2<q.2))
noncomputable def prD(p:Int×Int):D:=.tup [.int p.1,.int p.2]
noncomputable def sortD:D->(D->Prop)->Prop
 |.lst xs,Q=>xs.length<64/\((∃ns:List Int,xs=ns.map D.int/\∀ms:List Int,ms.Perm ns->ms.Pairwise (·<=·)->Q (.lst (ms.map D.int))) \/
  ∃ps:List (Int×Int),xs=ps.map prD/\∀qs:List (Int×Int),qs.Perm ps->qs.Pairwise (fun a b=>lexlt b a=false)->Q (.lst (qs.map prD)))
 |_,_=>False
noncomputable def yW:COp->D->D->(D->Prop)->Prop
 |.eq=>fun x y Q=>min (kD x) (kD y)<=100/\Q (.bl (eqD x y))
 |.ne=>fun x y Q=>min (kD x) (kD y)<=100/\Q (.bl (!eqD x y))
 |.lt=>yw fun i j Q=>Q (.bl (decide (i<j)))
 |.le=>yw fun i j Q=>Q (.bl (decide (i<=j)))
 |.gt=>yw fun i j Q=>Q (.bl (decide (j<i)))
 |.ge=>yw fun i j Q=>Q (.bl (decide (j<=i)))
 |.isN=>nonD true
 |.notN=>nonD false
 |.isT=>isTD true
 |.notT=>isTD false
noncomputable def atD(xs:List D)(i:Int):Option D :=
 if 0<=i then xs[i.toNat]? else if -(xs.length:Int)<=i then xs[(i+xs.length).toNat]? else none
noncomputable def ixD:D->D->(D->Prop)->Prop
 |.lst xs,.int i,Q=>∃d,atD xs i=some d/\Q d
 |.tup xs,.int i,Q=>∃d,atD xs i=some d/\Q d
 |.str x,.int i,Q=>∃c,(x.length<=lim/\0<=i/\x.cps[i.toNat]?=some c)/\Q (.str ⟨#[c]⟩)
 |_,_,_=>False
noncomputable def tyD:Ty->D->Bool
 |.int,.int _=>true
 |.int,.bl _=>true
 |.bool,.bl _=>true
 |.tuple,.tup _=>true
 |.list,.lst _=>true
 |.str,.str _=>true
 |_,_=>false
noncomputable def yX(f:D->(D->Prop)->Prop):List D->(D->Prop)->Prop
 |[x],Q=>f x Q
 |_,_=>False
noncomputable def two2(f:D->D->(D->Prop)->Prop):List D->(D->Prop)->Prop
 |[x,y],Q=>f x y Q
 |_,_=>False
noncomputable def absD:D->(D->Prop)->Prop
 |.int i,Q=>Q (.int (if i<0 then -i else i))
 |_,_=>False
noncomputable def lenD:D->(D->Prop)->Prop
 |.lst xs,Q=>Q (.int xs.length)
 |.tup xs,Q=>Q (.int xs.length)
 |.str x,Q=>x.length<=lim/\Q (.int x.length)
 |_,_=>False
noncomputable def toIntD:D->(D->Prop)->Prop
 |.int i,Q=>Q (.int i)
 |.bl b,Q=>Q (.int (if b then 1 else 0))
 |.str x,Q=>∃v,((x.length<=640\/(640<(PySem.numSeenOf x).length/\x.length<=lim))/\Uq x=some v)/\Q (.int v)
 |_,_=>False
noncomputable def toStrD:D->(D->Prop)->Prop
 |.int i,Q=>i.natAbs.log2<1920/\Q (.str (toString i:String))
 |_,_=>False
noncomputable def toListD:D->(D->Prop)->Prop
 |.lst xs,Q=>Q (.lst xs)
 |.tup xs,Q=>Q (.lst xs)
 |_,_=>False
noncomputable def toTupD:D->(D->Prop)->Prop
 |.lst xs,Q=>Q (.tup xs)
 |.tup xs,Q=>Q (.tup xs)
 |_,_=>False
noncomputable def yg(f:List D->(D->Prop)->Prop):D->(D->Prop)->Prop
 |.lst xs,Q=>f xs Q
 |_,_=>False
noncomputable def yj(mx:Bool)(a b:Int):Int:=if mx then (if b > a then b else a) else (if b<a then b else a)
noncomputable def mmF(mx:Bool)(d:Int):List Int->Int
 |[]=>d
 |n::ns=>ns.foldl (yj mx) n
noncomputable def minD:List D->(D->Prop)->Prop
 |[x],Q=>yg (fun xs Q=>∃ns:List Int,xs=ns.map .int/\ns ≠ []/\Q (.int (mmF false 0 ns))) x Q
 |[x,y],Q=>yw (fun i j Q=>Q (.int (if j<i then j else i))) x y Q
 |_,_=>False
noncomputable def biD:Bi->List D->(D->Prop)->Prop
 |.abs=>yX absD
 |.max=>two2 (yw fun i j Q=>Q (.int (if j > i then j else i)))
 |.min=>minD
 |.len=>yX lenD
 |.int=>yX toIntD
 |.list=>yX toListD
 |.tuple=>yX toTupD
 |.str=>yX toStrD
 |.sum=>yX (yg fun xs Q=>∃ns:List Int,xs=ns.map .int/\Q (.int ns.sum))
 |.all=>yX (yg fun xs Q=>∃bs:List Bool,xs=bs.map .bl/\Q (.bl (bs.all id)))
 |.any=>yX (yg fun xs Q=>∃bs:List Bool,xs=bs.map .bl/\Q (.bl (bs.any id)))
noncomputable def sIx(n d:Nat):Option Int->Nat
 |none=>d
 |some v=>if v<0 then (v+(n:Int)).toNat else min v.toNat n
noncomputable def ui(xs:List D)(lo hi:Option Int):List D:=(xs.drop (sIx xs.length 0 lo)).take (sIx xs.length xs.length hi-sIx xs.length 0 lo)
noncomputable def cutS(x:Str)(lo hi:Option Int):Str:=⟨((x.cps.toList.drop (sIx x.length 0 lo)).take (sIx x.length x.length hi-sIx x.length 0 lo)).toArray⟩
noncomputable def slD:D->Option Int->Option Int->(D->Prop)->Prop
 |.lst xs,lo,hi,Q=>Q (.lst (ui xs lo hi))
 |.str x,lo,hi,Q=>x.length<=lim/\Q (.str (cutS x lo hi))
 |_,_,_,_=>False
noncomputable def kY:Ex->Bool
 |.cst .non=>true
 |_=>false
noncomputable def Ka(R:Option Int->Prop):D->Prop
 |.int i=>R (some i)
 |_=>False
noncomputable def prt(b:Bool)(w:(D->Prop)->Prop)(R:Option Int->Prop):Prop:=if b=true then R none else w (Ka R)
noncomputable def mmD(mx:Bool):D->D->(D->Prop)->Prop
 |.lst xs,.int d,Q=>∃ns:List Int,xs=ns.map .int/\Q (.int (mmF mx d ns))
 |_,_,_=>False
noncomputable def mtD:Mt->D->(D->Prop)->Prop
 |.bitlen,.int i,Q=>Q (.int (bits i))
 |_,_,_=>False
noncomputable def fmtS:D->Option Str
 |.str x=>some x
 |.int i=>if i.natAbs.log2<1920 then some (toString i:String) else none
 |_=>none
structure Ctr where
 pre:List D->Prop
 res:List D->D->Prop
 exn:List D->XD->Prop:=fun _ _=>False
structure Cfg where
 ct:Nat->Ctr
 cn:Nat->D
 fr:Nat->Bool:=fun _=>false
 f2:Nat->Bool:=fun _=>false
 E:XD->Prop:=fun _=>False
noncomputable def Ctr.wp(c:Ctr)(ds:List D)(Q:D->Prop)(E:XD->Prop):Prop:=c.pre ds/\(∀d,c.res ds d->Q d)/\∀x,c.exn ds x->E x
noncomputable def itemsD:D->Option (List D)
 |.lst xs=>some xs
 |.tup xs=>some xs
 |.str x=>some (x.cps.toList.map fun c=>.str ⟨#[c]⟩)
 |_=>none
noncomputable def jP(lo st:Int):Nat->List D
 |0=>[]
 |n+1=>.int lo::jP (lo+st) st n
noncomputable def kQ(i:Int):Prop:=-4611686018427387904<=i/\i<4611686018427387904
noncomputable def rgD:List D->(List D->Prop)->Prop
 |[.int hi],Q=>kQ hi/\Q (jP 0 1 hi.toNat)
 |[.int lo,.int hi],Q=>(kQ lo/\kQ hi)/\Q (jP lo 1 (hi-lo).toNat)
 |[.int lo,.int hi,.int st],Q=>(kQ lo/\kQ hi/\0<st/\st<1000)/\Q (jP lo st (if lo<hi then (hi-lo-1) / st+1 else 0).toNat)
 |_,_=>False
noncomputable def enmD(xs:List D):List D:=xs.zipIdx.map fun p=>.tup [.int p.2,p.1]
noncomputable def yU(xs ys:List D):List D:=(xs.zip ys).map fun p=>.tup [p.1,p.2]
noncomputable def isL(f:List D->Prop):D->Prop
 |.lst xs=>f xs
 |_=>False
noncomputable def qh(rows:List (List D)):D:=.lst (rows.map .lst)
noncomputable def obD(f:List (List D)->Prop)(p:Prop):Option Sl->Prop
 |some (.ot rows)=>f rows
 |some (.sh _)=>p
 |_=>False
noncomputable def otD(f:List (List D)->Prop):Option Sl->Prop
 |some (.ot rows)=>f rows
 |_=>False
noncomputable def isB(Q:Bool->Prop):D->Prop
 |.bl k=>Q k
 |_=>False
noncomputable def kI(f:D->(D->Prop)->Prop):List D->(List D->Prop)->Prop
 |[],Q=>Q []
 |d::ds,Q=>f d fun y=>kI f ds fun ys=>Q (y::ys)
noncomputable def kW(p:D->(Bool->Prop)->Prop)(f:D->(D->Prop)->Prop):List D->(List D->Prop)->Prop
 |[],Q=>Q []
 |d::ds,Q=>p d fun b=>if b=true then f d fun y=>kW p f ds fun ys=>Q (y::ys) else kW p f ds Q
mutual
noncomputable def wpE(C:Cfg):Ex->Sto->(D->Prop)->Prop
 |.var i,σ,Q=>match getS σ i with|some (.sh d)=>Q d|_=>False
 |.cst d,_,Q=>Q d
 |.con k,_,Q=>Q (C.cn k)
 |.bin o a b,σ,Q=>wpE C a σ fun x=>wpE C b σ fun y=>xI o x y Q
 |.neg a,σ,Q=>wpE C a σ fun x=>match x with|.int i=>Q (.int (-i))|_=>False
 |.not a,σ,Q=>wpE C a σ fun x=>match x with|.bl c=>Q (.bl (!c))|_=>False
 |.cmp o a b,σ,Q=>wpE C a σ fun x=>wpE C b σ fun y=>yW o x y Q
 |.and a b,σ,Q=>wpE C a σ fun x=>match x with|.bl k=>if k=true then wpE C b σ Q else Q (.bl false)|_=>False
 |.or a b,σ,Q=>wpE C a σ fun x=>match x with|.bl k=>if k=true then Q (.bl true) else wpE C b σ Q|_=>False
 |.ife c a b,σ,Q=>wpE C c σ fun x=>match x with|.bl k=>if k=true then wpE C a σ Q else wpE C b σ Q|_=>False
 |.tup es,σ,Q=>wpEs C es σ fun ds=>Q (.tup ds)
 |.lst es,σ,Q=>wpEs C es σ fun ds=>Q (.lst ds)
 |.ix a b,σ,Q=>wpE C a σ fun x=>wpE C b σ fun y=>ixD x y Q
 |.call f es,σ,Q=>wpEs C es σ fun ds=>(C.ct f).wp ds Q C.E
 |.bi f es,σ,Q=>wpEs C es σ fun ds=>biD f ds Q
 |.meth m o,σ,Q=>wpE C o σ fun x=>mtD m x Q
 |.isi a t,σ,Q=>wpE C a σ fun x=>Q (.bl (tyD t x))
 |.compR es e,σ,Q=>wpEs C es σ fun ds=>rgD ds fun xs=>xs.length<=lim/\kI (fun d Q=>wpE C e (σ ++ [some (.sh d)]) Q) xs fun ys=>Q (.lst ys)
 |.compE a e,σ,Q=>wpE C a σ fun d=>∃xs,itemsD d=some xs/\xs.length<=lim/\kI (fun d Q=>wpE C e (σ ++ [some (.sh d)]) Q) xs fun ys=>Q (.lst ys)
 |.oix i e,σ,Q=>match getS σ i with|some (.ow ds)=>wpE C e σ fun y=>ixD (.lst ds) y Q|_=>False
 |.compZ a b e,σ,Q=>wpE C a σ fun x=>wpE C b σ fun y=>∃xs ys,(x=.lst xs/\y=.lst ys)/\(yU xs ys).length<=lim/\kI (fun d Q=>wpE C e (σ ++ [some (.sh d)]) Q) (yU xs ys) fun zs=>Q (.lst zs)
 |.slc a l h,σ,Q=>wpE C a σ fun x=>prt (kY l) (fun R=>wpE C l σ R) fun y=>prt (kY h) (fun R=>wpE C h σ R) fun z=>slD x y z Q
 |.compF a c e,σ,Q=>wpE C a σ fun d=>∃xs,itemsD d=some xs/\xs.length<=lim/\kW (fun d Q=>wpE C c (σ ++ [some (.sh d)]) (isB Q)) (fun d Q=>wpE C e (σ ++ [some (.sh d)]) Q) xs fun ys=>Q (.lst ys)
noncomputable def vD(C:Cfg):List Ex->List Nat->Sto->(List Nat->Prop)->Prop
 |[],out,_,Q=>Q out
 |e::es,out,σ,Q=>wpE C e σ fun d=>∃z,(fmtS d=some z/\out.length+z.length<=lim)/\vD C es (out++z.cps.toList) σ Q
noncomputable def wpEs(C:Cfg):List Ex->Sto->(List D->Prop)->Prop
 |[],_,Q=>Q []
 |e::es,σ,Q=>wpE C e σ fun d=>wpEs C es σ fun ds=>Q (d::ds)
end
section
variable {C:Cfg} {σ:Sto} {Q:D->Prop}
theorem wE_var:wpE C (.var i) σ Q=(match getS σ i with|some (.sh d)=>Q d|_=>False):=rfl
theorem wE_cst:wpE C (.cst d) σ Q=(Q d):=rfl
theorem wE_con:wpE C (.con k) σ Q=(Q (C.cn k)):=rfl
theorem wE_bin:wpE C (.bin o a b) σ Q=(wpE C a σ fun x=>wpE C b σ fun y=>xI o x y Q):=rfl
theorem wE_neg:wpE C (.neg a) σ Q=(wpE C a σ fun x=>match x with|.int i=>Q (.int (-i))|_=>False):=rfl
theorem wE_not:wpE C (.not a) σ Q=(wpE C a σ fun x=>match x with|.bl c=>Q (.bl (!c))|_=>False):=rfl
theorem wE_cmp:wpE C (.cmp o a b) σ Q=(wpE C a σ fun x=>wpE C b σ fun y=>yW o x y Q):=rfl
theorem wE_and:wpE C (.and a b) σ Q=(wpE C a σ fun x=>match x with|.bl k=>if k=true then wpE C b σ Q else Q (.bl false)|_=>False):=rfl
theorem wE_or:wpE C (.or a b) σ Q=(wpE C a σ fun x=>match x with|.bl k=>if k=true then Q (.bl true) else wpE C b σ Q|_=>False):=rfl
theorem wE_ife:wpE C (.ife c a b) σ Q=(wpE C c σ fun x=>match x with|.bl k=>if k=true then wpE C a σ Q else wpE C b σ Q|_=>False):=rfl
theorem wE_tup:wpE C (.tup es) σ Q=(wpEs C es σ fun ds=>Q (.tup ds)):=rfl
theorem wE_lst:wpE C (.lst es) σ Q=(wpEs C es σ fun ds=>Q (.lst ds)):=rfl
theorem wE_ix:wpE C (.ix a b) σ Q=(wpE C a σ fun x=>wpE C b σ fun y=>ixD x y Q):=rfl
theorem wE_call:wpE C (.call f es) σ Q=(wpEs C es σ fun ds=>(C.ct f).wp ds Q C.E):=rfl
theorem wE_bi:wpE C (.bi f es) σ Q=(wpEs C es σ fun ds=>biD f ds Q):=rfl
theorem wE_meth:wpE C (.meth m o) σ Q=(wpE C o σ fun x=>mtD m x Q):=rfl
theorem wE_isi:wpE C (.isi a t) σ Q=(wpE C a σ fun x=>Q (.bl (tyD t x))):=rfl
theorem wE_compR:wpE C (.compR es e) σ Q=(wpEs C es σ fun ds=>rgD ds fun xs=>xs.length<=lim/\kI (fun d Q=>wpE C e (σ ++ [some (.sh d)]) Q) xs fun ys=>Q (.lst ys)):=rfl
theorem wE_compE:wpE C (.compE a e) σ Q=(wpE C a σ fun d=>∃xs,itemsD d=some xs/\xs.length<=lim/\kI (fun d Q=>wpE C e (σ ++ [some (.sh d)]) Q) xs fun ys=>Q (.lst ys)):=rfl
theorem wE_oix:wpE C (.oix i e) σ Q=(match getS σ i with|some (.ow ds)=>wpE C e σ fun y=>ixD (.lst ds) y Q|_=>False):=rfl
theorem wE_compZ:wpE C (.compZ a b e) σ Q=(wpE C a σ fun x=>wpE C b σ fun y=>∃xs ys,(x=.lst xs/\y=.lst ys)/\(yU xs ys).length<=lim/\kI (fun d Q=>wpE C e (σ ++ [some (.sh d)]) Q) (yU xs ys) fun zs=>Q (.lst zs)):=rfl
theorem wE_slc:wpE C (.slc a l h) σ Q=(wpE C a σ fun x=>prt (kY l) (fun R=>wpE C l σ R) fun y=>prt (kY h) (fun R=>wpE C h σ R) fun z=>slD x y z Q):=rfl
theorem wE_compF:wpE C (.compF a c e) σ Q=(wpE C a σ fun d=>∃xs,itemsD d=some xs/\xs.length<=lim/\kW (fun d Q=>wpE C c (σ ++ [some (.sh d)]) (isB Q)) (fun d Q=>wpE C e (σ ++ [some (.sh d)]) Q) xs fun ys=>Q (.lst ys)):=rfl
end
structure DE where
 nx:Sto->Prop
 rt:D->Prop
 bk:Sto->Prop:=fun _=>False
 ct:Sto->Prop:=fun _=>False
 rf:List D->Prop:=fun _=>False
 xn:XD->Prop:=fun _=>False
 rg:List (List D)->Prop:=fun _=>False
noncomputable def setAll:List Nat->List D->Sto->Option Sto
 |[],[],σ=>some σ
 |i::is,d::ds,σ=>setAll is ds (setS σ i (some (.sh d)))
 |_,_,_=>none
noncomputable def forL(body:DE->Sto->Prop)(i:Nat)(K:DE):List D->Sto->Prop
 |[],σ=>K.nx σ
 |d::ds,σ=>body { K with nx:=forL body i K ds,ct:=forL body i K ds,bk:=K.nx } (setS σ i (some (.sh d)))
noncomputable def whileW(c:Sto->(Bool->Prop)->Prop)(body:DE->Sto->Prop)(K:DE)(σ:Sto):Prop :=
 ∃W:Nat->Sto->Prop,(∃m,W m σ)/\∀m σ,W m σ->c σ fun t=>if t=true then
  body { K with nx:=fun σ'=>∃m',m'<m/\W m' σ',ct:=fun σ'=>∃m',m'<m/\W m' σ',bk:=K.nx } σ else K.nx σ
noncomputable def extD(K:DE)(σ:Sto)(i:Nat)(ds:List D):D->Prop
 |.lst xs=>ds.length+xs.length<=lim/\K.nx (setS σ i (some (.ow (ds++xs))))
 |_=>False
noncomputable def fldOk(x:Str)(d:D):Prop:=x="Dependent"->∃xs,d=.lst xs
noncomputable def ocD(f:List D->Prop)(g:List (List D)->Prop):Option Sl->Prop
 |some (.ow ds)=>f ds
 |some (.ot rows)=>g rows
 |_=>False
noncomputable def uF(f:List D->Prop):Option Sl->Prop
 |some (.ow ds)=>f ds
 |_=>False
noncomputable def insD(K:DE)(σ:Sto)(i:Nat)(ds:List D)(v:D):D->Prop
 |.int k=>(0<=k/\k<=ds.length/\ds.length<lim)/\K.nx (setS σ i (some (.ow (ds.take k.toNat++v::ds.drop k.toNat))))
 |_=>False
noncomputable def zI(c:Sto->(D->Prop)->Prop)(i s:Nat)(K:DE):List D->Sto->Prop
 |[],σ=>K.nx σ
 |d::ds,σ=>c (setS σ i (some (.sh d))) fun y=>zI c i s K ds (setS (setS σ i (some (.sh d))) s (some (.sh y)))
noncomputable def app2D(K:DE)(σ:Sto)(i:Nat)(rows:List (List D))(w:(D->Prop)->Prop):D->Prop
 |.int k=>∃row,(0<=k/\rows[k.toNat]?=some row/\row.length<lim)/\w fun y=>K.nx (setS σ i (some (.ot (rows.set k.toNat (row ++ [y])))))
 |_=>False
noncomputable def popD(K:DE)(σ:Sto)(i j:Nat)(ms ls:List D):D->Prop
 |.int k=>∃d,(0<=k/\ls[k.toNat]?=some d/\ms.length<lim/\k<16777216)/\K.nx (setS (setS σ j (some (.ow (ls.eraseIdx k.toNat)))) i (some (.ow (ms ++ [d]))))
 |_=>False
noncomputable def stoR(row:List D)(d:D)(Q:List D->Prop):D->Prop
 |.int k=>(0<=k/\k<row.length)/\Q (row.set k.toNat d)
 |_=>False
noncomputable def wpR1(C:Cfg)(j:Nat)(σ:Sto):RSt->List D->(List D->Prop)->Prop
 |.app v,row,Q=>row.length<lim/\wpE C v (setS σ j none) fun d=>Q (row ++ [d])
 |.sto none e v,row,Q=>wpE C v (setS σ j (some (.sh (.lst row)))) fun d=>nol d=true/\wpE C e (setS σ j none) (stoR row d Q)
 |.sto (some c) e v,row,Q=>wpE C c (setS σ j none) (isB fun b=>if b=true then wpE C v (setS σ j (some (.sh (.lst row)))) (fun d=>nol d=true/\wpE C e (setS σ j none) (stoR row d Q)) else Q row)
noncomputable def wpR(C:Cfg)(j:Nat)(σ:Sto):List RSt->List D->(List D->Prop)->Prop
 |[],row,Q=>Q row
 |s::ss,row,Q=>wpR1 C j σ s row fun row'=>wpR C j σ ss row' Q
noncomputable def zj(f:List D->(List D->Prop)->Prop):List (List D)->(List (List D)->Prop)->Prop
 |[],Q=>Q []
 |r::rs,Q=>f r fun r'=>zj f rs fun rs'=>Q (r'::rs')
noncomputable def notT:Option Sl->Bool
 |some (.ot _)=>false
 |_=>true
noncomputable def noT:Sto->Nat->Bool
 |[],_=>true
 |_::r,0=>r.all notT
 |x::r,i+1=>notT x&&noT r i
noncomputable def frIt(C:Cfg):Ex->Bool
 |.call f _=>C.fr f
 |_=>true
noncomputable def qL(f:D->(List D->Prop)->Prop):List D->(List (List D)->Prop)->Prop
 |[],Q=>Q []
 |d::ds,Q=>f d fun y=>qL f ds fun ys=>Q (y::ys)
noncomputable def wpG(C:Cfg):Ex->Sto->(List (List D)->Prop)->Prop
 |.compR es b,σ,Q=>frIt C b=true/\wpEs C es σ fun ds=>rgD ds fun xs=>xs.length<=lim/\qL (fun d Q=>wpE C b (σ ++ [some (.sh d)]) (isL Q)) xs Q
 |.compE a b,σ,Q=>frIt C b=true/\wpE C a σ fun d=>∃xs,itemsD d=some xs/\xs.length<=lim/\qL (fun d Q=>wpE C b (σ ++ [some (.sh d)]) (isL Q)) xs Q
 |_,_,_=>False
noncomputable def wpS(C:Cfg):Sm->DE->Sto->Prop
 |.nop,K,σ=>K.nx σ
 |.seq a b,K,σ=>wpS C a { K with nx:=fun σ'=>wpS C b K σ' } σ
 |.set i e,K,σ=>wpE C e σ fun d=>K.nx (setS σ i (some (.sh d)))
 |.unp is e,K,σ=>wpE C e σ fun d=>match d with|.tup ds=>∃σ',setAll is ds σ=some σ'/\K.nx σ'|.lst ds=>∃σ',setAll is ds σ=some σ'/\K.nx σ'|_=>False
 |.ret e,K,σ=>wpE C e σ K.rt
 |.ite c a b,K,σ=>wpE C c σ (isB fun t=>if t=true then wpS C a K σ else wpS C b K σ)
 |.whl c b,K,σ=>whileW (fun σ Q=>wpE C c σ (isB Q)) (fun K σ=>wpS C b K σ) K σ
 |.forR i es b,K,σ=>wpEs C es σ fun ds=>rgD ds fun xs=>forL (fun K σ=>wpS C b K σ) i K xs σ
 |.forE i e b,K,σ=>wpE C e σ fun d=>∃xs,itemsD d=some xs/\forL (fun K σ=>wpS C b K σ) i K xs σ
 |.brk,K,σ=>K.bk σ
 |.cnt,K,σ=>K.ct σ
 |.never,_,_=>False
 |.new i,K,σ=>K.nx (setS σ i (some (.ow [])))
 |.ext i e,K,σ=>match getS σ i with|some (.ow ds)=>wpE C e σ (extD K σ i ds)|_=>False
 |.app i e,K,σ=>match getS σ i with|some (.ow ds)=>ds.length<lim/\wpE C e σ fun d=>K.nx (setS σ i (some (.ow (ds ++ [d]))))|_=>False
 |.sto i e v,K,σ=>match getS σ i with|some (.ow ds)=>wpE C v σ fun d=>wpE C e σ fun y=>(match y with|.int k=>(0<=k/\k<ds.length)/\K.nx (setS σ i (some (.ow (ds.set k.toNat d))))|_=>False)|_=>False
 |.shr i,K,σ=>match getS σ i with|some (.ow ds)=>K.nx (setS σ i (some (.sh (.lst ds))))|_=>False
 |.retO i,K,σ=>match getS σ i with|some (.ow ds)=>K.rf ds|_=>False
 |.raiseA x e,K,σ=>wpE C e σ fun d=>fldOk x d/\K.xn ⟨0,x,[d]⟩
 |.forU i j s e,K,σ=>uF (fun ds=>zI (fun σ Q=>wpE C e σ Q) i s K ds σ) (getS σ j)
 |.retF e,K,σ=>wpE C e σ (isL K.rf)
 |.retY f es,K,σ=>wpEs C es σ fun ds=>C.fr f=true/\(C.ct f).wp ds (isL K.rf) K.xn
 |.ownG i e,K,σ=>noT σ i=true/\wpG C e σ fun rows=>K.nx (setS σ i (some (.ot rows)))
 |.forT j i ss,K,σ=>otD (fun rows=>zj (wpR C j (setS σ i none) ss) rows fun rows'=>K.nx (setS (setS σ i (some (.ot rows'))) j none)) (getS σ i)
 |.shrT i,K,σ=>otD (fun rows=>K.nx (setS σ i (some (.sh (qh rows))))) (getS σ i)
 |.hlfT i,K,σ=>ocD (fun _=>K.nx σ) (fun rows=>K.nx (setS σ i (some (.ow (rows.map .lst))))) (getS σ i)
 |.forN i e b,K,σ=>wpE C e σ (isL fun xs=>forL (fun K σ=>wpS C b K σ) i K (enmD xs) σ)
section
variable {C:Cfg} {K:DE} {σ:Sto}
theorem wS_seq:wpS C (.seq a b) K σ=(wpS C a { K with nx:=fun σ'=>wpS C b K σ' } σ):=rfl
theorem wS_unp:wpS C (.unp is e) K σ=(wpE C e σ fun d=>match d with|.tup ds=>∃σ',setAll is ds σ=some σ'/\K.nx σ'|.lst ds=>∃σ',setAll is ds σ=some σ'/\K.nx σ'|_=>False):=rfl
theorem wS_new:wpS C (.new i) K σ=(K.nx (setS σ i (some (.ow [])))):=rfl
theorem wS_ext:wpS C (.ext i e) K σ=(match getS σ i with|some (.ow ds)=>wpE C e σ (extD K σ i ds)|_=>False):=rfl
theorem wS_app:wpS C (.app i e) K σ=(match getS σ i with|some (.ow ds)=>ds.length<lim/\wpE C e σ fun d=>K.nx (setS σ i (some (.ow (ds ++ [d]))))|_=>False):=rfl
theorem wS_sto:wpS C (.sto i e v) K σ=(match getS σ i with|some (.ow ds)=>wpE C v σ fun d=>wpE C e σ fun y=>(match y with|.int k=>(0<=k/\k<ds.length)/\K.nx (setS σ i (some (.ow (ds.set k.toNat d))))|_=>False)|_=>False):=rfl
theorem wS_shr:wpS C (.shr i) K σ=(match getS σ i with|some (.ow ds)=>K.nx (setS σ i (some (.sh (.lst ds))))|_=>False):=rfl
theorem Kf:wpS C (.retO i) K σ=(match getS σ i with|some (.ow ds)=>K.rf ds|_=>False):=rfl
end
theorem qT{f:Int->Int->(D->Prop)->Prop}{x y:D}{Q Q':D->Prop}(hf:∀i j,f i j Q->f i j Q')(w:yw f x y Q):yw f x y Q':=by
 cases x<;>first|exact w.elim|(cases y<;>first|exact w.elim|exact hf _ _ w)
theorem JD{o:BOp}{x y:D}{Q Q':D->Prop}(h:∀d,Q d->Q' d)(w:xI o x y Q):xI o x y Q':=by
 cases o<;>first|exact qT (fun i j z=>h _ z) w|exact qT (fun i j z=>⟨z.1,h _ z.2⟩) w|skip
 ·cases x<;>first|exact w.elim|(cases y<;>first|exact w.elim|exact h _ w|exact⟨w.1,h _ w.2⟩)
 ·cases x<;>first|exact w.elim|(cases y<;>first|exact w.elim|exact h _ w|exact⟨w.1,h _ w.2⟩)
theorem yF{o:COp}{x y:D}{Q Q':D->Prop}(h:∀d,Q d->Q' d)(w:yW o x y Q):yW o x y Q':=by
 cases o<;>first|exact qT (fun i j z=>h _ z) w|exact⟨w.1,h _ w.2⟩|skip
 ·cases y<;>first|exact w.elim|exact h _ w
 ·cases y<;>first|exact w.elim|exact h _ w
 ·cases x<;>first|exact w.elim|(cases y<;>first|exact w.elim|(next k=>cases k<;>first|exact w.elim|exact h _ w))
 ·cases x<;>first|exact w.elim|(cases y<;>first|exact w.elim|(next k=>cases k<;>first|exact w.elim|exact h _ w))
theorem vK{x y:D}{Q Q':D->Prop}(h:∀d,Q d->Q' d)(w:ixD x y Q):ixD x y Q':=by
 unfold ixD at *
 split at w<;>first|exact⟨w.choose,w.choose_spec.1,h _ w.choose_spec.2⟩|exact w.elim
theorem Ji{f:D->(D->Prop)->Prop}{xs:List D}{Q Q':D->Prop}(hf:∀x,f x Q->f x Q')(w:yX f xs Q):yX f xs Q':=by
 match xs,w with
 |[x],w=>exact hf x w
theorem Jo{f:D->D->(D->Prop)->Prop}{xs:List D}{Q Q':D->Prop}(hf:∀x y,f x y Q->f x y Q')(w:two2 f xs Q):two2 f xs Q':=by
 match xs,w with
 |[x,y],w=>exact hf x y w
theorem minD_mono{Q Q':D->Prop}(h:∀d,Q d->Q' d):∀ {xs:List D},minD xs Q->minD xs Q'
 |[x],w=>by
  cases x<;>first|exact w.elim|exact⟨w.choose,w.choose_spec.1,w.choose_spec.2.1,h _ w.choose_spec.2.2⟩
 |[x,y],w=>qT (fun i j z=>h _ z) w
theorem biD_mono{f:Bi}{xs:List D}{Q Q':D->Prop}(h:∀d,Q d->Q' d)(w:biD f xs Q):biD f xs Q':=by
 cases f<;>first|exact minD_mono h w|exact Ji (f:=sortD) (fun x z=>sortD_mono h z) w|exact Jo (fun x y z=>qT (fun i j z=>⟨z.1,h _ z.2⟩) z) w|exact Jo (fun x y z=>qT (fun i j z=>h _ z) z) w|refine Ji (fun x z=>?_) w
 all_goals cases x<;>first|exact z.elim|exact h _ z|exact QI z.1 (h _ z.2)|exact⟨z.choose,z.choose_spec.1,h _ z.choose_spec.2⟩
theorem mtD_mono{f:Mt}{x:D}{Q Q':D->Prop}(h:∀d,Q d->Q' d)(w:mtD f x Q):mtD f x Q':=by
 unfold mtD at *
 split at w<;>first|exact h _ w|exact⟨w.1,h _ w.2⟩|exact w.elim
theorem Ctr.wp_mono{c:Ctr}{ds:List D}{Q Q':D->Prop}{E:XD->Prop}(h:∀d,Q d->Q' d)(w:c.wp ds Q E):c.wp ds Q' E:=⟨w.1,fun d r=>h d (w.2.1 d r),w.2.2⟩
theorem jZ{Q Q':Bool->Prop}(h:∀k,Q k->Q' k){d:D}(w:isB Q d):isB Q' d:=by
 cases d<;>first|exact h _ w|exact w.elim
theorem vi{ds:List D}{Q Q':List D->Prop}(h:∀d,Q d->Q' d)(w:rgD ds Q):rgD ds Q':=by
 unfold rgD at *;split at w
 ·exact⟨w.1,h _ w.2⟩
 ·exact⟨w.1,h _ w.2⟩
 ·exact⟨w.1,h _ w.2⟩
 ·exact w.elim
theorem jQ{f:D->(D->Prop)->Prop}(hf:∀d {Q Q':D->Prop},(∀y,Q y->Q' y)->f d Q->f d Q'):∀(xs:List D) {Q Q':List D->Prop},(∀ys,Q ys->Q' ys)->kI f xs Q->kI f xs Q'
 |[],Q,Q',h,w=>h _ w
 |d::ds,Q,Q',h,w=>hf d (fun y wy=>jQ hf ds (fun ys=>h _) wy) w
theorem qA{p:D->(Bool->Prop)->Prop}{f:D->(D->Prop)->Prop}(hp:∀d {Q Q':Bool->Prop},(∀y,Q y->Q' y)->p d Q->p d Q')(hf:∀d {Q Q':D->Prop},(∀y,Q y->Q' y)->f d Q->f d Q') :
 ∀(xs:List D) {Q Q':List D->Prop},(∀ys,Q ys->Q' ys)->kW p f xs Q->kW p f xs Q'
 |[],Q,Q',h,w=>h _ w
 |d::ds,Q,Q',h,w=>hp d (fun b wb=>by
  cases b with
  |true=>exact hf d (fun y wy=>qA hp hf ds (fun ys=>h _) wy) wb
  |false=>exact qA hp hf ds h wb) w
theorem slD_mono{x:D}{l h:Option Int}{Q Q':D->Prop}(k:∀d,Q d->Q' d)(w:slD x l h Q):slD x l h Q':=by
 unfold slD at *
 split at w<;>first|exact w.elim|exact k _ w|exact⟨w.1,k _ w.2⟩
theorem intO_mono{R R':Option Int->Prop}(h:∀o,R o->R' o){d:D}(w:Ka R d):Ka R' d:=by
 cases d<;>first|exact w.elim|exact h _ w
theorem xE{b:Bool}{w:(D->Prop)->Prop}(hw:∀ {Q Q':D->Prop},(∀d,Q d->Q' d)->w Q->w Q'){R R':Option Int->Prop}(h:∀o,R o->R' o)(k:prt b w R):prt b w R':=by
 unfold prt at *;split
 ·next e=>rw[if_pos e]at k;exact h _ k
 ·next e=>rw[if_neg e]at k;exact hw (fun d=>intO_mono h) k
theorem otD_mono{o:Option Sl}{f g:List (List D)->Prop}(h:∀rows,f rows->g rows)(w:otD f o):otD g o:=by
 match o,w with
 |some (.ot rows),w=>exact h rows w
mutual
theorem ja{C:Cfg}:∀(e:Ex) {σ:Sto} {Q Q':D->Prop},(∀d,Q d->Q' d)->wpE C e σ Q->wpE C e σ Q'
 |.var i,σ,Q,Q',h,w=>by
  rw[wE_var]at w ⊢
  cases g:getS σ i with
  |none=>rw[g]at w;exact w.elim
  |some z=>rw[g]at w;cases z<;>first|exact h _ w|exact w.elim
 |.cst d,σ,Q,Q',h,w=>by exact h _ w
 |.con k,σ,Q,Q',h,w=>by exact h _ w
 |.bin o a b,σ,Q,Q',h,w=>by
  exact ja a (fun x wx=>ja b (fun y wy=>JD h wy) wx) w
 |.neg a,σ,Q,Q',h,w=>by
  exact ja a (fun x wx=>by cases x<;>first|exact h _ wx|exact wx.elim) w
 |.not a,σ,Q,Q',h,w=>by
  exact ja a (fun x wx=>by cases x<;>first|exact h _ wx|exact wx.elim) w
 |.cmp o a b,σ,Q,Q',h,w=>by
  exact ja a (fun x wx=>ja b (fun y wy=>yF h wy) wx) w
 |.and a b,σ,Q,Q',h,w=>by
  refine ja a (fun x wx=>?_) w
  cases x with
  |bl k=>cases k with
   |true=>exact ja b h wx
   |false=>exact h _ wx
  |_=>exact wx.elim
 |.or a b,σ,Q,Q',h,w=>by
  refine ja a (fun x wx=>?_) w
  cases x with
  |bl k=>cases k with
   |true=>exact h _ wx
   |false=>exact ja b h wx
  |_=>exact wx.elim
 |.ife c a b,σ,Q,Q',h,w=>by
  refine ja c (fun x wx=>?_) w
  cases x with
  |bl k=>cases k with
   |true=>exact ja a h wx
   |false=>exact ja b h wx
  |_=>exact wx.elim
 |.tup es,σ,Q,Q',h,w=>by exact jw es (fun ds=>h _) w
 |.lst es,σ,Q,Q',h,w=>by exact jw es (fun ds=>h _) w
 |.ix a b,σ,Q,Q',h,w=>by
  exact ja a (fun x wx=>ja b (fun y wy=>vK h wy) wx) w
 |.call f es,σ,Q,Q',h,w=>by exact jw es (fun ds=>Ctr.wp_mono h) w
 |.bi f es,σ,Q,Q',h,w=>by exact jw es (fun ds=>biD_mono h) w
 |.meth m o,σ,Q,Q',h,w=>by exact ja o (fun x=>mtD_mono h) w
 |.isi a t,σ,Q,Q',h,w=>by exact ja a (fun x=>h _) w
 |.compR es e,σ,Q,Q',h,w=>by
  exact jw es (fun ds=>vi fun xs wx=>⟨wx.1,jQ (f:=fun d Q=>wpE C e (σ ++ [some (.sh d)]) Q) (fun d _ _ hq=>ja e hq) xs (fun ys=>h _) wx.2⟩) w
 |.compE a e,σ,Q,Q',h,w=>by
  exact ja a (fun d ⟨xs,e1,wx⟩=>⟨xs,e1,wx.1,jQ (f:=fun d Q=>wpE C e (σ ++ [some (.sh d)]) Q) (fun d _ _ hq=>ja e hq) xs (fun ys=>h _) wx.2⟩) w
 |.slc a l u,σ,Q,Q',h,w=>by
  exact ja a (fun x wx=>xE (fun hq=>ja l hq) (fun y wy=>xE (fun hq=>ja u hq) (fun z=>slD_mono h) wy) wx) w
 |.oix i e,σ,Q,Q',h,w=>by
  rw[wE_oix]at w ⊢
  cases g:getS σ i with
  |none=>rw[g]at w;exact w.elim
  |some z =>
   rw[g]at w
   cases z with
   |sh d=>exact w.elim
   |ot _=>exact w.elim
   |ow ds=>exact ja e (fun y wy=>vK h wy) w
 |.compZ a b e,σ,Q,Q',h,w=>by
  exact ja a (fun x wx=>ja b (fun y ⟨xs,ys,e1,wy⟩=>⟨xs,ys,e1,wy.1,jQ (f:=fun d Q=>wpE C e (σ ++ [some (.sh d)]) Q) (fun d _ _ hq=>ja e hq) _ (fun ys=>h _) wy.2⟩) wx) w
 |.compF a c e,σ,Q,Q',h,w=>by
  exact ja a (fun d ⟨xs,e1,wx⟩=>⟨xs,e1,wx.1,qA (p:=fun d Q=>wpE C c (σ ++ [some (.sh d)]) (isB Q)) (f:=fun d Q=>wpE C e (σ ++ [some (.sh d)]) Q) (fun d _ _ hq=>ja c fun _=>jZ hq) (fun d _ _ hq=>ja e hq) xs (fun ys=>h _) wx.2⟩) w
theorem Jj{C:Cfg}:∀(es:List Ex) {out:List Nat} {σ:Sto} {Q Q':List Nat->Prop},(∀d,Q d->Q' d)->vD C es out σ Q->vD C es out σ Q'
 |[],out,σ,Q,Q',h,w=>by unfold vD at *;exact h _ w
 |e::es,out,σ,Q,Q',h,w=>by
  unfold vD at *;exact ja e (fun d ⟨z,a,wd⟩=>⟨z,a,Jj es h wd⟩) w
theorem jw{C:Cfg}:∀(es:List Ex) {σ:Sto} {Q Q':List D->Prop},(∀d,Q d->Q' d)->wpEs C es σ Q->wpEs C es σ Q'
 |[],σ,Q,Q',h,w=>by unfold wpEs at *;exact h _ w
 |e::es,σ,Q,Q',h,w=>by
  unfold wpEs at *;exact ja e (fun d wd=>jw es (fun ds=>h _) wd) w
end
structure DE.le (K K':DE):Prop where
 nx:∀σ,K.nx σ->K'.nx σ
 rt:∀d,K.rt d->K'.rt d
 bk:∀σ,K.bk σ->K'.bk σ
 ct:∀σ,K.ct σ->K'.ct σ
 rf:∀ds,K.rf ds->K'.rf ds
 xn:∀x,K.xn x->K'.xn x:=by exact fun _ z=>z
 rg:∀rows,K.rg rows->K'.rg rows:=by exact fun _ z=>z
theorem kS{body:DE->Sto->Prop}(hb:∀K K' σ,DE.le K K'->body K σ->body K' σ){i:Nat}{K K':DE}(h:DE.le K K'):∀(xs:List D) {σ:Sto},forL body i K xs σ->forL body i K' xs σ
 |[],σ,w=>h.nx _ w
 |d::ds,σ,w=>by
  unfold forL at *;refine hb _ _ _ ?_ w;exact⟨fun _=>kS hb h ds,h.rt,h.nx,fun _=>kS hb h ds,h.rf,h.xn,h.rg⟩
theorem ocD_mono{o:Option Sl}{f f':List D->Prop}{g g':List (List D)->Prop}(h:∀ds,f ds->f' ds)(k:∀rs,g rs->g' rs)(w:ocD f g o):ocD f' g' o:=by
 match o,w with
 |some (.ow ds),w=>exact h ds w
 |some (.ot rows),w=>exact k rows w
theorem ownD_mono{o:Option Sl}{f g:List D->Prop}(h:∀ds,f ds->g ds)(w:uF f o):uF g o:=by
 match o,w with
 |some (.ow ds),w=>exact h ds w
theorem vG{c:Sto->(D->Prop)->Prop}(hc:∀σ {Q Q':D->Prop},(∀b,Q b->Q' b)->c σ Q->c σ Q'){i s:Nat}{K K':DE}(h:DE.le K K'):∀(xs:List D) {σ:Sto},zI c i s K xs σ->zI c i s K' xs σ
 |[],σ,w=>h.nx _ w
 |d::ds,σ,w=>hc _ (fun y wy=>vG hc h ds wy) w
theorem qj{f g:List D->Prop}(h:∀ds,f ds->g ds){d:D}(w:isL f d):isL g d:=by
 cases d<;>first|exact w.elim|exact h _ w
theorem qE{f:D->(List D->Prop)->Prop}(hf:∀d {Q Q':List D->Prop},(∀y,Q y->Q' y)->f d Q->f d Q'):∀(xs:List D) {Q Q':List (List D)->Prop},(∀ys,Q ys->Q' ys)->qL f xs Q->qL f xs Q'
 |[],Q,Q',h,w=>h _ w
 |d::ds,Q,Q',h,w=>hf d (fun y wy=>qE hf ds (fun ys=>h _) wy) w
theorem wpG_mono{C:Cfg}{e:Ex}{σ:Sto}{Q Q':List (List D)->Prop}(h:∀r,Q r->Q' r)(w:wpG C e σ Q):wpG C e σ Q':=by
 cases e<;>first|exact w.elim|skip
 ·next es b=>exact⟨w.1,jw es (fun ds=>vi fun xs wx=>⟨wx.1,qE (f:=fun d Q=>wpE C b (σ ++ [some (.sh d)]) (isL Q)) (fun d _ _ hq=>ja b fun _=>qj hq) xs h wx.2⟩) w.2⟩
 ·next a b=>exact⟨w.1,ja a (fun d ⟨xs,e1,wx⟩=>⟨xs,e1,wx.1,qE (f:=fun d Q=>wpE C b (σ ++ [some (.sh d)]) (isL Q)) (fun d _ _ hq=>ja b fun _=>qj hq) xs h wx.2⟩) w.2⟩
theorem Ju{row:List D}{d:D}{Q Q':List D->Prop}(h:∀r,Q r->Q' r){y:D}(w:stoR row d Q y):stoR row d Q' y:=by
 cases y<;>first|exact w.elim|exact⟨w.1,h _ w.2⟩
theorem uq{C:Cfg}{j:Nat}{σ:Sto}{s:RSt}{row:List D}{Q Q':List D->Prop}(h:∀r,Q r->Q' r)(w:wpR1 C j σ s row Q):wpR1 C j σ s row Q':=by
 cases s with
 |app v=>exact⟨w.1,ja v (fun _=>h _) w.2⟩
 |sto c e v =>
  cases c with
  |none=>exact ja v (fun d wd=>⟨wd.1,ja e (fun y=>Ju h) wd.2⟩) w
  |some c =>
   refine ja c (fun d=>jZ fun k wk=>?_) w
   cases k with
   |true=>exact ja v (fun d wd=>⟨wd.1,ja e (fun y=>Ju h) wd.2⟩) wk
   |false=>exact h _ wk
theorem zr{C:Cfg}{j:Nat}{σ:Sto}:∀(ss:List RSt) {row:List D} {Q Q':List D->Prop},(∀r,Q r->Q' r)->wpR C j σ ss row Q->wpR C j σ ss row Q'
 |[],row,Q,Q',h,w=>h _ w
 |s::ss,row,Q,Q',h,w=>uq (fun r wr=>zr ss h wr) w
theorem uU{f:List D->(List D->Prop)->Prop}(hf:∀r {Q Q':List D->Prop},(∀y,Q y->Q' y)->f r Q->f r Q'):∀(rs:List (List D)) {Q Q':List (List D)->Prop},(∀r,Q r->Q' r)->zj f rs Q->zj f rs Q'
 |[],Q,Q',h,w=>h _ w
 |r::rs,Q,Q',h,w=>hf r (fun y wy=>uU hf rs (fun ys=>h _) wy) w
theorem jq{C:Cfg}:∀(s:Sm) {K K':DE} {σ:Sto},DE.le K K'->wpS C s K σ->wpS C s K' σ
 |.nop,K,K',σ,h,w=>by exact h.nx _ w
 |.seq a b,K,K',σ,h,w=>by
  refine jq a ?_ w
  exact⟨fun _=>jq b h,h.rt,h.bk,h.ct,h.rf,h.xn,h.rg⟩
 |.set i e,K,K',σ,h,w=>by exact ja e (fun _=>h.nx _) w
 |.unp is e,K,K',σ,h,w=>by
  refine ja e (fun d wd=>?_) w
  cases d<;>first|exact⟨wd.choose,wd.choose_spec.1,h.nx _ wd.choose_spec.2⟩|exact wd.elim
 |.ret e,K,K',σ,h,w=>by exact ja e h.rt w
 |.ite c a b,K,K',σ,h,w=>by
  refine ja c (fun d=>jZ fun k wk=>?_) w
  cases k with
  |true=>exact jq a h wk
  |false=>exact jq b h wk
 |.whl c b,K,K',σ,h,w=>by
  obtain⟨W,w0,turn⟩:=w;refine⟨W,w0,fun m σ hW=>ja c (fun d=>jZ fun k wk=>?_) (turn m σ hW)⟩
  cases k with
  |true =>
   refine jq b ?_ wk
   exact⟨fun _ z=>z,h.rt,h.nx,fun _ z=>z,h.rf,h.xn,h.rg⟩
  |false=>exact h.nx _ wk
 |.forR i es b,K,K',σ,h,w=>by
  exact jw es (fun ds=>vi fun xs=>kS (body:=fun K σ=>wpS C b K σ) (fun K K' σ h=>jq b h) h xs) w
 |.forE i e b,K,K',σ,h,w=>by
  exact ja e (fun d ⟨xs,e1,wx⟩=>⟨xs,e1,kS (body:=fun K σ=>wpS C b K σ) (fun K K' σ h=>jq b h) h xs wx⟩) w
 |.brk,K,K',σ,h,w=>by exact h.bk _ w
 |.cnt,K,K',σ,h,w=>by exact h.ct _ w
 |.never,K,K',σ,h,w=>by exact w.elim
 |.new i,K,K',σ,h,w=>by exact h.nx _ w
 |.ext i e,K,K',σ,h,w=>by
  rw[wS_ext]at w ⊢
  cases g:getS σ i with
  |none=>rw[g]at w;exact w.elim
  |some z =>
   rw[g]at w
   cases z with
   |sh d=>exact w.elim
   |ot _=>exact w.elim
   |ow ds =>
    refine ja e (fun d wd=>?_) w
    cases d<;>first|exact wd.elim|exact⟨wd.1,h.nx _ wd.2⟩
 |.app i e,K,K',σ,h,w=>by
  rw[wS_app]at w ⊢
  cases g:getS σ i with
  |none=>rw[g]at w;exact w.elim
  |some z =>
   rw[g]at w
   cases z with
   |sh d=>exact w.elim
   |ot _=>exact w.elim
   |ow ds=>exact⟨w.1,ja e (fun _=>h.nx _) w.2⟩
 |.sto i e v,K,K',σ,h,w=>by
  rw[wS_sto]at w ⊢
  cases g:getS σ i with
  |none=>rw[g]at w;exact w.elim
  |some z =>
   rw[g]at w
   cases z with
   |sh d=>exact w.elim
   |ot _=>exact w.elim
   |ow ds =>
    refine ja v (fun d wd=>ja e (fun y wy=>?_) wd) w
    cases y<;>first|exact⟨wy.1,h.nx _ wy.2⟩|exact wy.elim
 |.shr i,K,K',σ,h,w=>by
  rw[wS_shr]at w ⊢
  cases g:getS σ i with
  |none=>rw[g]at w;exact w.elim
  |some z =>
   rw[g]at w
   cases z with
   |sh d=>exact w.elim
   |ot _=>exact w.elim
   |ow ds=>exact h.nx _ w
 |.retO i,K,K',σ,h,w=>by
  rw[Kf]at w ⊢
  cases g:getS σ i with
  |none=>rw[g]at w;exact w.elim
  |some z =>
   rw[g]at w
   cases z with
   |sh d=>exact w.elim
   |ot _=>exact w.elim
   |ow ds=>exact h.rf _ w
 |.raiseA x e,K,K',σ,h,w=>by
  exact ja e (fun d q=>⟨q.1,h.xn _ q.2⟩) w
 |.forU i j s e,K,K',σ,h,w=>by exact ownD_mono (fun ds=>vG (c:=fun σ Q=>wpE C e σ Q) (fun σ _ _ hq=>ja e hq) h ds) w
 |.retF e,K,K',σ,h,w=>by exact ja e (fun d=>qj fun xs=>h.rf _) w
 |.retY f es,K,K',σ,h,w=>by exact jw es (fun ds wd=>⟨wd.1,wd.2.1,fun d r=>qj (fun xs=>h.rf xs) (wd.2.2.1 d r),fun y q=>h.xn _ (wd.2.2.2 y q)⟩) w
 |.ownG i e,K,K',σ,h,w=>by exact⟨w.1,wpG_mono (fun rows=>h.nx _) w.2⟩
 |.forT j i ss,K,K',σ,h,w=>by exact otD_mono (fun rows=>uU (f:=wpR C j (setS σ i none) ss) (fun r _ _ hq=>zr ss hq) rows fun _=>h.nx _) w
 |.shrT i,K,K',σ,h,w=>by exact otD_mono (fun rows=>h.nx _) w
 |.hlfT i,K,K',σ,h,w=>by exact ocD_mono (fun _=>h.nx _) (fun rows=>h.nx _) w
 |.forN i e b,K,K',σ,h,w=>by
  exact ja e (fun d=>qj fun xs=>kS (body:=fun K σ=>wpS C b K σ) (fun K K' σ h=>jq b h) h _) w
end Z
namespace Z
open PySem
theorem qX(i:Int):bits i=if i=0 then 0 else i.natAbs.log2+1:=by
 unfold bits Xr;by_cases h:i=0
 ·simp[h]
 ·simp[h]
theorem jk{i:Int}{n:Nat}:bits i<=n ↔ i.natAbs<2^n:=by
 rw[qX];by_cases h:i=0
 ·subst h;simp[Xj]
 ·rw[if_neg h]
  have h0:i.natAbs≠0:=by omega
  rw[<- Nat.log2_lt h0];omega
theorem yJ(i:Int):i.natAbs<2^bits i:=jk.mp (K6 _)
theorem x6{i:Int}{n:Nat}:n<bits i ↔ 2^n<=i.natAbs:=by
 have:=@jk i n;omega
theorem bits_pos_le{i:Int}(h:i≠0):2^(bits i-1)<=i.natAbs:=by
 refine x6.mp ?_
 have:bits i≠0:=by rw[qX,if_neg h];omega
 omega
theorem uS{i:Int}(h:i≠0):0<bits i:=by rw[qX,if_neg h];omega
theorem bits_eq_iff{i:Int}{n:Nat}:bits i=n+1 ↔ 2^n<=i.natAbs/\i.natAbs<2^(n+1):=by
 have h1:=@jk i (n+1);have h2:=@x6 i n;constructor
 ·intro h;exact⟨h2.mp (by omega),h1.mp (by omega)⟩
 ·intro ⟨a,b⟩;have:=h1.mpr b;have:=h2.mpr a;omega
theorem xC(i:Int):bits (-i)=bits i:=by
 rw[qX,qX,Int.natAbs_neg];by_cases h:i=0
 ·simp[h]
 ·rw[if_neg h,if_neg (by omega)]
theorem bits_abs(i:Int):bits (i.natAbs:Int)=bits i:=by
 rw[qX,qX,YF];by_cases h:i=0
 ·simp[h]
 ·rw[if_neg h,if_neg (by omega)]
theorem k9(a b:Int):bits (a*b)<=bits a+bits b:=by
 rw[jk,XF,Nat.pow_add];have h1:=yJ a;have h2:=yJ b;exact Nat.mul_lt_mul'' h1 h2
theorem bits_add(a b:Int):bits (a+b)<=max (bits a) (bits b)+1:=by
 rw[jk,XQ];have h1:=yJ a;have h2:=yJ b;have h3:2^bits a<=2^max (bits a) (bits b):=XA (by decide) (by omega);have h4:2^bits b<=2^max (bits a) (bits b):=XA (by decide) (by omega);omega
theorem bits_sub(a b:Int):bits (a-b)<=max (bits a) (bits b)+1:=by
 have:=bits_add a (-b);rw[xC]at this;rw[Int.sub_eq_add_neg];exact this
theorem kl{a b:Int}(h:a.natAbs<=b.natAbs):bits a<=bits b:=by
 rw[jk];have:=yJ b;omega
theorem ky(n:Nat):bits (2^n:Int)=n+1:=by
 rw[bits_eq_iff]
 have e:((2:Int)^n).natAbs=2^n:=by rw[Yy];rfl
 rw[e];exact⟨K6 _,Nat.pow_lt_pow_right (by decide) (by omega)⟩
theorem xj{n:Nat}{i:Int}(h0:0<=i)(h:i<2^n):bits i<=n:=by
 rw[jk]
 have:(i.natAbs:Int)<2^n:=by omega
 exact_mod_cast this
theorem two_pow_pos(n:Nat):(0:Int)<2^n:=by
 have:=Xj n
 exact_mod_cast this
theorem kg{a b:Int}(h:0<=b):a.fdiv b=a / b:=Int.fdiv_eq_ediv_of_nonneg a h
theorem jA{a b:Int}(h:0<=b):a.fmod b=a%b:=Int.fmod_eq_emod_of_nonneg a h
theorem yI{a b:Int}(h:0<b):bits (a / b)<=bits a:=by
 refine kl ?_;by_cases h0:0<=a
 ·have h1:0<=a / b:=Int.ediv_nonneg h0 (ZC h);have h2:a / b<=a:=Int.ediv_le_self b h0;omega
 ·have h1:a / b<0:=Int.ediv_neg_of_neg_of_pos (by omega) h
  have h2:a<=a / b:=by
   have:=Int.le_ediv_iff_mul_le (a:=a) (b:=a) h
   have h3:a*b<=a:=by
    have:=Int.mul_le_mul_of_nonpos_left (a:=a) (b:=b) (c:=1) (by omega) (by omega);omega
   omega
  omega
end Z
namespace Z
open PySem
noncomputable def startS(n:Nat)(ds:List D):Sto:=ds.map (fun d=>some (.sh d))++K5 (n-ds.length) none
noncomputable def jS(C:Cfg)(n:Nat)(b:Sm)(c:Ctr):Prop:=∀ds,c.pre ds->wpS C b { nx:=fun _=>c.res ds .non,rt:=c.res ds } (startS n ds)
noncomputable def KeepsF(C:Cfg)(n:Nat)(b:Sm)(c:Ctr):Prop:=∀ds,c.pre ds->wpS C b { nx:=fun _=>False,rt:=fun _=>False,rf:=fun xs=>c.res ds (.lst xs) } (startS n ds)
noncomputable def KeepsG(C:Cfg)(n:Nat)(b:Sm)(c:Ctr):Prop:=∀ds,c.pre ds->wpS C b { nx:=fun _=>False,rt:=fun _=>False,rg:=fun rows=>c.res ds (qh rows) } (startS n ds)
noncomputable def KeepsX(C:Cfg)(n:Nat)(b:Sm)(c:Ctr):Prop:=∀ds,c.pre ds->wpS C b { nx:=fun _=>c.res ds .non,rt:=c.res ds,xn:=c.exn ds } (startS n ds)
noncomputable def KeepsQ(C:Cfg)(n:Nat)(b:Sm)(c:Ctr):Prop:=∀ds,c.pre ds->wpS C b { nx:=fun _=>False,rt:=fun d=>nol d=true/\c.res ds d,rg:=fun rows=>c.res ds (qh rows),xn:=c.exn ds } (startS n ds)
noncomputable def KeepsY(C:Cfg)(n:Nat)(b:Sm)(c:Ctr):Prop:=∀ds,c.pre ds->wpS C b { nx:=fun _=>False,rt:=fun _=>False,rf:=fun xs=>c.res ds (.lst xs),xn:=c.exn ds } (startS n ds)
section
variable {C:Cfg} {K:DE} {σ:Sto}
theorem ws_raiseA{x:Str}{e:Ex}:wpS C (.raiseA x e) K σ=wpE C e σ fun d=>fldOk x d/\K.xn ⟨0,x,[d]⟩:=rfl
theorem qK:wpS C .nop K σ=K.nx σ:=rfl
theorem jI{a b:Sm}:wpS C (.seq a b) K σ=wpS C a { K with nx:=fun σ'=>wpS C b K σ' } σ:=rfl
theorem ws_set{i:Nat}{e:Ex}:wpS C (.set i e) K σ=wpE C e σ fun d=>K.nx (setS σ i (some (.sh d))):=rfl
noncomputable def unpD(is:List Nat)(K:DE)(σ:Sto):D->Prop
 |.tup ds=>∃σ',setAll is ds σ=some σ'/\K.nx σ'
 |.lst ds=>∃σ',setAll is ds σ=some σ'/\K.nx σ'
 |_=>False
theorem ws_unp{is:List Nat}{e:Ex}:wpS C (.unp is e) K σ=wpE C e σ (unpD is K σ):=by
 rw[wS_unp];congr 1
theorem ws_ret{e:Ex}:wpS C (.ret e) K σ=wpE C e σ K.rt:=rfl
theorem kF{c:Ex}{a b:Sm}:wpS C (.ite c a b) K σ=wpE C c σ (isB fun t=>if t=true then wpS C a K σ else wpS C b K σ):=rfl
theorem ws_brk:wpS C .brk K σ=K.bk σ:=rfl
theorem ws_cnt:wpS C .cnt K σ=K.ct σ:=rfl
theorem ws_never:wpS C .never K σ=False:=rfl
noncomputable def appD(K:DE)(σ:Sto)(i:Nat)(w:(D->Prop)->Prop):Option Sl->Prop
 |some (.ow ds)=>ds.length<lim/\w fun d=>K.nx (setS σ i (some (.ow (ds ++ [d]))))
 |_=>False
noncomputable def stoD(K:DE)(σ:Sto)(i:Nat)(ds:List D)(d:D):D->Prop
 |.int k=>(0<=k/\k<ds.length)/\K.nx (setS σ i (some (.ow (ds.set k.toNat d))))
 |_=>False
noncomputable def stoW(K:DE)(σ:Sto)(i:Nat)(w:(D->Prop)->Prop)(u:(D->Prop)->Prop):Option Sl->Prop
 |some (.ow ds)=>w fun d=>u (stoD K σ i ds d)
 |_=>False
theorem appD_ow{i:Nat}{w:(D->Prop)->Prop}{ds:List D}:appD K σ i w (some (.ow ds))=(ds.length<lim/\w fun d=>K.nx (setS σ i (some (.ow (ds ++ [d]))))):=rfl
theorem stoD_int{i:Nat}{ds:List D}{d:D}{k:Int}:stoD K σ i ds d (.int k)=((0<=k/\k<ds.length)/\K.nx (setS σ i (some (.ow (ds.set k.toNat d))))):=rfl
theorem stoW_ow{i:Nat}{w u:(D->Prop)->Prop}{ds:List D}:stoW K σ i w u (some (.ow ds))=w fun d=>u (stoD K σ i ds d):=rfl
theorem ownD_ow{f:List D->Prop}{ds:List D}:uF f (some (.ow ds))=f ds:=rfl
theorem ws_new{i:Nat}:wpS C (.new i) K σ=K.nx (setS σ i (some (.ow []))):=rfl
theorem ws_app{i:Nat}{e:Ex}:wpS C (.app i e) K σ=appD K σ i (wpE C e σ) (getS σ i):=by
 rw[wS_app];unfold appD
 cases getS σ i with
 |none=>rfl
 |some z=>cases z<;>rfl
theorem ws_sto{i:Nat}{e v:Ex}:wpS C (.sto i e v) K σ=stoW K σ i (wpE C v σ) (wpE C e σ) (getS σ i):=by
 rw[wS_sto];unfold stoW
 cases getS σ i with
 |none=>rfl
 |some z=>cases z with
  |sh d=>rfl
  |ot _=>rfl
  |ow ds =>
   simp only[];congr 1
theorem ws_shr{i:Nat}:wpS C (.shr i) K σ=uF (fun ds=>K.nx (setS σ i (some (.sh (.lst ds))))) (getS σ i):=by
 rw[wS_shr];unfold uF
 cases getS σ i with
 |none=>rfl
 |some z=>cases z<;>rfl
theorem Ko{i:Nat}:wpS C (.retO i) K σ=uF K.rf (getS σ i):=by
 rw[Kf];unfold uF
 cases getS σ i with
 |none=>rfl
 |some z=>cases z<;>rfl
theorem ws_seq_set{i:Nat}{e:Ex}{b:Sm}:wpS C (.seq (.set i e) b) K σ=wpE C e σ fun d=>wpS C b K (setS σ i (some (.sh d))):=by rw[jI,ws_set]
theorem ws_seq_unp{is:List Nat}{e:Ex}{b:Sm}:wpS C (.seq (.unp is e) b) K σ=wpE C e σ (unpD is { K with nx:=fun σ'=>wpS C b K σ' } σ):=by rw[jI,ws_unp]
theorem ws_seq_ret{e:Ex}{b:Sm}:wpS C (.seq (.ret e) b) K σ=wpE C e σ K.rt:=by rw[jI,ws_ret]
theorem ws_seq_new{i:Nat}{b:Sm}:wpS C (.seq (.new i) b) K σ=wpS C b K (setS σ i (some (.ow []))):=by rw[jI,ws_new]
theorem ws_seq_app{i:Nat}{e:Ex}{b:Sm}:wpS C (.seq (.app i e) b) K σ=appD { K with nx:=fun σ'=>wpS C b K σ' } σ i (wpE C e σ) (getS σ i):=by rw[jI,ws_app]
theorem ws_seq_sto{i:Nat}{e v:Ex}{b:Sm}:wpS C (.seq (.sto i e v) b) K σ=stoW { K with nx:=fun σ'=>wpS C b K σ' } σ i (wpE C v σ) (wpE C e σ) (getS σ i):=by rw[jI,ws_sto]
theorem ws_seq_shr{i:Nat}{b:Sm}:wpS C (.seq (.shr i) b) K σ=uF (fun ds=>wpS C b K (setS σ i (some (.sh (.lst ds))))) (getS σ i):=by rw[jI,ws_shr]
theorem ws_seq_retO{i:Nat}{b:Sm}:wpS C (.seq (.retO i) b) K σ=uF K.rf (getS σ i):=by rw[jI,Ko]
theorem isL_lst{f:List D->Prop}{xs:List D}:isL f (.lst xs)=f xs:=rfl
theorem insD_int{i:Nat}{ds:List D}{d:D}{k:Int}:insD K σ i ds d (.int k)=((0<=k/\k<=ds.length/\ds.length<lim)/\K.nx (setS σ i (some (.ow (ds.take k.toNat++d::ds.drop k.toNat))))):=rfl
theorem ws_forU{i j s:Nat}{e:Ex}:wpS C (.forU i j s e) K σ=uF (fun ds=>zI (fun σ Q=>wpE C e σ Q) i s K ds σ) (getS σ j):=rfl
theorem JL{e:Ex}:wpS C (.retF e) K σ=wpE C e σ (isL K.rf):=rfl
theorem ws_seq_retF{e:Ex}{b:Sm}:wpS C (.seq (.retF e) b) K σ=wpE C e σ (isL K.rf):=by rw[jI,JL]
theorem obD_ot{f:List (List D)->Prop}{p:Prop}{rows:List (List D)}:obD f p (some (.ot rows))=f rows:=rfl
theorem obD_sh{f:List (List D)->Prop}{p:Prop}{d:D}:obD f p (some (.sh d))=p:=rfl
theorem ocD_ow{f:List D->Prop}{g:List (List D)->Prop}{ds:List D}:ocD f g (some (.ow ds))=f ds:=rfl
theorem ocD_ot{f:List D->Prop}{g:List (List D)->Prop}{rows:List (List D)}:ocD f g (some (.ot rows))=g rows:=rfl
theorem otD_ot{f:List (List D)->Prop}{rows:List (List D)}:otD f (some (.ot rows))=f rows:=rfl
theorem app2D_int{i:Nat}{rows:List (List D)}{w:(D->Prop)->Prop}{k:Int}:app2D K σ i rows w (.int k)=∃row,(0<=k/\rows[k.toNat]?=some row/\row.length<lim)/\w fun y=>K.nx (setS σ i (some (.ot (rows.set k.toNat (row ++ [y]))))):=rfl
theorem ws_retY{f:Nat}{es:List Ex}:wpS C (.retY f es) K σ=wpEs C es σ fun ds=>C.fr f=true/\(C.ct f).wp ds (isL K.rf) K.xn:=rfl
theorem ws_ownG{i:Nat}{e:Ex}:wpS C (.ownG i e) K σ=(noT σ i=true/\wpG C e σ fun rows=>K.nx (setS σ i (some (.ot rows)))):=rfl
theorem ws_forT{j i:Nat}{ss:List RSt}:wpS C (.forT j i ss) K σ=otD (fun rows=>zj (wpR C j (setS σ i none) ss) rows fun rows'=>K.nx (setS (setS σ i (some (.ot rows'))) j none)) (getS σ i):=rfl
theorem ws_shrT{i:Nat}:wpS C (.shrT i) K σ=otD (fun rows=>K.nx (setS σ i (some (.sh (qh rows))))) (getS σ i):=rfl
theorem ws_hlfT{i:Nat}:wpS C (.hlfT i) K σ=ocD (fun _=>K.nx σ) (fun rows=>K.nx (setS σ i (some (.ow (rows.map .lst))))) (getS σ i):=rfl
theorem ws_forN{i:Nat}{e:Ex}{b:Sm}:wpS C (.forN i e b) K σ=wpE C e σ (isL fun xs=>forL (fun K σ=>wpS C b K σ) i K (enmD xs) σ):=rfl
theorem popD_int{i j:Nat}{ms ls:List D}{k:Int}:popD K σ i j ms ls (.int k)=∃d,(0<=k/\ls[k.toNat]?=some d/\ms.length<lim/\k<16777216)/\K.nx (setS (setS σ j (some (.ow (ls.eraseIdx k.toNat)))) i (some (.ow (ms ++ [d])))):=rfl
theorem ws_seq_ownG{i:Nat}{e:Ex}{b:Sm}:wpS C (.seq (.ownG i e) b) K σ=(noT σ i=true/\wpG C e σ fun rows=>wpS C b K (setS σ i (some (.ot rows)))):=by rw[jI,ws_ownG]
theorem ws_seq_shrT{i:Nat}{b:Sm}:wpS C (.seq (.shrT i) b) K σ=otD (fun rows=>wpS C b K (setS σ i (some (.sh (qh rows))))) (getS σ i):=by rw[jI,ws_shrT]
theorem ws_seq_hlfT{i:Nat}{b:Sm}:wpS C (.seq (.hlfT i) b) K σ=ocD (fun _=>wpS C b K σ) (fun rows=>wpS C b K (setS σ i (some (.ow (rows.map .lst))))) (getS σ i):=by rw[jI,ws_hlfT]
theorem uN{i:Nat}{e:Ex}{b:Sm}:wpS C (.forE i e b) K σ=wpE C e σ fun d=>∃xs,itemsD d=some xs/\forL (fun K σ=>wpS C b K σ) i K xs σ:=rfl
theorem uI{i:Nat}{es:List Ex}{b:Sm}:wpS C (.forR i es b) K σ=wpEs C es σ fun ds=>rgD ds fun xs=>forL (fun K σ=>wpS C b K σ) i K xs σ:=rfl
end
theorem forL_cons{body:DE->Sto->Prop}{i:Nat}{K:DE}{d:D}{ds:List D}{σ:Sto}:forL body i K (d::ds) σ=body { K with nx:=forL body i K ds,ct:=forL body i K ds,bk:=K.nx } (setS σ i (some (.sh d))):=rfl
theorem JU{body:DE->Sto->Prop}{i:Nat}{K:DE}(P:List D->Sto->Prop)(hb:∀K K' σ,DE.le K K'->body K σ->body K' σ) :
 ∀(xs:List D) (σ:Sto),P xs σ->(∀d ds σ,P (d::ds) σ->body { K with nx:=P ds,ct:=P ds,bk:=K.nx } (setS σ i (some (.sh d))))->(∀σ,P [] σ->K.nx σ)->forL body i K xs σ
 |[],σ,h0,hs,he=>he σ h0
 |d::ds,σ,h0,hs,he=>by
  rw[forL_cons];refine hb _ _ _ ?_ (hs d ds σ h0);exact⟨fun σ' p=>JU P hb ds σ' p hs he,fun _ z=>z,fun _ z=>z,fun σ' p=>JU P hb ds σ' p hs he,fun _ z=>z,fun _ z=>z,fun _ z=>z⟩
theorem qP{C:Cfg}{b:Sm}{i:Nat}{K:DE}{xs:List D}{σ:Sto}(P:List D->Sto->Prop)(h0:P xs σ)(hs:∀d ds σ,P (d::ds) σ->wpS C b { K with nx:=P ds,ct:=P ds,bk:=K.nx } (setS σ i (some (.sh d))))(he:∀σ,P [] σ->K.nx σ) :
 forL (fun K σ=>wpS C b K σ) i K xs σ:=JU (body:=fun K σ=>wpS C b K σ) P (fun K K' σ h w=>jq b h w) xs σ h0 hs he
theorem whileW_by{c:Sto->(Bool->Prop)->Prop}{body:DE->Sto->Prop}{K:DE}{σ:Sto}(P:Sto->Prop)(μ:Sto->Nat)(h0:P σ)
 (hs:∀σ,P σ->c σ fun t=>if t=true then body { K with nx:=fun σ'=>μ σ'<μ σ/\P σ',ct:=fun σ'=>μ σ'<μ σ/\P σ',bk:=K.nx } σ else K.nx σ)
 (hc:∀σ Q Q',(∀t,Q t->Q' t)->c σ Q->c σ Q') (hb:∀K K' σ,DE.le K K'->body K σ->body K' σ):whileW c body K σ:=by
 refine⟨fun m σ=>m=μ σ/\P σ,⟨_,rfl,h0⟩,?_⟩;rintro m σ ⟨rfl,p⟩;refine hc σ _ _ (fun t w=>?_) (hs σ p)
 cases t with
 |true =>
  refine hb _ _ _ ?_ w
  exact⟨fun σ' ⟨l,p'⟩=>⟨_,l,rfl,p'⟩,fun _ z=>z,fun _ z=>z,fun σ' ⟨l,p'⟩=>⟨_,l,rfl,p'⟩,fun _ z=>z,fun _ z=>z,fun _ z=>z⟩
 |false=>exact w
theorem vB{C:Cfg}{c:Ex}{b:Sm}{K:DE}{σ:Sto}(P:Sto->Prop)(μ:Sto->Nat)(h0:P σ)
 (hs:∀σ,P σ->wpE C c σ (isB fun t=>if t=true then wpS C b { K with nx:=fun σ'=>μ σ'<μ σ/\P σ',ct:=fun σ'=>μ σ'<μ σ/\P σ',bk:=K.nx } σ else K.nx σ)):wpS C (.whl c b) K σ:=by
 exact whileW_by P μ h0 hs (fun σ Q Q' h w=>ja c (fun d=>jZ h) w) fun K K' σ h w=>jq b h w
theorem eq_non_non:eqD .non .non=true:=by unfold eqD;rfl
theorem eq_non_bl{v:Bool}:eqD .non (.bl v)=false:=by unfold eqD;rfl
theorem eq_non_int{v:Int}:eqD .non (.int v)=false:=by unfold eqD;rfl
theorem eq_non_str{v:Str}:eqD .non (.str v)=false:=by unfold eqD;rfl
theorem eq_non_tup{v:List D}:eqD .non (.tup v)=false:=by unfold eqD;rfl
theorem eq_non_lst{v:List D}:eqD .non (.lst v)=false:=by unfold eqD;rfl
theorem eq_bl_non{u:Bool}:eqD (.bl u) .non=false:=by unfold eqD;rfl
theorem eq_bl_bl{u:Bool}{v:Bool}:eqD (.bl u) (.bl v)=(u == v):=by unfold eqD;rfl
theorem eq_bl_int{u:Bool}{v:Int}:eqD (.bl u) (.int v)=((if u then 1 else 0) == v):=by unfold eqD;rfl
theorem eq_bl_str{u:Bool}{v:Str}:eqD (.bl u) (.str v)=false:=by unfold eqD;rfl
theorem eq_bl_tup{u:Bool}{v:List D}:eqD (.bl u) (.tup v)=false:=by unfold eqD;rfl
theorem eq_bl_lst{u:Bool}{v:List D}:eqD (.bl u) (.lst v)=false:=by unfold eqD;rfl
theorem eq_int_non{u:Int}:eqD (.int u) .non=false:=by unfold eqD;rfl
theorem eq_int_bl{u:Int}{v:Bool}:eqD (.int u) (.bl v)=(u == (if v then 1 else 0)):=by unfold eqD;rfl
theorem uW{u:Int}{v:Int}:eqD (.int u) (.int v)=(u == v):=by unfold eqD;rfl
theorem eq_int_str{u:Int}{v:Str}:eqD (.int u) (.str v)=false:=by unfold eqD;rfl
theorem eq_int_tup{u:Int}{v:List D}:eqD (.int u) (.tup v)=false:=by unfold eqD;rfl
theorem eq_int_lst{u:Int}{v:List D}:eqD (.int u) (.lst v)=false:=by unfold eqD;rfl
theorem eq_str_non{u:Str}:eqD (.str u) .non=false:=by unfold eqD;rfl
theorem eq_str_bl{u:Str}{v:Bool}:eqD (.str u) (.bl v)=false:=by unfold eqD;rfl
theorem eq_str_int{u:Str}{v:Int}:eqD (.str u) (.int v)=false:=by unfold eqD;rfl
theorem eq_str_str{u:Str}{v:Str}:eqD (.str u) (.str v)=(u == v):=by unfold eqD;rfl
theorem eq_str_tup{u:Str}{v:List D}:eqD (.str u) (.tup v)=false:=by unfold eqD;rfl
theorem eq_str_lst{u:Str}{v:List D}:eqD (.str u) (.lst v)=false:=by unfold eqD;rfl
theorem eq_tup_non{u:List D}:eqD (.tup u) .non=false:=by unfold eqD;rfl
theorem eq_tup_bl{u:List D}{v:Bool}:eqD (.tup u) (.bl v)=false:=by unfold eqD;rfl
theorem eq_tup_int{u:List D}{v:Int}:eqD (.tup u) (.int v)=false:=by unfold eqD;rfl
theorem eq_tup_str{u:List D}{v:Str}:eqD (.tup u) (.str v)=false:=by unfold eqD;rfl
theorem vC{u:List D}{v:List D}:eqD (.tup u) (.tup v)=qO u v:=by unfold eqD;rfl
theorem eq_tup_lst{u:List D}{v:List D}:eqD (.tup u) (.lst v)=false:=by unfold eqD;rfl
theorem eq_lst_non{u:List D}:eqD (.lst u) .non=false:=by unfold eqD;rfl
theorem eq_lst_bl{u:List D}{v:Bool}:eqD (.lst u) (.bl v)=false:=by unfold eqD;rfl
theorem eq_lst_int{u:List D}{v:Int}:eqD (.lst u) (.int v)=false:=by unfold eqD;rfl
theorem eq_lst_str{u:List D}{v:Str}:eqD (.lst u) (.str v)=false:=by unfold eqD;rfl
theorem eq_lst_tup{u:List D}{v:List D}:eqD (.lst u) (.tup v)=false:=by unfold eqD;rfl
theorem eq_lst_lst{u:List D}{v:List D}:eqD (.lst u) (.lst v)=qO u v:=by unfold eqD;rfl
theorem eqs_nn:qO [] []=true:=by unfold qO;rfl
theorem eqs_nc{y:D}{ys:List D}:qO [] (y::ys)=false:=by unfold qO;rfl
theorem eqs_cn{y:D}{ys:List D}:qO (y::ys) []=false:=by unfold qO;rfl
theorem eqs_cc{x y:D}{xs ys:List D}:qO (x::xs) (y::ys)=(eqD x y&&qO xs ys):=by rw[qO]
theorem dep_non:kD .non=0:=by unfold kD;rfl
theorem dep_bl{u:Bool}:kD (.bl u)=0:=by unfold kD;rfl
theorem JR{u:Int}:kD (.int u)=0:=by unfold kD;rfl
theorem dep_str{u:Str}:kD (.str u)=0:=by unfold kD;rfl
theorem Kc{u:List D}:kD (.tup u)=qB u+1:=by unfold kD;rfl
theorem KD{u:List D}:kD (.lst u)=qB u+1:=by unfold kD;rfl
theorem uX:qB []=0:=by unfold qB;rfl
theorem vm{x:D}{xs:List D}:qB (x::xs)=max (kD x) (qB xs):=by rw[qB]
section
variable {Q:D->Prop} {i j:Int}
theorem bin_add:xI .add (.int i) (.int j) Q=Q (.int (i+j)):=rfl
theorem bin_adds{x y:Str}:xI .add (.str x) (.str y) Q=(x.length+y.length<=lim/\Q (.str (x++y))):=rfl
theorem bin_addl{x y:List D}:xI .add (.lst x) (.lst y) Q=(x.length+y.length<=lim/\Q (.lst (x++y))):=rfl
theorem bin_sub:xI .sub (.int i) (.int j) Q=Q (.int (i-j)):=rfl
theorem bin_mul:xI .mul (.int i) (.int j) Q=(kH i j/\Q (.int (i*j))):=rfl
theorem bin_mull{x:List D}{k:Int}:xI .mul (.lst x) (.int k) Q=(RepOk x.length k/\Q (.lst (K5 k.toNat x).flatten)):=rfl
theorem bin_fdiv:xI .fdiv (.int i) (.int j) Q=((j≠0/\bits j<=9000)/\Q (.int (i.fdiv j))):=rfl
theorem bin_mod:xI .mod (.int i) (.int j) Q=(j≠0/\Q (.int (i.fmod j))):=rfl
theorem bin_shl:xI .shl (.int i) (.int j) Q=(ShlOk i j/\Q (.int (i*2^j.toNat))):=rfl
theorem bin_shr:xI .shr (.int i) (.int j) Q=(0<=j/\Q (.int (i / 2^j.toNat))):=rfl
theorem bin_band:xI .band (.int i) (.int j) Q=Q (.int (YW i j)):=rfl
theorem bin_pow:xI .pow (.int i) (.int j) Q=(PowOk i j/\Q (.int (i^j.toNat))):=rfl
theorem cmp_eq{x y:D}:yW .eq x y Q=(min (kD x) (kD y)<=100/\Q (.bl (eqD x y))):=rfl
theorem cmp_ne{x y:D}:yW .ne x y Q=(min (kD x) (kD y)<=100/\Q (.bl (!eqD x y))):=rfl
theorem cmp_lt:yW .lt (.int i) (.int j) Q=Q (.bl (decide (i<j))):=rfl
theorem cmp_le:yW .le (.int i) (.int j) Q=Q (.bl (decide (i<=j))):=rfl
theorem cmp_gt:yW .gt (.int i) (.int j) Q=Q (.bl (decide (j<i))):=rfl
theorem cmp_ge:yW .ge (.int i) (.int j) Q=Q (.bl (decide (j<=i))):=rfl
theorem cmp_isT{b:Bool}:yW .isT (.bl b) (.bl true) Q=Q (.bl b):=by cases b<;>rfl
theorem cmp_notT{b:Bool}:yW .notT (.bl b) (.bl true) Q=Q (.bl (!b)):=by cases b<;>rfl
theorem ix_lst{xs:List D}:ixD (.lst xs) (.int i) Q=∃d,atD xs i=some d/\Q d:=rfl
theorem ix_tup{xs:List D}:ixD (.tup xs) (.int i) Q=∃d,atD xs i=some d/\Q d:=rfl
theorem bi_abs:biD .abs [.int i] Q=Q (.int (if i<0 then -i else i)):=rfl
theorem bi_max:biD .max [.int i,.int j] Q=Q (.int (if j > i then j else i)):=rfl
theorem bi_min:biD .min [.int i,.int j] Q=Q (.int (if j<i then j else i)):=rfl
theorem bi_lenl{xs:List D}:biD .len [.lst xs] Q=Q (.int xs.length):=rfl
theorem bi_lent{xs:List D}:biD .len [.tup xs] Q=Q (.int xs.length):=rfl
theorem bi_int:biD .int [.int i] Q=Q (.int i):=rfl
theorem bi_intb{b:Bool}:biD .int [.bl b] Q=Q (.int (if b then 1 else 0)):=rfl
theorem bi_listl{xs:List D}:biD .list [.lst xs] Q=Q (.lst xs):=rfl
theorem bi_tupl{xs:List D}:biD .tuple [.lst xs] Q=Q (.tup xs):=rfl
theorem bi_tupt{xs:List D}:biD .tuple [.tup xs] Q=Q (.tup xs):=rfl
theorem bi_listt{xs:List D}:biD .list [.tup xs] Q=Q (.lst xs):=rfl
theorem kB{α:Type}{f:α->D}(hf:∀a b,f a=f b->a=b):∀ {xs ys:List α},xs.map f=ys.map f->xs=ys
 |[],[],_=>rfl
 |[],_::_,h=>by simp at h
 |_::_,[],h=>by simp at h
 |x::xs,y::ys,h=>by
  simp only[K1,Qj]at h;rw[hf _ _ h.1,kB hf h.2]
theorem bi_sum{ns:List Int}{Q:D->Prop}:biD .sum [.lst (ns.map .int)] Q ↔ Q (.int ns.sum):=by
 unfold biD yX yg;exact⟨fun⟨ms,e,q⟩=>by rw[kB (fun a b h=>by injection h) e];exact q,fun q=>⟨ns,rfl,q⟩⟩
theorem bi_all{bs:List Bool}{Q:D->Prop}:biD .all [.lst (bs.map .bl)] Q ↔ Q (.bl (bs.all id)):=by
 unfold biD yX yg;exact⟨fun⟨ms,e,q⟩=>by rw[kB (fun a b h=>by injection h) e];exact q,fun q=>⟨bs,rfl,q⟩⟩
theorem bi_any{bs:List Bool}{Q:D->Prop}:biD .any [.lst (bs.map .bl)] Q ↔ Q (.bl (bs.any id)):=by
 unfold biD yX yg;exact⟨fun⟨ms,e,q⟩=>by rw[kB (fun a b h=>by injection h) e];exact q,fun q=>⟨bs,rfl,q⟩⟩
theorem mm_ints{mx:Bool}{ns:List Int}{d:Int}{Q:D->Prop}:mmD mx (.lst (ns.map .int)) (.int d) Q ↔ Q (.int (mmF mx d ns)):=by
 unfold mmD;exact⟨fun⟨ms,e,q⟩=>by rw[kB (fun a b h=>by injection h) e];exact q,fun q=>⟨ns,rfl,q⟩⟩
theorem J2{ns:List Int}{Q:D->Prop}:biD .min [.lst (ns.map .int)] Q ↔ ns ≠ []/\Q (.int (mmF false 0 ns)):=by
 exact⟨fun⟨ms,e,h,q⟩=>by rw[kB (fun a b h=>by injection h) e];exact⟨h,q⟩,fun q=>⟨ns,rfl,q.1,q.2⟩⟩
theorem mt_bits:mtD .bitlen (.int i) Q=Q (.int (bits i)):=rfl
theorem isB_bl{P:Bool->Prop}{b:Bool}:isB P (.bl b)=P b:=rfl
theorem unp_lst{is:List Nat}{K:DE}{σ:Sto}{ds:List D}:unpD is K σ (.lst ds)=∃σ',setAll is ds σ=some σ'/\K.nx σ':=rfl
theorem unp_tup{is:List Nat}{K:DE}{σ:Sto}{ds:List D}:unpD is K σ (.tup ds)=∃σ',setAll is ds σ=some σ'/\K.nx σ':=rfl
theorem rg_1{P:List D->Prop}:rgD [.int i] P=(kQ i/\P (jP 0 1 i.toNat)):=rfl
theorem rg_2{P:List D->Prop}:rgD [.int i,.int j] P=((kQ i/\kQ j)/\P (jP i 1 (j-i).toNat)):=rfl
theorem rg_3{P:List D->Prop}{k:Int}:rgD [.int i,.int j,.int k] P=((kQ i/\kQ j/\0<k/\k<1000)/\P (jP i k (if i<j then (j-i-1) / k+1 else 0).toNat)):=rfl
end
theorem atD_0{x:D}{xs:List D}:atD (x::xs) 0=some x:=rfl
theorem atD_1{x y:D}{xs:List D}:atD (x::y::xs) 1=some y:=rfl
theorem atD_2{x y z:D}{xs:List D}:atD (x::y::z::xs) 2=some z:=rfl
theorem atD_3{x y z u:D}{xs:List D}:atD (x::y::z::u::xs) 3=some u:=rfl
theorem aI{a b:Prop}(x:a)(y:b):a/\b:=⟨x,y⟩
noncomputable def zC:=aI @popD_int<|aI @otD_ot<|aI @obD_ot<|aI @obD_sh<|aI @app2D_int<|aI @isL_lst<|aI @insD_int<|aI @appD_ow<|aI @stoD_int<|aI @stoW_ow<|aI @ownD_ow<|aI @ocD_ow<|aI @ocD_ot<|aI @bin_add<|aI @bin_adds<|aI @bin_addl<|aI @bin_sub<|aI @bin_mul<|aI @bin_mull<|aI @bin_fdiv<|aI @bin_mod<|aI @bin_shl<|aI @bin_shr<|aI @bin_band<|aI @bin_pow<|aI @cmp_eq<|aI @cmp_ne<|aI @cmp_lt<|aI @cmp_le<|aI @cmp_gt<|aI @cmp_ge<|aI @cmp_isT<|aI @cmp_notT<|aI @ix_lst<|aI @ix_tup<|aI @bi_abs<|aI @bi_max<|aI @bi_min<|aI @bi_lenl<|aI @bi_lent<|aI @bi_int<|aI @bi_intb<|aI @bi_listl<|aI @bi_listt<|aI @bi_tupl<|aI @bi_tupt<|aI @bi_sum<|aI @bi_all<|aI @bi_any<|aI @mm_ints<|aI @mt_bits<|aI @isB_bl<|aI @unp_tup<|aI @unp_lst<|aI @rg_1<|aI @rg_2<|aI @rg_3<|aI @eq_non_non<|aI @eq_non_bl<|aI @eq_non_int<|aI @eq_non_str<|aI @eq_non_tup<|aI @eq_non_lst<|aI @eq_bl_non<|aI @eq_bl_bl<|aI @eq_bl_int<|aI @eq_bl_str<|aI @eq_bl_tup<|aI @eq_bl_lst<|aI @eq_int_non<|aI @eq_int_bl<|aI @uW<|aI @eq_int_str<|aI @eq_int_tup<|aI @eq_int_lst<|aI @eq_str_non<|aI @eq_str_bl<|aI @eq_str_int<|aI @eq_str_str<|aI @eq_str_tup<|aI @eq_str_lst<|aI @eq_tup_non<|aI @eq_tup_bl<|aI @eq_tup_int<|aI @eq_tup_str<|aI @vC<|aI @eq_tup_lst<|aI @eq_lst_non<|aI @eq_lst_bl<|aI @eq_lst_int<|aI @eq_lst_str<|aI @eq_lst_tup<|aI @eq_lst_lst<|aI @eqs_nn<|aI @eqs_nc<|aI @eqs_cn<|aI @eqs_cc<|aI @dep_non<|aI @dep_bl<|aI @JR<|aI @dep_str<|aI @Kc<|aI @KD<|aI @uX<|aI @vm<|aI @decide_eq_true_eq<|aI @Ql<|aI @KM<|aI @Bool.not_true<|aI @Bool.not_false<|aI @decide_eq_false_iff_not<|aI @false_implies<|aI @and_true<|aI @true_and<|aI @and_false<|aI @false_and<|aI @Nat.min_self<|aI @Nat.max_self<|aI @XB<|aI @Nat.min_zero<|aI @Nat.zero_min<|aI @Nat.max_zero<|aI @Nat.zero_max<|aI @atD_0<|aI @atD_1<|aI @atD_2<|aI @atD_3<|aI @Bool.true_eq_false<|aI @Qk<|aI @not_false_eq_true<|aI @not_true_eq_false<|aI @Bool.and_true<|aI @Bool.true_and<|aI @Bool.and_false<|aI @Bool.false_and<|aI @Ug<|aI @Bool.true_or<|aI @Bool.or_false<|aI @Bool.false_or<|@Int.cast_ofNat_Int
noncomputable def zP:=aI @qK<|aI @jI<|aI @ws_set<|aI @ws_unp<|aI @ws_ret<|aI @kF<|aI @ws_brk<|aI @ws_cnt<|aI @ws_never<|aI @ws_new<|aI @ws_app<|aI @ws_sto<|aI @ws_shr<|aI @Ko<|aI @JL<|aI @ws_ownG<|aI @ws_shrT<|@ws_hlfT
noncomputable def zS:=aI @ws_seq_set<|aI @ws_seq_unp<|aI @ws_seq_ret<|aI @ws_seq_new<|aI @ws_seq_app<|aI @ws_seq_sto<|aI @ws_seq_shr<|aI @ws_seq_retO<|aI @ws_seq_retF<|aI @ws_seq_ownG<|aI @ws_seq_shrT<|aI @ws_seq_hlfT<|aI @qK<|aI @ws_ret<|aI @ws_brk<|aI @ws_cnt<|aI @ws_never<|aI @Ko<|@JL
noncomputable def Jc(σ:Sto)(i:Nat):Int:=match getS σ i with|some (.sh (.int k))=>k|_=>0
theorem jE{i j:Int}(h:bits i+bits j<=134217728):kH i j:=.inr (.inr h)
noncomputable def vV:Sm :=
 (.seq (.set 1 (.cst (.int 1)))
 (.seq (.set 2 (.cst (.int 2)))
 (.seq (.set 3 (.var 0))
 (.seq (.whl (.cmp .gt (.var 3) (.cst (.int 0))) (.seq (.ite (.cmp .eq (.bin .mod (.var 3) (.cst (.int 2))) (.cst (.int 1))) (.seq (.set 1 (.bin .mul (.var 1) (.var 2)))
  .nop) .nop)
  (.seq (.set 2 (.bin .mul (.var 2) (.var 2)))
  (.seq (.set 3 (.bin .fdiv (.var 3) (.cst (.int 2))))
  .nop))))
 (.seq (.ret (.var 1))
 .nop)))))
noncomputable def Kl(i_two_to:Nat):Sm :=
 (.seq (.ite (.cmp .lt (.ix (.var 0) (.cst (.int 1))) (.cst (.int 0))) (.seq (.ret (.tup [(.ix (.var 0) (.cst (.int 0))),(.call i_two_to [(.neg (.ix (.var 0) (.cst (.int 1))))])]))
  .nop) .nop)
 (.seq (.ret (.tup [(.bin .mul (.ix (.var 0) (.cst (.int 0))) (.call i_two_to [(.ix (.var 0) (.cst (.int 1)))])),(.cst (.int 1))]))
 .nop))
noncomputable def qG:Ctr where
 pre ds:=match ds with|[.int n]=>0<=n/\n<=1000000|_=>False
 res ds d:=match ds with|[.int n]=>d=.int (2^n.toNat)|_=>False
theorem k_two_to{C:Cfg}:jS C 4 vV qG:=by
 rintro ds h;simp only[qG]at h;split at h
 case h_2=>exact h.elim
 next n =>
 obtain⟨n,rfl⟩:∃m:Nat,n=m:=⟨n.toNat,by lia⟩
 have hn:n<=1000000:=by lia
 try simp only[zP,zC,wE_var,wE_cst,wE_con,wE_bin,wE_neg,wE_not,wE_cmp,wE_and,wE_or,wE_ife,wE_tup,wE_lst,wE_ix,wE_call,wE_bi,wE_meth,wE_isi,wE_compR,wE_compE,wE_oix,wE_compZ,wE_slc,wE_compF,wpEs,getS,setS,setAll,tyD,itemsD,Ctr.wp,startS,List.map,K5,Nat.reduceSub,Nat.reduceAdd,reduceIte,Nat.reduceLeDiff,Nat.reduceLT,Int.reduceEq,Int.reduceNeg,Int.reduceLT,Int.reduceLE,Int.reduceSub,Int.reduceAdd,Int.reduceBEq,K1,QP,QC,Yx,Xc,XG,Qb,Qo,Qu,forall_eq,forall_eq',implies_true,if_true,if_false,ite_true,ite_false,Q8,exists_eq_left',exists_eq_left,ne_eq,beq_iff_eq,beq_self_eq_true,beq_eq_false_iff_ne,Yc,vV,qG,Qm]
 refine vB (fun σ=>∃j:Nat,2^j<=2*n+2/\σ=[some (.sh (.int n)),some (.sh (.int (2^(n%2^j)))),some (.sh (.int (2^(2^j)))),some (.sh (.int ((n / 2^j:Nat):Int)))]) (fun σ=>(Jc σ 3).toNat) ?_ ?_
 ·refine⟨0,by lia,?_⟩;simp[Nat.mod_one]
 ·rintro σ ⟨j,hj,rfl⟩
  try simp only[zP,zC,wE_var,wE_cst,wE_con,wE_bin,wE_neg,wE_not,wE_cmp,wE_and,wE_or,wE_ife,wE_tup,wE_lst,wE_ix,wE_call,wE_bi,wE_meth,wE_isi,wE_compR,wE_compE,wE_oix,wE_compZ,wE_slc,wE_compF,wpEs,getS,setS,setAll,tyD,itemsD,Ctr.wp,startS,List.map,K5,Nat.reduceSub,Nat.reduceAdd,reduceIte,Nat.reduceLeDiff,Nat.reduceLT,Int.reduceEq,Int.reduceNeg,Int.reduceLT,Int.reduceLE,Int.reduceSub,Int.reduceAdd,Int.reduceBEq,K1,QP,QC,Yx,Xc,XG,Qb,Qo,Qu,forall_eq,forall_eq',implies_true,if_true,if_false,ite_true,ite_false,Q8,exists_eq_left',exists_eq_left,ne_eq,beq_iff_eq,beq_self_eq_true,beq_eq_false_iff_ne,Yc,Jc]
  by_cases h0:0<n / 2^j
  ·rw[if_pos (by lia)]
   have hle:2^j<=n:=by
    rcases Qd n (2^j) with h|h
    ·rw[Nat.div_eq_of_lt h]at h0;lia
    ·exact h
   have e1:((n / 2^j:Nat):Int).fmod 2=((n / 2^j%2:Nat):Int):=by rw[jA (by decide)];lia
   have e2:((n / 2^j:Nat):Int).fdiv 2=((n / 2^(j+1):Nat):Int):=by
    rw[kg (by decide),XQ,<- Nat.div_div_eq_div_mul];lia
   have e3:(2:Int)^2^j*2^2^j=2^2^(j+1):=by rw[<- XT,XQ];congr 1;lia
   have m2:kH ((2:Int)^2^j) (2^2^j):=jE (by rw[ky];lia)
   have lt:(((n / 2^(j+1):Nat):Int)).toNat<(((n / 2^j:Nat):Int)).toNat:=by
    have:n / 2^(j+1)<n / 2^j:=by rw[XQ,<- Nat.div_div_eq_div_mul];lia
    lia
   have hj':2^(j+1)<=2*n+2:=by rw[XQ];lia
   rw[e1,e2,e3]
   have dec:n%2^(j+1)=n%2^j+2^j*(n / 2^j%2):=by rw[XQ,Nat.mod_mul]
   by_cases ho:n / 2^j%2=1
   ·rw[if_pos (by lia)]
    have e4:(2:Int)^(n%2^j)*2^2^j=2^(n%2^(j+1)):=by rw[<- XT,dec,ho];congr 1;lia
    have hm:n%2^j<2^j:=Nat.mod_lt _ (Xj j);have m1:kH ((2:Int)^(n%2^j)) (2^2^j):=jE (by rw[ky,ky];lia);exact⟨m1,m2,by decide,lt,j+1,hj',by rw[e4]⟩
   ·rw[if_neg (by lia)]
    have e4:n%2^(j+1)=n%2^j:=by
     have:n / 2^j%2=0:=by lia
     rw[dec,this];lia
    exact⟨m2,by decide,lt,j+1,hj',by rw[e4]⟩
  ·rw[if_neg (by lia)]
   have:n<2^j:=by
    rcases Qd n (2^j) with h|h
    ·exact h
    ·have:=Nat.div_pos h (Xj j);lia
   rw[Nat.mod_eq_of_lt this]
theorem jW{C:Cfg}{a b:Sm}{K:DE}{σ:Sto}(P:Sto->Prop)(h1:wpS C a { K with nx:=P } σ)(h2:∀σ',P σ'->wpS C b K σ'):wpS C (.seq a b) K σ:=by
 rw[jI];refine jq a ?_ h1;exact⟨fun σ' p=>h2 σ' p,fun _ z=>z,fun _ z=>z,fun _ z=>z,fun _ z=>z,fun _ z=>z,fun _ z=>z⟩
noncomputable def xO:Ctr where
 pre ds:=match ds with|[.tup [.int w,.int p]]=>(-1000000<=p/\p<=1000000)/\bits w<=1000000|_=>False
 res ds d:=match ds with|[.tup [.int w,.int p]]=>d=.tup [.int (if p<0 then w else w*2^p.toNat),.int (if p<0 then 2^(-p).toNat else 1)]|_=>False
theorem k_value{C:Cfg}{i:Nat}(h1:C.ct i=qG):jS C 1 (Kl i) xO:=by
 rintro ds h;simp only[xO]at h;split at h
 case h_2=>exact h.elim
 next w p =>
 obtain⟨⟨p1,p2⟩,hw⟩:=h
 try simp only[zP,zC,wE_var,wE_cst,wE_con,wE_bin,wE_neg,wE_not,wE_cmp,wE_and,wE_or,wE_ife,wE_tup,wE_lst,wE_ix,wE_call,wE_bi,wE_meth,wE_isi,wE_compR,wE_compE,wE_oix,wE_compZ,wE_slc,wE_compF,wpEs,getS,setS,setAll,tyD,itemsD,Ctr.wp,startS,List.map,K5,Nat.reduceSub,Nat.reduceAdd,reduceIte,Nat.reduceLeDiff,Nat.reduceLT,Int.reduceEq,Int.reduceNeg,Int.reduceLT,Int.reduceLE,Int.reduceSub,Int.reduceAdd,Int.reduceBEq,K1,QP,QC,Yx,Xc,XG,Qb,Qo,Qu,forall_eq,forall_eq',implies_true,if_true,if_false,ite_true,ite_false,Q8,exists_eq_left',exists_eq_left,ne_eq,beq_iff_eq,beq_self_eq_true,beq_eq_false_iff_ne,Yc,Kl,xO,h1,qG]
 by_cases hp:p<0
 ·rw[if_pos hp];simp only[hp,if_true];exact⟨⟨by lia,by lia⟩,trivial⟩
 ·rw[if_neg hp];simp only[hp,if_false];refine⟨⟨by lia,by lia⟩,jE ?_,trivial⟩;rw[ky];lia
theorem forUL_by{C:Cfg}{e:Ex}{i s:Nat}{K:DE}(P:List D->Sto->Prop):∀(xs:List D) (σ:Sto),P xs σ->(∀d ds σ,P (d::ds) σ->wpE C e (setS σ i (some (.sh d))) fun y=>P ds (setS (setS σ i (some (.sh d))) s (some (.sh y))))->(∀σ,P [] σ->K.nx σ)->zI (fun σ Q=>wpE C e σ Q) i s K xs σ
 |[],σ,h0,hs,he=>he σ h0
 |d::ds,σ,h0,hs,he=>ja e (fun y wy=>forUL_by P ds _ wy hs he) (hs d ds σ h0)
end Z
local macro_rules | `(tactic|lia)=>`(tactic|lia -abstractProof)
local macro_rules | `(tactic|dsimp! only[$ls,*])=>`(tactic|try simp only[Z.zC,Z.wE_var,Z.wE_cst,Z.wE_con,Z.wE_bin,Z.wE_neg,Z.wE_not,Z.wE_cmp,Z.wE_and,Z.wE_or,Z.wE_ife,Z.wE_tup,Z.wE_lst,Z.wE_ix,Z.wE_call,Z.wE_bi,Z.wE_meth,Z.wE_isi,Z.wE_compR,Z.wE_compE,Z.wE_oix,Z.wE_compZ,Z.wE_slc,Z.wE_compF,Z.wpEs,Z.getS,Z.setS,Z.setAll,Z.tyD,Z.itemsD,Z.startS,List.map,K5,Nat.reduceSub,Nat.reduceAdd,reduceIte,Nat.reduceLeDiff,Nat.reduceLT,Int.reduceEq,Int.reduceNeg,Int.reduceLT,Int.reduceLE,Int.reduceSub,Int.reduceAdd,Int.reduceBEq,K1,QP,QC,Yx,Xc,XG,Qb,Qo,Qu,forall_eq,forall_eq',implies_true,if_true,if_false,ite_true,ite_false,Q8,exists_eq_left',exists_eq_left,ne_eq,beq_iff_eq,beq_self_eq_true,beq_eq_false_iff_ne,Yc,$ls,*])
local macro_rules | `(tactic|simp_arith only[$ls,*])=>`(tactic|try simp only[Z.zC,Z.wE_var,Z.wE_cst,Z.wE_con,Z.wE_bin,Z.wE_neg,Z.wE_not,Z.wE_cmp,Z.wE_and,Z.wE_or,Z.wE_ife,Z.wE_tup,Z.wE_lst,Z.wE_ix,Z.wE_call,Z.wE_bi,Z.wE_meth,Z.wE_isi,Z.wE_compR,Z.wE_compE,Z.wE_oix,Z.wE_compZ,Z.wE_slc,Z.wE_compF,Z.wpEs,Z.getS,Z.setS,Z.setAll,Z.tyD,Z.itemsD,Z.Ctr.wp,Z.startS,List.map,K5,Nat.reduceSub,Nat.reduceAdd,reduceIte,Nat.reduceLeDiff,Nat.reduceLT,Int.reduceEq,Int.reduceNeg,Int.reduceLT,Int.reduceLE,Int.reduceSub,Int.reduceAdd,Int.reduceBEq,K1,QP,QC,Yx,Xc,XG,Qb,Qo,Qu,forall_eq,forall_eq',implies_true,if_true,if_false,ite_true,ite_false,Q8,exists_eq_left',exists_eq_left,ne_eq,beq_iff_eq,beq_self_eq_true,beq_eq_false_iff_ne,Yc,$ls,*])
local macro_rules | `(tactic|simp_all_arith! only[$ls,*])=>`(tactic|dsimp! only[Z.zP,Z.Ctr.wp,$ls,*])
local macro_rules | `(tactic|simp_all! only[$ls,*])=>`(tactic|dsimp! only[Z.zS,$ls,*])
local macro_rules | `(tactic|simp_arith! only[$ls,*])=>`(tactic|simp_arith only[Z.zS,$ls,*])
namespace Z
open PySem
noncomputable def yV:Sm :=
 (.seq (.ite (.cmp .eq (.var 0) (.lst [])) (.seq (.ret (.bin .mul (.var 1) (.cst (.int 7919))))
  .nop) .nop)
 (.seq (.ret (.bin .add (.ix (.var 0) (.bin .mod (.var 1) (.bi .len [(.var 0)]))) (.bin .mul (.bin .fdiv (.var 1) (.bi .len [(.var 0)])) (.cst (.int 104729)))))
 .nop))
noncomputable def yA:Sm :=
 (.seq (.set 2 (.bin .mod (.bin .add (.bin .mul (.var 0) (.cst (.int 6364136223846793005))) (.bin .mul (.bin .add (.var 1) (.cst (.int 1))) (.cst (.int 1442695040888963407)))) (.cst (.int 340282366920938463463374607431768211507))))
 (.seq (.ret (.bin .mod (.bin .mul (.var 2) (.var 2)) (.cst (.int 340282366920938463463374607431768211297))))
 .nop))
noncomputable def zh:Sm :=
 (.seq (.ite (.cmp .eq (.var 0) (.cst (.int 0))) (.seq (.ret (.tup [(.cst (.int 0)),(.cst (.int 0))]))
  .nop) .nop)
 (.seq (.set 2 (.bin .band (.var 0) (.bin .sub (.cst (.int 0)) (.var 0))))
 (.seq (.ret (.tup [(.bin .fdiv (.var 0) (.var 2)),(.bin .sub (.bin .add (.var 1) (.meth .bitlen (.var 2))) (.cst (.int 1)))]))
 .nop)))
noncomputable def xQ(i_law_drawn i_law_bare:Nat):Sm :=
 (.seq (.set 4 (.call i_law_drawn [(.var 0),(.var 1)]))
 (.seq (.set 5 (.bin .mod (.var 4) (.cst (.int 8))))
 (.seq (.set 6 (.bin .sub (.bin .mod (.bin .fdiv (.var 4) (.cst (.int 8))) (.bin .add (.bin .mul (.cst (.int 2)) (.var 3)) (.cst (.int 1)))) (.var 3)))
 (.seq (.set 7 (.bin .mod (.bin .fdiv (.var 4) (.bin .add (.bin .mul (.cst (.int 16)) (.var 3)) (.cst (.int 8)))) (.bin .shl (.cst (.int 1)) (.var 2))))
 (.seq (.ite (.cmp .eq (.var 5) (.cst (.int 0))) (.seq (.set 7 (.ix (.lst [(.cst (.int 0)),(.cst (.int 1)),(.cst (.int 3))]) (.bin .mod (.bin .fdiv (.var 4) (.cst (.int 64))) (.cst (.int 3)))))
  .nop) .nop)
 (.seq (.ite (.cmp .eq (.var 5) (.cst (.int 1))) (.seq (.set 7 (.bin .sub (.bin .shl (.cst (.int 1)) (.var 2)) (.cst (.int 1))))
  .nop) .nop)
 (.seq (.ite (.cmp .eq (.var 5) (.cst (.int 2))) (.seq (.set 7 (.bin .add (.bin .shl (.cst (.int 1)) (.bin .sub (.var 2) (.cst (.int 1)))) (.cst (.int 1))))
  .nop) .nop)
 (.seq (.ite (.cmp .eq (.var 5) (.cst (.int 3))) (.seq (.set 7 (.bin .mod (.var 0) (.bin .shl (.cst (.int 1)) (.var 2))))
  .nop) .nop)
 (.seq (.ite (.cmp .eq (.var 5) (.cst (.int 4))) (.seq (.set 7 (.bin .mod (.var 7) (.cst (.int 32))))
  .nop) .nop)
 (.seq (.ite (.cmp .eq (.bin .mod (.bin .fdiv (.var 4) (.cst (.int 16))) (.cst (.int 2))) (.cst (.int 1))) (.seq (.set 7 (.bin .sub (.cst (.int 0)) (.var 7)))
  .nop) .nop)
 (.seq (.ret (.call i_law_bare [(.var 7),(.var 6)]))
 .nop)))))))))))
noncomputable def yp:Sm :=
 (.seq (.ret (.and (.isi (.var 0) .int) (.not (.isi (.var 0) .bool))))
 .nop)
noncomputable def xZ:Sm :=
 (.seq (.set 0 (.bi .abs [(.var 0)]))
 (.seq (.set 1 (.bi .abs [(.var 1)]))
 (.seq (.whl (.cmp .ne (.var 1) (.cst (.int 0))) (.seq (.set 2 (.bin .sub (.var 0) (.bin .mul (.bin .fdiv (.var 0) (.var 1)) (.var 1))))
  (.seq (.set 0 (.var 1))
  (.seq (.set 1 (.var 2))
  .nop))))
 (.seq (.ret (.var 0))
 .nop))))
noncomputable def yy(i_law_drawn i_law_cell:Nat):Sm :=
 (.seq (.ret (.ix (.lst [(.bin .add (.cst (.int 8)) (.bin .mod (.call i_law_drawn [(.call i_law_cell [(.var 0),(.var 1)]),(.var 1)]) (.cst (.int 57)))),(.cst (.int 8)),(.cst (.int 53)),(.cst (.int 64))]) (.bin .mod (.call i_law_drawn [(.call i_law_cell [(.var 0),(.var 1)]),(.bin .add (.var 1) (.cst (.int 1)))]) (.cst (.int 4)))))
 .nop)
theorem zq{xs:List D}{i:Int}(h0:0<=i)(h1:i<xs.length):∃d,atD xs i=some d/\d∈xs:=by
 have h:i.toNat<xs.length:=by lia
 refine⟨xs[i.toNat],?_,QJ h⟩;unfold atD;rw[if_pos h0,KU h]
theorem script_at{ns:List Int}{i:Int}(h0:0<=i)(h1:i<ns.length):∃n,atD (ns.map .int) i=some (.int n):=by
 obtain⟨d,e,m⟩:=zq (xs:=ns.map .int) h0 (by simpa using h1);obtain⟨n,_,rfl⟩:=K7.mp m;exact⟨n,e⟩
noncomputable def xV:Ctr where
 pre ds:=∃(ns:List Int) (k:Int),ds=[.lst (ns.map .int),.int k]/\ns.length<=63/\0<=k
 res ds d:=∃i,d=.int i
theorem eqDs_nil(ns:List Int):qO (ns.map .int) []=decide (ns=[]):=by
 cases ns<;>simp[eqD,qO]
theorem k_cell{C:Cfg}:jS C 2 yV xV:=by
 rintro ds ⟨ns,k,rfl,hl,hk⟩
 simp_all_arith! only[yV,xV,KP]
 refine⟨by lia,?_⟩;rw[eqDs_nil];simp only[decide_eq_true_eq];by_cases hn:ns=[]
 ·rw[if_pos hn];exact⟨.inr (.inl (by decide)),_,rfl⟩
 ·rw[if_neg hn];have hp:0<ns.length:=List.length_pos_iff.mpr hn;have hb:bits (ns.length:Int)<=64:=xj (by lia) (by lia);rw[jA (by lia)];obtain⟨n,e⟩:=script_at (ns:=ns) (i:=k%ns.length) (Xy _ (by lia)) (Xg _ (by lia));refine⟨by lia,_,e,⟨by lia,by lia⟩,.inr (.inl (by decide)),?_⟩
  simp_all_arith! only[]
  exact⟨_,rfl⟩
noncomputable def kE:Ctr where
 pre ds:=match ds with|[.int _,.int _]=>True|_=>False
 res ds d:=∃i,d=.int i/\0<=i/\i<340282366920938463463374607431768211297
theorem k_drawn{C:Cfg}:jS C 3 yA kE:=by
 rintro ds h;simp only[kE]at h;split at h
 case h_2=>exact h.elim
 next c k =>
 simp_all_arith! only[yA,kE]
 rw[jA (by decide),jA (by decide)];have b1:bits ((c*6364136223846793005+(k+1)*1442695040888963407)%340282366920938463463374607431768211507)<=129:=xj (Xy _ (by decide)) (Int.lt_trans (Xg _ (by decide)) (by decide));refine⟨.inr (.inl (by decide)),.inr (.inl (by decide)),jE (by lia),_,rfl,Xy _ (by decide),Xg _ (by decide)⟩
theorem two_part:∀n:Nat,0<n->∃v m,n=2^v*m/\m%2=1:=by
 intro n
 induction n using Nat.strongRecOn with
 |ind n ih =>
  intro hn;by_cases h:n%2=1
  ·exact⟨0,n,by simp,h⟩
  ·obtain⟨v,m,e,hm⟩:=ih (n / 2) (by lia) (by lia);refine⟨v+1,m,?_,hm⟩;rw[XQ,Nat.mul_right_comm,<- e];lia
theorem Jg:∀(v m:Nat),m%2=1->(2^v*m) &&& (2^v*m-1)=2^v*(m-1)
 |0,m,h=>by
  simp only[Nat.pow_zero,Nat.one_mul]
  refine Nat.eq_of_testBit_eq fun i=>?_
  rw[Nat.testBit_and]
  cases i with
  |zero=>simp only[Nat.testBit_zero];have:(m-1)%2=0:=by lia
         simp[h,this]
  |succ i=>simp only[Nat.testBit_succ];have:(m-1) / 2=m / 2:=by lia
           rw[this];simp
 |v+1,m,h=>by
  have ih:=Jg v m h;have hp:0<2^v*m:=Nat.mul_pos (Xj v) (by lia)
  have e1:2^(v+1)*m=2*(2^v*m):=by rw[XQ];grind
  have e2:2^(v+1)*(m-1)=2*(2^v*(m-1)):=by rw[XQ];grind
  rw[e1,e2];generalize hA:2^v*m=A at *
  refine Nat.eq_of_testBit_eq fun i=>?_
  rw[Nat.testBit_and]
  cases i with
  |zero=>simp only[Nat.testBit_zero];simp
  |succ i =>
   simp only[Nat.testBit_succ]
   have a1:(2*A) / 2=A:=by lia
   have a2:(2*A-1) / 2=A-1:=by lia
   have a3:2*(2^v*(m-1)) / 2=2^v*(m-1):=by lia
   rw[a1,a2,a3,<- ih,Nat.testBit_and]
theorem JY{w:Int}(h:w≠0):∃(v:Nat) (m:Int),w=m*2^v/\m%2=1/\YW w (0-w)=2^v:=by
 obtain⟨v,m,e,hm⟩:=two_part w.natAbs (by lia);have hl:=Jg v m hm;rw[<- e]at hl
 have hp:(2^v*(m-1):Nat)=w.natAbs-2^v:=by rw[Nat.mul_sub,<- e];simp
 have hle:2^v<=w.natAbs:=by rw[e];exact Nat.le_mul_of_pos_right _ (by lia)
 have cast:((2^v:Nat):Int)=2^v:=by simp
 have ecast:(w.natAbs:Int)=2^v*m:=by rw[e];simp
 by_cases hw:0<=w
 ·refine⟨v,m,?_,by lia,?_⟩
  ·rw[X5,<- ecast];lia
  ·unfold YW
   have d1:decide (0<=w)=true:=by simpa using hw
   have d2:decide (0<=0-w)=false:=by simp;lia
   rw[d1,d2];simp only[XY.bitNot]
   have e1:w.toNat=w.natAbs:=by lia
   have e2:(-(0-w)-1).toNat=w.natAbs-1:=by lia
   rw[e1,e2,hl,hp];lia
 ·refine⟨v,-m,?_,by lia,?_⟩
  ·rw[Int.neg_mul,X5,<- ecast];lia
  ·unfold YW
   have d1:decide (0<=w)=false:=by simpa using hw
   have d2:decide (0<=0-w)=true:=by simp;lia
   rw[d1,d2];simp only[XY.bitNot]
   have e1:(0-w).toNat=w.natAbs:=by lia
   have e2:(-w-1).toNat=w.natAbs-1:=by lia
   rw[e1,e2,hl,hp];lia
structure Num (n:Nat) (w p:Int):Prop where
 odd:w%2=1\/(w=0/\p=0)
 sz:w.natAbs<2^n
structure Bare (w p w' p':Int):Prop where
 nought:w=0->w'=0/\p'=0
 same:w≠0->∃v:Nat,w=w'*2^v/\p'=p+v/\w'%2=1
theorem Bare.num{w p w' p':Int}{n:Nat}(b:Bare w p w' p')(h:w.natAbs<2^n):Num n w' p':=by
 by_cases hw:w=0
 ·obtain⟨rfl,rfl⟩:=b.nought hw;exact⟨.inr ⟨rfl,rfl⟩,Xj n⟩
 ·obtain⟨v,e,_,ho⟩:=b.same hw;refine⟨.inl ho,?_⟩
  have:w.natAbs=w'.natAbs*2^v:=by rw[e,XF,Yy];rfl
  have:w'.natAbs*1<=w'.natAbs*2^v:=Nat.mul_le_mul_left _ (Xj v);lia
theorem Bare.pow{w p w' p':Int}{n:Nat}(b:Bare w p w' p')(h:w.natAbs<2^n):(w'=0/\p'=0)\/(p<=p'/\p'<p+n):=by
 by_cases hw:w=0
 ·exact .inl (b.nought hw)
 ·obtain⟨v,e,ep,ho⟩:=b.same hw;refine .inr ⟨by lia,?_⟩
  have:w.natAbs=w'.natAbs*2^v:=by rw[e,XF,Yy];rfl
  have:1*2^v<=w'.natAbs*2^v:=YX _ (by lia)
  have:2^v<2^n:=by lia
  have:=(Nat.pow_lt_pow_iff_right (a:=2) (by decide)).mp this;lia
noncomputable def q9:Ctr where
 pre ds:=match ds with|[.int w,.int _]=>bits w<=9000|_=>False
 res ds d:=match ds with|[.int w,.int p]=>∃w' p',d=.tup [.int w',.int p']/\Bare w p w' p'|_=>False
theorem k_bare{C:Cfg}:jS C 3 zh q9:=by
 rintro ds h;simp only[q9]at h;split at h
 case h_2=>exact h.elim
 next w p =>
 simp_all_arith! only[zh,q9]
 by_cases hw:w=0
 ·rw[if_pos hw];exact⟨0,0,rfl,fun _=>⟨rfl,rfl⟩,fun z=>absurd hw z⟩
 ·rw[if_neg hw];obtain⟨v,m,e,ho,el⟩:=JY hw;rw[el,ky]
  have hv:v+1<=bits w:=by
   have:v<bits w:=by
    rw[x6,e,XF,Yy];exact Nat.le_mul_of_pos_left _ (by lia)
   lia
  have hp:=two_pow_pos v;refine⟨⟨by lia,by lia⟩,m,p+v,?_,fun z=>absurd z hw,fun _=>⟨v,e,rfl,ho⟩⟩
  have:w.fdiv (2^v)=m:=by rw[kg (by lia),e,Int.mul_ediv_cancel _ (by lia)]
  rw[this,show p+((v+1:Nat):Int)-1=p+v by lia]
theorem uM{n:Nat}:(1:Int)*2^n=2^n:=Z0 _
theorem num_le{n:Nat}{x:Int}(h0:0<=x)(h:x<2^n):x.natAbs<2^n:=by
 have:(x.natAbs:Int)<2^n:=by lia
 exact_mod_cast this
noncomputable def qV:Ctr where
 pre ds:=match ds with|[.int _,.int _,.int w,.int far]=>(8<=w/\w<=64)/\1<=far/\far<=5000|_=>False
 res ds d:=match ds with|[.int _,.int _,.int w,.int far]=>∃x p,d=.tup [.int x,.int p]/\Num w.toNat x p /\ -far<=p/\p<far+64|_=>False
theorem k_number{C:Cfg}{i j:Nat}(h2:C.ct j=kE)(h1:C.ct i=q9):jS C 8 (xQ j i) qV:=by
 rintro ds h;simp only[qV]at h;split at h
 case h_2=>exact h.elim
 next c k w far =>
 obtain⟨⟨w1,w2⟩,f1,f2⟩:=h
 obtain⟨n,rfl⟩:∃m:Nat,w=m:=⟨w.toNat,by lia⟩
 have hn:n<=64:=by lia
 have hn8:8<=n:=by lia
 have two:(2:Int)^n<=2^64:=by exact_mod_cast XA (by decide:0<2) hn
 have two8:(2:Int)^8<=2^n:=by exact_mod_cast XA (by decide:0<2) hn8
 have sh:ShlOk 1 n:=⟨by lia,by have:bits 1=1:=by decide
                               lia⟩
 have sh':ShlOk 1 ((n:Int)-1):=⟨by lia,by have:bits 1=1:=by decide
                                          lia⟩
 have pp:=two_pow_pos n
 simp_arith! only[xQ,qV,h2,kE]
 rintro d ⟨more,rfl,m0,m1⟩
 simp_arith! only[Qm,uM]
 have b1:bits (2*far+1)<=9000:=Qx (xj (n:=64) (by lia) (by lia)) (by decide);have b2:bits (16*far+8)<=9000:=Qx (xj (n:=64) (by lia) (by lia)) (by decide);refine⟨by decide,.inl (by decide),by lia,.inl (by decide),⟨by lia,b2⟩,sh,by lia,?_⟩;rw[jA (by decide),kg (by decide),jA (by lia),kg (by lia),jA (by lia)];generalize hp:more / 8%(2*far+1)-far=pw
 have hpw:-far<=pw/\pw<=far:=by
  have:=Xy (more / 8) (show 2*far+1≠0 by lia);have:=Xg (more / 8) (show 0<2*far+1 by lia);lia
 generalize hx:more / (16*far+8)%2^n=x
 have hx0:0<=x/\x<2^n:=by
  rw[<- hx];exact⟨Xy _ (by lia),Xg _ pp⟩
 generalize more%8=kind;clear hp hx
 let P:Sto->Prop:=fun σ=>∃x:Int,(0<=x/\x<2^n)/\σ=[some (.sh (.int c)),some (.sh (.int k)),some (.sh (.int n)),some (.sh (.int far)),some (.sh (.int more)),some (.sh (.int kind)),some (.sh (.int pw)),some (.sh (.int x))]
 have step:∀ {e:Ex} {q:Int} {K:DE} {σ:Sto},P σ->(∀σ,P σ->wpE C e σ fun d=>∃x:Int,d=.int x/\0<=x/\x<2^n) ->
  wpS C (.ite (.cmp .eq (.var 5) (.cst (.int q))) (.seq (.set 7 e) .nop) .nop) { K with nx:=P } σ:=by
  rintro e q K σ hσ he;have he':=he σ hσ;obtain⟨x,hx,rfl⟩:=hσ
  simp_all_arith! only[]
  by_cases hq:kind=q
  ·rw[if_pos hq];refine ja e ?_ he';rintro d ⟨y,rfl,hy⟩;exact⟨y,hy,rfl⟩
  ·rw[if_neg hq];exact⟨x,hx,rfl⟩
 refine jW P (step ⟨x,hx0,rfl⟩ ?_) ?_
 ·rintro σ ⟨x,hx,rfl⟩
  simp_all_arith! only[]
  rw[kg (by decide),jA (by decide)];obtain⟨d,e,hd⟩:=zq (xs:=[.int 0,.int 1,.int 3]) (i:=more / 64%3) (by lia) (by simp;lia);refine⟨by decide,d,e,?_⟩;simp only[KS,K4,or_false]at hd
  rcases hd with rfl|rfl|rfl<;>exact⟨_,rfl,by lia,by lia⟩
 intro σ hσ;refine jW P (step hσ ?_) ?_
 ·rintro σ ⟨x,hx,rfl⟩
  simp_all_arith! only[Qm,uM]
  exact⟨sh,_,rfl,by lia,by lia⟩
 intro σ hσ;refine jW P (step hσ ?_) ?_
 ·rintro σ ⟨x,hx,rfl⟩
  simp_all_arith! only[uM]
  have e:((n:Int)-1).toNat=n-1:=by lia
  have e2:(2:Int)^n=2*2^(n-1):=by
   conv=>lhs;rw[show n=(n-1)+1 by lia,XR]
   lia
  have:=two_pow_pos (n-1);rw[e];exact⟨sh',_,rfl,by lia,by lia⟩
 intro σ hσ;refine jW P (step hσ ?_) ?_
 ·rintro σ ⟨x,hx,rfl⟩
  simp_all_arith! only[Qm,uM]
  rw[jA (by lia)];exact⟨sh,by lia,_,rfl,Xy _ (by lia),Xg _ pp⟩
 intro σ hσ;refine jW P (step hσ ?_) ?_
 ·rintro σ ⟨x,hx,rfl⟩
  simp_all_arith! only[]
  rw[jA (by lia)];exact⟨_,rfl,by lia,by lia⟩
 rintro σ ⟨x,hx,rfl⟩
 simp_all_arith! only[h1,q9,Qm]
 rw[kg (by decide),jA (by decide)]
 have fin:∀y:Int,y.natAbs<2^n->bits y<=9000/\∀d,(∃w' p',d=D.tup [.int w',.int p']/\Bare y pw w' p')->∃x p,d=.tup [.int x,.int p]/\Num n x p /\ -far<=p/\p<far+64:=by
  intro y hy;refine⟨Qx (jk.mpr hy) (by lia),?_⟩;rintro d ⟨w',p',rfl,hb⟩;refine⟨w',p',rfl,hb.num hy,?_⟩
  rcases hb.pow hy with⟨_,rfl⟩|⟨_,_⟩<;>lia
 refine⟨by decide,?_⟩;have hx2:=num_le hx.1 hx.2;by_cases hs:more / 16%2=1
 ·rw[if_pos hs];exact fin (0-x) (by lia)
 ·rw[if_neg hs];exact fin x hx2
noncomputable def isInt:D->Bool
 |.int _=>true
 |_=>false
noncomputable def xk:Ctr where
 pre ds:=match ds with|[_]=>True|_=>False
 res ds d:=match ds with|[x]=>d=.bl (isInt x)|_=>False
theorem k_whole{C:Cfg}:jS C 1 yp xk:=by
 rintro ds h;simp only[xk]at h;split at h
 case h_2=>exact h.elim
 next x =>
 cases x<;>simp_all_arith! only[yp,xk,isInt]
noncomputable def kG:Ctr where
 pre ds:=match ds with|[.int a,.int b]=>bits a<=9000/\bits b<=9000|_=>False
 res ds d:=match ds with|[.int a,.int b]=>d=.int (Xb a b)|_=>False
theorem abs_eq(i:Int):(if i<0 then -i else i)=i.natAbs:=by split<;>lia
theorem k_common{C:Cfg}:jS C 3 xZ kG:=by
 rintro ds h;simp only[kG]at h;split at h
 case h_2=>exact h.elim
 next a b =>
 simp_all_arith! only[xZ,kG,abs_eq]
 refine vB (fun σ=>∃(x y:Nat) (o:Option Sl),(Nat.gcd x y=Xb a b/\bits (x:Int)<=9000/\bits (y:Int)<=9000)/\σ=[some (.sh (.int x)),some (.sh (.int y)),o]) (fun σ=>(Jc σ 1).toNat) ?_ ?_
 ·exact⟨_,_,_,⟨rfl,by rw[bits_abs];exact h.1,by rw[bits_abs];exact h.2⟩,rfl⟩
 ·rintro σ ⟨x,y,o,⟨hg,hx,hy⟩,rfl⟩
  simp_all_arith! only[Jc]
  by_cases h0:y=0
  ·subst h0;simp only[Nat.gcd_zero_right]at hg;simp[hg]
  ·rw[if_pos (by lia)];rw[kg (by lia)]
   have e:(x:Int)-x / y*y=((x%y:Nat):Int):=by
    have:=Int.emod_def (x:Int) y;rw[X5]at this;rw[<- this];simp
   have hb:bits ((x:Int) / y)<=9000:=Qx (yI (by lia)) hx;have hm:x%y<y:=Nat.mod_lt _ (by lia);refine⟨⟨by lia,hy⟩,jE (by lia),?_⟩;rw[e];refine⟨by lia,y,x%y,_,⟨?_,hy,?_⟩,rfl⟩
   ·rw[Uh,<- Nat.gcd_rec,Uh];exact hg
   ·refine Qx (kl ?_) hy;lia
noncomputable def zn:Ctr where
 pre ds:=∃(ns:List Int) (k:Int),ds=[.lst (ns.map .int),.int k]/\ns.length<=63/\0<=k
 res ds d:=∃i,d=.int i/\8<=i/\i<=64
theorem k_width{C:Cfg}{i j:Nat}(h1:C.ct i=kE)(h2:C.ct j=xV):jS C 2 (yy i j) zn:=by
 rintro ds ⟨ns,k,rfl,hl,hk⟩
 simp_all_arith! only[yy,zn,h1,h2,xV,kE]
 have pc:∃(ns':List Int) (k':Int),[.lst (ns.map .int),.int k]=[D.lst (ns'.map .int),.int k']/\ns'.length<=63/\0<=k':=⟨ns,k,rfl,hl,hk⟩
 refine⟨pc,?_⟩;rintro d ⟨c,rfl⟩
 simp_all_arith! only[]
 rintro d ⟨m,rfl,m0,m1⟩
 simp_all_arith! only[]
 refine⟨pc,?_⟩;rintro d ⟨c,rfl⟩
 simp_all_arith! only[]
 rintro d ⟨m',rfl,m0',m1'⟩
 simp_all_arith! only[]
 rw[jA (by decide),jA (by decide)];obtain⟨d,e,hd⟩:=zq (xs:=[.int (8+m%57),.int 8,.int 53,.int 64]) (i:=m'%4) (by lia) (by simp;lia);refine⟨d,e,?_⟩;simp only[KS,K4,or_false]at hd
 rcases hd with rfl|rfl|rfl|rfl<;>exact⟨_,rfl,by lia,by lia⟩
theorem zd{P:Int->Prop}:∀(n:Nat) (lo st:Int),(∀i:Nat,i<n->P (lo+i*st))->∀d∈jP lo st n,∃i,d=.int i/\P i
 |0,lo,st,h,d,hd=>by simp[jP]at hd
 |n+1,lo,st,h,d,hd=>by
  simp only[jP,KS]at hd;rcases hd with rfl|hd
  ·exact⟨lo,rfl,by simpa using h 0 (by lia)⟩
  ·refine zd n (lo+st) st (fun i hi=>?_) d hd;have:=h (i+1) (by lia)
   have e:lo+st+i*st=lo+((i+1:Nat):Int)*st:=by grind
   rw[e];exact this
noncomputable def zB:Ctr where
 pre ds:=∃ns:List Int,ds=[.lst (ns.map .int)]/\ns.length<=63
 res ds d:=d=.bl true
end Z
namespace Z
open PySem PySem.Spec PyProof.Rows L2
noncomputable def dum(N:List Str):Str:=⟨Array.replicate N.length 32⟩
noncomputable def kZ(N:List Str)(x:Str):List Str:=N.map (fun y=>if y=x then dum N else y) ++ [x]
noncomputable def qw(scope:Scope)(x:Str)(cl:List (Str×Addr))(C:Addr):List (Str×Addr):=if scope.names.lookup x=some .cell then (x,C+1)::cl else cl
theorem vz{scope:Scope}{x y:Str}{cl:List (Str×Addr)}{C:Addr}(h:y≠x):(qw scope x cl C).lookup y=cl.lookup y:=by
 unfold qw;split
 ·rw[QW,show (y == x)=false from beq_eq_false_iff_ne.mpr h]
 ·rfl
theorem kT{scope:Scope}{x y:Str}{cl:List (Str×Addr)}{C c:Addr}(h:(qw scope x cl C).lookup y=some c):(y=x/\c=C+1/\scope.names.lookup x=some .cell)\/cl.lookup y=some c:=by
 unfold qw at h;split at h
 ·next hc =>
  by_cases e:y=x
  ·subst e;rw[QW,show (y == y)=true from beq_self_eq_true y]at h;cases h;exact .inl ⟨rfl,rfl,hc⟩
  ·rw[QW,show (y == x)=false from beq_eq_false_iff_ne.mpr e]at h;exact .inr h
 ·exact .inr h
theorem v9{scope:Scope}{x:Str}{cl:List (Str×Addr)}{C:Addr}(h:scope.names.lookup x=some .cell):(qw scope x cl C).lookup x=some (C+1):=by
 unfold qw;rw[if_pos h,QW,show (x == x)=true from beq_self_eq_true x]
theorem KG:∀ {names:List (Str×Yb)} {n:Nat} {acc:List (Str×Addr)} {h:QG},(names.filter fun y=>y.2 == .cell)=[]->ZN n names acc=acc/\pushCells h names=h
 |[],n,acc,h,_=>⟨rfl,rfl⟩
 |(m,k)::r,n,acc,h,e=>by
  cases hk:k == Zi with
  |true=>simp[ZQ,hk]at e
  |false =>
   have e':(r.filter fun y=>y.2 == .cell)=[]:=by simpa[ZQ,hk]using e
   unfold ZN pushCells;simp only[hk,Qk,if_false];exact KG e'
theorem cf_one{x:Str}:∀ {names:List (Str×Yb)} {n:Nat} {acc:List (Str×Addr)} {h:QG},(names.filter fun y=>y.2 == .cell)=[(x,.cell)]->ZN n names acc=(x,n)::acc/\pushCells h names=h.push { cls:=.type "cell",data:=.cell none }
 |[],n,acc,h,e=>by simp at e
 |(m,k)::r,n,acc,h,e=>by
  cases hk:k == Zi with
  |true =>
   have e':m=x/\(r.filter fun y=>y.2 == .cell)=[]:=by
    have:((m,k)::(r.filter fun y=>y.2 == .cell))=[(x,.cell)]:=by rw[<- e];simp[ZQ,hk]
    simp only[Qj,ZU]at this;exact⟨this.1.1,this.2⟩
   unfold ZN pushCells;simp only[hk,if_true];obtain⟨z1,z2⟩:=KG (n:=n+1) (acc:=(m,n)::acc) (h:=h.push { cls:=.type "cell",data:=.cell none }) e'.2;rw[z1,z2,e'.1]
   exact⟨rfl,rfl⟩
  |false =>
   have e':(r.filter fun y=>y.2 == .cell)=[(x,.cell)]:=by simpa[ZQ,hk]using e
   unfold ZN pushCells;simp only[hk,Qk,if_false];exact cf_one e'
theorem qM{env:Env}:∀ {names:List (Str×Yb)} {x:Str},names.lookup x=some .cell ->
 (names.map fun(n,k)=>if (k == ZV&&env.scope.kind == .function&&env.kindOf n == some .cell) then (n,Zi) else (n,k)).lookup x=some .cell
 |[],_,h=>by simp at h
 |(n,k)::r,x,h=>by
  have ih:=@qM env r x;show List.lookup x ((if (k == ZV&&env.scope.kind == .function&&env.kindOf n == some .cell)=true then (n,Zi) else (n,k))::_)=_
  cases hx:x == n with
  |true =>
   simp only[QW,hx]at h;cases h
   simp[QW,hx]
  |false =>
   simp only[QW,hx]at h;by_cases hc:(k == ZV&&env.scope.kind == .function&&env.kindOf n == some .cell)=true
   ·rw[if_pos hc];simp only[QW,hx];exact ih h
   ·rw[if_neg hc];simp only[QW,hx];exact ih h
theorem newEnv_comp{M:Model}{A:QH}{E:KO->Shared->Prop}{s:Shared}{scope:Scope}{globals:Addr}{cl:List (Str×Addr)}{x qual:Str}{env:Env}{bi:Addr}{Q:Env->Shared->Prop}
 (hc:(scope.names.filter fun y=>y.2 == .cell)=if scope.names.lookup x=some .cell then [(x,.cell)] else [])
 (hQ:∀h',h'.Ns s.heap.objs.size (fun _=>none)->(∀b o,s.heap.get? b=some o->h'.get? b=some o)->(scope.names.lookup x=some .cell->h'.IsCell (s.heap.objs.size+1) none) ->
  Q (newEnv scope s.heap.objs.size globals (qw scope x cl s.heap.objs.size) qual none .none (some env) bi) { s with heap:=h' }) :
 wpAny M A (newFunctionEnv scope globals cl [] qual none .none (some env) bi) Q E s:=by
 simp only[newFunctionEnv,Yc,if_true];refine KL (wpAny_alloc ?_);refine KL (wpAny_layCells _ (fun name kind cells=>by cases hkc:kind == Zi<;>simp[hkc]) _ _ _ _ ?_);rw[show ({ s with heap:=s.heap.push { cls:=.type "dict",data:=.dict #[] } }:Shared).heap.objs.size=s.heap.objs.size+1 from ZD ..];refine KL ?_;rw[YY];refine KW (KW ?_)
 have old:∀b o,s.heap.get? b=some o->(s.heap.push { cls:=.type "dict",data:=.dict #[] }).get? b=some o:=fun b o e=>KQ _ e
 by_cases h:scope.names.lookup x=some .cell
 ·rw[if_pos h]at hc;obtain⟨e1,e2⟩:=cf_one (n:=s.heap.objs.size+1) (acc:=cl) (h:=s.heap.push { cls:=.type "dict",data:=.dict #[] }) hc;rw[e1,e2]
  have q:=hQ ((s.heap.push { cls:=.type "dict",data:=.dict #[] }).push { cls:=.type "cell",data:=.cell none }) ((QG.Ns.new s.heap (.type "dict")).keeps fun b o e=>KQ _ e) (fun b o e=>KQ _ (old b o e)) fun _=>by
   have:=Qh (s.heap.push { cls:=.type "dict",data:=.dict #[] }) (o:={ cls:=.type "cell",data:=.cell none }) rfl;rw[ZD]at this;exact⟨_,this,rfl⟩
  unfold qw at q;rw[if_pos h]at q;exact q
 ·rw[if_neg h]at hc;obtain⟨e1,e2⟩:=KG (n:=s.heap.objs.size+1) (acc:=cl) (h:=s.heap.push { cls:=.type "dict",data:=.dict #[] }) hc;rw[e1,e2]
  have q:=hQ (s.heap.push { cls:=.type "dict",data:=.dict #[] }) (QG.Ns.new s.heap (.type "dict")) old fun z=>absurd z h
  unfold qw at q;rw[if_neg h]at q;exact q
noncomputable def qa(X:Cx)(s:Shared)(H:Hp)(fp:List Addr)(x:Str)(scope:Scope)(cl:List (Str×Addr))(C:Addr):Cx :=
 { X with N:=kZ X.N x,s₀:=s,H₀:=H,env:=compEnvC scope (qw scope x cl C) C X.env,outer:=X.stack,stack:=X.stack,ex:=fp,fn:=fun y=>decide (scope.names.lookup x=some .cell)&&decide (y=x),pn:=[],xe:=fun _ _=>False }
structure CompOk (X:Cx) (x:Str) (scope:Scope) (cl:List (Str×Addr)):Prop where
 clos:closureFor scope X.env=pure cl
 kind:scope.kind=.function
 cell:(scope.names.filter fun y=>y.2 == .cell)=if scope.names.lookup x=some .cell then [(x,.cell)] else []
 names:∀y∈scope.names,y.2=.local->scope.names.lookup y.1=some .local
 loc:scope.names.lookup x=some .local\/scope.names.lookup x=some .cell
 only:∀y,(Ui scope X.env).names.lookup y=some .local->y=x\/(y ∉ X.N/\y≠(dum X.N))
 vis:∀y,y≠x->((Ui scope X.env).names.lookup y=some .cell\/(Ui scope X.env).names.lookup y=some .free)->Vis X.env.scope y/\X.env.scope.names.lookup y≠some .local/\∃c,cl.lookup y=some c
 sub:∀y c,cl.lookup y=some c->X.env.cells.lookup y=some c
 ne:x≠(dum X.N)
 noE:X.env.scope.names.lookup (dum X.N)=none
section
variable {X:Cx} {x:Str} {scope:Scope} {cl:List (Str×Addr)}
theorem blockN_last:(kZ X.N x)[X.N.length]?=some x:=by
 unfold kZ;rw[Qs (by simp)];simp
theorem JH{i:Nat}{y:Str}(h:(kZ X.N x)[i]?=some y)(hy:y≠x):i<X.N.length/\(X.N[i]?=some y\/y=(dum X.N)):=by
 unfold kZ at h;by_cases hi:i<X.N.length
 ·refine⟨hi,?_⟩;rw[Qt (by simpa using hi),Qg,KU hi]at h;simp only[Z7,Q8]at h;split at h
  ·exact .inr h.symm
  ·rw[KU hi,h];exact .inl rfl
 ·exfalso;rw[Qs (by simpa using hi)]at h;simp only[KP]at h;rcases Nat.eq_or_lt_of_le (Ur.mp hi) with z|z
  ·rw[<- z]at h;simp at h;exact hy h.symm
  ·rw[KT (by simp;lia)]at h;cases h
theorem Jd(nd:X.N.Nodup)(he:(dum X.N) ∉ X.N)(hx:x≠(dum X.N)):(kZ X.N x).Nodup:=by
 unfold kZ;generalize dum X.N=dm at he hx ⊢;rw[List.nodup_append];refine⟨?_,by simp,?_⟩
 ·generalize X.N=N at nd he
  induction N with
  |nil=>simp
  |cons a r ih =>
   simp only[KS,not_or]at he;have nd':=Yj.mp nd;rw[K1,Yj];refine⟨?_,ih nd'.2 he.2⟩;intro hm;obtain⟨b,hb,e⟩:=K7.mp hm;by_cases h1:a=x
   ·rw[if_pos h1]at e;by_cases h2:b=x
    ·exact nd'.1 (by rw[h1,<- h2];exact hb)
    ·rw[if_neg h2]at e;exact he.2 (e ▸ hb)
   ·rw[if_neg h1]at e;by_cases h2:b=x
    ·rw[if_pos h2]at e;exact he.1 e
    ·rw[if_neg h2]at e;exact nd'.1 (e ▸ hb)
 ·intro a ha b hb;simp only[KS,K4,or_false]at hb;subst hb;obtain⟨c,hc,e⟩:=K7.mp ha;by_cases h:c=b
  ·rw[if_pos h]at e;rw[<- e];exact Xm hx
  ·rw[if_neg h]at e;rw[<- e];exact h
end
section
variable {X:Cx} {x:Str} {scope:Scope} {cl:List (Str×Addr)} {pins:List (Addr×Obj)} {σ:L2.St} {H:Hp} {s:Shared} {fp:List Addr}
theorem comp_ok(I:Inv X pins σ H s)(co:CompOk X x scope cl)(hf:∀b∈fp,ur X pins H b){C:Addr}(hC:s.heap.objs.size<=C)(hfp:∀b∈fp,b<s.heap.objs.size):(qa X s H fp x scope cl C).Ok where
 mod:=I.ok.mod
 kind:=co.kind
 glob:=I.ok.glob
 blt:=I.ok.blt
 above:=hC
 inj:=fun y z c h1 h2=>by
  have no:∀w,cl.lookup w≠some (C+1):=fun w e=>by
   obtain⟨v,q⟩:=I.cell w _ (co.sub w _ e);have:=q.lt;exact absurd (Qn this hC) (by lia)
  rcases kT h1 with⟨rfl,rfl,_⟩|k1
  ·rcases kT h2 with⟨rfl,_,_⟩|k2
   ·rfl
   ·exact absurd k2 (no z)
  ·rcases kT h2 with⟨rfl,rfl,_⟩|k2
   ·exact absurd k1 (no y)
   ·exact I.ok.inj y z c (co.sub y c k1) (co.sub z c k2)
 has:=fun y hy=>by
  by_cases e:y=x
  ·subst e;rcases co.loc with z|z
   ·have q:(Ui scope X.env).names.lookup y=some .local:=Z1 z;have hy':(Ui scope X.env).names.lookup y=some .cell\/(Ui scope X.env).names.lookup y=some .free:=hy;rw[q]at hy'
    rcases hy' with r|r<;>cases r
   ·exact⟨C+1,v9 z⟩
  ·obtain⟨c,hc⟩:=(co.vis y e hy).2.2;exact⟨c,(vz e).trans hc⟩
 cab:=fun y c h e=>by
  have h:(decide (scope.names.lookup x=some .cell)&&decide (y=x))=true:=h;simp only[KM,decide_eq_true_eq]at h;obtain⟨h1,rfl⟩:=h;have e:(qw scope y cl C).lookup y=some c:=e;rw[v9 h1]at e;cases e;show s.heap.objs.size<=C+1;lia
 hd:=I.ok.hd
 frames:=I.ok.frames
 stk:=.inl rfl
 exf:=fun b hb=>⟨fun e=>by have:=hfp b hb;rw[e]at this;exact absurd (Qn this hC) (Q9 _),fun y c h=>by
  rcases kT h with⟨_,rfl,_⟩|h
  ·have:=hfp b hb;intro z;rw[<- z]at this;exact absurd (Qn this hC) (by lia)
  ·exact(hf b hb).2.2.2.2.1 y c (co.sub y c h)⟩
 bs:=I.bs
 bsz:=Qx I.ok.bsz I.sz
 noex:=fun b o e hb=>by
  rcases(hf b hb).2.2.2.1 with z|z
  ·exact I.ok.noex b o e z
  ·exact absurd (Qn (K2 e) (Qx I.ok.bsz z)) (Q9 _)
 exfs:=fun b hb hb'=>by
  rcases KS.mp (I.stkSub b hb') with z|z
  ·exact(hf b hb).2.1 z
  ·exact(hf b hb).2.2.1 z
 funs:=I.stack
 frf:=I.stkFree
theorem comp_inv(I:Inv X pins σ H s)(co:CompOk X x scope cl)(hf:∀b∈fp,ur X pins H b){C:Addr}{h':QG}{tk:Nat}{m:Str->Option KO}(hC:s.heap.objs.size<=C)(hfp:∀b∈fp,b<s.heap.objs.size)
 (hk:∀b o,s.heap.get? b=some o->h'.get? b=some o) (hn:h'.Ns C m) (hce:scope.names.lookup x=some .cell->∃v,h'.IsCell (C+1) v):Inv (qa X s H fp x scope cl C) [] (σ ++ [none]) H { s with heap:=h',toks:=tk } where
 ok:=comp_ok I co hf hC hfp
 os:=rfl
 bare:=I.bare
 base:=Un.kept hk
 loc:=by
  refine⟨m,hn,fun i y v h1 h2 h3=>?_⟩
  have hi:i<σ.length:=by
   rcases Qd i σ.length with z|z
   ·exact z
   ·rw[Qs z]at h2;rcases Nat.eq_or_lt_of_le z with y|y
    ·rw[<- y]at h2;simp at h2
    ·rw[KT (by simp;lia)]at h2;cases h2
  rw[Qt hi]at h2;by_cases hyx:y=x
  ·exfalso;subst hyx;have h1':(kZ X.N y)[i]?=some y:=h1;unfold kZ at h1'
   have hi':i<X.N.length:=by rw[<- I.len];exact hi
   rw[Qt (by simpa using hi'),Qg,KU hi']at h1';simp only[Z7,Q8]at h1';split at h1'
   ·exact co.ne h1'.symm
   ·next hne=>exact hne h1'
  ·have hvis:(Ui scope X.env).names.lookup y=some .cell\/(Ui scope X.env).names.lookup y=some .free:=by
    rcases h3 with z|z|z
    ·rcases co.only y z with q|⟨q1,q2⟩
     ·exact absurd q hyx
     ·exfalso;rcases(JH h1 hyx).2 with r|r
      ·exact q1 (QD r)
      ·exact q2 r
    ·exact .inl z
    ·exact .inr z
   obtain⟨v1,v2,c,hc⟩:=co.vis y hyx hvis;obtain⟨_,hN|hN⟩:=JH h1 hyx
   ·obtain⟨m0,hn0,hl⟩:=I.loc;obtain⟨u,r,l⟩:=hl i y v hN h2 v1;refine⟨u,r,.inr ⟨hvis,c,(vz hyx).trans hc,?_⟩⟩;rcases l with⟨k,_⟩|⟨_,c',hc',z⟩
    ·exact absurd k v2
    ·rw[co.sub y c hc]at hc';cases hc';obtain⟨o,ho,hd⟩:=z;exact⟨o,hk c o ho,hd⟩
   ·exfalso;subst hN
    rcases v1 with z|z|z<;>(rw[co.noE]at z;cases z)
 cell:=fun y c h=>by
  rcases kT h with⟨_,rfl,z⟩|h
  ·exact hce z
  ·obtain⟨v,o,ho,hd⟩:=I.cell y c (co.sub y c h);exact⟨v,o,hk c o ho,hd⟩
 free:=I.hok.fresh hC
 freeC:=fun y c h=>by
  rcases kT h with⟨_,rfl,_⟩|h
  ·exact I.hok.fresh (Qx hC (Nat.le_succ _))
  ·exact I.freeC y c (co.sub y c h)
 pin:=fun p hp=>nomatch hp
 hok:=I.hok.kept hk
 len:=by
  show (σ ++ [none]).length=(kZ X.N x).length;unfold kZ;simp[I.len]
end
noncomputable def tests(ifs:List Expr)(env:Env):Sem Bool:=forIn ifs true fun c r=>if r=true then do let ok <- isTrue c env (eval c env);pure (ForInStep.yield ok) else pure (ForInStep.yield r)
noncomputable def PTs(X:Cx)(ifs:List Expr)(t:TT):Prop:=∀(pins:List (Addr×Obj)) (s:Shared) (σ:L2.St) (H:Hp) (Q:Bool->Hp->Prop),Inv X pins σ H s->t σ H Q->wpAny (model X.prog X.w) X.A (tests ifs X.env) (TP X pins σ Q) X.xe s
theorem qz{X:Cx}:PTs X [] fun _ H Q=>Q true H:=fun _ _ _ H _ I h=>KW ⟨H,I,h⟩
theorem pts_one{X:Cx}{c:Expr}{t:TT}(h:PT X c t):PTs X [c] t:=fun pins s σ H Q I w=>wpAny_tests_one (h pins s σ H Q I w)
section
variable {prog:Qp} {w:World} {A:QH} {R:Result->Shared->Prop} {s:Shared}
theorem comp_loop{elt target iter:Expr}{ifs:List Expr}{scope:Scope}{pos:Pos}{it acc:KO}{env:Env}(I:Nat->Shared->Prop)
 (turn:∀n s,I n s->wpAny (model prog w) A (pyNext it) (fun r s₁=>match r with
  |none=>R (.ok .next) s₁
  |some v=>wpAny (model prog w) A (YJ target it v) (fun _ s₁=>wpAny (model prog w) A (assign target env v) (fun _ s₂=>wpAny (model prog w) A (tests ifs env) (fun ok s₃ =>
   if ok=true then wpAny (model prog w) A (eval elt env) (fun x s₃ =>
    wpAny (model prog w) A (call (.builtin "list.append") [acc,x]) (fun _ s₄=>∃m,m<n/\I m s₄) (fun _ _=>False) s₃) (fun _ _=>False) s₃
   else ∃m,m<n/\I m s₃) (fun _ _=>False) s₂) (fun _ _=>False) s₁) (fun _ _=>False) s₁) (fun _ _=>False) s)
 (n:Nat) (h:I n s):ZT (model prog w) A (.compLoop (.ListComp elt [⟨target,iter,ifs,0⟩] scope pos) 0 it acc env) R s:=by
 refine codeAny_loop rfl I (fun n s hI=>?_) n h;show wpAny _ _ ((compTurn (.ListComp elt [⟨target,iter,ifs,0⟩] scope pos) 0 it acc env).onRaise (fun x=>do noteFrame x env;theTreesLotGoes x)) _ _ s;refine wpAny_noted ?_;rw[compTurn_list];refine KL (YO (KL (QY (turn n s hI) (fun r s₁ h₁=>?_) fun _ _ z=>z.elim)))
 cases r with
 |none=>exact KW h₁
 |some v =>
  refine KL (QY h₁ (fun _ s₂ h₂=>KL (QY h₂ (fun _ s₃ h₃=>KL (QY h₃ (fun ok s₄ h₄=>?_) fun _ _ z=>z.elim)) fun _ _ z=>z.elim)) fun _ _ z=>z.elim)
  cases ok with
  |false=>exact KW ⟨rfl,h₄⟩
  |true=>exact KL (KL (QY h₄ (fun x s₄ h₄=>KL (QY h₄ (fun _ s₅ h₅=>KW (KW ⟨rfl,h₅⟩)) fun _ _ z=>z.elim)) fun _ _ z=>z.elim))
end
noncomputable def uf(wi:TI)(tt:TT)(te:TE):TE:=fun σ H Q=>wi σ H fun J H1=>∃W:Nat->Nat->List V->Hp->Prop,(∃m,W 0 m [] H1)/\∀i m ys H,W i m ys H ->
 (J.stop i H/\ys.length<=sizeLine/\∀p,H p=none->Q (.ref p) (upd H p (.lst ys)))\/(J.go i H/\ys.length<sizeLine/\∀x H',J.yld i H x H'->tt (σ ++ [some x]) H' fun b H1 =>
  if b=true then te (σ ++ [some x]) H1 fun y H2=>∃m',m'<m/\W (i+1) m' (ys ++ [y]) H2 else ∃m',m'<m/\W (i+1) m' ys H1)
noncomputable def tYes:TT:=fun _ H Q=>Q true H
abbrev tComp(wi:TI)(te:TE):TE:=uf wi tYes te
section
variable {X:Cx} {x:Str} {scope:Scope} {cl:List (Str×Addr)}
theorem JG{px pos:Pos}{iter elt:Expr}{ifs:List Expr}{wi:TI}{tt:TT}{te:TE}{use:Option (KO->Sem Unit)}{Qf:VK}{Qv:KO->Shared->Prop}{pins:List (Addr×Obj)}{s:Shared}{σ:L2.St}{H:Hp}(hc:X.calm=true)(nd:X.N.Nodup)(hE:(dum X.N) ∉ X.N)(co:CompOk X x scope cl)(hi:PI X (.Name x px) iter wi)
 (ht:∀s H fp C,PTs (qa X s H fp x scope cl C) ifs tt) (he:∀s H fp C,PE (qa X s H fp x scope cl C) elt te) (hs:∀v,XX iter X.env v=pure v) (I:Inv X pins σ H s) (h:uf wi tt te σ H Qf)
 (fin:∀(D C:Addr) (H':Hp) (s4:Shared) (m:Str->Option KO),Inv X pins σ H' s4->s4.heap.Ns C m->ur X pins H' C->Qf (.ref D) H'->compPost (model X.prog X.w) X.A X.xe use Qv (.ref D) C (.ok .next) s4) :
 wpAny (model X.prog X.w) X.A (comprehension (.ListComp elt [⟨.Name x px,iter,ifs,0⟩] scope pos) scope X.env (firstIterPos [⟨.Name x px,iter,ifs,0⟩] pos) (newList []) (firstAsync [⟨.Name x px,iter,ifs,0⟩]) (firstIter [⟨.Name x px,iter,ifs,0⟩] X.env) use) Qv X.xe s:=by
 refine wpAny_comprehension_free (g:=⟨.Name x px,iter,ifs,0⟩) (gs:=[]) rfl hs co.clos co.kind co.names ?_
 refine thn (hi pins s σ H _ I h) fun v s1 h1=>thn h1 fun itv s2 h2=>?_
 obtain⟨it,fp,tn,J,H2,e,I2,T,st2,f2,W,⟨m0,w0⟩,turn⟩:=h2;subst e
 have hfp:∀b∈fp,b<s2.heap.objs.size:=fun b hb=>by
  obtain⟨o,e,_⟩:=T.obj _ _ st2 b hb;exact K2 e
 refine wpAny_newObj_type (newEnv_comp (x:=x) co.cell fun h₁ hns₁ hsb₁ hce₁=>?_);dsimp only at hns₁ hsb₁ hce₁ ⊢;generalize hG:s2.heap.push { cls:=.type "list",dict:=none,data:=.seq ([]:List KO).toArray }=G at hns₁ hsb₁ hce₁ ⊢
 have hCs:G.objs.size=s2.heap.objs.size+1:=by rw[<- hG,ZD]
 obtain⟨D,hD⟩:∃D:Addr,s2.heap.objs.size=D:=⟨_,rfl⟩
 obtain⟨C,hC⟩:∃C:Addr,G.objs.size=C:=⟨_,rfl⟩
 rw[hD]at hCs;rw[hD];rw[hC]at hCs hns₁ hce₁ ⊢
 have hDC:D≠C:=by rw[hCs];exact Q0 (Nat.lt_succ_self _)
 have old:∀b o,s2.heap.get? b=some o->h₁.get? b=some o:=fun b o e=>hsb₁ b o (hG ▸ KQ _ e)
 have hacc:h₁.PlainList D #[]:=⟨_,hsb₁ _ _ (hG ▸ (hD ▸ Qh s2.heap rfl))⟩
 let X':=qa X s2 H2 fp x scope cl C
 have hCle:s2.heap.objs.size<=C:=by rw[hD,hCs];exact Nat.le_succ _
 have I3:Inv X' [] (σ ++ [none]) H2 { s2 with heap:=h₁ }:=comp_inv I2 co f2 hCle hfp old hns₁ fun z=>⟨_,hce₁ z⟩
 have ndX:X'.N.Nodup:=Jd nd hE co.ne
 have hDL:D≠X.env.locals:=by rw[<- hD];exact YE I2.lt
 have hDf:D ∉ frs X.stack:=fun hb=>by
  rcases KS.mp (I2.stkSub D hb) with z|z
  ·exact hDL z
  ·exact I2.nofs (Nat.le_of_eq hD) z
 have hDfp:D ∉ fp:=fun hb=>by have:=hfp D hb;rw[hD]at this;exact absurd this (Q9 _)
 have hDc:∀y c,(qw scope x cl C).lookup y=some c->c≠D:=fun y c e z=>by
  rcases kT e with⟨_,e,_⟩|e
  ·rw[e,hCs]at z;have z:(D+1+1:Nat)=D:=z;lia
  obtain⟨v,q⟩:=I2.cell y c (co.sub y c e);have:=q.lt;rw[z,<- hD]at this;exact absurd this (Q9 _)
 have stat:∀ {H':Hp} {ob:Obj},(∀b∈fp,H' b=none)->∀b∈fp,ur X' [(D,ob)] H' b:=fun {H' ob} hn b hb=>by
  obtain⟨g0,g1,g2,g3,g4,g5⟩:=f2 b hb;refine⟨hn b hb,fun z=>?_,fun z=>?_,.inl hb,fun y c e=>?_,fun p hp z=>?_⟩
  rotate_left 2
  ·rcases kT e with⟨_,rfl,_⟩|e
   ·have:=hfp b hb;intro z;rw[<- z]at this;exact absurd (Qn this hCle) (by lia)
   ·exact g4 y c (co.sub y c e)
  rotate_left
  ·have:=hfp b hb;rw[show b=C from z]at this;exact absurd (Qn this hCle) (Q9 _)
  ·rcases KS.mp (I2.stkSub b z) with y|y
   ·exact g1 y
   ·exact g2 y
  ·have hp':p=(D,ob):=by simpa[X',qa]using hp
   subst hp';have z':D=b:=z;exact hDfp (z' ▸ hb)
 have pinD:∀ {τ:L2.St} {H':Hp} {s':Shared} {n:Nat} {us:List KO},Inv X' [] τ H' s'->s'.heap.get? D=some { cls:=.type "list",data:=.seq us.toArray n }->H' D=none->Inv X' [(D,{ cls:=.type "list",data:=.seq us.toArray n })] τ H' s':=fun {τ H' s' n us} J e hn =>
  J.pins_of fun p hp=>by
   have hp':p=(D,{ cls:=.type "list",data:=.seq us.toArray n }):=by simpa using hp
   subst hp';exact⟨e,hn,hDC,hDf,fun v z=>by cases z⟩
 have loop:ZT (model X.prog X.w) X.A (.compLoop (.ListComp elt [⟨.Name x px,iter,ifs,0⟩] scope pos) 0 (.ref it) (.ref D) (compEnvC scope (qw scope x cl C) C X.env))
  (compPost (model X.prog X.w) X.A X.xe use Qv (.ref D) C) { s2 with heap:=h₁ }:=by
  refine comp_loop (fun n s'=>∃(i:Nat) (o:Option V) (ys:List V) (us:List KO) (H':Hp),Inv X' [] (σ ++ [o]) H' s'/\tn i s'.heap/\(∀b∈fp,H' b=none)/\s'.heap.PlainList D us.toArray/\jG ys us/\H' D=none/\W i n ys H') ?_ m0
   ⟨0,none,[],[],H2,I3,T.keep _ _ _ st2 fun b hb o e=>old b o e,fun b hb=>(f2 b hb).1,hacc,.nil,I2.hok.fresh (Nat.le_of_eq hD),w0⟩
  rintro n s3 ⟨i,o3,ys,us,H3,J3,st3,fr3,⟨n3,pl3⟩,vl3,hD3,w3⟩;have J3':=pinD J3 pl3 hD3;rcases turn i n ys H3 w3 with⟨stop,hl,q⟩|⟨go,hl,step⟩
  ·refine QY (T.done X' rfl rfl rfl hc i _ s3 _ H3 (fun _ _=>False) J3' (stat fr3) st3 stop) (fun r s4 ⟨hr,J4⟩=>?_) fun _ _ z=>z
   subst hr;obtain⟨m4,hn4,_⟩:=J4.loc;have eD:s4.heap.get? D=some { cls:=.type "list",data:=.seq us.toArray n3 }:=(J4.pin _ (K8 _ (K0 ..))).1
   have nC:∀b o,s2.heap.get? b=some o->b≠C:=fun b o e z=>by
    have:=K2 e;rw[z]at this;exact absurd (Qn this hCle) (Q9 _)
   have nD:∀b o,s2.heap.get? b=some o->b≠D:=fun b o e z=>by
    have:=K2 e;rw[z,hD]at this;exact absurd this (Q9 _)
   have tD:∀b u,H3 b=some u->b≠D:=fun b u e=>kO e hD3
   have hCn:H3 C=none:=J4.free;have U4:Un (frs X.stack) fp H2 H3 s2.heap s4.heap:=J4.base
   have U:Un (frs X.stack) fp H2 (upd H3 D (.lst ys)) s2.heap s4.heap:={
    keep:=fun b o e hn hb hx=>U4.keep b o e hn hb hx
    slot:=fun b o e hn hb hx=>by
     obtain⟨sl,q⟩:=U4.slot b o e hn hb hx;exact⟨sl,q⟩
    free:=fun b o e hn hx=>by rw[jh (nD b o e)];exact U4.free b o e hn hx
    there:=fun b o e hx=>by
     obtain⟨o',q⟩:=U4.there b o e hx;exact⟨o',q⟩
    tups:=fun b xs e=>by have:=U4.tups b xs e;rw[jh (tD b _ this)];exact this
    frzs:=fun b o u e=>by have:=U4.frzs b o u e;rw[jh (tD b _ this)];exact this
    tbls:=fun b ps e=>by
     obtain⟨more,this⟩:=U4.tbls b ps e
     exact⟨more,by rw[jh (tD b _ this)];exact this⟩ }
   have K:HOk X.prog X.w (upd H3 D (.lst ys)) s4.heap:=fun b u e=>by
    by_cases hb:b=D
    ·subst hb;rw[jm]at e;cases e;exact⟨hl,us,n3,vl3,eD⟩
    ·rw[jh hb]at e
     exact(J4.hok b u e).stay (fun c v hc q=>q) (fun c z=>by rw[jh (tD c _ z)];exact z) fun c xs z=>by rw[jh (tD c _ z)];exact z
   have I4:Inv X pins σ (upd H3 D (.lst ys)) s4:=I2.call' J4.os U K J4.bare fun b hb=>by
    obtain⟨g0,g1,g2,g3,g4,g5⟩:=f2 b hb;exact⟨g3,g1,g4,g5⟩
   exact fin D C _ s4 m4 I4 hn4 (I2.fpOk hCle (by rw[jh (Xm hDC)];exact hCn)) (q D hD3)
  ·refine QY (T.item X' rfl rfl rfl hc i _ s3 _ H3 (fun _ _=>False) J3' (stat fr3) st3 go) (fun r s4 ⟨u,hr,h4⟩=>?_) fun _ _ z=>z
   subst hr
   refine QY h4 (fun _ s5 ⟨xv,H5,J5,r5,y5,st5,fr5⟩=>?_) fun _ _ z=>z
   have J5':=J5.pinned (stat fr5) (T.obj _ _ st5);have hlen:σ.length=X.N.length:=I2.len;refine wpAny_assign_Name (zQ J5' ndX (i:=X.N.length) blockN_last (co.loc.elim (fun z=>.inl (Z1 z)) fun z=>.inr (qM z)) r5 (fun s6 J6=>?_) (co.loc.elim (fun z=>.inr (Z1 z)) fun z=>.inl (by show (decide (scope.names.lookup x=some .cell)&&decide (x=x))=true;simp[z])))
   have eσ:(σ ++ [o3]).set X.N.length (some xv)=σ ++ [some xv]:=by rw[<- hlen];simp
   rw[eσ]at J6
   refine thn (ht s2 H2 fp C _ s6 _ H5 _ J6 (step xv H5 y5)) fun b s6 ⟨H6,J6,w6⟩=>?_
   cases b with
   |false =>
    obtain⟨m',hm,w7⟩:=w6;have pD:=J6.pin (D,_) (K8 _ (Xe _ (K0 ..)));refine⟨m',hm,i+1,some xv,ys,us,H6,J6.pins_of fun p hp=>(nomatch hp),T.keep _ _ _ st5 fun b hb o e=>(J6.pin (b,o) (K8 _ (K8 _ (qo hb e)))).1,fun b hb=>?_,⟨n3,pD.1⟩,vl3,pD.2.1,w7⟩;obtain⟨o,e,_⟩:=T.obj _ _ st5 b hb
    exact(J6.pin (b,o) (K8 _ (K8 _ (qo hb e)))).2.1
   |true =>
   refine thn (he s2 H2 fp C _ s6 _ H6 _ J6 w6) fun y s7 ⟨yv,H7,J7,r7,m',hm,w7⟩=>?_
   have pD:=J7.pin (D,_) (K8 _ (Xe _ (K0 ..)))
   have pl7:s7.heap.PlainList D us.toArray:=⟨n3,pD.1⟩
   have hsz:us.toArray.size<=sizeLine:=by have:=vl3.length;simp;lia
   refine wpAny_list_append_plain (hsz:=hsz) pl7 fun h₈ pl8 sb8=>?_
   refine⟨m',hm,i+1,some xv,ys ++ [yv],us ++ [y],H7,?_,?_,?_,?_,vl3.append (.cons r7 .nil),pD.2.1,w7⟩
   ·have J7':Inv X' [] (σ ++ [some xv]) H7 s7:=J7.pins_of fun p hp=>nomatch hp
    exact J7'.turned (t':=s7.toks) (it:=D) (fun b o hb e=>(sb8.2 b hb).trans e) pD.2.1 hDC (.inr (Nat.le_of_eq hD)) hDc fun p hp=>nomatch hp
   ·refine T.keep _ _ _ st5 fun b hb o e=>?_
    have:=(J7.pin (b,o) (K8 _ (K8 _ (qo hb e)))).1;exact(sb8.2 b fun z=>hDfp (z ▸ hb)).trans this
   ·intro b hb;obtain⟨o,e,_⟩:=T.obj _ _ st5 b hb;exact(J7.pin (b,o) (K8 _ (K8 _ (qo hb e)))).2.1
   ·have e:(us ++ [y]).toArray=us.toArray.push y:=by simp
    rw[e];exact pl8
 exact codeAny_compStart_list loop (T.self _ _ _ _ _ (T.keep _ _ _ st2 fun b hb o e=>old b o e) loop)
theorem xM{px pos:Pos}{iter elt:Expr}{ifs:List Expr}{wi:TI}{tt:TT}{te:TE}(hc:X.calm=true)(nd:X.N.Nodup)(hE:(dum X.N) ∉ X.N)(co:CompOk X x scope cl)(hi:PI X (.Name x px) iter wi)
 (ht:∀s H fp C,PTs (qa X s H fp x scope cl C) ifs tt) (he:∀s H fp C,PE (qa X s H fp x scope cl C) elt te) (hs:∀v,XX iter X.env v=pure v):PE X (.ListComp elt [⟨.Name x px,iter,ifs,0⟩] scope pos) (uf wi tt te):=by
 intro pins s σ H Q I h;rw[eval_ListComp]
 refine JG hc nd hE co hi ht he hs I h fun D C H' s4 m I4 hn hC q=>?_
 obtain⟨g0,g1,g2,g3,g4,g5⟩:=hC;exact⟨m,hn,fun h' sb=>⟨.ref D,H',I4.turned (t':=s4.toks) (fun b o hb e=>(sb.2 b hb).trans e) g0 g1 g3 g4 g5,rfl,q⟩⟩
theorem ps_comp{px py pos spos:Pos}{y:Str}{i:Nat}{iter elt:Expr}{ifs:List Expr}{wi:TI}{tt:TT}{te:TE}(hc:X.calm=true)(nd:X.N.Nodup)(hE:(dum X.N) ∉ X.N)(co:CompOk X x scope cl)(hi:PI X (.Name x px) iter wi)
 (ht:∀s H fp C,PTs (qa X s H fp x scope cl C) ifs tt) (he:∀s H fp C,PE (qa X s H fp x scope cl C) elt te) (hs:∀v,XX iter X.env v=pure v)
 (hsw:Y5 (.ListComp elt [⟨.Name x px,iter,ifs,0⟩] scope pos) (some (.Name y py)) spos.line X.env=pure true) (hy:X.N[i]?=some y) (hl:L2.Loc X.env.scope y) (hf:X.fn y=true\/X.env.scope.names.lookup y=some .local) :
 PS X (.Assign [.Name y py] (.ListComp elt [⟨.Name x px,iter,ifs,0⟩] scope pos) spos) (fun D σ H=>uf wi tt te σ H fun v H'=>D.nx (σ.set i (some v)) H'):=by
 intro pins s σ H D I h;rw[exec_Assign_Name_used _ _ _ _ hsw];refine KL (YO (KL ?_));show wpAny _ X.A (do let _ <- comprehension (.ListComp elt [⟨.Name x px,iter,ifs,0⟩] scope pos) scope X.env (firstIterPos [⟨.Name x px,iter,ifs,0⟩] pos) (newList []) (firstAsync [⟨.Name x px,iter,ifs,0⟩]) (firstIter [⟨.Name x px,iter,ifs,0⟩] X.env) (some (assign (.Name y py) X.env))) _ _ s;refine KL (QY (JG (Qv:=fun _ s'=>SP X pins D .next s') hc nd hE co hi ht he hs I h fun Da C H' s4 m I4 hn hC q=>?_) (fun _ s' hq=>KW (KW hq)) fun _ _ z=>z);refine wpAny_assign_Name (Jp I4 nd hy hl (v:=.ref Da) rfl (fun s5 I5 ⟨a,sb,ha⟩=>?_) hf);obtain⟨g0,g1,g2,g3,g4,g5⟩:=hC
 have haC:a≠C:=by
  rcases ha with z|z
  ·rw[z];exact Xm g1
  ·exact g4 y a z
 refine⟨m,hn.sameBut sb (Xm haC),fun h' sb'=>?_⟩;exact⟨_,H',I5.turned (t':=s5.toks) (fun b o hb e=>(sb'.2 b hb).trans e) g0 g1 g3 g4 g5,q⟩
end
end Z
namespace Z
open PySem PySem.Spec PyProof.Rows L2
noncomputable def je(H:Hp)(O:List Addr):Hp:=fun a=>if a∈O then none else H a
theorem jg(H:Hp)(O:List Addr):jf (je H O) H:=fun b o h=>by
 unfold je at h;split at h
 ·cases h
 ·exact h
theorem jd{H H':Hp}{O:List Addr}(e:jf H H'):jf (je H O) (je H' O):=fun b o h=>by
 unfold je at *;split at h
 ·cases h
 ·next hb=>rw[if_neg hb];exact e b o h
theorem jC{H:Hp}{O O':List Addr}(e:∀a∈O',a∈O):jf (je H O) (je H O'):=fun b o h=>by
 unfold je at *;split at h
 ·cases h
 ·next hb=>rw[if_neg fun z=>hb (e b z)];exact h
theorem j5{H:Hp}{O:List Addr}{a:Addr}(h:a ∉ O):je H O a=H a:=by unfold je;rw[if_neg h]
theorem kK{K:KN}{H H':Hp}{a:Addr}{xs:List V}(e:jf H H')(h:SqT K H a xs):SqT K H' a xs:=by
 rcases h with(h|⟨o,h⟩)|h
 ·exact .inl (.inl (e _ _ h))
 ·exact .inl (.inr ⟨o,e _ _ h⟩)
 ·exact .inr h
mutual
noncomputable def Is(K:KN)(S:Hp):D->V->Prop
 |.non,v=>v=.non
 |.bl b,v=>v=.bl b
 |.int i,v=>v=.int i
 |.str x,v=>v=.str x/\Xo x=true
 |.tup xs,v=>∃a vs,v=.ref a/\SqT K S a vs/\Iss K S xs vs
 |.lst xs,v=>∃a vs,v=.ref a/\SqL K S a vs/\Iss K S xs vs
noncomputable def Iss(K:KN)(S:Hp):List D->List V->Prop
 |[],vs=>vs=[]
 |d::ds,vs=>∃v r,vs=v::r/\Is K S d v/\Iss K S ds r
end
section
variable {K:KN} {S S':Hp}
mutual
theorem Is.mono(e:jf S S'):∀(d:D) {v:V},Is K S d v->Is K S' d v
 |.non,v,h=>by unfold Is at *;exact h
 |.bl b,v,h=>by unfold Is at *;exact h
 |.int i,v,h=>by unfold Is at *;exact h
 |.str x,v,h=>by unfold Is at *;exact h
 |.tup xs,v,h=>by
  unfold Is at *;obtain⟨a,vs,h1,h2,h3⟩:=h
  exact⟨a,vs,h1,kK e h2,Iss.mono e xs h3⟩
 |.lst xs,v,h=>by
  unfold Is at *;obtain⟨a,vs,h1,h2,h3⟩:=h;exact⟨a,vs,h1,e.seq h2,Iss.mono e xs h3⟩
theorem Iss.mono(e:jf S S'):∀(ds:List D) {vs:List V},Iss K S ds vs->Iss K S' ds vs
 |[],vs,h=>by unfold Iss at *;exact h
 |d::ds,vs,h=>by
  unfold Iss at *;obtain⟨v,r,h1,h2,h3⟩:=h;exact⟨v,r,h1,Is.mono e d h2,Iss.mono e ds h3⟩
end
theorem Iss.length:∀ {ds:List D} {vs:List V},Iss K S ds vs->vs.length=ds.length
 |[],vs,h=>by unfold Iss at h;subst h;rfl
 |d::ds,vs,h=>by
  unfold Iss at h;obtain⟨v,r,rfl,_,h3⟩:=h;simp[Iss.length h3]
theorem Iss.get:∀ {ds:List D} {vs:List V} {i:Nat} {d:D},Iss K S ds vs->ds[i]?=some d->∃v,vs[i]?=some v/\Is K S d v
 |[],vs,i,d,h,e=>by simp at e
 |x::ds,vs,i,d,h,e=>by
  unfold Iss at h;obtain⟨v,r,rfl,h2,h3⟩:=h
  cases i with
  |zero=>simp at e;subst e;exact⟨v,rfl,h2⟩
  |succ i =>
   obtain⟨w,e1,e2⟩:=Iss.get (i:=i) (d:=d) h3 (by simpa using e);exact⟨w,by simpa using e1,e2⟩
theorem Iss.append:∀ {ds es:List D} {vs ws:List V},Iss K S ds vs->Iss K S es ws->Iss K S (ds++es) (vs++ws)
 |[],es,vs,ws,h,g=>by unfold Iss at h;subst h;exact g
 |x::ds,es,vs,ws,h,g=>by
  unfold Iss at h;obtain⟨v,r,rfl,h2,h3⟩:=h;show Iss K S (x::(ds++es)) (v::(r++ws));unfold Iss;exact⟨v,_,rfl,h2,h3.append g⟩
theorem jl{i:Int}{v:V}(h:Is K S (.int i) v):v=.int i:=by unfold Is at h;exact h
theorem kq{i:Bool}{v:V}(h:Is K S (.bl i) v):v=.bl i:=by unfold Is at h;exact h
theorem xw{v:V}(h:Is K S .non v):v=.non:=by unfold Is at h;exact h
theorem kt{x:Str}{v:V}(h:Is K S (.str x) v):v=.str x/\Xo x=true:=by unfold Is at h;exact h
theorem kx{xs:List D}{v:V}(h:Is K S (.tup xs) v):∃a vs,v=.ref a/\SqT K S a vs/\Iss K S xs vs:=by unfold Is at h;exact h
theorem jF{xs:List D}{v:V}(h:Is K S (.lst xs) v):∃a vs,v=.ref a/\SqL K S a vs/\Iss K S xs vs:=by unfold Is at h;exact h
theorem jH(i:Int):Is K S (.int i) (.int i):=by unfold Is;rfl
theorem j6(i:Bool):Is K S (.bl i) (.bl i):=by unfold Is;rfl
theorem uY:Is K S .non .non:=by unfold Is;rfl
theorem qt{x:Str}(h:Xo x=true):Is K S (.str x) (.str x):=by unfold Is;exact⟨rfl,h⟩
theorem Km{xs:List D}{a:Addr}{vs:List V}(h:S a=some (.tup vs))(g:Iss K S xs vs):Is K S (.tup xs) (.ref a):=by unfold Is;exact⟨a,vs,rfl,SqT.of h,g⟩
theorem JX{xs:List D}{a:Addr}{vs:List V}(h:SqT K S a vs)(g:Iss K S xs vs):Is K S (.tup xs) (.ref a):=by unfold Is;exact⟨a,vs,rfl,h,g⟩
theorem qg{xs:List D}{a:Addr}{vs:List V}(h:SqL K S a vs)(g:Iss K S xs vs):Is K S (.lst xs) (.ref a):=by unfold Is;exact⟨a,vs,rfl,h,g⟩
end
mutual
noncomputable def zc:D->PyData
 |.non=>.none
 |.bl b=>.bool b
 |.int i=>.int i
 |.str x=>.str x
 |.tup xs=>.tuple (xu xs)
 |.lst xs=>.list (xu xs)
noncomputable def xu:List D->List PyData
 |[]=>[]
 |x::xs=>zc x::xu xs
end
mutual
theorem vf:∀a b:D,PyData.eqv (zc a) (zc b)=eqD a b
 |a,b=>by
  cases a<;>cases b<;>simp only[zc,PyData.eqv,eqD]
  ·exact z8 _ _
  ·exact z8 _ _
theorem z8:∀a b:List D,ZW (xu a) (xu b)=qO a b
 |[],[]=>by simp only[xu,ZW,qO]
 |[],_::_=>by simp only[xu,ZW,qO]
 |_::_,[]=>by simp only[xu,ZW,qO]
 |x::xs,y::ys=>by simp only[xu,ZW,qO];rw[vf x y,z8 xs ys]
end
mutual
theorem vR:∀a:D,(zc a).depth=kD a
 |.non=>rfl
 |.bl _=>rfl
 |.int _=>rfl
 |.str _=>rfl
 |.tup xs=>by simp only[zc,PyData.depth,kD];rw[zT xs]
 |.lst xs=>by simp only[zc,PyData.depth,kD];rw[zT xs]
theorem zT:∀a:List D,PyData.depthAll (xu a)=qB a
 |[]=>rfl
 |x::xs=>by simp only[xu,PyData.depthAll,qB];rw[vR x,zT xs]
end
section
variable {X:Cx} {pins:List (Addr×Obj)} {σ:L2.St} {H:Hp} {s:Shared}
mutual
theorem Is.reads(I:Inv X pins σ H s):∀(d:D) {v:V} {u:KO},Is X.K H d v->jV v u->(∃as,Reads s.heap u (zc d) as)/\(zc d).canLay0=true
 |.non,v,u,h,r=>by cases xw h;cases r;exact⟨⟨_,.none⟩,rfl⟩
 |.bl b,v,u,h,r=>by cases kq h;cases r;exact⟨⟨_,.bool b⟩,rfl⟩
 |.int i,v,u,h,r=>by cases jl h;obtain⟨t,rfl⟩:=r;exact⟨⟨_,.int i t⟩,rfl⟩
 |.str x,v,u,h,r=>by obtain⟨rfl,o⟩:=kt h;obtain⟨t,rfl⟩:=r;exact⟨⟨_,.str x t⟩,o⟩
 |.tup xs,v,u,h,r=>by
  obtain⟨a,vs,rfl,h1,h2⟩:=kx h;cases r;obtain⟨its,rv,⟨o,e1,e2,n,e3⟩,_⟩:=I.tuple h1;obtain⟨⟨as,ra⟩,c⟩:=Iss.reads I xs h2 rv
  exact⟨⟨as,.tuple e1 e2 e3 (by simpa using ra)⟩,c⟩
 |.lst xs,v,u,h,r=>by
  obtain⟨a,vs,rfl,h1,h2⟩:=jF h;cases r;obtain⟨its,rv,pl,_⟩:=I.list h1;obtain⟨o,e1,e2,n,e3⟩:=pl.isList;obtain⟨⟨as,ra⟩,c⟩:=Iss.reads I xs h2 rv;exact⟨⟨_,.list e1 e2 e3 (by simpa using ra)⟩,c⟩
theorem Iss.reads(I:Inv X pins σ H s):∀(ds:List D) {vs:List V} {us:List KO},Iss X.K H ds vs->jG vs us->(∃as,ReadsAll s.heap us (xu ds) as)/\PyData.canLayAll0 (xu ds)=true
 |[],vs,us,h,r=>by
  unfold Iss at h;subst h;cases r
  exact⟨⟨_,.nil⟩,rfl⟩
 |d::ds,vs,us,h,r=>by
  unfold Iss at h;obtain⟨v,q,rfl,h1,h2⟩:=h
  cases r with
  |cons r1 r2 =>
   obtain⟨⟨as,ra⟩,c1⟩:=Is.reads I d h1 r1;obtain⟨⟨bs,rb⟩,c2⟩:=Iss.reads I ds h2 r2;exact⟨⟨_,.cons ra rb⟩,by simp only[xu,PyData.canLayAll0];rw[c1,c2];rfl⟩
end
end
end Z
namespace Z
open PySem PySem.Spec PyProof.Rows L2
section
variable {prog:Qp} {w:World} {A:QH} {E:KO->Shared->Prop}
theorem draw_go{l it:Addr}{vs:Array KO}(hd:l≠it):∀(m i:Nat) {s:Shared} {Q:List KO->Shared->Prop},s.heap.IsListIter it l i->s.heap.IsList l vs->i+m=vs.size ->
 (∀h₂,h₂.IsListIter it l (i+m)->h₂.IsList l vs->Yq it s.heap h₂->Q (vs.toList.drop i) { s with heap:=h₂ })->wpAny (model prog w) A (draw (.ref it) m) Q E s
 |0,i,s,Q,a1,a2,e,q=>by
  have z:=q s.heap a1 a2 (XZ ..);rw[ZE (by simp;lia)]at z
  exact KW z
 |m+1,i,s,Q,a1,a2,e,q=>by
  have lt:i<vs.size:=by lia
  show wpAny _ _ (pyNext (.ref it) >>= _) _ _ _;refine KL (wpAny_pyNext_list_item (x:=vs[i]) a1 a2 (by simp[lt]) ?_);intro h₁ b1 b2;have c2:h₁.IsList l vs:=a2.extBut b2.extBut hd;refine KL (QB (draw_go hd m (i+1) b1 c2 (by lia) ?_));intro h₂ d1 d2 d3;have z:=q h₂ (by rw[Nat.add_comm m 1,<- Nat.add_assoc];exact d1) d2 (b2.trans d3)
  have cut:vs.toList.drop i=vs[i]::vs.toList.drop (i+1):=by rw[QS (by simpa using lt)];simp
  rw[cut]at z;exact KW z
theorem unpack_l{l:Addr}{vs:Array KO}{tg:List (Bool×(KO->Sem Unit))}{Q:Unit->Shared->Prop}{s:Shared}(hh:A.handled=none)(hl:s.heap.IsList l vs)(hn:tg.length=vs.size)(hz:tg.findIdx? (·.1)=none)
 (q:∀h₂,(∀b o,s.heap.get? b=some o->h₂.get? b=some o)->wpAny (model prog w) A (assignInOrder (tg.map (·.2)) vs.toList) Q E { s with heap:=h₂ }):wpAny (model prog w) A (unpack (.ref l) tg) Q E s:=by
 have new:∀b o,s.heap.get? b=some o->b≠s.heap.objs.size:=fun b o e=>Q0 (K2 e)
 have hd:l≠s.heap.objs.size:=by obtain⟨o,e,_⟩:=hl;exact new l o e
 unfold unpack;rw[hn,hz];refine KL (QB ?_);unfold unpackItems notIterableAtAll;refine KL (KL (wpAny_specialOf hl.typeIs slot_list_iter.lookup (KW ?_)));simp only[Qk,if_false];refine KL (QB (XW hl ?_));refine KL (QB (draw_go hd vs.size 0 ⟨_,Qh _ rfl,rfl,rfl⟩ (hl.push _) (by lia) ?_));intro h₁ a1 a2 a3;simp only[QZ];rw[if_neg (by simp)];refine KL (QB (wpAny_pyNext_list_end hh a1 a2 (by simp) ?_));intro h₂ b1;simp only[Option.isSome_none,Qk,if_false];exact KW (q h₂ fun b o e=>b1 b o (new b o e) (a3.extBut b o (new b o e) (KQ _ e)))
end
noncomputable def gLst(K:KN)(n:Nat)(t:TGs):TG:=fun v σ H Q=>∃a xs,v=.ref a/\SqL K H a xs/\xs.length=n/\t xs σ H Q
noncomputable def gSq(K:KN)(n:Nat)(t:TGs):TG:=fun v σ H Q=>gTup K n t v σ H Q\/gLst K n t v σ H Q
theorem pg_sq{X:Cx}{es:List Expr}{k:Nat}{pos:Pos}{t:TGs}{n:Nat}(hc:X.calm=true)(h:PGs X es t)(hn:(X9 es X.env).length=n)(hst:(X9 es X.env).findIdx? (·.1)=none):PG X (.Tuple es k pos) (gSq X.K n t):=by
 intro pins s σ H v u Q I r w;rcases w with w|⟨a,xs,rfl,hq,hl,w⟩
 ·exact pg_tup hc h hn hst pins s σ H v u Q I r w
 ·cases r;obtain⟨its,rv,p,hz⟩:=I.list hq;rw[assign_Tuple];refine KL (YO (unpack_l (I.ok.hd hc) p.isList (by simp[hn,<- hl,rv.length]) hst fun h₂ keep=>?_));exact h pins _ σ H xs _ Q (I.kept (t':=s.toks) keep) (by simpa using rv) w
section
variable {prog:Qp} {w:World} {A:QH} {R:Result->Shared->Prop} {I S:Addr} {fp wr:List Addr} {G:Array Yp->Array Yp->Prop} {P:Nat->KO->Prop} {St:Nat->Shared->Prop} {ns:List Int}
theorem uL:(toString "min" ++ toString ".loop":String)="min.loop":=by decide
theorem uj{s s':Shared}(mv:Moved wr G s s')(f:Obj->Obj):Moved (S::wr) G s { s' with heap:=s'.heap.update S f } :=
 ⟨fun b o hb eb=>(Qy _ _ (fun x=>hb (by rw[x];exact K0))).trans (mv.heap b o (fun x=>hb (KR _ x)) eb),mv.gens,mv.drawn,mv.os,mv.toks⟩
theorem drop_at{i:Nat}(h:i<ns.length):ns.drop i=ns.getD i 0::ns.drop (i+1):=by rw[QS h];simp[h]
theorem min_go(W:WalksS prog w A.in1 I fp wr G ns.length P St)(hv:∀i v,P i v->∃t,v=.int (ns.getD i 0) t)(hS:S ∉ fp)(kw:List (Str×KO)):∀(k i:Nat) (s:Shared) (m:Int) (t:Tok) (c:Nat),i+k=ns.length->St i s ->
 s.heap.get? S=some { cls:=.type "list",dict:=none,data:=.seq #[.int m t,.int m t] c,slots:=#[] }->(∀s' t',Moved (S::wr) G s s'->R (.ok (.ret (.int ((ns.drop i).foldl (yj false) m) t'))) s') ->
 ZT (model prog w) A (.builtin "min.loop" ⟨[.ref I,.none,.ref S],kw⟩) R s
 |0,i,s,m,t,c,e,a1,a2,q=>by
  have Sw:S ∉ wr:=fun z=>hS (W.sub _ z)
  refine Z8 F.entry_min_loop ?_;rw[Z2 X8 _];refine KL (m:=seqItems? (.ref S)) (XU a2 rfl ?_);refine KL (m:=tryCatch (pyNext (.ref I)) _) (Us (W.done s _ _ (by rw[<- e];exact a1) ?_));intro s' mv;have b2:=mv.heap S _ Sw a2;refine KL (m:=updateSeq S (fun _=>#[])) (Z9 b2 rfl (KL (YZ (KW ?_))));have z:=q _ t (uj mv (ZP fun _=>#[]));rw[ZE (by lia)]at z
  exact z
 |k+1,i,s,m,t,c,e,a1,a2,q=>by
  have Sw:S ∉ wr:=fun z=>hS (W.sub _ z)
  have lt:i<ns.length:=by lia
  rw[drop_at lt,YL]at q;refine Z8 F.entry_min_loop ?_;rw[Z2 X8 _];refine KL (m:=seqItems? (.ref S)) (XU a2 rfl ?_);refine KL (m:=tryCatch (pyNext (.ref I)) _) (Us (W.item i s _ _ lt a1 ?_));intro v s' pv b1 mv;obtain⟨t₁,rfl⟩:=hv i v pv;have b2:=mv.heap S _ Sw a2;generalize hn:ns.getD i 0=n at *;have cmp:=CmpOf.ints_lt (prog:=prog) (w:=w) (A:=A.in1) (P:=fun j v=>∃t,v=.int (if j=0 then n else m) t) (fun j=>if j=0 then n else m) (fun _ _ h=>h);refine KL (m:=tryCatch (Zo [.int n t₁,.int n t₁] (richCompare .Lt (.int n t₁) (.int m t) >>= _)) _) (Us (QB (KL (cmp 0 1 _ _ _ _ _ ⟨t₁,rfl⟩ ⟨t,rfl⟩ ?_))));simp only[if_true,Nat.one_ne_zero,if_false];refine KL (QB (Xu (KL (YZ (KW ?_)))))
  have moved:Moved (S::wr) G s s':=mv.mono fun b hb=>KR _ hb
  by_cases lo:n<m
  ·simp only[lo,decide_true,if_true]
   have pk:yj false m n=n:=by unfold yj;simp[lo]
   rw[pk]at q;refine KL (Z9 b2 rfl (KL (YZ ?_)));rw[uL];refine KW ⟨plainId_quiet X8 _,min_go W hv hS kw k (i+1) _ n t₁ _ (by lia) (W.frame _ s' _ s'.toks b1 (K6 _) ?_) (Xx _ b2 rfl) ?_⟩
   ·intro b hb o eb;exact(Qy _ _ (fun x=>hS (by rw[x];exact hb))).trans eb
   ·intro s₂ t₂ m₂;exact q s₂ t₂ (Moved.trans W.gtrans (uj mv _) m₂)
  ·simp only[lo,decide_false,Qk,if_false]
   have pk:yj false m n=m:=by unfold yj;simp[lo]
   rw[pk]at q;refine KL (YZ ?_);rw[uL];exact KW ⟨plainId_quiet X8 _,min_go W hv hS kw k (i+1) s' m t c (by lia) b1 b2 fun s₂ t₂ m₂=>q s₂ t₂ (Moved.trans W.gtrans moved m₂)⟩
end
section
variable {prog:Qp} {w:World} {A:QH} {E:KO->Shared->Prop} {I:Addr} {fp wr:List Addr} {G:Array Yp->Array Yp->Prop} {P:Nat->KO->Prop} {St:Nat->Shared->Prop} {ns:List Int}
theorem fn_again{id:String}{b:XY}{args:List KO}{kw:List (Str×KO)}{Q:KO->Shared->Prop}{s:Shared}(hk:builtinKind id=none)(hp:plainId id=true)(hb:entryFor table id=some b)(ha:argsOk id ⟨args,kw⟩)
 (hc:wpAny (model prog w) A.in1 (b ⟨args,kw⟩) (fun fin s'=>∃c',fin=.again c'/\c'.quiet=true/\ZT (model prog w) A c' (fun r s'=>match r with|.ok (.ret v)=>Q v s'|.ok _=>False|.error e=>E e s') s') E s) :
 wpAny (model prog w) A (call (.builtin id) args kw) Q E s:=by
 refine Zt (XC hp hb ?_)
 have fin:=QY hc (Q':=fun fin s'=>match fin with
  |.done f=>(match (Except.ok f:Result) with|.ok (.ret v)=>Q v s'|.ok _=>False|.error e=>E e s')
  |.again c'=>c'.quiet=true/\ZT (model prog w) A c' (fun r s'=>match r with|.ok (.ret v)=>Q v s'|.ok _=>False|.error e=>E e s') s')
  (fun _ _ ⟨c',e,z⟩=>by subst e;exact z) fun _ _ z=>z
 simp only[Y6,hk]
 cases hs:Manifest.signature? id with
 |none=>exact KW fin
 |some sig =>
  have e:Bind.checkArgs id sig ⟨args,kw⟩=pure ():=by simpa only[argsOk,hs]using ha
  simp only[e];exact KW fin
end
theorem uz:∀ {ns:List Int} {us:List KO},jG (ns.map V.int) us->∀i v,us[i]?=some v->∃t,v=Value.int (ns.getD i 0) t
 |[],us,r,i,v,h=>by cases r;simp at h
 |n::ns,us,r,i,v,h=>by
  cases r with
  |cons r1 r2 =>
   cases i with
   |zero=>simp at h;subst h;obtain⟨t,e⟩:=r1;exact⟨t,by simpa using e⟩
   |succ i=>simpa using uz r2 i v (by simpa using h)
theorem Inv.moved'{X:Cx}{pins:List (Addr×Obj)}{τ:L2.St}{H:Hp}{s s':Shared}{o:Obj}{tk:Nat}(I:Inv X pins τ H s)(m:Moved [s.heap.objs.size] (fun a b=>b=a) { s with heap:=s.heap.push o,toks:=tk } s'):Inv X pins τ H s':=by
 have k:∀b u,s.heap.get? b=some u->s'.heap.get? b=some u:=fun b u e=>m.heap b u (fun z=>by
  have:b=s.heap.objs.size:=by simpa using z
  exact absurd (K2 e) (by rw[this];exact Q9 _)) (KQ _ e)
 exact I.call' (ch:=[]) m.os (Un.kept k) (I.hok.kept k) (by rw[m.gens];exact I.bare) fun _ z=>nomatch z
section
variable {prog:Qp} {w:World} {A:QH} {E:KO->Shared->Prop} {I:Addr} {fp wr:List Addr} {G:Array Yp->Array Yp->Prop} {P:Nat->KO->Prop} {St:Nat->Shared->Prop}
theorem bind_min1:Uj "min" ["key","default"] 0 ⟨[],[]⟩=pure [none,none]:=rfl
theorem args_min1(a:KO):argsOk "min" ⟨[a],[]⟩:=by unfold argsOk;kernel_rfl
theorem min_list{x:KO}{n:Int}{ns:List Int}{Q:KO->Shared->Prop}{s:Shared}
 (h:wpAny (model prog w) A.in1 (pyIter x) (fun it s₂=>∃I fp wr G P St,it=.ref I/\WalksS prog w A.in1 I fp wr G (n::ns).length P St/\St 0 s₂/\(∀b∈fp,b<s₂.heap.objs.size)/\(∀i v,P i v->∃t,v=.int ((n::ns).getD i 0) t) /\
  ∀s' t,Moved wr G s₂ s'->Q (.int (mmF false 0 (n::ns)) t) s') E s) :
 wpAny (model prog w) A (call (.builtin "min") [x] []) Q E s:=by
 refine fn_again F.kind_min F.plain_min F.entry_min (args_min1 _) ?_;refine KL (m:=Uj "min" ["key","default"] 0 ⟨[],[]⟩) (XH (bind_min1) ?_);refine KL (KW (KL (QY h ?_ fun _ _ e=>e)));rintro it s₂ ⟨I,fp,wr,G,P,St,rfl,W,st,hf,hv,q⟩;refine KL (wpAny_newObj_type ?_)
 have fresh:s₂.heap.objs.size ∉ fp:=fun z=>Q9 _ (hf _ z)
 have st':St 0 { s₂ with heap:=s₂.heap.push { cls:=.type "list",dict:=none,data:=.seq #[] 0,slots:=#[] } }:=W.frame 0 s₂ _ s₂.toks st (K6 _) fun b _ o e=>KQ _ e
 have hS:=Qh s₂.heap (show ({ cls:=.type "list",dict:=none,data:=.seq #[] 0,slots:=#[] }:Obj).isFreed=false from rfl);rw[uL];refine KW ⟨_,rfl,plainId_quiet X8 _,?_⟩;refine Z8 F.entry_min_loop ?_;rw[Z2 X8 _];refine KL (m:=seqItems? (.ref s₂.heap.objs.size)) (XU hS rfl ?_);refine KL (m:=tryCatch (pyNext (.ref I)) _) (Us (W.item 0 _ _ _ (by simp) st' ?_));intro v s' pv b1 mv;obtain⟨t₁,rfl⟩:=hv 0 v pv
 have Sw:s₂.heap.objs.size ∉ wr:=fun z=>fresh (W.sub _ z)
 have b2:=mv.heap _ _ Sw hS;refine KL (m:=updateSeq s₂.heap.objs.size (fun _=>#[.int n t₁,.int n t₁])) (Z9 b2 rfl ?_);rw[uL];refine KW ⟨plainId_quiet X8 _,min_go W hv fresh _ ns.length 1 _ n t₁ _ (by simp;lia) (W.frame _ s' _ s'.toks b1 (K6 _) ?_) (Xx _ b2 rfl) ?_⟩
 ·intro b hb o eb;exact(Qy _ _ (fun x=>fresh (by rw[x];exact hb))).trans eb
 ·intro s₃ t₃ m₃;exact q s₃ t₃ (Moved.drop_new (tk:=s₂.toks) (Moved.trans W.gtrans (uj mv _) m₃) (K6 _))
end
theorem call_min1{X:Cx}(hc:X.calm=true){pins:List (Addr×Obj)}{s:Shared}{τ:L2.St}{H:Hp}{a:Addr}{n:Int}{ns:List Int}{Q:VK}(I:Inv X pins τ H s)(hq:SqL X.K H a ((n::ns).map V.int))(q:Q (.int (mmF false 0 (n::ns))) H) :
 wpAny (model X.prog X.w) X.A (call (.builtin "min") [.ref a] []) (EP X pins τ Q) X.xe s:=by
 obtain⟨its,rv,p,hz⟩:=I.list hq;have hl:=rv.length;rw[KP]at hl;obtain⟨o,n0,ho,_⟩:=id p;have hne:a≠s.heap.objs.size:=Q0 (K2 ho);have W:=(Walks.list (prog:=X.prog) (w:=X.w) (A:=X.A.in1) (I.ok.hd hc) s.heap.objs.size a hne its.toArray).toS;rw[show its.toArray.size=(n::ns).length by simp[hl]]at W
 have fin:wpAny (model X.prog X.w) X.A.in1 (pyIter (.ref a)) (fun it s₂=>∃I fp wr G P St,it=.ref I/\WalksS X.prog X.w X.A.in1 I fp wr G (n::ns).length P St/\St 0 s₂/\(∀b∈fp,b<s₂.heap.objs.size)/\(∀i v,P i v->∃t,v=.int ((n::ns).getD i 0) t) /\
  ∀s' t,Moved wr G s₂ s'->EP X pins τ Q (.int (mmF false 0 (n::ns)) t) s') X.xe s:=by
  refine XW p.isList ⟨s.heap.objs.size,_,_,_,_,_,rfl,W,⟨⟨_,Qh _ rfl,rfl,rfl⟩,p.isList.push _⟩,fun b hb=>?_,fun i v hv=>uz rv i v (by simpa using hv),fun s' t' m=>?_⟩
  ·rw[ZD];simp only[KS,K4,or_false]at hb;rcases hb with z|z
   ·rw[z];exact Nat.lt_succ_self _
   ·rw[z];exact Nat.lt_succ_of_lt (K2 ho)
  ·exact⟨.int (mmF false 0 (n::ns)),H,Inv.moved' (tk:=s.toks) I m,⟨t',rfl⟩,q⟩
 exact min_list fin
end Z
namespace Z
open PySem PySem.Spec PyProof.Rows L2
abbrev zob(TI TO:Addr)(f0:KO)(f1:Bool):Obj:={ cls:=.type "zip",dict:=none,data:=.fields #[f0,.bool f1,.bool false,.ref TI,.ref TO],slots:=#[] }
abbrev xJ(a b:KO):Obj:={ cls:=.type "tuple",data:=.seq #[a,b] }
noncomputable def ZF(f0:KO):Prop:=f0=.none\/∃T:Nat,f0=rawInt T
section
variable {prog:Qp} {w:World} {A:QH} {E:KO->Shared->Prop} {s:Shared} {z TI TO i1 i2 l1 l2:Addr}
theorem vT{a:Addr}{Q:Option Obj->Shared->Prop}(h:Q (s.heap.get? a) s):wpAny (model prog w) A (loadIfAlive a) Q E s:=fun Γ p _=>by
 unfold loadIfAlive;rw[Sem.wp_loadIfAlive];exact h
theorem zfree{f0:KO}{f1:Bool}{Q:Bool->Shared->Prop}(hz:s.heap.get? z=some (zob TI TO f0 f1))(hf:ZF f0)(q:∀b h₁ g1,h₁.get? z=some (zob TI TO f0 g1)->Yq z s.heap h₁->Q b { s with heap:=h₁ }) :
 wpAny (model prog w) A (QE (.ref z)) Q E s:=by
 unfold QE;rcases hf with rfl|⟨T,rfl⟩
 ·exact KL (Q3 hz rfl (x:=.none) rfl (KW (q true s.heap f1 hz (XZ ..))))
 ·refine KL (Q3 hz rfl (x:=rawInt T) rfl ?_);refine KL (m:=loadIfAlive (T:Int).toNat) (vT ?_)
  cases hT:s.heap.get? (T:Int).toNat with
  |none=>exact KW (q true s.heap f1 hz (XZ ..))
  |some o =>
   refine KL (m:=field (.ref z) 1) (Q3 hz rfl (x:=.bool f1) rfl ?_)
   cases f1 with
   |true=>exact KW (q false s.heap true hz (XZ ..))
   |false=>exact KL (m:=ZG (.ref z) 1 (.bool true)) (QQ hz (by simp) fun h₁ k1 k2=>KW (q false h₁ true k1 k2))
structure ZSt (z TI TO i1 i2 l1 l2:Addr) (k:Nat) (h:QG):Prop where
 zip:∃f0 f1,ZF f0/\h.get? z=some (zob TI TO f0 f1)
 its:h.get? TI=some (xJ (.ref i1) (.ref i2))
 old:∃a b,h.get? TO=some (xJ a b)
 one:h.IsListIter i1 l1 k
 two:h.IsListIter i2 l2 k
theorem znext{k:Nat}{xs ys:Array KO}{x y:KO}{Q:Option KO->Shared->Prop}(D:ZipApart z TI TO i1 i2 l1 l2)(st:ZSt z TI TO i1 i2 l1 l2 k s.heap)(hl1:s.heap.IsList l1 xs)(hl2:s.heap.IsList l2 ys)(hx:xs[k]?=some x)(hy:ys[k]?=some y)
 (q:∀T h₂,ZSt z TI TO i1 i2 l1 l2 (k+1) h₂->s.heap.objs.size<=T->h₂.get? T=some (xJ x y)->(∀b o,b ∉ [z,TO,i1,i2]->s.heap.get? b=some o->h₂.get? b=some o)->Q (some (.ref T)) { s with heap:=h₂ }) :
 wpAny (model prog w) A (pyNext (.ref z)) Q E s:=by
 obtain⟨⟨f0,f1,hf,hz⟩,hTI,⟨a,b,hTO⟩,h1,h2⟩:=st
 have ty:s.TypeIs (.ref z) "zip":=⟨_,hz,rfl⟩
 unfold pyNext;refine KL (YQ (Yz (name:=Yt "__next__") ty Zp (YA Zp ty F.entry_zip_next ?_ (F.args_zip_next_1 _))));refine KL (m:=field (.ref z) 2) (Q3 hz rfl (x:=.bool false) rfl (KL (m:=field (.ref z) 3) (Q3 hz rfl (x:=.ref TI) rfl (KL (XU hTI rfl ?_)))));refine KL (m:=QE (.ref z)) (zfree hz hf fun fr h₁ g1 hz₁ s1=>?_)
 have lt:∀ {h:QG} {c:Addr} {o:Obj},h.get? c=some o->c<h.objs.size:=fun e=>K2 e
 have TI1:h₁.get? TI=some (xJ (.ref i1) (.ref i2)):=s1.extBut _ _ D.TIz hTI;have TO1:h₁.get? TO=some (xJ a b):=s1.extBut _ _ D.TOz hTO;have a1:=h1.extBut s1.extBut D.i1z;have a2:=h2.extBut s1.extBut D.i2z;have c1:=hl1.extBut s1.extBut D.l1z;have c2:=hl2.extBut s1.extBut D.l2z
 cases fr with
 |false =>
  simp only[Qk,if_false];refine KL ?_;simp only[<- Array.forIn_toList,YM,YY];refine KL (KL (QB (KL (m:=QF (.ref i1)) (Xp a1 c1 hx fun h₂ b1 s2=>KW (KW ?_)))));have a2':=a2.extBut s2.extBut D.i12.symm;have c2':=c2.extBut s2.extBut D.l2i1;refine KL (KL (QB (KL (m:=QF (.ref i2)) (Xp a2' c2' hy fun h₃ b2 s3=>KW (KW (KW ?_))))));refine KL (m:=newTuple [x,y]) (wpAny_newTuple (KW ⟨_,rfl,KW ?_⟩))
  have up:∀b o,b ∉ [z,TO,i1,i2]->s.heap.get? b=some o->h₃.get? b=some o:=fun b o hb e=>by
   simp only[KS,K4,or_false,not_or]at hb;exact s3.extBut _ _ hb.2.2.2 (s2.extBut _ _ hb.2.2.1 (s1.extBut _ _ hb.1 e))
  have szs:h₃.objs.size=s.heap.objs.size:=by rw[s3.1,s2.1,s1.1]
  refine q h₃.objs.size _ ⟨⟨f0,g1,hf,KQ _ (s3.extBut _ _ D.i2z.symm (s2.extBut _ _ D.i1z.symm hz₁))⟩,KQ _ (s3.extBut _ _ D.TIi2 (s2.extBut _ _ D.TIi1 TI1)),⟨a,b,KQ _ (s3.extBut _ _ D.TOi2 (s2.extBut _ _ D.TOi1 TO1))⟩,?_,?_⟩ (by rw[szs];exact K6 _) (Qh _ rfl) fun b o hb e=>KQ _ (up b o hb e)
  ·exact(b1.extBut s3.extBut D.i12).at fun o e=>KQ _ e
  ·exact b2.at fun o e=>KQ _ e
 |true =>
  simp only[if_true];refine KL (wpAny_rule (KL (m:=field (.ref z) 4) (Q3 hz₁ rfl (x:=.ref TO) rfl ?_)));refine KL (m:=ZG (.ref z) 0 .ellipsis) (QQ hz₁ (by simp) fun h₂ hz₂ s2=>KL ?_);simp only[List.zipIdx_cons,List.zipIdx_nil,YM,YY];have TO2:h₂.get? TO=some (xJ a b):=s2.extBut _ _ D.TOz TO1;have a1':=a1.extBut s2.extBut D.i1z;have c1':=c1.extBut s2.extBut D.l1z;refine KL (KL (ZX (KL (m:=QF (.ref i1)) (Xp a1' c1' hx fun h₃ b1 s3=>KW ?_))));have TO3:h₃.get? TO=some (xJ a b):=s3.extBut _ _ D.TOi1 TO2;refine KL (XU TO3 rfl (KL (Z3 TO3 fun h₄ TO4 s4=>KL (YZ (KW ?_)))));have a2':=((a2.extBut s2.extBut D.i2z).extBut s3.extBut D.i12.symm).extBut s4.extBut D.TOi2.symm;have c2':=((c2.extBut s2.extBut D.l2z).extBut s3.extBut D.l2i1).extBut s4.extBut D.l2TO;refine KL (KL (ZX (KL (m:=QF (.ref i2)) (Xp a2' c2' hy fun h₅ b2 s5=>KW ?_))));have TO5:h₅.get? TO=some (xJ x b):=s5.extBut _ _ D.TOi2 TO4;refine KL (XU TO5 rfl (KL (Z3 TO5 fun h₆ TO6 s6=>KL (YZ (KW (KW ?_))))));have TO6':h₆.get? TO=some (xJ x y):=TO6;refine KL (XU TO6' rfl (KL (wpAny_newTuple ?_)));have hz6:h₆.get? z=some (zob TI TO .ellipsis g1):=s6.extBut _ _ D.TOz.symm (s5.extBut _ _ D.i2z.symm (s4.extBut _ _ D.TOz.symm (s3.extBut _ _ D.i1z.symm hz₂)));have hz7:(h₆.push (xJ x y)).get? z=some (zob TI TO .ellipsis g1):=KQ _ hz6
  have up:∀b o,b ∉ [z,TO,i1,i2]->s.heap.get? b=some o->h₆.get? b=some o:=fun b o hb e=>by
   simp only[KS,K4,or_false,not_or]at hb;exact s6.extBut _ _ hb.2.1 (s5.extBut _ _ hb.2.2.2 (s4.extBut _ _ hb.2.1 (s3.extBut _ _ hb.2.2.1 (s2.extBut _ _ hb.1 (s1.extBut _ _ hb.1 e)))))
  have szs:h₆.objs.size=s.heap.objs.size:=by rw[s6.1,s5.1,s4.1,s3.1,s2.1,s1.1]
  refine KL (m:=Xt (.ref z) (.ref h₆.objs.size)) ?_;unfold Xt;refine KL (m:=ZG (.ref z) 0 (rawInt h₆.objs.size)) (QQ hz7 (by simp) fun h₈ hz8 s8=>QQ hz8 (by simp) fun h₉ hz9 s9=>KW ⟨_,rfl,KW ?_⟩);have zlt:z<h₆.objs.size:=K2 hz6
  have up2:∀b o,b≠z->(h₆.push (xJ x y)).get? b=some o->h₉.get? b=some o:=fun b o hb e=>s9.extBut _ _ hb (s8.extBut _ _ hb e)
  have b1':=((b1.extBut s4.extBut D.TOi1.symm).extBut s5.extBut D.i12).extBut s6.extBut D.TOi1.symm;have b2':=b2.extBut s6.extBut D.TOi2.symm
  refine q h₆.objs.size h₉ ⟨⟨rawInt h₆.objs.size,false,.inr ⟨_,rfl⟩,hz9⟩,?_,⟨x,y,up2 _ _ D.TOz (KQ _ TO6')⟩,b1'.at fun o e=>up2 _ o D.i1z (KQ _ e),b2'.at fun o e=>up2 _ o D.i2z (KQ _ e)⟩ (by rw[szs];exact K6 _) (up2 _ _ (YE zlt) (Qh _ rfl)) fun b o hb e=>?_
  ·exact up2 _ _ D.TIz (KQ _ (s6.extBut _ _ D.TITO (s5.extBut _ _ D.TIi2 (s4.extBut _ _ D.TITO (s3.extBut _ _ D.TIi1 (s2.extBut _ _ D.TIz TI1))))))
  ·have hb':b≠z:=fun e=>hb (by rw[e];exact K0)
   exact up2 _ _ hb' (KQ _ (up b o hb e))
theorem zend{k:Nat}{xs ys:Array KO}{Q:Option KO->Shared->Prop}(hh:A.handled=none)(D:ZipApart z TI TO i1 i2 l1 l2)(st:ZSt z TI TO i1 i2 l1 l2 k s.heap)(hl1:s.heap.IsList l1 xs)(hl2:s.heap.IsList l2 ys)(hend:xs[k]?=none\/ys[k]?=none)
 (q:∀h₂,(∀b o,b ∉ [z,TO,i1,i2]->s.heap.get? b=some o->h₂.get? b=some o)->Q none { s with heap:=h₂ }) :
 wpAny (model prog w) A (pyNext (.ref z)) Q E s:=by
 obtain⟨⟨f0,f1,hf,hz⟩,hTI,⟨a,b,hTO⟩,h1,h2⟩:=st
 have ty:s.TypeIs (.ref z) "zip":=⟨_,hz,rfl⟩
 have hh1:A.in1.handled=none:=hh;unfold pyNext;refine KL (YQ (Yz (name:=Yt "__next__") ty Zp (YA Zp ty F.entry_zip_next ?_ (F.args_zip_next_1 _))));refine KL (m:=field (.ref z) 2) (Q3 hz rfl (x:=.bool false) rfl (KL (m:=field (.ref z) 3) (Q3 hz rfl (x:=.ref TI) rfl (KL (XU hTI rfl ?_)))));refine KL (m:=QE (.ref z)) (zfree hz hf fun fr h₁ g1 hz₁ s1=>?_);have TO1:h₁.get? TO=some (xJ a b):=s1.extBut _ _ D.TOz hTO;have a1:=h1.extBut s1.extBut D.i1z;have a2:=h2.extBut s1.extBut D.i2z;have c1:=hl1.extBut s1.extBut D.l1z;have c2:=hl2.extBut s1.extBut D.l2z
 have fin:∀(h₂:QG) (e:Addr),(∀b o,b ∉ [z,TO,i1,i2]->s.heap.get? b=some o->h₂.get? b=some o)->(∃o,h₂.get? e=some o/\o.cls=.type "StopIteration") ->
  wpAny (model prog w) A (do if (<- ZR (.ref e) (.type "StopIteration"))=true then pure none else throw (.ref e)) Q E { s with heap:=h₂ }:=fun h₂ e k ⟨o,ho,hc⟩ =>
  KL (wpAny_isInstance (T:="StopIteration") (b:=true) ⟨o,ho,hc⟩ isSubtype_stop (KW (q h₂ k)))
 cases fr with
 |false =>
  simp only[Qk,if_false];refine KL ?_;simp only[<- Array.forIn_toList,YM,YY]
  cases hx:xs[k]? with
  |none =>
   refine KL (KL (QB (KL (m:=QF (.ref i1)) (Yf hh1 a1 c1 hx fun h₂ e s2 he=>fin h₂ e (fun b o hb e=>?_) he))));simp only[KS,K4,or_false,not_or]at hb
   exact s2 _ _ hb.2.2.1 (s1.extBut _ _ hb.1 e)
  |some x =>
   have hy:ys[k]?=none:=by
    rcases hend with h|h
    ·rw[hx]at h;cases h
    ·exact h
   refine KL (KL (QB (KL (m:=QF (.ref i1)) (Xp a1 c1 hx fun h₂ b1 s2=>KW (KW ?_)))));have a2':=a2.extBut s2.extBut D.i12.symm;have c2':=c2.extBut s2.extBut D.l2i1;refine KL (KL (QB (KL (m:=QF (.ref i2)) (Yf hh1 a2' c2' hy fun h₃ e s3 he=>fin h₃ e (fun b o hb e=>?_) he))));simp only[KS,K4,or_false,not_or]at hb
   exact s3 _ _ hb.2.2.2 (s2.extBut _ _ hb.2.2.1 (s1.extBut _ _ hb.1 e))
 |true =>
  simp only[if_true];refine KL (wpAny_rule (KL (m:=field (.ref z) 4) (Q3 hz₁ rfl (x:=.ref TO) rfl ?_)));refine KL (m:=ZG (.ref z) 0 .ellipsis) (QQ hz₁ (by simp) fun h₂ hz₂ s2=>KL ?_);simp only[List.zipIdx_cons,List.zipIdx_nil,YM,YY];have TO2:h₂.get? TO=some (xJ a b):=s2.extBut _ _ D.TOz TO1;have a1':=a1.extBut s2.extBut D.i1z;have c1':=c1.extBut s2.extBut D.l1z
  cases hx:xs[k]? with
  |none =>
   refine KL (KL (ZX (KL (m:=QF (.ref i1)) (Yf hh1 a1' c1' hx fun h₃ e s3 he=>?_))));obtain⟨oe,hoe,hce⟩:=he;have hz3:h₃.get? z=some (zob TI TO .ellipsis g1):=s3 _ _ D.i1z.symm hz₂
   have hez:e≠z:=fun x=>by subst x;rw[hz3]at hoe;cases hoe;simp at hce
   refine QQ hz3 (by simp) fun h₄ _ s4=>fin h₄ e (fun b o hb e=>?_) ⟨oe,s4.extBut _ _ hez hoe,hce⟩
   simp only[KS,K4,or_false,not_or]at hb
   exact s4.extBut _ _ hb.1 (s3 _ _ hb.2.2.1 (s2.extBut _ _ hb.1 (s1.extBut _ _ hb.1 e)))
  |some x =>
   have hy:ys[k]?=none:=by
    rcases hend with h|h
    ·rw[hx]at h;cases h
    ·exact h
   refine KL (KL (ZX (KL (m:=QF (.ref i1)) (Xp a1' c1' hx fun h₃ b1 s3=>KW ?_))));have TO3:h₃.get? TO=some (xJ a b):=s3.extBut _ _ D.TOi1 TO2;refine KL (XU TO3 rfl (KL (Z3 TO3 fun h₄ TO4 s4=>KL (YZ (KW ?_)))));have a2':=((a2.extBut s2.extBut D.i2z).extBut s3.extBut D.i12.symm).extBut s4.extBut D.TOi2.symm;have c2':=((c2.extBut s2.extBut D.l2z).extBut s3.extBut D.l2i1).extBut s4.extBut D.l2TO;refine KL (KL (ZX (KL (m:=QF (.ref i2)) (Yf hh1 a2' c2' hy fun h₅ e s5 he=>?_))));obtain⟨oe,hoe,hce⟩:=he;have hz5:h₅.get? z=some (zob TI TO .ellipsis g1):=s5 _ _ D.i2z.symm (s4.extBut _ _ D.TOz.symm (s3.extBut _ _ D.i1z.symm hz₂))
   have hez:e≠z:=fun x=>by subst x;rw[hz5]at hoe;cases hoe;simp at hce
   refine QQ hz5 (by simp) fun h₆ _ s6=>fin h₆ e (fun b o hb e=>?_) ⟨oe,s6.extBut _ _ hez hoe,hce⟩
   simp only[KS,K4,or_false,not_or]at hb;exact s6.extBut _ _ hb.1 (s5 _ _ hb.2.2.2 (s4.extBut _ _ hb.2.1 (s3.extBut _ _ hb.2.2.1 (s2.extBut _ _ hb.1 (s1.extBut _ _ hb.1 e)))))
end
theorem Inv.turnedL{X:Cx}{pins:List (Addr×Obj)}{σ:L2.St}{H:Hp}{s:Shared}{ch:List Addr}{h₂:QG}{T:Addr}{xs:List V}{us:List KO}(I:Inv X pins σ H s)(hf:∀b∈ch,ur X pins H b)(k:∀b o,b ∉ ch->s.heap.get? b=some o->h₂.get? b=some o)
 (hT:s.heap.objs.size<=T) (ht:h₂.get? T=some { cls:=.type "tuple",data:=.seq us.toArray }) (r:jG xs us) (hz:xs.length<=sizeLine):Inv X pins σ (upd H T (.tup xs)) { s with heap:=h₂ }:=by
 have fT:H T=none:=I.hok.fresh hT
 have ntr:∀b u,H b=some u->b ∉ ch:=fun b u e z=>by rw[(hf b z).1]at e;cases e
 have nT:∀b u,H b=some u->b≠T:=fun b u e z=>by rw[z,fT]at e;cases e
 refine I.call' (s':={ s with heap:=h₂ }) (ch:=ch) rfl ⟨fun b o e n _ hb=>k b o hb e,fun b o e n _ hb=>⟨o.slots,k b o hb e⟩,fun b o e n hb=>?_,fun b o e hb=>⟨o,k b o hb e⟩,fun b ys e=>?_,fun b o u e=>?_,fun b ps e=>⟨#[],?_⟩⟩ ?_ I.bare fun b hb=>?_
 ·rw[jh fun q=>absurd (K2 e) (by rw[q];exact Ur.mpr hT)];exact n
 ·rw[jh (nT b _ e)];exact e
 ·rw[jh (nT b _ e)];exact e
 ·rw[jh (nT b _ e),e];simp
 ·intro b u e;by_cases hb:b=T
  ·subst hb;rw[jm]at e;cases e;exact⟨hz,us,r,⟨_,ht,rfl,_,rfl⟩⟩
  ·rw[jh hb]at e
   refine(I.hok b u e).stay (fun c v hc q=>k c v ?_ q) (fun c q=>by rw[jh (nT c _ q)];exact q) fun c ys q=>by rw[jh (nT c _ q)];exact q
   rcases hc with z|z
   ·rw[z];exact ntr b u e
   ·exact ntr c _ z
 ·obtain⟨_,f1,_,f3,f4,f5⟩:=hf b hb;exact⟨f3,f1,f4,f5⟩
theorem Inv.turnedN{X:Cx}{pins:List (Addr×Obj)}{σ:L2.St}{H:Hp}{s:Shared}{ch:List Addr}{h₂:QG}(I:Inv X pins σ H s)(hf:∀b∈ch,ur X pins H b)(k:∀b o,b ∉ ch->s.heap.get? b=some o->h₂.get? b=some o):Inv X pins σ H { s with heap:=h₂ }:=by
 have ntr:∀b u,H b=some u->b ∉ ch:=fun b u e z=>by rw[(hf b z).1]at e;cases e
 refine I.call' (s':={ s with heap:=h₂ }) (ch:=ch) rfl ⟨fun b o e n _ hb=>k b o hb e,fun b o e n _ hb=>⟨o.slots,k b o hb e⟩,fun b o e n hb=>n,fun b o e hb=>⟨o,k b o hb e⟩,fun b ys e=>e,fun b o u e=>e,fun b ps e=>⟨#[],by rw[e];simp⟩⟩ ?_ I.bare fun b hb=>?_
 ·intro b u e
  refine(I.hok b u e).stay (fun c v hc q=>k c v ?_ q) (fun c q=>q) fun c ys q=>q
  rcases hc with z|z
  ·rw[z];exact ntr b u e
  ·exact ntr c _ z
 ·obtain⟨_,f1,_,f3,f4,f5⟩:=hf b hb;exact⟨f3,f1,f4,f5⟩
noncomputable def Itz(K:KN)(l1 l2:Addr):It:=⟨fun i H=>∃xs ys x y,SqL K H l1 xs/\SqL K H l2 ys/\xs[i]?=some x/\ys[i]?=some y,
 fun i H v H'=>∃T x y,v=.ref T/\H T=none/\(∀xs,SqL K H l1 xs->xs[i]?=some x)/\(∀ys,SqL K H l2 ys->ys[i]?=some y)/\H'=upd H T (.tup [x,y]),fun i H=>∃xs ys,SqL K H l1 xs/\SqL K H l2 ys/\(xs.length<=i\/ys.length<=i)⟩
theorem go_name{M:Model}{A:QH}{E:KO->Shared->Prop}{s:Shared}{x:Str}{p:Pos}{it u:KO}{Q:Unit->Shared->Prop}(h:Q () s):wpAny M A (YJ (.Name x p) it u) Q E s:=by
 unfold YJ;exact KW h
theorem turn_zip{P:Qp}{w:World}{K:KN}{x:Str}{px:Pos}{z TI TO i1 i2 l1 l2:Addr}(D:ZipApart z TI TO i1 i2 l1 l2):Turn P w K (.Name x px) (Itz K l1 l2) [z,TI,TO,i1,i2] z (fun i h=>ZSt z TI TO i1 i2 l1 l2 i h) where
 mem:=by simp
 obj:=fun i h st b hb=>by
  obtain⟨⟨f0,f1,hf,hz⟩,hTI,⟨a,b',hTO⟩,⟨o1,e1,_,d1⟩,⟨o2,e2,_,d2⟩⟩:=st;simp only[KS,K4,or_false]at hb;rcases hb with rfl|rfl|rfl|rfl|rfl
  ·exact⟨_,hz,fun v q=>by cases q⟩
  ·exact⟨_,hTI,fun v q=>by cases q⟩
  ·exact⟨_,hTO,fun v q=>by cases q⟩
  ·exact⟨_,e1,fun v q=>by rw[d1]at q;cases q⟩
  ·exact⟨_,e2,fun v q=>by rw[d2]at q;cases q⟩
 keep:=fun i h h' st k=>by
  obtain⟨⟨f0,f1,hf,hz⟩,hTI,⟨a,b',hTO⟩,o1,o2⟩:=st;exact⟨⟨f0,f1,hf,k z (by simp) _ hz⟩,k TI (by simp) _ hTI,⟨a,b',k TO (by simp) _ hTO⟩,o1.at fun o e=>k i1 (by simp) o e,o2.at fun o e=>k i2 (by simp) o e⟩
 item:=by
  intro X hP hw hK hc i pins s σ H E I hf st hg;subst hP hw hK;obtain⟨xs,ys,xv,yv,q1,q2,e1,e2⟩:=hg;obtain⟨its1,r1,p1,_⟩:=I.list q1;obtain⟨its2,r2,p2,_⟩:=I.list q2;obtain⟨u1,hu1,ru1⟩:=r1.get e1;obtain⟨u2,hu2,ru2⟩:=r2.get e2
  refine znext D st p1.isList p2.isList (x:=u1) (y:=u2) (by simpa using hu1) (by simpa using hu2) fun T h₂ st₂ hT ht k=>⟨.ref T,rfl,go_name ?_⟩
  have fT:H T=none:=I.hok.fresh hT;have I2:Inv X pins σ (upd H T (.tup [xv,yv])) { s with heap:=h₂ }:=Inv.turnedL (ch:=[z,TO,i1,i2]) (us:=[u1,u2]) I (fun b hb=>hf b (by simp only[KS,K4,or_false]at hb ⊢;rcases hb with q|q|q|q<;>simp[q])) k hT ht (.cons ru1 (.cons ru2 .nil)) (by show 2<=sizeLine;decide);refine⟨.ref T,upd H T (.tup [xv,yv]),I2,rfl,⟨T,xv,yv,rfl,fT,fun zs hz=>by rw[I.list_inj hz q1];exact e1,fun zs hz=>by rw[I.list_inj hz q2];exact e2,rfl⟩,st₂,fun b hb=>?_⟩
  obtain⟨o,eo,_⟩:∃o,s.heap.get? b=some o/\True:=by
   obtain⟨⟨f0,f1,hf',hz⟩,hTI,⟨a,b',hTO⟩,⟨o1,w1,_,_⟩,⟨o2,w2,_,_⟩⟩:=st;simp only[KS,K4,or_false]at hb;rcases hb with rfl|rfl|rfl|rfl|rfl
   ·exact⟨_,hz,trivial⟩
   ·exact⟨_,hTI,trivial⟩
   ·exact⟨_,hTO,trivial⟩
   ·exact⟨_,w1,trivial⟩
   ·exact⟨_,w2,trivial⟩
  rw[jh fun q=>absurd (K2 eo) (by rw[q];exact Ur.mpr hT)];exact(hf b hb).1
 done:=by
  intro X hP hw hK hc i pins s σ H E I hf st hg;subst hP hw hK;obtain⟨xs,ys,q1,q2,hl⟩:=hg;obtain⟨its1,r1,p1,_⟩:=I.list q1;obtain⟨its2,r2,p2,_⟩:=I.list q2;have n1:=r1.length;have n2:=r2.length
  refine zend (I.ok.hd hc) D st p1.isList p2.isList (hl.elim (fun h=>.inl (by simp;lia)) fun h=>.inr (by simp;lia)) fun h₂ k=>⟨rfl,?_⟩
  exact Inv.turnedN (ch:=[z,TO,i1,i2]) I (fun b hb=>hf b (by simp only[KS,K4,or_false]at hb ⊢;rcases hb with q|q|q|q<;>simp[q])) k
 self:=fun A i s Q E st h=>by
  obtain⟨⟨f0,f1,hf,hz⟩,_⟩:=st
  have ty:s.TypeIs (.ref z) "zip":=⟨_,hz,rfl⟩
  refine wpAny_pyIter_slot ty F.slot_zip_iter (YA F.slot_zip_iter ty F.entry_zip_iter ?_ (F.args_zip_iter_1 _));exact KW (M:=model P w) ⟨_,rfl,"zip",_,ty,Zp.lookup,h⟩
noncomputable def iZip(K:KN)(ta:TA):TI:=fun σ H R=>ta σ H fun vs H1=>∃l1 l2,vs=[.ref l1,.ref l2]/\(∃xs,SqL K H1 l1 xs)/\(∃ys,SqL K H1 l2 ys)/\R (Itz K l1 l2) H1
theorem pi_zip{X:Cx}{x:Str}{px p pos:Pos}{a:Expr}{as:List Expr}{ta:TA}(hg:Gl X "zip")(hm:X.mg "zip"=none)(ha:PA X (a::as) ta)(hs:Qa (a::as) X.env=(false,eval a X.env)::Qa as X.env)(hpl:(backTo pos (Qa as X.env)).any (·.1)=false) :
 PI X (.Name x px) (.Call (.Name "zip" p) (a::as) [] pos) (iZip X.K ta):=by
 intro pins s σ H R I h;refine Call_ (uc I hg hm boot_zip (X4 (thn (ha pos pins s σ H _ I h) fun us s1 ⟨vs,H1,I1,r1,q1⟩=>?_) hs hpl));obtain⟨l1,l2,rfl,⟨xs,hx⟩,⟨ys,hy⟩,q⟩:=q1;obtain⟨u1,u2,rfl,e1,e2⟩:=vals2 r1;cases e1;cases e2;obtain⟨its1,r1,p1,_⟩:=I1.list hx;obtain⟨its2,r2,p2,_⟩:=I1.list hy
 have a1:l1<s1.heap.objs.size:=by obtain⟨_,e,_⟩:=p1.isList;exact K2 e
 have a2:l2<s1.heap.objs.size:=by obtain⟨_,e,_⟩:=p2.isList;exact K2 e
 refine call_zip_2 p1.isList p2.isList fun h₂ hz hTI hTO hi1 hi2 _ hk=>?_
 have D:=zipApart_new a1 a2;refine wpAny_pyIter_zip (s:={ s1 with heap:=h₂ }) hz ⟨_,_,_,_,H1,rfl,I1.kept (t':=s1.toks) hk,turn_zip D,⟨⟨.none,false,.inl rfl,hz⟩,hTI,⟨_,_,hTO⟩,hi1,hi2⟩,fun b hb=>?_,q⟩
 have hb':s1.heap.objs.size<=b:=by
  simp only[KS,K4,or_false]at hb
  rcases hb with rfl|rfl|rfl|rfl|rfl<;>lia
 exact I1.fpOk hb' (I1.hok.fresh hb')
end Z
namespace Z
open PySem PySem.Spec PySem.Calls PyProof.Rows PySem.W L2
section
variable {prog:Qp} {w:World} {A:QH} {E:KO->Shared->Prop} {h:QG} {g:Array Yp} {d:Drawn} {t:Nat} {os:OsState}
variable {nm q:Str} {C N:Addr} {bs bm bmB:List KO} {hdct:Bool} {sn:List Str} {sub:List KO} {ab:Bool} {col:Option Bool} {dd:Option Addr} {k0 k1 k2 k3 k5:Option KO} {B Bn newId nid initId inN:String} {bmN:List KO}
theorem type_initU(Fn:Uk Bn newId inN bmN)(hBn:bmB.contains (.type Bn)=true)(F:Uk B nid initId bmB)(T:OwnTail h bmB bm){mN:Str->Option KO}{rest:List KO}{fI:Addr}{oI:Obj}{Q:PySem.Fin->Shared->Prop}
 (hC:h.get? C=some (Xn nm q C N bs bm hdct sn sub ab col dd k0 k1 k2 k3 k5 newId)) (hn:h.Ns N mN) (hi:mN "__init__"=some (.ref fI)) (hfI:h.get? fI=some oI) (hfc:oI.cls=.type "function")
 (hq:∀h' e,Y0 h h' e (.ref C) rest->wpAny (model prog w) A (call (.ref fI) (.ref e::rest)) (fun r s'=>r=.none/\Q (.done (.ret (.ref e))) s') E ⟨h',g,d,t,os⟩) (hrest:rest.length<=sizeLine) :
 wpAny (model prog w) A (XY.«type.__call__» ⟨.ref C::rest,[]⟩) Q E ⟨h,g,d,t,os⟩:=by
 repeat (first|(with_reducible refine QX hC ?_)|(with_reducible refine wpAny_madeBy_exc hC ?_)|wp_step)
 refine codeAny_call_builtin_code (Ut _ Fn.quiet) (wpAny_check_new_subU Fn hBn T hC (codeAny_exc_new_subU Fn hBn F T hC ?_ hrest));show wpAny _ _ _ _ _ _;generalize hh2:(h.push { cls:=.type "tuple",data:=.seq rest.toArray }).push { cls:=.ref C,data:=.fields #[.ref h.objs.size,.none,.none,.none,.bool false,.none] }=h2
 have kp:∀b o,h.get? b=some o->h2.get? b=some o:=fun b o e=>by rw[<- hh2];exact KQ _ (KQ _ e)
 have he:h2.get? (h.objs.size+1)=some { cls:=.ref C,data:=.fields #[.ref h.objs.size,.none,.none,.none,.bool false,.none] }:=by rw[<- hh2];heap_get
 have ht:h2.get? h.objs.size=some { cls:=.type "tuple",data:=.seq rest.toArray }:=by rw[<- hh2];exact KQ _ (Heap.get?_push_at rfl rfl)
 have hcC:(Xa C::bm).contains (.ref C)=true:=by simp
 have hC2:=kp _ _ hC;have hn2:h2.Ns N mN:=hn.keeps kp;unfold ZR
 repeat (first|(with_reducible refine QX he ?_)|(with_reducible refine Zd hC2 ?_;rw[hcC])|wp_step)
 show wpAny _ _ (XE (.ref C) _) _ _ _;refine wpAny_typeLookup_tail hC2 hn2 (T.keeps kp) F.mroIs F.init.lookup ?_;rw[hi];refine QB (KL ?_);unfold bindSpecial;refine KL (wpAny_typeOf (T:="function") ⟨_,kp _ _ hfI,hfc⟩ ?_);rw[if_pos (by decide)]
 have made:Y0 h h2 (h.objs.size+1) (.ref C) rest:=⟨kp,YV (Nat.le_succ _),h.objs.size,he,YV (K6 _),ht⟩
 refine KW (KL (QY (hq h2 _ made) (fun r s' hr=>?_) fun _ _ x=>x));obtain⟨rfl,hQ⟩:=hr
 wp_walk
 exact hQ
theorem call_initU(Fn:Uk Bn newId inN bmN)(hBn:bmB.contains (.type Bn)=true)(F:Uk B nid initId bmB)(T:OwnTail h bmB bm){mN:Str->Option KO}{rest:List KO}{fI:Addr}{oI:Obj}{Q:KO->Shared->Prop}
 (hC:h.get? C=some (Xn nm q C N bs bm hdct sn sub ab col dd k0 k1 k2 k3 k5 newId)) (hn:h.Ns N mN) (hi:mN "__init__"=some (.ref fI)) (hfI:h.get? fI=some oI) (hfc:oI.cls=.type "function")
 (hq:∀h' e,Y0 h h' e (.ref C) rest->wpAny (model prog w) (A.under (.builtin "type.__call__" ⟨.ref C::rest,[]⟩)) (call (.ref fI) (.ref e::rest)) (fun r s'=>r=.none/\Q (.ref e) s') E ⟨h',g,d,t,os⟩) (hrest:rest.length<=sizeLine) :
 wpAny (model prog w) A (call (.ref C) rest) Q E ⟨h,g,d,t,os⟩:=by
 have l1:=tc_lookup;have l2:=tc_bind (.ref C)
 have ty:(⟨h,g,d,t,os⟩:Shared).TypeIs (.ref C) "type":=⟨_,hC,rfl⟩
 refine Zt (codeAny_of_tree (show wpAny _ _ (callAny (.ref C) _) _ _ _ from ?_))
 repeat (any_goals (first|assumption|(with_reducible refine QX hC ?_)|wp_step))
 exact⟨rfl,codeAny_call_builtin_at (Ut _ (by decide +kernel)) entry_typeCall (wpAny_check_type_call_sub hC (type_initU Fn hBn F T hC hn hi hfI hfc hq hrest))⟩
end
section
variable {M:Model} {A:QH} {E:KO->Shared->Prop} {env:Env}
variable {nm q:Str} {C N:Addr} {bs bm:List KO} {hdct:Bool} {sn:List Str} {sub:List KO} {ab:Bool} {col:Option Bool} {dd:Option Addr} {k0 k1 k2 k3 k5:Option KO} {newId:String}
theorem raise_dict{s:Shared}{x:Sem KO}{Q:Flow->Shared->Prop}(hb:bm.contains (.type "BaseException")=true)(hh:A.handled=none)
 (hx:wpAny M A x (fun v s₁=>∃e t dct,v=.ref e/\s₁.heap.get? C=some (Xn nm q C N bs bm hdct sn sub ab col dd k0 k1 k2 k3 k5 newId)/\s₁.heap.get? e=some { cls:=.ref C,dict:=dct,data:=.fields #[.ref t,.none,.none,.none,.bool false,.none] }/\E (.ref e) s₁) E s) :
 wpAny M A (raiseStmt env (some x) none) Q E s:=by
 have hcB:(Xa C::bm).contains (.type "BaseException")=true:=by rw[Zv,hb,Ug]
 unfold raiseStmt;refine KL (QY hx (fun v s₁ ⟨e,t,dct,ev,hC,he,hE⟩=>?_) fun _ _ x=>x);subst ev;obtain⟨hp,g,d,tk,os⟩:=s₁
 repeat (first|(with_reducible refine QX he ?_)|(with_reducible refine QX hC ?_)|(with_reducible refine Zd hC ?_;rw[hcB])|wp_step)
 exact wpAny_raiseNew_none hh hE
end
end Z
namespace Z
open PySem PySem.Spec PySem.Calls PyProof.Rows PySem.W L2
section
variable {M:Model} {A:QH} {E:KO->Shared->Prop} {s:Shared}
noncomputable def xX(h:QG)(e:Addr)(dct:Option Addr):Prop:=∃o,h.get? e=some o/\o.dict=dct
theorem uP(o:Obj)(f:Array KO->Array KO):(ZY f o).dict=o.dict:=by
 unfold ZY
 split<;>rfl
theorem noteD{base:QG}{env:Env}{outer:List Env}{L e:Addr}{oe:Obj}{vs:Array KO}{head a0:KO}{hadNext:Bool}{Q:Unit->Shared->Prop}
 (hfr:A.frames=some (env::outer)) (hl:s.heap.FunFrames base (env::outer)) (hf:env.frame=some L) (he:s.heap.get? e=some oe) (hkb:base.StaysIn s.heap) (hen:base.get? e=none) (hd:oe.data=.fields vs) (hsz:1<vs.size) (h0:vs[0]?=some a0)
 (h:∀h',QG.NotedW base (env::outer) e oe.cls a0 (rawInt L) s.heap h'->xX h' e oe.dict->Q () { s with heap:=h' }) :
 wpAny M A (do let a <- frameOf env;let pl <- entryPlaceOf L hadNext;let b <- EntryCells.newEntry head a .none (rawInt L) .none pl;ZG (.ref e) 1 b) Q E s:=by
 have nf:e ∉ (env::outer).filterMap (·.frame):=fun hm=>by
  obtain⟨_,o,ho,hnf⟩:=hl.mem hm;rw[he]at ho;cases ho;exact hnf vs hd
 refine KL (wpAny_frameOf_fun hfr hl hf fun h1 hs=>KL (wpAny_entryPlaceOf fun pl hpl=>?_));unfold EntryCells.newEntry newFields;refine KL (wpAny_newObj_type ?_ (hpl.sizeOk5 _ _ _ _ _));generalize htb:({ cls:=.type "traceback",dict:=none,data:=.fields ([head,.ref L,.none,rawInt L,.none]++(if pl.isEmpty then K5 6 YD else pl)).toArray }:Obj)=tb;have he1:h1.get? e=some oe:=(hs.2.1 e nf).trans he;have hne:h1.objs.size≠e:=YE (K2 he1);have he2:(h1.push tb).get? e=some oe:=KQ _ he1;have hT2:(h1.push tb).get? h1.objs.size=some tb:=Qh h1 (by rw[<- htb];rfl)
 let f1:Obj->Obj:=ZY (·.setIfInBounds 1 (Xa h1.objs.size))
 have d3:(f1 oe).data=.fields (vs.setIfInBounds 1 (Xa h1.objs.size)):=Obj.data_mapFields hd _;have he3:((h1.push tb).update e f1).get? e=some (f1 oe):=Xx _ he2 (Obj.isFreed_of_fields d3);have hT3:((h1.push tb).update e f1).get? h1.objs.size=some tb:=(Qy _ _ (Xm hne)).trans hT2;refine wpAny_setField he2 hd hsz (h _ ?_ ⟨f1 oe,he3,uP _ _⟩)
 have kb:base.StaysIn h1:=fun b o hb=>(hs.2.1 b fun hm=>by rw[(hl.mem hm).1]at hb;cases hb).trans (hkb b o hb)
 have keep:∀b o,b≠e->h1.get? b=some o->((h1.push tb).update e f1).get? b=some o:=fun b o hb q=>by
  rw[Qy _ _ (Xm hb)];exact KQ _ q
 have other:∀b o,s.heap.get? b=some o->(∀vs,o.data ≠ .fields vs)->b≠e:=fun b o q n z=>by
  rw[z,he]at q;cases q;exact n vs hd
 have fresh:base.get? h1.objs.size=none:=by
  cases q:base.get? h1.objs.size with
  |none=>rfl
  |some o=>exact absurd (K2 (kb _ _ q)) (Q9 _)
 have dT:tb.data=.fields ([head,.ref L,.none,rawInt L,.none]++(if pl.isEmpty then K5 6 YD else pl)).toArray:=by rw[<- htb]
 refine⟨fun b o q=>keep b o (fun z=>by rw[z,hen]at q;cases q) (kb b o q),hl.of_keeps fun b o q n=>?_,⟨f1 oe,_,h1.objs.size,tb,_,he3,⟨Obj.cls_mapFields _ _,?_⟩,d3,by simp[hsz],fresh,hne,hT3,dT,?_⟩,fun b o q n=>?_⟩
 ·obtain⟨sl,z⟩:=hs.2.2 b o q;exact⟨_,keep b _ (other b o q n) z,rfl⟩
 ·rw[Array.getElem?_setIfInBounds_ne (by decide)];exact h0
 ·simp
 ·obtain⟨sl,z⟩:=hs.2.2 b o q;exact⟨sl,keep b _ (other b o q n) z⟩
theorem landD{base:QG}{l:List Env}{e:Addr}{cls a0 fl:KO}{dct:Option Addr}{Q:Unit->Shared->Prop}(hkb:base.StaysIn s.heap)(hen:base.get? e=none)(hl:s.heap.FunFrames base l)(ht:s.heap.TracedAtW base e cls a0 fl)(hdc:xX s.heap e dct)
 (h:∀h',YG base l e cls a0 h'->xX h' e dct->s.heap.UpToSlots h'->Q () { s with heap:=h' }):wpAny M A (setFlight (.ref e) none) Q E s:=by
 obtain⟨oe,vs,T,oT,ts,he,hc,hd,h1,hnT,hTe,hT,hdT,h3⟩:=ht;obtain⟨o,ho,hdo⟩:=hdc;unfold setFlight;refine KL (Q3 he hd h1 ?_);rw[if_pos (by simp)];have sz:3<ts.size:=(Yd.mp h3).1;have dT:=Obj.data_mapFields hdT (·.setIfInBounds 3 ((none:Option Addr).elim YD fun f=>rawInt f));refine wpAny_setField hT hdT sz (h _ ?_ ?_ fun b o q n=>?_)
 ·have ot:∀b,b≠T->(s.heap.update T (ZY (·.setIfInBounds 3 ((none:Option Addr).elim YD fun f=>rawInt f)))).get? b=s.heap.get? b:=fun b hb=>Qy _ _ (Xm hb)
  refine⟨fun b o q=>(ot b fun z=>by rw[z,hnT]at q;cases q).trans (hkb b o q),hen,hl.of_keeps fun b o q n=>⟨o,(ot b fun z=>?_).trans q,rfl⟩,oe,vs,T,_,_,(ot e (Xm hTe)).trans he,hc,hd,h1,hnT,hTe,Xx _ hT (Obj.isFreed_of_fields dT),dT,by simp[sz]⟩;rw[z,hT]at q;cases q;exact n ts hdT
 ·exact⟨o,(Qy _ _ hTe).trans ho,hdo⟩
 ·refine⟨o.slots,(Qy _ _ fun z=>?_).trans q⟩;rw[<- z,hT]at q;cases q;exact n ts hdT
theorem leaveD1{base:QG}{env:Env}{outer:List Env}{L e:Addr}{oe:Obj}{vs:Array KO}{a0:KO}{Q:Unit->Shared->Prop}
 (hfr:A.frames=some (env::outer)) (hl:s.heap.FunFrames base (env::outer)) (hf:env.frame=some L) (he:s.heap.get? e=some oe) (hkb:base.StaysIn s.heap) (hen:base.get? e=none) (hd:oe.data=.fields vs) (h1:vs[1]?=some .none) (h0:vs[0]?=some a0)
 (h:∀h',QG.LeftW base (env::outer) e oe.cls a0 s.heap h'->xX h' e oe.dict->Q () { s with heap:=h' }):wpAny M A (leaving env (.ref e)) Q E s:=by
 unfold leaving noteFrame;simp only[hf];refine KL (KL (Q3 he hd h1 ?_));rw[if_neg (by decide)]
 exact noteD hfr hl hf he hkb hen hd (Yd.mp h1).1 h0 fun h2 ⟨x1,x2,x3,x4⟩ dd=>landD (s:={ s with heap:=h2 }) x1 hen x2 x3 dd fun h3 ⟨y1,_,y3,y4⟩ d2 us=>h h3 ⟨y1,y3,y4,fun b o q n=>by obtain⟨sl,z⟩:=x4 b o q n;obtain⟨s2,z2⟩:=us b { o with slots:=sl } z n;exact⟨s2,z2⟩⟩ d2
theorem lookD{base:QG}{env:Env}{outer:List Env}{L e:Addr}{cls a0:KO}{dct:Option Addr}{Q:Unit->Shared->Prop}
 (hfr:A.frames=some (env::outer)) (hf:env.frame=some L) (hfl:YG base (env::outer) e cls a0 s.heap) (hdc:xX s.heap e dct)
 (h:∀h',QG.HeldW base (env::outer) e cls a0 L h'->xX h' e dct->s.heap.UpToSlots h'->Q () { s with heap:=h' }):wpAny M A (noteFrame (.ref e) env) Q E s:=by
 obtain⟨hkb,hen,hl,oe,vs,T,oT,ts,he,⟨hc,h0⟩,hd,h1,hnT,hTe,hT,hdT,h3⟩:=hfl;obtain⟨o,ho,hdo⟩:=hdc;rw[he]at ho;cases ho;subst hc hdo;unfold noteFrame;simp only[hf];refine KL (Q3 he hd h1 ?_);rw[if_pos (by simp)];refine KL (Q3 hT hdT h3 ?_);rw[if_neg (by simp[rawInt])];refine KL (wpAny_setField hT hdT (Yd.mp h3).1 ?_);generalize hh:s.heap.update T (ZY (·.setIfInBounds 3 YD))=h2
 have ot:∀b,b≠T->h2.get? b=s.heap.get? b:=fun b hb=>by rw[<- hh];exact Qy _ _ (Xm hb)
 have nT:∀b o,s.heap.get? b=some o->(∀vs,o.data ≠ .fields vs)->b≠T:=fun b o q n z=>by
  rw[z,hT]at q;cases q;exact n ts hdT
 exact noteD (s:={ s with heap:=h2 }) hfr (hl.of_keeps fun b o q n=>⟨o,(ot b (nT b o q n)).trans q,rfl⟩) hf ((ot e (Xm hTe)).trans he) (fun b o q=>(ot b fun z=>by rw[z,hnT]at q;cases q).trans (hkb b o q)) hen hd (Yd.mp h1).1 h0 fun h' ⟨x1,x2,x3,x4⟩ dd=>h h' ⟨x1,hen,x2,x3⟩ dd fun b o q n=>x4 b o ((ot b (nT b o q n)).trans q) n
theorem leaveD2{base:QG}{env:Env}{outer:List Env}{L e:Addr}{cls a0:KO}{dct:Option Addr}{Q:Unit->Shared->Prop}
 (hfr:A.frames=some (env::outer)) (hf:env.frame=some L) (hfl:YG base (env::outer) e cls a0 s.heap) (hdc:xX s.heap e dct)
 (h:∀h',YG base outer e cls a0 h'->xX h' e dct->s.heap.UpToSlots h'->Q () { s with heap:=h' }):wpAny M A (leaving env (.ref e)) Q E s:=by
 unfold leaving;refine KL (lookD hfr hf hfl hdc fun h2 hd2 dd us=>?_);obtain⟨x1,x2,x3,x4⟩:=hd2
 refine landD (s:={ s with heap:=h2 }) x1 x2 x3 x4 dd fun h3 fl d3 us2=>h h3 ?_ d3 (us.trans us2)
 obtain⟨y1,y2,⟨_,_,y3⟩,y4⟩:=fl;exact⟨y1,y2,y3,y4⟩
end
end Z
namespace Z
open PySem PySem.Spec PySem.Calls PyProof.Rows PySem.W L2
inductive TailN (n:Str) (h:QG) (bmB:List KO):List KO->Prop
 |base:TailN n h bmB bmB
 |own {a:Addr} {c0:KO} {dd:Option Addr} {cd:ClassData} {sl:Array (Option KO)} {m:Str->Option KO} {tl:List KO} (hA:h.get? a=some { cls:=c0,dict:=dd,data:=.cls cd,slots:=sl }) (hN:h.Ns cd.ns m) (hn:m n=none) (r:TailN n h bmB tl):TailN n h bmB (.ref a::tl)
section
variable {prog:Qp} {w:World} {M:Model} {A:QH} {E:KO->Shared->Prop} {h:QG} {g:Array Yp} {d:Drawn} {t:Nat} {os:OsState} {a dA:Addr} {o:Obj} {vs:Array KO} {t0:Addr}
 {nm q:Str} {C N:Addr} {bs bm bmB:List KO} {hdct:Bool} {sn:List Str} {sub:List KO} {ab:Bool} {col:Option Bool} {dd:Option Addr} {k0 k1 k2 k3 k5:Option KO} {B newId:String} {mN mD:Str->Option KO} {n:Str}
theorem along_name{tl:List KO}{y:Option KO}{Q:Option KO->Shared->Prop}(T:TailN n h bmB tl)(hr:lookupAlong bmB n=pure y)(hq:Q y ⟨h,g,d,t,os⟩):wpAny M A (lookupAlong tl n) Q E ⟨h,g,d,t,os⟩:=by
 induction T with
 |base=>rw[hr];exact KW hq
 |own hA hN hn _ ih =>
  rw[lookupAlong_cons];exact KL (wpAny_classOwn_cls hA hN (by rw[hn];exact ih))
theorem xG{y:Option KO}{Q:Option KO->Shared->Prop}(hC:h.get? C=some (Xn nm q C N bs bm hdct sn sub ab col dd k0 k1 k2 k3 k5 newId))(hn:h.Ns N mN)(T:TailN n h bmB bm)(hbm:mroOf (.type B)=pure bmB)(hB:XE (.type B) n=pure y)(h0:mN n=none)
 (hq:Q y ⟨h,g,d,t,os⟩):wpAny M A (XE (.ref C) n) Q E ⟨h,g,d,t,os⟩:=by
 have hr:lookupAlong bmB n=pure y:=by rw[typeLookup_eq,hbm]at hB;exact hB
 rw[typeLookup_eq];refine KL (wpAny_mroOf_exc hC ?_);rw[lookupAlong_cons];exact KL (wpAny_classOwn_exc hC hn (by rw[h0];exact along_name T hr hq))
theorem fld_entry{tk:Tok}{v:KO}{Q:PySem.Fin->Shared->Prop}(hC:h.get? C=some (Xn nm q C N bs bm true sn sub ab col dd k0 k1 k2 k3 k5 newId))(hN:h.Ns N mN)(T:TailN n h bmB bm)(hbm:mroOf (.type B)=pure bmB)(hB:XE (.type B) n=pure none)(h0:mN n=none)
 (hx:h.get? a=some o) (hc:o.cls=.ref C) (hd:o.data=.fields vs) (hdc:o.dict=some dA) (hD:h.Ns dA mD) (hv:mD n=some v) (hq:Q (.done (.ret v)) ⟨h,g,d,t,os⟩) :
 wpAny (model prog w) A (XY.«object.__getattribute__» ⟨[.ref a,.str n tk],[]⟩) Q E ⟨h,g,d,t,os⟩:=by
 repeat (any_goals (first|assumption|(with_reducible refine QX hx ?_;rw[hc])|(with_reducible refine xG hC hN T hbm hB h0 ?_)|wp_step))
 rw[hd];show wpAny _ _ (instanceDict a false) _ _ _;unfold instanceDict;refine KL (QX hx ?_);rw[hc];refine KL ?_;unfold classData
 repeat (any_goals (first|assumption|(with_reducible refine QX hC ?_)|wp_step))
 rw[hdc];refine KW (show wpAny _ _ (nsGet dA n) _ _ _ from wpAny_nsGet hD ?_);rw[hv]
 repeat (any_goals (first|assumption|wp_step))
theorem fld_call{tk:Tok}{v:KO}{R:Result->Shared->Prop}(FB:ExcAttrBase B bmB)(hC:h.get? C=some (Xn nm q C N bs bm true sn sub ab col dd k0 k1 k2 k3 k5 newId))(hN:h.Ns N mN)(TQ:OwnTailQ h bmB bm)(T:TailN n h bmB bm)(hB:XE (.type B) n=pure none)(h0:mN n=none)
 (hx:h.get? a=some o) (hc:o.cls=.ref C) (hd:o.data=.fields vs) (hdc:o.dict=some dA) (hD:h.Ns dA mD) (hv:mD n=some v) (hq:R (.ok (.ret v)) ⟨h,g,d,t,os⟩) :
 ZT (model prog w) A (.call (.builtin "BaseException.__getattribute__") ⟨[.ref a,.str n tk],[]⟩) R ⟨h,g,d,t,os⟩ :=
 XC FB.ga.plain F.entry_bexc_ga (wpAny_check_ga_own FB hC TQ hx hc (fld_entry hC hN T FB.mro hB h0 hx hc hd hdc hD hv hq))
theorem fld_by{tk:Tok}{v:KO}{fill expr:Bool}{Q:KO->Shared->Prop}(FB:ExcAttrBase B bmB)(hC:h.get? C=some (Xn nm q C N bs bm true sn sub ab col dd k0 k1 k2 k3 k5 newId))(hN:h.Ns N mN)(m1:mN "__getattribute__"=none)(m2:mN "__getattr__"=none)(TQ:OwnTailQ h bmB bm)(T1:TailN "__getattribute__" h bmB bm)(T2:TailN "__getattr__" h bmB bm)(T:TailN n h bmB bm)(hB:XE (.type B) n=pure none)(h0:mN n=none)
 (hx:h.get? a=some o) (hc:o.cls=.ref C) (hd:o.data=.fields vs) (hdc:o.dict=some dA) (hD:h.Ns dA mD) (hv:mD n=some v) (nb:∀id,v ≠ .builtin id) (hq:Q v ⟨h,g,d,t,os⟩) :
 wpAny (model prog w) A (getAttrBy (.ref a) (.str n tk) fill expr) Q E ⟨h,g,d,t,os⟩:=by
 have b3:=FB.ga.bind (.ref a)
 have y0:(expr&&onTheHeap (YR "BaseException.__getattribute__"))=false:=by cases expr<;>rfl
 have y2:(YR "BaseException.__getattribute__" == YR "object.__getattribute__")=false:=by decide +kernel
 have y1:(onTheHeap (Xa C)&&YR "BaseException.__getattribute__" == YR "object.__getattribute__")=false:=by rw[y2];rfl
 repeat (any_goals (first|assumption|(with_reducible refine QX hx ?_;rw[hc])|(with_reducible refine xG hC hN T1 FB.mro FB.ga.lookup m1 ?_)|(with_reducible refine xG hC hN T2 FB.mro FB.noGetattr m2 ?_)|wp_step))
 refine fld_call FB hC hN TQ T hB h0 hx hc hd hdc hD hv ?_
 repeat (any_goals (first|assumption|wp_step))
 cases v<;>first|exact KW hq|exact absurd rfl (nb _)
theorem fld_attr{v:KO}{expr:Bool}{Q:KO->Shared->Prop}(FB:ExcAttrBase B bmB)(hC:h.get? C=some (Xn nm q C N bs bm true sn sub ab col dd k0 k1 k2 k3 k5 newId))(hN:h.Ns N mN)(m1:mN "__getattribute__"=none)(m2:mN "__getattr__"=none)(TQ:OwnTailQ h bmB bm)(T1:TailN "__getattribute__" h bmB bm)(T2:TailN "__getattr__" h bmB bm)(T:TailN n h bmB bm)(hB:XE (.type B) n=pure none)(h0:mN n=none)
 (hx:h.get? a=some o) (hc:o.cls=.ref C) (hd:o.data=.fields vs) (hdc:o.dict=some dA) (hD:h.Ns dA mD) (hv:mD n=some v) (nb:∀id,v ≠ .builtin id) (hq:Q v ⟨h,g,d,t+1,os⟩) :
 wpAny (model prog w) A (getAttr (.ref a) n expr) Q E ⟨h,g,d,t,os⟩:=by
 unfold getAttr
 repeat (any_goals (first|assumption|(with_reducible apply fld_by FB hC hN m1 m2 TQ T1 T2 T hB h0 hx hc hd hdc hD hv nb)|wp_step))
end
end Z
namespace Z
open PySem PySem.Spec PySem.Calls PyProof.Rows PySem.W L2
open Builtin Builtin.ObjectAttr
theorem TailN.has{n:Str}{h:QG}{bmB tl:List KO}(T:TailN n h bmB tl){x:String}(hb:bmB.contains (.type x)=true):tl.contains (.type x)=true:=by
 induction T with
 |base=>exact hb
 |own _ _ _ _ ih=>rw[Zv,ih,Ug]
theorem TailN.pass{n:Str}{h:QG}{bmB tl:List KO}(T:TailN n h bmB tl){self:KO}(hb:refuseLoop self "__setattr__" bmB=pure ()):refuseLoop self "__setattr__" tl=pure ():=by
 induction T with
 |base=>exact hb
 |own _ _ _ _ ih=>rw[refuseLoop_ref];exact ih
section
variable {prog:Qp} {w:World} {A:QH} {E:KO->Shared->Prop} {h:QG} {g:Array Yp} {d:Drawn} {t:Nat} {os:OsState}
variable {nm q:Str} {C N x:Addr} {bs bm bmB:List KO} {sn:List Str} {sub:List KO} {ab:Bool} {col:Option Bool} {dd:Option Addr} {k0 k1 k2 k3 k5:Option KO} {B newId sa owner:String}
 {mN:Str->Option KO} {name:Str} {v:KO} {o:Obj} {vs:Array KO}
theorem fld_store{tk:Tok}{Q:PySem.Fin->Shared->Prop}(SF:StoreFacts B bmB sa owner)(hC:h.get? C=some (Xn nm q C N bs bm true sn sub ab col dd k0 k1 k2 k3 k5 newId))(hn:h.Ns N mN)(hna:mN name=none)(T:TailN name h bmB bm)(hB:XE (.type B) name=pure none)
 (hx:h.get? x=some o) (hc:o.cls=.ref C) (hf:o.data=.fields vs) (hdn:o.dict=none)
 (hq:∀h' tk',h'.get? x=some { cls:=o.cls,dict:=some h.objs.size,data:=o.data,slots:=o.slots }->h'.Ns1 h.objs.size (fun y=>if y=name then some v else none)->(∀b ob,b≠x->h.get? b=some ob->h'.get? b=some ob)->Q (.done (.ret .none)) ⟨h',g,d,tk',os⟩) :
 wpAny (model prog w) A (XY.«object.__setattr__» ⟨[.ref x,.str name tk,v],[]⟩) Q E ⟨h,g,d,t,os⟩:=by
 have ps:=T.pass (SF.passes (.ref x));have xs:x≠h.objs.size:=Q0 (K2 hx);unfold XY.«object.__setattr__»
 repeat (first|rw[refuse_eq]|(rw[refuseLoop_ref,ps])|(with_reducible refine QX hx ?_;rw[hc])|(with_reducible refine wpAny_mroOf_exc hC ?_)|(with_reducible refine xG hC hn T SF.mro hB hna ?_)|wp_step)
 rw[hdn,hf,if_neg (by simp[typeHasDict])];have x1:(h.push { cls:=.type "dict",data:=.dict #[] }).get? x=some o:=KQ _ hx;refine KL (wpAny_alloc' (KL (wpAny_update' x1 (KW ?_))));generalize hh:((h.push { cls:=.type "dict",data:=.dict #[] }).update x fun o=>{ cls:=o.cls,dict:=some h.objs.size,data:=o.data,slots:=o.slots })=h2
 have gd:h2.get? h.objs.size=some { cls:=.type "dict",data:=.dict #[] }:=by rw[<- hh];exact(Heap.get?_update_ne _ _ _ _ xs.symm).trans (Heap.get?_push_at rfl rfl)
 have gx:h2.get? x=some { cls:=o.cls,dict:=some h.objs.size,data:=o.data,slots:=o.slots }:=by
  rw[<- hh];refine Xx _ x1 ?_;have:=(QG.get?_some_iff.mp hx).2;obtain⟨oc,od,odt,osl⟩:=o
  cases odt<;>first|rfl|exact this
 have nd:h2.Ns h.objs.size (fun _=>none):=⟨_,#[],_,gd,rfl,fun e he=>absurd he (by simp),fun _=>rfl⟩
 show wpAny _ _ (storeInDict h.objs.size (.str name tk) name v) _ _ _;unfold storeInDict newKeyGuard;refine KL (KW (KL (wpAny_nsSet1 (QG.Ns1.of_empty nd) fun h' hn' hs=>?_)));obtain⟨oD,esD,epD,hoD,hdD,hcD⟩:=hn'.count (Within.cons name v Within.nil);refine KL (wpAny_lookBehind hoD (by rw[hdD];exact pastItsLine_dict (Qx hcD (by rw[Xc,XG,Xv];omega))) ?_)
 wp_walk
 exact hq h' _ ((hs.2 x xs).trans gx) hn' fun b ob hb q=>(hs.2 b (Q0 (K2 q))).trans (by rw[<- hh];exact(Heap.get?_update_ne _ _ _ _ hb).trans (KQ _ q))
theorem check_saU{M:Model}{nameV:KO}{Q:Unit->Shared->Prop}{n:Str}(SF:StoreFacts B bmB sa owner)(hC:h.get? C=some (Xn nm q C N bs bm true sn sub ab col dd k0 k1 k2 k3 k5 newId))(T:TailN n h bmB bm)(hx:h.get? x=some o)(hc:o.cls=.ref C)(hq:Q () ⟨h,g,d,t,os⟩) :
 wpAny M A (Y6 sa ⟨[.ref x,nameV,v],[]⟩) Q E ⟨h,g,d,t,os⟩:=by
 have co:(Xa C::bm).contains (.type owner)=true:=by rw[Zv,T.has SF.hasOwner,Ug]
 have ar:=SF.args (.ref x) nameV v;simp only[Y6,SF.kind,SF.split];refine KL ?_;unfold ZR
 repeat (first|(with_reducible refine QX hx ?_;rw[hc])|(with_reducible refine Zd hC ?_;rw[co])|wp_step)
 cases sg:Manifest.signature? sa with
 |none=>exact KW hq
 |some sig =>
  simp only[argsOk,sg]at ar;show wpAny M A (Bind.checkArgs sa sig ⟨[.ref x,nameV,v],[]⟩) Q E _;rw[show Bind.checkArgs sa sig ⟨[.ref x,nameV,v],[]⟩=pure () from ar];exact KW hq
theorem fld_setattr{Q:Unit->Shared->Prop}(SF:StoreFacts B bmB sa owner)(hC:h.get? C=some (Xn nm q C N bs bm true sn sub ab col dd k0 k1 k2 k3 k5 newId))(hn:h.Ns N mN)(hns:mN "__setattr__"=none)(TS:TailN "__setattr__" h bmB bm)(hna:mN name=none)(T:TailN name h bmB bm)(hB:XE (.type B) name=pure none)
 (hx:h.get? x=some o) (hc:o.cls=.ref C) (hf:o.data=.fields vs) (hdn:o.dict=none)
 (hq:∀h' tk',h'.get? x=some { cls:=o.cls,dict:=some h.objs.size,data:=o.data,slots:=o.slots }->h'.Ns1 h.objs.size (fun y=>if y=name then some v else none)->(∀b ob,b≠x->h.get? b=some ob->h'.get? b=some ob)->Q () ⟨h',g,d,tk',os⟩) :
 wpAny (model prog w) A (setAttr (.ref x) name v) Q E ⟨h,g,d,t,os⟩:=by
 have b3:=SF.slot.bind (.ref x);unfold setAttr callSpecial? specialOf
 repeat (any_goals (first|assumption|(with_reducible refine QX hx ?_;rw[hc])|(with_reducible refine xG hC hn TS SF.mro SF.slot.lookup hns ?_)|wp_step))
 refine XC SF.slot.plain SF.entry (check_saU SF hC T hx hc (fld_store SF hC hn hna T hB hx hc hf hdn fun h' tk' g1 g2 g3=>?_))
 repeat (any_goals (first|assumption|wp_step))
 exact hq h' tk' g1 g2 g3
end
end Z
namespace Z
open PySem PySem.Spec PySem.Calls PyProof.Rows PySem.W L2
section
variable {prog:Qp} {w:World} {A:QH} {E:KO->Shared->Prop} {h:QG} {g:Array Yp} {d:Drawn} {t:Nat} {os:OsState}
variable {nm q:Str} {C N e t0:Addr} {bs bm bmB:List KO} {hdct:Bool} {sn:List Str} {sub:List KO} {ab:Bool} {col:Option Bool} {dd:Option Addr} {k0 k1 k2 k3 k5:Option KO} {B newId nid initId:String}
theorem init_base{rest:List KO}{Q:KO->Shared->Prop}(F:Uk B nid initId bmB)(T:OwnTail h bmB bm)(hC:h.get? C=some (Xn nm q C N bs bm hdct sn sub ab col dd k0 k1 k2 k3 k5 newId))
 (he:h.get? e=some { cls:=.ref C,data:=.fields #[.ref t0,.none,.none,.none,.bool false,.none] }) (hrest:rest.length<=sizeLine)
 (hq:∀h',(∀b o,b≠e->h.get? b=some o->h'.get? b=some o)->h'.get? e=some { cls:=.ref C,data:=.fields #[.ref h.objs.size,.none,.none,.none,.bool false,.none] }->h'.get? h.objs.size=some { cls:=.type "tuple",data:=.seq rest.toArray }->Q .none ⟨h',g,d,t,os⟩) :
 wpAny (model prog w) A (call (.builtin initId) (.ref e::rest)) Q E ⟨h,g,d,t,os⟩:=by
 refine Zt (XC F.init.plain F.initEntry (wpAny_check_init_subU F T hC he rfl ?_))
 wp_walk
 have ne:e≠h.objs.size:=Q0 (K2 he);refine hq _ (fun b o hb q=>?_) ?_ ?_
 ·rw[Qy _ _ (Xm hb)];exact KQ _ q
 ·rw[Xx _ (KQ _ he) rfl];rfl
 ·rw[Qy _ _ ne];exact Heap.get?_push_at rfl rfl
end
end Z
namespace Z
open PySem PySem.Spec PyProof.Rows PySem.W L2
structure Cover (B:QG) (outer:List Env) (H1:Hp) (h0 h:QG):Prop where
 trk:∀b u o,H1 b=some u->h.get? b=some o->B.get? b=some o
 old:∀b o o',h0.get? b=some o->b ∉ frs outer->h.get? b=some o'->B.get? b=some o'
noncomputable def za(P:Qp)(w:World)(cls:Addr)(outer:List Env)(H:Hp)(s:Shared)(H1:Hp)(dct:Option Addr)(e:KO)(s':Shared):Prop :=
 ∃ea a0 B,e=.ref ea/\s'.os=s.os/\Ue s'.gens/\Un (frs outer) [] H H1 s.heap s'.heap/\HOk P w H1 s'.heap/\jf H H1/\YG B outer ea (.ref cls) a0 s'.heap/\H1 ea=none/\Cover B outer H1 s.heap s'.heap/\(dct=none\/xX s'.heap ea dct)
section
variable {P:Qp} {w:World} {H H1:Hp} {h0 h h' B B':QG} {outer l:List Env}
theorem Kw{a:Addr}{o:HO}(x:qF P w H h a o):∃u,h.get? a=some u:=by
 cases o with
 |lst xs=>obtain⟨_,_,_,_,e⟩:=x;exact⟨_,e⟩
 |tup xs=>obtain⟨_,_,_,o,e,_⟩:=x;exact⟨o,e⟩
 |dK kvs=>obtain⟨_,_,_,_,o,_,_,e,_⟩:=x;exact⟨o,e⟩
 |dT kvs=>obtain⟨_,_,_,_,o,_,_,e,_⟩:=x;exact⟨o,e⟩
 |set S n=>obtain⟨o,_,_,_,e,_⟩:=x;exact⟨o,e⟩
 |ins C dx fs=>obtain⟨_,_,_,e,_⟩:=x;exact⟨_,e⟩
 |own y=>exact x
 |xd fs=>obtain⟨_,⟨o,_,_,e,_⟩,_⟩:=x;exact⟨o,e⟩
 |rng lo hi=>obtain⟨_,_,_,e⟩:=x;exact⟨_,e⟩
 |frz ob u=>obtain⟨e,_⟩:=x;exact⟨_,e⟩
 |tbl ps=>exact⟨_,(show h.get? a=some _ from x)⟩
 |met f y=>exact⟨_,(show h.get? a=some _ from x)⟩
 |ext φ=>obtain⟨_,z,_⟩:=x;exact z
theorem yq(u:Un (frs outer) [] H H1 h0 h)(k:HOk P w H1 h)(c:Cover B outer H1 h0 h)(ff:h.FunFrames B' l)(sub:∀b∈frs outer,b∈frs l)(st:B.StaysIn h')(sl:h.UpToSlots h') :
 Un (frs outer) [] H H1 h0 h'/\HOk P w H1 h'/\Cover B outer H1 h0 h':=by
 have up:∀b o,b∈frs outer->h.get? b=some o->∃s,h'.get? b=some { o with slots:=s }:=fun b o hb e=>by
  obtain⟨_,o',e',nf⟩:=ff.mem (sub b hb);rw[e]at e';cases e';exact sl b o e nf
 refine⟨⟨fun b o e n hb hx=>?_,fun b o e n hb hx=>?_,u.free,fun b o e hx=>?_,u.tups,u.frzs,u.tbls⟩,fun a o e=>?_,⟨fun b v o e q=>?_,fun b o o' e hb q=>?_⟩⟩
 ·exact st _ _ (c.old b o o e hb (u.keep b o e n hb hx))
 ·obtain⟨s1,e1⟩:=u.slot b o e n hb hx;obtain⟨s2,e2⟩:=up b _ hb e1;exact⟨s2,e2⟩
 ·obtain⟨o',e'⟩:=u.there b o e hx;by_cases hb:b∈frs outer
  ·obtain⟨s2,e2⟩:=up b _ hb e';exact⟨_,e2⟩
  ·exact⟨o',st _ _ (c.old b o o' e hb e')⟩
 ·refine(k a o e).stay (fun b v hb q=>?_) (fun _ z=>z) fun _ _ z=>z
  rcases hb with rfl|hb
  ·exact st _ _ (c.trk _ _ _ e q)
  ·exact st _ _ (c.trk _ _ _ hb q)
 ·obtain⟨o',e'⟩:=Kw (k b v e);have z:=c.trk b v o' e e';have:=st _ _ z;rw[q]at this;cases this;exact z
 ·obtain⟨o2,e2⟩:=u.there b o e (by simp);have z:=c.old b o o2 e hb e2;have:=st _ _ z;rw[q]at this;cases this;exact z
end
structure Own (X:Cx):Prop where
 stk:X.stack=X.env::X.outer
 frm:X.env.frame=some X.env.locals
 ex:X.ex=[]
section
variable {X:Cx} {pins:List (Addr×Obj)} {σ:L2.St} {H:Hp} {s s':Shared} {M:Model} {E:KO->Shared->Prop} {Q:Unit->Shared->Prop} {C:Addr}
theorem frs_own(w:Own X):frs X.stack=X.env.locals::frs X.outer:=by
 rw[w.stk];unfold frs;rw[Yw,w.frm]
theorem JI(I:Inv X pins σ H s)(w:Own X){b:Addr}{o:Obj}(e:X.s₀.heap.get? b=some o)(hb:b ∉ frs X.outer):b ∉ frs X.stack:=by
 rw[frs_own w];intro z;rcases KS.mp z with rfl|z
 ·exact absurd (K2 e) (Ur.mpr I.ok.above)
 ·exact hb z
theorem JN(w:Own X):∀b∈frs X.outer,b∈frs X.stack:=fun b hb=>by
 rw[frs_own w];exact KR _ hb
theorem thrown_made(I:Inv X pins σ H s)(w:Own X)(sm:jf X.H₀ H){h1:QG}{e:Addr}{args:List KO}(hx:Y0 s.heap h1 e (.ref C) args)
 (hq:∀s',za X.prog X.w C X.outer X.H₀ X.s₀ H none (.ref e) s'->Q () s'):wpAny M X.A (leaving X.env (.ref e)) Q E { s with heap:=h1 }:=by
 have e0:=I.env0
 have hin:∀env∈X.stack,∀a,env.frame=some a->a∈frs X.stack:=fun env he a ha=>Zs.mpr ⟨env,he,ha⟩
 have ff:=funFrames_hide e0.funs hin
 have bs:(hideAll s.heap (frs X.stack)).StaysIn s.heap:=fun b o q=>of_hideAll _ q
 have hfr:X.A.frames=some (X.env::X.outer):=by rw[<- w.stk];exact e0.frames
 have ff':s.heap.FunFrames (hideAll s.heap (frs X.stack)) (X.env::X.outer):=by rw[<- w.stk];exact ff
 refine wpAny_leaves_madeW (s:={ s with heap:=h1 }) hfr w.frm bs ff' hx fun h' t fl tup _ us=>?_
 have cov:Cover (hideAll s.heap (frs X.stack)) X.outer H X.s₀.heap s.heap:=by
  refine⟨fun b u o e q=>hideAll_get _ q fun z=>?_,fun b o o' e hb q=>hideAll_get _ q (JI I w e hb)⟩;have:=e0.frf b z;rw[e]at this;cases this
 have ub:Un (frs X.outer) [] X.H₀ H X.s₀.heap s.heap:=by have:=I.base;rw[w.ex]at this;exact this
 obtain⟨u2,k2,c2⟩:=yq ub I.hok cov ff (JN w) fl.1 ((QG.UpToSlots.of_keeps hx.keeps).trans us);refine hq _ ⟨e,_,_,rfl,I.os,I.bare,u2,k2,sm,fl,?_,c2,.inl rfl⟩
 cases q:H e with
 |none=>rfl
 |some u =>
  obtain⟨o,z⟩:=Kw (I.hok e u q);rw[hx.new]at z;cases z
theorem thrown_on{H1:Hp}(I:Inv X pins σ H s)(w:Own X)(sm:jf X.H₀ H1){e:KO}{dct:Option Addr}(T:za X.prog X.w C X.stack H s H1 dct e s')
 (hq:∀s',za X.prog X.w C X.outer X.H₀ X.s₀ H1 dct e s'->Q () s'):wpAny M X.A (leaving X.env e) Q E s':=by
 obtain⟨ea,a0,B,rfl,ho,hg,u,k,s1,fl,he,c,hdc⟩:=T
 have hfr:X.A.frames=some (X.env::X.outer):=by rw[<- w.stk];exact I.env0.frames
 have fl':YG B (X.env::X.outer) ea (.ref C) a0 s'.heap:=by rw[<- w.stk];exact fl
 obtain⟨oe,_,e1,_⟩:=id fl.first
 refine leaveD2 hfr w.frm fl' ⟨oe,e1,rfl⟩ fun h' f2 d2 us=>?_
 have J:=I.call' ho u k hg (ch:=[]) (fun b z=>nomatch z)
 have ub:Un (frs X.outer) [] X.H₀ H1 X.s₀.heap s'.heap:=by have:=J.base;rw[w.ex]at this;exact this
 have cov:Cover B X.outer H1 X.s₀.heap s'.heap:=⟨c.trk,fun b o o' e hb q=>by
  obtain⟨o2,e2⟩:=I.base.there b o e (by rw[w.ex];simp)
  exact c.old b o2 o' e2 (JI I w e hb) q⟩
 obtain⟨u2,k2,c2⟩:=yq ub k cov fl.2.2.1 (JN w) f2.1 us;refine hq _ ⟨ea,a0,B,rfl,J.os,hg,u2,k2,sm,f2,he,c2,hdc.imp id fun⟨o,q1,q2⟩=>?_⟩;rw[e1]at q1;cases q1;rw[<- q2];exact d2
noncomputable def del(H:Hp)(a:Addr):Hp:=fun b=>if b=a then none else H b
theorem del_same{H:Hp}{a:Addr}:del H a a=none:=by unfold del;rw[if_pos rfl]
theorem kP{H:Hp}{a b:Addr}(h:b≠a):del H a b=H b:=by unfold del;rw[if_neg h]
theorem inv_del{e:Addr}{φ:QG->Prop}(I:Inv X pins σ H s)(he:H e=some (.ext φ))(h0:X.H₀ e=none):Inv X pins σ (del H e) s:=by
 have nt:∀ {b:Addr} {u:HO},H b=some u->(∀ψ,u ≠ .ext ψ)->b≠e:=fun {b u} q n z=>by rw[z,he]at q;cases q;exact n _ rfl
 refine⟨I.ok,I.os,I.bare,⟨I.base.keep,I.base.slot,fun b o q n hx=>?_,I.base.there,fun b xs q=>?_,fun b o u q=>?_,fun b ps q=>?_⟩,I.loc,I.cell,?_,fun x c q=>?_,fun p hp=>?_,fun b u q=>?_,I.len⟩
 ·have:=I.base.free b o q n hx;rw[kP fun z=>by rw[z,he]at this;cases this];exact this
 ·have:=I.base.tups b xs q;rw[kP (nt this fun _ z=>nomatch z)];exact this
 ·have:=I.base.frzs b o u q;rw[kP (nt this fun _ z=>nomatch z)];exact this
 ·obtain⟨m,this⟩:=I.base.tbls b ps q;exact⟨m,by rw[kP (nt this fun _ z=>nomatch z)];exact this⟩
 ·have:=I.free;rw[kP fun z=>by rw[z,he]at this;cases this];exact this
 ·have:=I.freeC x c q;rw[kP fun z=>by rw[z,he]at this;cases this];exact this
 ·obtain⟨g1,g2,g3⟩:=I.pin p hp;exact⟨g1,by rw[kP fun z=>by rw[z,he]at g2;cases g2];exact g2,g3⟩
 ·have hb:b≠e:=fun z=>by rw[z,del_same]at q;cases q
  rw[kP hb]at q
  exact(I.hok b u q).stay (fun _ _ _ z=>z) (fun c z=>by rw[kP (nt z fun _ z=>nomatch z)];exact z) fun c xs z=>by rw[kP (nt z fun _ z=>nomatch z)];exact z
theorem thrown_own{e:Addr}{o:Obj}{vs:Array KO}{a0:KO}{dct:Option Addr}(I:Inv X pins σ H s)(w:Own X)(sm:jf X.H₀ H)(ho:s.heap.get? e=some o)(hc:o.cls=.ref C)(hdc:o.dict=dct)(hd:o.data=.fields vs)(h1:vs[1]?=some .none)(ha:vs[0]?=some a0)(he:H e=none)(h0:X.s₀.heap.get? e=none)
 (hq:∀s',za X.prog X.w C X.outer X.H₀ X.s₀ H dct (.ref e) s'->Q () s'):wpAny M X.A (leaving X.env (.ref e)) Q E s:=by
 have e0:=I.env0
 have hin:∀env∈X.stack,∀a,env.frame=some a->a∈e::frs X.stack:=fun env he a ha=>KR _ (Zs.mpr ⟨env,he,ha⟩)
 have ff:=funFrames_hide e0.funs hin
 have bs:(hideAll s.heap (e::frs X.stack)).StaysIn s.heap:=fun b o q=>of_hideAll _ q
 have hfr:X.A.frames=some (X.env::X.outer):=by rw[<- w.stk];exact e0.frames
 have ff':s.heap.FunFrames (hideAll s.heap (e::frs X.stack)) (X.env::X.outer):=by rw[<- w.stk];exact ff
 refine leaveD1 hfr ff' w.frm ho bs (hideAll_none _ (K0 ..)) hd h1 ha fun h' lf d2=>?_
 obtain⟨y1,y3,y4,us⟩:=lf
 have cov:Cover (hideAll s.heap (e::frs X.stack)) X.outer H X.s₀.heap s.heap:=by
  refine⟨fun b u o q1 q=>hideAll_get _ q fun z=>?_,fun b o o' q1 hb q=>hideAll_get _ q fun z=>?_⟩
  ·rcases KS.mp z with rfl|z
   ·rw[he]at q1;cases q1
   ·have:=e0.frf b z;rw[q1]at this;cases this
  ·rcases KS.mp z with rfl|z
   ·rw[h0]at q1;cases q1
   ·exact JI I w q1 hb z
 have ub:Un (frs X.outer) [] X.H₀ H X.s₀.heap s.heap:=by have:=I.base;rw[w.ex]at this;exact this
 obtain⟨u2,k2,c2⟩:=yq ub I.hok cov ff (JN w) y1 us;obtain⟨_,_,y5⟩:=y3;rw[hc]at y4;rw[hdc]at d2;exact hq _ ⟨e,a0,_,rfl,I.os,I.bare,u2,k2,sm,⟨y1,hideAll_none _ (K0 ..),y5,y4⟩,he,c2,.inr d2⟩
end
end Z
namespace Z
open PySem PySem.Spec PySem.Calls PyProof.Rows PySem.W L2 PySem.Builtin.Getset_descriptor
section
variable {prog:Qp} {w:World} {A:QH} {E:KO->Shared->Prop} {s:Shared} {K:Frag} {x D:Addr} {ox:Obj}
structure ExcIn (K:Frag) (D:Addr):Prop where
 ga:findIn K (.ref D) "__getattribute__"=some (some (.builtin "BaseException.__getattribute__"))
 gt:findIn K (.ref D) "__getattr__"=some none
 ca:findIn K (.ref D) "__class__"=some (some (.builtin "object.__class__"))
 cg:specialIn K (.builtin "object.__class__") "__get__"=some (some (.builtin "getset_descriptor.__get__"))
 ct:takesIn K (.builtin "object.__class__")=some true
 mo:mroIn K D (.type "object")=some true
 mb:mroIn K D (.type "BaseException")=some true
noncomputable def ExAt(h:QG)(x D:Addr):Prop:=∃o,h.get? x=Option.some o/\o.cls=.ref D
theorem ExAt.type{M:Model}{h:QG}(I:ExAt h x D):Looks M h (typeOf (.ref x)) (.ref D):=by
 obtain⟨o,e,c⟩:=I;exact c ▸ (Looks.ld e).andThen .now
theorem ExcIn.looks{M:Model}{h:QG}(X:K.In h)(e:ExcIn K D):Looks M h (UB (.ref x) (.ref D) "__class__") (.bind (.builtin "getset_descriptor.__get__") (.builtin "object.__class__")):=by
 have l1:=Y7 (M:=M) X e.ca;have l2:=looks_specialIn (M:=M) X e.cg;have l3:=looks_takesIn (M:=M) X e.ct;unfold UB;refine l1.andThen ?_;refine Looks.andThen (show Looks M h (XY.ObjectAttr.getOf _) _ from l2) ?_;refine Looks.andThen (show Looks M h (Builtin.ObjectAttr.dataDescriptor? (Option.some _) (Option.some _)) (Option.some (_,_)) from l3.andThen .now) ?_;exact Looks.tag .now
theorem ExcIn.some(e:ExcIn K D):(clsIn K D).isSome=true:=by
 have:=e.mo;unfold mroIn at this
 cases q:clsIn K D with
 |none=>rw[q]at this;cases this
 |some c=>rfl
theorem Kv{R:Result->Shared->Prop}{hh:QG}{g:Array Yp}{d:Drawn}{t:Nat}{os:OsState}{tp:KO}(L0:Looks (model prog w) hh (typeOf (.ref x)) (.ref D))(L1:Looks (model prog w) hh (isSubtype (.ref D) (.type "object")) true)
 (h:R (.ok (.ret (.ref D))) ⟨hh,g,d,t,os⟩):ZT (model prog w) A (.call (.builtin "getset_descriptor.__get__") ⟨[.builtin "object.__class__",.ref x,tp],[]⟩) R ⟨hh,g,d,t,os⟩:=by
 refine XC
  KF.slot_gs.plain KF.entry_gs
  (KF.slot_gs.check _ _ _ _ _ _ _ _
   KF.type_class (KF.args_gs _ _ _) ?_)
 unfold XY.«getset_descriptor.__get__» Builtin.Getset_descriptor.descrGet;rw[dga_obj];refine(KL (KW ?_));unfold descrGetter descrCheckInstance;unfold descrNameAndClass ZR;simp only[PySem.W.KF.owner_class]
 repeat lk
 refine⟨(Ut _ (by decide +kernel)),(Z8 KF.entry_class ?_)⟩;unfold XY.«object.__class__»;unfold shownTypeOf
 repeat lk
 exact h
theorem exc_class{Q:Option KO->Shared->Prop}(X:K.In s.heap)(I:ExAt s.heap x D)(e:ExcIn K D)(h:Q (some (.ref D)) { s with toks:=s.toks+1 }):wpAny (model prog w) A (getAttr? (.ref x) "__class__") Q E s:=by
 obtain⟨hh,g,d,t,os⟩:=s;have L0:=I.type (M:=model prog w);have L1:=Y7 (M:=model prog w) X e.ga;have L2:=Y7 (M:=model prog w) X e.gt;have L3:=e.looks (x:=x) (M:=model prog w) X;have L5:=looks_mroIn (M:=model prog w) X e.mo;have L4:=looks_mroIn (M:=model prog w) X e.mb;have f3:=PySem.F.attr_ValueError.ga.bind (.ref x);unfold getAttr? getAttrBy? getAttrBy;refine KL (wpAny_mkText (KL (YQ (QB (KL (L0.at (KL (L1.at ?_))))))));show wpAny _ _ (Ua _ _ _ _ _ _) _ _ _;unfold Ua hookBefore;refine KL (L2.at ?_);refine KL (YQ (QB ?_));show wpAny _ _ (boundAndCalled _ _ _) _ _ _;unfold boundAndCalled;refine KL (XH f3 ?_);refine Zt (XC PySem.F.attr_ValueError.ga.plain PySem.F.entry_bexc_ga ?_)
 have hk:builtinKind "BaseException.__getattribute__"=some .slot:=by decide +kernel
 have hsp:splitId "BaseException.__getattribute__"=some ("BaseException","__getattribute__"):=by decide +kernel
 have har:=PySem.F.args_bexc_ga (.ref x) (.str "__class__" t);simp only[Y6,hk,hsp];refine KL ?_;unfold ZR;refine KL (L0.at ?_);refine L4.at ?_;rw[if_neg (by decide)];refine XH (show _=pure () from har) ?_;unfold XY.«object.__getattribute__»;refine KL (XH (show slotArgs "__getattribute__" 1 _=pure (Xa x,[Value.str "__class__" t]) from rfl) ?_);refine KL (XH (show XY.ObjectAttr.attrName (Value.str "__class__" t)=pure "__class__" from rfl) ?_);refine KL (L0.at (KL (L3.at ?_)));show wpAny _ _ (do let v <- Zo [YR "object.__class__"] (call (.builtin "getset_descriptor.__get__") [.builtin "object.__class__",.ref x,.ref D]);ret v) _ _ _;refine KL (QB (Zt (Kv (tp:=.ref D) L0 L5 ?_)));refine KW ?_;show wpAny _ _ (handedOut (.ref D)) _ _ _;refine XH (show handedOut (.ref D)=pure (.ref D) from rfl) ?_;exact KW h
theorem kitx_exc(e:ExcIn K D):KitX K (.ref x) (.ref D) (fun h=>ExAt h x D) where
 ty:=fun _ _ _ I=>I.type
 it:=fun _ _ X _=>by
  have hc:=e.some;unfold clsIn at hc;split at hc
  ·next ho =>
   intro A' Q' E' s' k q;unfold isType loadHead;exact KL (wpAny_loadPart (k _ _ (X _ _ ho)) (KW q))
  ·cases hc
 ne:=fun h tp dd its n sl X htp=>by
  have hc:=e.some
  refine Bool.eq_false_iff.mpr fun q=>?_
  have e':D=tp:=Xa.inj (beq_iff_eq.mp q);subst e';unfold clsIn at hc;split at hc
  ·next ho =>
   have z:=(X _ _ ho).symm.trans htp;cases z
  ·cases hc
 ca:=fun X I k=>exc_class X I e k
end
end Z
namespace Z
open PySem PySem.Spec PySem.Calls PyProof.Rows PySem.W L2
abbrev bmV:List KO:=[.type "ValueError",.type "Exception",.type "BaseException",.type "object"]
abbrev newV:String:="ValueError.__new__"
abbrev mkX(X:Cx)(e:Addr):Cx:={ X with A:=X.A.mark (some (.ref e)),calm:=false,xe:=fun _ _=>False }
section
variable {X:Cx} {pins:List (Addr×Obj)} {σ:L2.St} {H:Hp} {s s':Shared} {C:Addr}
theorem JO(I:Inv X pins σ H s)(e:Addr):Inv (mkX X e) pins σ H s :=
 ⟨⟨I.ok.mod,I.ok.kind,I.ok.glob,I.ok.blt,I.ok.above,I.ok.inj,I.ok.has,I.ok.cab,fun z=>(nomatch z),I.ok.frames,I.ok.stk,I.ok.exf,I.ok.bs,I.ok.bsz,I.ok.noex,I.ok.exfs,I.ok.funs,I.ok.frf⟩,I.os,I.bare,I.base,I.loc,I.cell,I.free,I.freeC,I.pin,I.hok,I.len⟩
theorem inv_unX{e:Addr}{σ':L2.St}{H':Hp}(I:Inv X pins σ H s)(J:Inv (Z.mkX X e) pins σ' H' s'):Inv X pins σ' H' s':=⟨I.ok,J.os,J.bare,J.base,J.loc,J.cell,J.free,J.freeC,J.pin,J.hok,J.len⟩
theorem zY{a:Addr}{v:HO}(I:Inv X pins σ H s)(h0:X.s₀.heap.get? a=none)(hH:H a=none)(ho:∀H',qF X.prog X.w H' s.heap a v)(hL:a≠X.env.locals)(hc:∀x c,X.env.cells.lookup x=some c->c≠a)(hp:∀p∈X.pn++pins,p.1≠a) :
 Inv X pins σ (upd H a v) s:=by
 have ne:∀ {b:Addr} {u:HO},H b=some u->b≠a:=fun {b u} e z=>by rw[z,hH]at e;cases e
 refine⟨I.ok,I.os,I.bare,⟨I.base.keep,I.base.slot,fun b o' e n hx=>?_,I.base.there,fun b xs e=>?_,fun b o' u e=>?_,fun b ps e=>?_⟩,I.loc,I.cell,?_,fun x c e=>?_,fun p hp'=>?_,fun b u e=>?_,I.len⟩
 ·rw[jh fun z=>by rw[z,h0]at e;cases e];exact I.base.free b o' e n hx
 ·have:=I.base.tups b xs e;rw[jh (ne this)];exact this
 ·have:=I.base.frzs b o' u e;rw[jh (ne this)];exact this
 ·obtain⟨m,this⟩:=I.base.tbls b ps e;exact⟨m,by rw[jh (ne this)];exact this⟩
 ·rw[jh hL.symm];exact I.free
 ·rw[jh (hc x c e)];exact I.freeC x c e
 ·obtain⟨g1,g2,g3⟩:=I.pin p hp';exact⟨g1,by rw[jh (hp p hp')];exact g2,g3⟩
 ·by_cases hb:b=a
  ·subst hb;rw[jm]at e;cases e;exact ho _
  ·rw[jh hb]at e
   exact(I.hok b u e).stay (fun _ _ _ z=>z) (fun c z=>by rw[jh (ne z)];exact z) fun c xs z=>by rw[jh (ne z)];exact z
theorem thrown_new{e:Addr}{a0:KO}{B:QG}{H1:Hp}(I:Inv X pins σ H s)(u:Un (frs X.stack) [] H H1 s.heap s'.heap)(fl:YG B X.stack e (.ref C) a0 s'.heap)(c:Cover B X.stack H1 s.heap s'.heap):s.heap.get? e=none:=by
 cases q:s.heap.get? e with
 |none=>rfl
 |some o =>
  exfalso;obtain⟨o',e'⟩:=u.there e o q (by simp);by_cases hb:e∈frs X.stack
  ·obtain⟨_,o2,e2,nf⟩:=fl.2.2.1.mem hb
   obtain⟨oe,vs,e3,_,d3,_⟩:=fl.first
   rw[e3]at e2;cases e2;exact nf vs d3
  ·have:=c.old e o o' q hb e';rw[fl.2.1]at this;cases this
variable {M:Model} {E:KO->Shared->Prop} {Q:Flow->Shared->Prop} {x n:Str} {np pos:Pos} {b₀:Stmt} {suite:List Stmt} {rest:List Zj} {i:Nat}
noncomputable def ExcCl(K:Frag)(C:Addr):Prop:=∀h:QG,K.In h->∃bm N nm qn bs hd sn sub ab col dd k0 k1 k2 k3 k5,h.get? C=some (Xn nm qn C N bs bm hd sn sub ab col dd k0 k1 k2 k3 k5 newV)/\OwnTail h bmV bm
theorem exc_other{prog:Qp}{w:World}{A:QH}{E:KO->Shared->Prop}{h:QG}{g:Array Yp}{d:Drawn}{t:Nat}{os:OsState}{K:Frag}{e C C':Addr}{oe:Obj}{Q:Bool->Shared->Prop}(X:K.In h)(he:h.get? e=some oe)(hc:oe.cls=.ref C)(q:ExcCl K C')(hs:subIn K (.ref C) (.ref C')=some false)
 (hq:Q false ⟨h,g,d,t,os⟩):wpAny (model prog w) A (excMatches (.ref e) (.ref C')) Q E ⟨h,g,d,t,os⟩:=by
 obtain⟨bm,N,nm,qn,bs,hd,sn,sub,ab,col,dd,k0,k1,k2,k3,k5',hC,TL⟩:=q h X;have L1:=looks_subIn (M:=model prog w) X hs
 have hcB:(Xa C'::bm).contains (.type "BaseException")=true:=by
  have q:bm.contains (.type "BaseException")=true:=TL.hasType (by decide +kernel);rw[Zv,q,Ug]
 have L0:Looks (model prog w) h (typeOf (.ref C')) (.type "type"):=(Looks.ld hC).andThen .now;have L2:Looks (model prog w) h (typeOf (.ref e)) (.ref C):=hc ▸ (Looks.ld he).andThen .now;unfold excMatches;refine KL ?_;unfold ZR;refine KL (L0.at ?_);refine XH (show isSubtype (.type "type") (.type "tuple")=pure false from by rfl) ?_;rw[if_neg (by decide)];refine KL (KW ?_);show wpAny _ _ (do forIn [Xa C'] PUnit.unit _;_) _ _ _;simp only[YM,YY];unfold isExcClass
 repeat (first|(with_reducible refine QX hC ?_)|(with_reducible refine Zd hC ?_;rw[hcB])|(with_reducible refine L2.at ?_)|(with_reducible refine L1.at ?_)|wp_step)
 exact hq
noncomputable def Past(X:Cx)(C:Addr)(hd:Zj):Prop:=∃y Cy np n b ps,hd=.ExceptHandler (some (.Name y np)) n b ps/\X.mg y=some (.ref Cy)/\ExcCl X.K Cy/\Gl X y/\(y == ("__debug__":Str))=false/\subIn X.K (.ref C) (.ref Cy)=some false
theorem skips{ea:Addr}{oe:Obj}{rest:List Zj}(I:Inv X pins σ H s)(he:s.heap.get? ea=some oe)(hc:oe.cls=.ref C)(k:wpAny (model X.prog X.w) X.A (handleBy (.ref ea) X.env rest) Q E s) :
 ∀pre:List Zj,(∀hd∈pre,Past X C hd)->wpAny (model X.prog X.w) X.A (handleBy (.ref ea) X.env (pre++rest)) Q E s
 |[],_=>k
 |hd::pre,hp=>by
  obtain⟨y,Cy,np,n,b,ps,rfl,hm,hq,gl,hdb,hs⟩:=hp hd (K0 ..);refine wpAny_handleBy_cons (codeAny_handlers_test (yE (X:=Z.mkX X ea) (JO I ea) gl hm ?_ hdb)) (by intro q;cases q);exact exc_other I.kIn he hc hq hs (skips I he hc k pre fun h q=>hp h (KR _ q))
theorem caught{dct:Option Addr}{H1:Hp}{pre:List Zj}(hp:∀hd∈pre,Past X C hd)(I:Inv X pins σ H s)(w:Own X)(nd:X.N.Nodup)(hm:X.mg x=some (.ref C))(hq:ExcCl X.K C)(gl:Gl X x)(hdb:(x == ("__debug__":Str))=false)(hn:X.N[i]?=some n)(hl:X.env.scope.names.lookup n=some .local){e:KO}(T:za X.prog X.w C X.stack H s H1 dct e s')
 (k:∀ea oe vs s7,jf H H1->oe.cls=.ref C->oe.data=.fields vs->(dct=none\/oe.dict=dct)->e=.ref ea->Inv (Z.mkX X ea) pins (σ.set i (some (.ref ea))) (upd H1 ea (.frz oe (.ext fun _=>True))) s7->H1 ea=none ->
  wpAny (model X.prog X.w) (X.A.mark (some (.ref ea))) (execs (b₀::suite) X.env) (fun f s₄=>wpAny (model X.prog X.w) X.A (do bindName X.env n .none;Z4 X.env n pos) (fun _ s₅=>Q f s₅) E s₄) (fun _ _=>False) s7) :
 wpAny (model X.prog X.w) X.A (noteFrame e X.env) (fun _ s₂=>wpAny (model X.prog X.w) X.A (setFlight e none) (fun _ s₃=>wpAny (model X.prog X.w) X.A (handleBy e X.env (pre ++ .ExceptHandler (some (.Name x np)) (some n) (b₀::suite) pos::rest)) Q E s₃) E s₂) E s':=by
 obtain⟨ea,a0,B,rfl,ho,hg,u,kk,s1,fl,he,c,hdc⟩:=T;have new:=thrown_new I u fl c
 have hfr:X.A.frames=some (X.env::X.outer):=by rw[<- w.stk];exact I.env0.frames
 have fl':YG B (X.env::X.outer) ea (.ref C) a0 s'.heap:=by rw[<- w.stk];exact fl
 obtain⟨oe0,_,e00,_⟩:=id fl.first
 refine lookD hfr w.frm fl' ⟨oe0,e00,rfl⟩ fun h4 held d4 us4=>?_
 obtain⟨x1,x2,x3,x4⟩:=held
 refine landD (s:={ s' with heap:=h4 }) x1 x2 x3 x4 d4 fun h5 fl5 d5 us5=>?_
 obtain⟨u5,k5,c5⟩:=yq u kk c fl.2.2.1 (fun b hb=>hb) fl5.1 (us4.trans us5);have J5:Inv X pins σ H1 { s' with heap:=h5 }:=I.call' (s':={ s' with heap:=h5 }) ho u5 k5 hg (ch:=[]) (fun b z=>nomatch z);obtain⟨bm,N,nm,qn,bs,hd,sn,sub,ab,col,dd,k0,k1,k2,k3,k5',hC,TL⟩:=hq _ J5.kIn
 obtain⟨oe5,vs5,e5,c5',_,_⟩:=id fl5.first
 refine skips J5 e5 c5' ?_ pre hp;refine wpAny_handleBy_cons (codeAny_handlers_test (yE (X:=Z.mkX X ea) (JO J5 ea) gl hm ?_ hdb)) (by intro q;cases q);refine wpAny_excMatches_sub_self hC e5 c5' (TL.hasType (by decide +kernel)) (codeAny_handlers_suite_as ?_);obtain⟨z1,z2,z3,z4⟩:=id fl5
 refine landD (s:={ s' with heap:=h5 }) z1 z2 z3 z4 d5 fun h6 fl6 d6 us6=>?_
 obtain⟨u6,k6,c6⟩:=yq u5 k5 c5 fl5.2.2.1 (fun b hb=>by rw[w.stk]at hb;exact hb) fl6.1 us6;have J6:Inv X pins σ H1 { s' with heap:=h6 }:=I.call' (s':={ s' with heap:=h6 }) ho u6 k6 hg (ch:=[]) (fun b z=>nomatch z)
 obtain⟨oe,vs,e6,cl,dd6,_⟩:=fl6.first
 have hdc':dct=none\/oe.dict=dct:=by
  refine hdc.imp id fun⟨o,q1,q2⟩=>?_
  rw[e00]at q1;cases q1;obtain⟨o,q3,q4⟩:=d6;rw[show h6.get? ea=some oe from e6]at q3;cases q3;rw[q4,q2]
 have old:∀ {b:Addr} {o:Obj},s.heap.get? b=some o->b≠ea:=fun {b o} z y=>by rw[y,new]at z;cases z
 have h0:X.s₀.heap.get? ea=none:=by
  cases q:X.s₀.heap.get? ea with
  |none=>rfl
  |some o =>
   obtain⟨o',z⟩:=I.base.there ea o q (by rw[w.ex];simp);exact absurd rfl (old z)
 have J7:=zY (v:=.frz oe (.ext fun _=>True)) J6 h0 he (fun _=>⟨e6,trivial,⟨_,e6⟩,fun _ _ _ _=>trivial⟩) (fun z=>by obtain⟨m,⟨o,_,_,ho',_⟩,_⟩:=I.loc;exact old ho' z.symm) (fun y cc q=>by obtain⟨v,o,ho',_⟩:=I.cell y cc q;exact old ho') (fun p hp=>old (I.pin p hp).1);refine zQ J7 nd hn (.inl hl) (v:=.ref ea) rfl (fun s7 J8=>?_) (.inr hl)
 refine QY (k ea oe vs s7 s1 cl dd6 hdc' rfl (JO J8 ea) he) (fun f s8 z=>z) fun _ _ z=>z.elim
end
noncomputable def names12:List Str:=["NoRatio","NoNext","NoRoot","Unfit","Dependent","NoLine","BadText","TooGreat","BadRow","NoRow","NoColumn","TooMany"]
structure AloneF (K:Frag) (mg:Str->Option KO) (y:Str) (D:Addr):Prop where
 ex:ExcIn K D
 cls:∀c∈names12,∃Ca,mg c=some (.ref Ca)/\kitOne K (.ref D) (.ref Ca)=some (decide (c=y))
 te:∃Ca,mg "TrueError"=some (.ref Ca)/\kitOne K (.ref D) (.ref Ca)=some true
 ve:kitOne K (.ref D) (.type "ValueError")=some true
 vn:mg "ValueError"=none
 isi:mg "isinstance"=none
 mem:y∈names12
noncomputable def spA(K:Frag)(mg:Str->Option KO):Sp:=fun vs H Q _=>∃y D ea oe u,AloneF K mg y D/\vs=[.ref ea]/\H ea=some (.frz oe u)/\oe.cls=.ref D/\∀H',jf H H'->Q (.bl true) H'
end Z
namespace Z
open PySem PySem.Spec PyProof.Rows L2
theorem slRange(a b:Nat):sliceRange (a:Int) (b:Int) 1=Zy a (b-a):=by
 unfold sliceRange
 have e:(if (1:Int) > 0 then (if (a:Int)<b then ((b:Int)-a+1-1) / 1 else 0) else (if (a:Int) > b then ((a:Int)-b-1-1) / (-1) else 0)).toNat=b-a:=by
  rw[if_pos (by decide),Int.ediv_one]
  split<;>lia
 simp only[e];rw[List.range'_eq_map_range]
 refine QK fun k _=>?_
 lia
theorem slIdx(lo hi:Option Int)(n:Nat):YT lo hi 1 n=Zy (sIx n 0 lo) (sIx n n hi-sIx n 0 lo):=by
 rw[<- slRange]
 have cl:∀(v:Option Int) (d:Nat),(match v with|none=>(d:Int)|some i=>max 0 (min (if i<0 then i+(n:Int) else i) (n:Int)))=((sIx n d v:Nat):Int):=by
  intro v d
  cases v with
  |none=>rfl
  |some i =>
   show _=(((if i<0 then (i+(n:Int)).toNat else min i.toNat n):Nat):Int)
   split<;>lia
 unfold YT;rw[<- cl lo 0,<- cl hi n]
 cases lo<;>cases hi<;>simp
theorem v7(l:List Nat):∀(b a:Nat),a+b<=l.length->(Zy a b).filterMap (l[·]?)=(l.drop a).take b
 |0,a,_=>by simp
 |b+1,a,h=>by
  rw[Y8,Yw,KU (by lia)];simp only[];rw[v7 l b (a+1) (by lia),QS (by lia:a<l.length),Xk]
theorem sIx_le(n d:Nat)(o:Option Int)(h:d<=n):sIx n d o<=n\/∃i,o=some i/\i<0:=by
 cases o with
 |none=>exact .inl h
 |some i =>
  by_cases z:i<0
  ·exact .inr ⟨i,rfl,z⟩
  ·left;show (if i<0 then (i+(n:Int)).toNat else min i.toNat n)<=n;rw[if_neg z];lia
theorem sIx_le'(n d:Nat)(o:Option Int)(h:d<=n):sIx n d o<=n:=by
 rcases sIx_le n d o h with z|⟨i,rfl,z⟩
 ·exact z
 ·show (if i<0 then (i+(n:Int)).toNat else min i.toNat n)<=n;rw[if_pos z];lia
theorem Jy(x:Str)(lo hi:Option Int):Txt.slice x lo hi=cutS x lo hi:=by
 have ha:=sIx_le' x.length 0 lo (XB _);have hb:=sIx_le' x.length x.length hi (K6 _);have hl:x.cps.toList.length=x.length:=Ud;unfold Txt.slice cutS;rw[slIdx];split
 ·next h =>
  simp only[List.length_range',KM,beq_iff_eq]at h
  have e1:sIx x.length 0 lo=0:=by lia
  have e2:sIx x.length x.length hi=x.length:=by lia
  rw[e1,e2,QZ,Nat.sub_zero,<- hl,List.take_length]
 ·have e:=v7 x.cps.toList (sIx x.length x.length hi-sIx x.length 0 lo) (sIx x.length 0 lo);rcases Nat.le_total (sIx x.length 0 lo) (sIx x.length x.length hi) with z|z
  ·rw[<- e (by lia)];congr 2
   have e:(fun i:Nat=>x.cps[i]?)=fun i=>x.cps.toList[i]?:=by funext i;simp
   rw[e]
  ·rw[show sIx x.length x.length hi-sIx x.length 0 lo=0 by lia];simp
variable {X:Cx}
noncomputable def rSlS:V->Option Int->Option Int->Hp->VK->Prop:=fun x lo hi H Q=>∃z,x=.str z/\z.length<=sizeLine/\Q (.str (cutS z lo hi)) H
theorem part_of{v:KO}{o:Option Int}(p:IsPart v o):∃q:Option (Int×Tok),v=partValue q/\q.map (·.1)=o:=by
 cases p with
 |none=>exact⟨none,rfl,rfl⟩
 |int i t=>exact⟨some (i,t),rfl,rfl⟩
theorem sl_strR:SlR X rSlS:=by
 intro pins s σ H x v vl vu lo hi sl Q I rx hs pl pu h;obtain⟨z,rfl,hz,q⟩:=h;obtain⟨t,rfl⟩:=rx;obtain⟨pl',rfl,e1⟩:=part_of pl;obtain⟨pu',rfl,e2⟩:=part_of pu;refine⟨"str",_,slot_str_getitem.lookup,typeIs_str s z t,?_⟩;have hS:s.heap.IsSlice sl pl' pu' none:=hs;have hc:=Jy z lo hi;unfold Txt.slice at hc
 have q':∀(u:Tok) (k:Nat),EP X pins σ Q (.str (cutS z lo hi) u) { s with toks:=k }:=fun u k=>⟨.str _,H,I.tok _,⟨_,rfl⟩,q⟩
 refine getItem_meets (typeIs_str s z t) (by decide) F.slot_str_getitem F.entry_str_getitem (F.args_str_getitem_2 _ _) (meets_str_getitem_slice z t sl pl' pu' none rfl) ⟨hS,?_⟩;unfold sliceMade slicePicked;rw[e1,e2];simp only[Option.map_none,Option.getD_none]
 have hcl:(cutS z lo hi).length<=sizeLine:=by
  have:(cutS z lo hi).length<=z.length:=by rw[<- Jy];exact Txt.slice_le z lo hi
  lia
 by_cases h:(((1:Int) == 1)&&(YT lo hi 1 z.length).length == z.length)=true
 ·rw[if_pos h]at hc ⊢;have:=q' t s.toks;rw[<- hc]at this;exact this
 ·rw[if_neg h]at hc ⊢;rw[hc];exact⟨hcl,q' _ _⟩
end Z
namespace PySem.W
open PySem PySem.Calls PySem.NumText PyProof.Rows KIN
theorem maxDigits{M:Model}{A:QH}{E:KO->Shared->Prop}{s:Shared}{Q:Nat->Shared->Prop}(hn:s.heap.NoDigits)(h:Q 4300 s):wpAny M A Zz Q E s:=by
 obtain⟨mc,hns,hnone⟩:=hn;unfold Zz;refine KL (wpAny_nsGet hns ?_);rw[hnone];exact KW h
theorem wp_textD{M:Model}{A:QH}{E:KO->Shared->Prop}{s:Shared}{Q:KO->Shared->Prop}{v:KO}{text:List Nat}{n:Int}
 (hn:s.heap.NoDigits) (hs:¬ (text.takeWhile (· != 0)).length<=640) (hr:(int_private% "readNumeral") 4300 10 (text.takeWhile (· != 0))=(int_private% "Numeral.value") n)
 (ha:((text.takeWhile (· != 0)).length == text.length)=true) (h:Q (.int n s.toks) { s with toks:=s.toks+1 }) :
 wpAny M A ((int_private% "intFromText") v text 10) Q E s:=by
 obtain⟨hp,g,d,tk,os⟩:=s
 repeat (any_goals (first
  |assumption
  |((with_reducible show wpAny _ _ Zz _ _ _);refine maxDigits hn ?_)
  |(with_reducible refine wpAny_ite_false (decide_eq_false hs) ?_)
  |(with_reducible refine wpAny_ite_true (decide_eq_true ha) ?_)
  |wp_step))
 all_goals (try rw[hr])
 all_goals (try dsimp only)
 repeat (any_goals (first
  |assumption
  |(with_reducible refine wpAny_ite_true (decide_eq_true ha) ?_)
  |wp_step))
set_option maxHeartbeats 4000000 in
theorem meets_textD{x:PySem.Str}{u:Tok}{n:Int}(hl:¬ (numSeenOf x).length<=640)(hx:x.length<=sizeLine)(hn:Uq x=some n):Meets (XY.«int.__new__» ⟨[.type "int",.str x u],[]⟩) (fun _ R s=>s.heap.NoDigits/\R (.ok (.ret (.int n s.toks))) { s with toks:=s.toks+1 }) :=
 .of_wp fun prog w A R s h=>by
  obtain⟨hd,h⟩:=h;obtain⟨hp,g,d,tk,os⟩:=s
  have ty:=(rfl:typeOf (Value.str x u)=pure (KO.type "str"))
  have ⟨a1,a2,b1,b2,b3⟩:=(⟨F.conv_sub_int,F.madeHere_int,str_int,str_idx,str_trunc⟩:_/\_/\_/\_/\_)
  have hr:(int_private% "readNumeral") 4300 10 (numSeenOf x)=(int_private% "Numeral.value") n/\((numSeenOf x).length == (numTextOf x).length)=true:=by
   rcases read4300 x hx with⟨m,e,al,va⟩|⟨e,_⟩<;>rw[hn]at e
   ·cases e;exact⟨va,al⟩
   ·cases e
  have hk:=Hid.mk (QI hl hr);clear hr hl hn
  repeat (any_goals (first
   |assumption
   |((with_reducible show wpAny _ _ ((int_private% "intFromText") _ _ _) _ _ _);refine wp_textD hd hk.out.1 hk.out.2.1 hk.out.2.2 ?_)
   |wp_step))
  all_goals first|exact⟨_,rfl,h⟩|skip
theorem call_textD{prog:Qp}{w:World}{A:QH}{E:KO->Shared->Prop}{s:Shared}{Q:KO->Shared->Prop}{x:PySem.Str}{t:Tok}{n:Int}(hd:s.heap.NoDigits)(hl:x.length<=640\/(640<(numSeenOf x).length/\x.length<=sizeLine))(hn:Uq x=some n)(h:Q (.int n s.toks) { s with toks:=s.toks+1 }):wpAny (model prog w) A (call (.type "int") [.str x t]) Q E s:=by
 rcases hl with hl|⟨hl,hx⟩
 ·exact call_text hn hl h
 ·exact call_int_1 (meets_textD (by lia) hx hn) ⟨hd,rfl,h⟩
end PySem.W
namespace Z
open PySem PySem.Spec PyProof.Rows L2
variable {X:Cx}
theorem call_intS:kU X (.type "int") (fun xs H Q=>∃z n,xs=[.str z]/\(z.length<=640\/(640<(PySem.numSeenOf z).length/\z.length<=sizeLine))/\Uq z=some n/\Q (.int n) H):=by
 intro pins s σ H xs us Q I r h;obtain⟨z,n,rfl,hl,hn,q⟩:=h;obtain⟨u,rfl,t,rfl⟩:=xi r;exact PySem.W.call_textD (I.ok.mod.nolimit.2.keeps I.bk) hl hn ⟨.int n,H,I.tok _,⟨_,rfl⟩,q⟩
theorem rep_str(z:Str)(k:Int):Txt.mul z k=⟨(K5 k.toNat z.cps.toList).flatten.toArray⟩:=by
 unfold Txt.mul;split
 ·next h=>rw[show k.toNat=0 by lia];rfl
 ·split
  ·next h h1 =>
   simp only[Yl,beq_iff_eq]at h1;rcases h1 with rfl|h1
   ·simp
   ·have:z.cps.toList=[]:=by
     have:z.cps.size=0:=h1;simpa using this
    rw[this]
    have e:z=⟨#[]⟩:=by
     cases z;simp_all
    rw[e];simp
  ·have key:∀(n:Nat) (a:Array Nat),(K5 n z.cps).foldl (· ++ ·) a=a++(K5 n z.cps.toList).flatten.toArray:=by
    intro n
    induction n with
    |zero=>intro a;simp
    |succ n ih =>
     intro a;rw[QC,YL,ih,QC,Xw];apply Array.ext';simp
   rw[key];simp
theorem op_mulS:OpR X (Zf .Mult) (fun x y H Q=>∃z k,x=.str z/\y=.int k/\RepOk z.length k/\Q (.str ⟨(K5 k.toNat z.cps.toList).flatten.toArray⟩) H):=by
 intro pins s σ H x y v u Q I rx ry h;obtain⟨z,k,rfl,rfl,⟨hk,hl⟩,q⟩:=h;obtain⟨t,rfl⟩:=rx;obtain⟨t',rfl⟩:=ry;have h24:lim=16777216:=rfl
 refine SB.mul ⟨?_,?_,?_⟩ fun t'' k'=>?_
 ·have e1:decide (k < -(2^63:Int))=false:=decide_eq_false (by lia);have e2:decide (k ≥ 2^63)=false:=decide_eq_false (by lia);rw[e1,e2];rfl
 ·intro h1 h2 h3
  have hp:((z.length*k.toNat:Nat):Int)=(z.length:Int)*k:=by
   rw[Int.natCast_mul,Int.toNat_of_nonneg (by lia)]
  have:(z.length:Int)<=(2^63-1) / k:=YS (by lia) (by rw[<- hp];lia);lia
 ·intro h1 h2;unfold XY.Str.tooLong;rw[Xv];exact decide_eq_false (by lia)
 ·rw[rep_str];exact⟨.str _,H,I.tok _,⟨_,rfl⟩,q⟩
end Z
namespace Z
open PySem PySem.W PyProof.Rows
structure Ord (lt:Nat->Nat->Bool):Prop where
 asy:∀a b,lt a b=true->lt b a=false
 tr:∀a b c,lt b a=false->lt c b=false->lt c a=false
abbrev at'(p:Array Nat)(i:Nat):Nat:=p.getD i 0
noncomputable def Pm(n:Nat)(p:Array Nat):Prop:=p.toList.Perm (K3 n)
noncomputable def Up(lt:Nat->Nat->Bool)(p:Array Nat)(lo hi:Nat):Prop:=∀i j,lo<=i->i<=j->j<hi->lt (at' p j) (at' p i)=false
noncomputable def Dn(lt:Nat->Nat->Bool)(p:Array Nat)(lo hi:Nat):Prop:=∀i j,lo<=i->i<=j->j<hi->lt (at' p i) (at' p j)=false
section
variable {lt:Nat->Nat->Bool} {n:Nat} {p:Array Nat}
theorem Ord.irr(o:Ord lt)(a:Nat):lt a a=false:=by
 cases h:lt a a
 ·rfl
 ·exact absurd (o.asy a a h) (by simp[h])
theorem Pm.size(h:Pm n p):p.size=n:=by have:=h.length_eq;simpa using this
theorem Up.more(o:Ord lt){lo hi:Nat}(h:Up lt p lo hi)(hl:lo<hi)(h1:lt (at' p hi) (at' p (hi-1))=false):Up lt p lo (hi+1):=by
 intro i j a b c;by_cases e:j<hi
 ·exact h i j a b e
 ·have e1:j=hi:=by omega
  subst e1;by_cases e2:i=j
  ·rw[e2];exact o.irr _
  ·exact o.tr _ _ _ (h i (j-1) a (by omega) (by omega)) h1
theorem Dn.more(o:Ord lt){lo hi:Nat}(h:Dn lt p lo hi)(hl:lo<hi)(h1:lt (at' p (hi-1)) (at' p hi)=false):Dn lt p lo (hi+1):=by
 intro i j a b c;by_cases e:j<hi
 ·exact h i j a b e
 ·have e1:j=hi:=by omega
  subst e1;by_cases e2:i=j
  ·rw[e2];exact o.irr _
  ·exact o.tr _ _ _ h1 (h i (j-1) a (by omega) (by omega))
end
section
variable {lt:Nat->Nat->Bool} {n:Nat}
end
end Z
namespace Z
open PySem PySem.W PySem.Calls PyProof.Rows
section
variable {prog:Qp} {w:World} {A:QH} {E:KO->Shared->Prop} {s:Shared} {vs:List KO} {lt:Nat->Nat->Bool}
end
section
variable {prog:Qp} {w:World} {A:QH} {E:KO->Shared->Prop} {s:Shared} {vs:List KO}
noncomputable def PrsIn(h:QG):List KO->List (Int×Int)->Prop
 |[],[]=>True
 |v::vs,p::ps=>(∃a o c t u,v=.ref a/\h.get? a=some o/\o.cls=.type "tuple" /\ o.data=.seq #[.int p.1 t,.int p.2 u] c)/\PrsIn h vs ps
 |_,_=>False
theorem PrsIn.at_{h:QG}:∀ {vs:List KO} {ps:List (Int×Int)},PrsIn h vs ps->∀i,i<vs.length->∃a o c t u,vs.getD i YD=.ref a/\h.get? a=some o/\o.cls=.type "tuple" /\ o.data=.seq #[.int (ps.getD i (0,0)).1 t,.int (ps.getD i (0,0)).2 u] c
 |[],[],_,i,hi=>by simp at hi
 |_::_,_::_,⟨x,r⟩,i,hi=>by
  cases i with
  |zero=>exact x
  |succ i=>simpa using PrsIn.at_ r i (by simpa using hi)
 |[],_::_,x,_,_=>x.elim
 |_::_,[],x,_,_=>x.elim
end
end Z
namespace Z
open PySem PySem.Spec PyProof.Rows L2
abbrev eob(it:Addr)(i:Int)(f0:KO)(f1:Bool)(old:KO):Obj:={ cls:=.type "enumerate",dict:=none,data:=.fields #[f0,.bool f1,.ref it,rawInt i,.none,old],slots:=#[] }
section
variable {prog:Qp} {w:World} {A:QH} {E:KO->Shared->Prop} {s:Shared} {e it l:Addr}
theorem efree{i:Int}{f0 old:KO}{f1:Bool}{Q:Bool->Shared->Prop}(hz:s.heap.get? e=some (eob it i f0 f1 old))(hf:ZF f0)(q:∀b h₁ g1,h₁.get? e=some (eob it i f0 g1 old)->Yq e s.heap h₁->Q b { s with heap:=h₁ }) :
 wpAny (model prog w) A (QE (.ref e)) Q E s:=by
 unfold QE;rcases hf with rfl|⟨T,rfl⟩
 ·exact KL (Q3 hz rfl (x:=.none) rfl (KW (q true s.heap f1 hz (XZ ..))))
 ·refine KL (Q3 hz rfl (x:=rawInt T) rfl ?_);refine KL (m:=loadIfAlive (T:Int).toNat) (vT ?_)
  cases hT:s.heap.get? (T:Int).toNat with
  |none=>exact KW (q true s.heap f1 hz (XZ ..))
  |some o =>
   refine KL (m:=field (.ref e) 1) (Q3 hz rfl (x:=.bool f1) rfl ?_)
   cases f1 with
   |true=>exact KW (q false s.heap true hz (XZ ..))
   |false=>exact KL (m:=ZG (.ref e) 1 (.bool true)) (QQ hz (by simp) fun h₁ k1 k2=>KW (q false h₁ true k1 k2))
structure ESt (e it l:Addr) (k:Nat) (h:QG):Prop where
 enm:∃f0 f1 old,ZF f0/\h.get? e=some (eob it k f0 f1 old)
 one:h.IsListIter it l k
theorem enext{k:Nat}{xs:Array KO}{x:KO}{Q:Option KO->Shared->Prop}(hne:e≠it)(st:ESt e it l k s.heap)(hl:s.heap.IsList l xs)(hx:xs[k]?=some x)
 (q:∀T h₂,ESt e it l (k+1) h₂->s.heap.objs.size<=T->h₂.get? T=some (xJ (.int k s.toks) x)->(∀b o,b ∉ [e,it]->s.heap.get? b=some o->h₂.get? b=some o)->Q (some (.ref T)) { s with heap:=h₂,toks:=s.toks+1 }) :
 wpAny (model prog w) A (pyNext (.ref e)) Q E s:=by
 obtain⟨⟨f0,f1,old,hf,he⟩,hit⟩:=st
 have ty:s.TypeIs (.ref e) "enumerate":=⟨_,he,rfl⟩
 unfold pyNext;refine KL (YQ (Yz (name:=Yt "__next__") ty Yg (YA Yg ty F.entry_enumerate_next ?_ (F.args_enumerate_next_1 _))));obtain⟨hp,g,d,tk,os⟩:=s;show wpAny _ _ (field (.ref e) 2 >>= _) _ _ _;refine KL (Q3 he rfl (x:=.ref it) rfl ?_);refine KL (Xp hit hl hx fun h₁ hit₁ hs₁=>?_);replace hs₁:Yq it hp h₁:=hs₁;have he₁:h₁.get? e=some (eob it k f0 f1 old):=(hs₁.2 e hne).trans he;show wpAny _ _ (field (.ref e) 3 >>= _) _ _ ⟨h₁,g,d,tk,os⟩;refine KL (Q3 he₁ rfl (x:=rawInt k) rfl ?_);show wpAny _ _ (field (.ref e) 4 >>= _) _ _ ⟨h₁,g,d,tk,os⟩;refine KL (Q3 he₁ rfl (x:=.none) rfl ?_);show wpAny _ _ (mkInt k >>= _) _ _ ⟨h₁,g,d,tk,os⟩;refine KL (wpAny_mkInt ?_);show wpAny _ _ (ZG (.ref e) 3 (rawInt ((k:Int)+1)) >>= _) _ _ ⟨h₁,g,d,tk+1,os⟩;refine KL (QQ he₁ (by simp) fun h₂ he₂ hs₂=>?_);replace hs₂:Yq e h₁ h₂:=hs₂;replace he₂:h₂.get? e=some (eob it ((k:Int)+1) f0 f1 old):=he₂;show wpAny _ _ (ZG (.ref e) 4 .none >>= _) _ _ ⟨h₂,g,d,tk+1,os⟩;refine KL (QQ he₂ (by simp) fun h₃ he₃ hs₃=>?_);replace hs₃:Yq e h₂ h₃:=hs₃;replace he₃:h₃.get? e=some (eob it ((k:Int)+1) f0 f1 old):=he₃;show wpAny _ _ (newTuple [.int k tk,x] >>= _) _ _ ⟨h₃,g,d,tk+1,os⟩;refine KL (wpAny_newTuple ?_);have he₄:(h₃.push (xJ (.int k tk) x)).get? e=some (eob it ((k:Int)+1) f0 f1 old):=KQ _ he₃;generalize hh₄:h₃.push (xJ (.int k tk) x)=h₄ at he₄
 have hsz:h₃.objs.size=hp.objs.size:=by rw[hs₃.1,hs₂.1,hs₁.1]
 have hel:e<hp.objs.size:=K2 he
 have ht₄:h₄.get? hp.objs.size=some (xJ (.int k tk) x):=by rw[<- hh₄,<- hsz];exact Qh _ rfl
 have hk₄:∀b o,b ∉ [e,it]->hp.get? b=some o->h₄.get? b=some o:=fun b o hb e=>by
  simp only[KS,K4,or_false,not_or]at hb;rw[<- hh₄];exact KQ _ (hs₃.extBut b o hb.1 (hs₂.extBut b o hb.1 (hs₁.extBut b o hb.2 e)))
 have hit₄:h₄.IsListIter it l (k+1):=by
  rw[<- hh₄];obtain⟨o,ho,r⟩:=(hit₁.extBut hs₂.extBut (Xm hne)).extBut hs₃.extBut (Xm hne);exact⟨o,KQ _ ho,r⟩
 have hc:((k+1:Nat):Int)=(k:Int)+1:=by simp
 show wpAny _ _ (QE (.ref e) >>= _) _ _ ⟨h₄,g,d,tk+1,os⟩;rw[hsz];refine KL (efree he₄ hf fun fr h₅ g1 he₅ hs₅=>?_);replace hs₅:Yq e h₄ h₅:=hs₅;have ht₅:h₅.get? hp.objs.size=some (xJ (.int k tk) x):=hs₅.extBut _ _ (YE hel) ht₄
 have hk₅:∀b o,b ∉ [e,it]->hp.get? b=some o->h₅.get? b=some o:=fun b o hb z=>by
  have hb':=hb;simp only[KS,K4,or_false,not_or]at hb';exact hs₅.extBut b o hb'.1 (hk₄ b o hb z)
 have hit₅:=hit₄.extBut hs₅.extBut (Xm hne)
 cases fr with
 |false =>
  simp only[Qk,if_false]
  exact KW ⟨_,rfl,KW (q _ h₅ ⟨⟨f0,g1,old,hf,by rw[hc];exact he₅⟩,hit₅⟩ (K6 _) ht₅ hk₅)⟩
 |true =>
  simp only[if_true];refine KL (wpAny_rule ?_);refine KL (m:=field (.ref e) 5) (Q3 he₅ rfl (x:=old) rfl ?_);refine KL (m:=ZG (.ref e) 5 x) (QQ he₅ (by simp) fun h₆ he₆ hs₆=>?_);refine KL (m:=Xt (.ref e) (.ref hp.objs.size)) ?_;unfold Xt;refine KL (m:=ZG (.ref e) 0 (rawInt hp.objs.size)) (QQ he₆ (by simp) fun h₇ he₇ hs₇=>QQ he₇ (by simp) fun h₈ he₈ hs₈=>?_)
  have up:∀b o,b≠e->h₅.get? b=some o->h₈.get? b=some o:=fun b o hb z=>hs₈.extBut b o hb (hs₇.extBut b o hb (hs₆.extBut b o hb z))
  refine KL (YZ (KW ⟨_,rfl,KW (q hp.objs.size h₈ ⟨⟨rawInt hp.objs.size,false,x,.inr ⟨_,rfl⟩,by rw[hc];exact he₈⟩,hit₅.at fun o z=>up _ o (Xm hne) z⟩ (K6 _) (up _ _ (YE hel) ht₅) fun b o hb z=>?_)⟩));have hb':=hb;simp only[KS,K4,or_false,not_or]at hb';exact up b o hb'.1 (hk₅ b o hb z)
theorem eend{k:Nat}{xs:Array KO}{Q:Option KO->Shared->Prop}(hh:A.handled=none)(hne:e≠it)(st:ESt e it l k s.heap)(hl:s.heap.IsList l xs)(hx:xs[k]?=none)
 (q:∀h₂,(∀b o,b ∉ [e,it]->s.heap.get? b=some o->h₂.get? b=some o)->Q none { s with heap:=h₂ }):wpAny (model prog w) A (pyNext (.ref e)) Q E s:=by
 obtain⟨⟨f0,f1,old,hf,he⟩,hit⟩:=st
 have ty:s.TypeIs (.ref e) "enumerate":=⟨_,he,rfl⟩
 unfold pyNext;refine KL (YQ (Yz (name:=Yt "__next__") ty Yg (YA Yg ty F.entry_enumerate_next ?_ (F.args_enumerate_next_1 _))));show wpAny _ _ (field (.ref e) 2 >>= _) _ _ _;refine KL (Q3 he rfl (x:=.ref it) rfl ?_);refine KL (Yf hh hit hl hx fun h' x he' hx'=>?_);obtain⟨o,ho,hc⟩:=hx';refine KL (wpAny_isInstance (T:="StopIteration") (b:=true) ⟨o,ho,hc⟩ isSubtype_stop ?_);refine KW (q _ fun b o hb z=>he' b o ?_ z);simp only[KS,K4,or_false,not_or]at hb;exact hb.2
end
noncomputable def Ite(K:KN)(l:Addr):It:=⟨fun i H=>∃xs x,SqL K H l xs/\xs[i]?=some x,
 fun i H v H'=>∃T x,v=.ref T/\H T=none/\(∀xs,SqL K H l xs->xs[i]?=some x)/\H'=upd H T (.tup [.int i,x]),fun i H=>∃xs,SqL K H l xs/\xs.length<=i⟩
theorem turn_enum{P:Qp}{w:World}{K:KN}{x:Str}{px:Pos}{e it l:Addr}(hne:e≠it):Turn P w K (.Name x px) (Ite K l) [e,it] e (fun i h=>ESt e it l i h) where
 mem:=by simp
 obj:=fun i h st b hb=>by
  obtain⟨⟨f0,f1,old,hf,hz⟩,⟨o1,e1,_,d1⟩⟩:=st;simp only[KS,K4,or_false]at hb;rcases hb with rfl|rfl
  ·exact⟨_,hz,fun v q=>by cases q⟩
  ·exact⟨_,e1,fun v q=>by rw[d1]at q;cases q⟩
 keep:=fun i h h' st k=>by
  obtain⟨⟨f0,f1,old,hf,hz⟩,o1⟩:=st;exact⟨⟨f0,f1,old,hf,k e (by simp) _ hz⟩,o1.at fun o z=>k it (by simp) o z⟩
 item:=by
  intro X hP hw hK hc i pins s σ H E I hf st hg;subst hP hw hK;obtain⟨xs,xv,q1,e1⟩:=hg;obtain⟨its1,r1,p1,_⟩:=I.list q1;obtain⟨u1,hu1,ru1⟩:=r1.get e1
  refine enext hne st p1.isList (x:=u1) (by simpa using hu1) fun T h₂ st₂ hT ht k=>⟨.ref T,rfl,go_name ?_⟩
  have fT:H T=none:=I.hok.fresh hT;have I2:Inv X pins σ (upd H T (.tup [.int i,xv])) { s with heap:=h₂ }:=Inv.turnedL (ch:=[e,it]) (us:=[.int i s.toks,u1]) I hf k hT ht (.cons ⟨_,rfl⟩ (.cons ru1 .nil)) (by show 2<=sizeLine;decide);refine⟨.ref T,upd H T (.tup [.int i,xv]),I2.tok _,rfl,⟨T,xv,rfl,fT,fun zs hz=>by rw[I.list_inj hz q1];exact e1,rfl⟩,st₂,fun b hb=>?_⟩
  obtain⟨o,eo,_⟩:∃o,s.heap.get? b=some o/\True:=by
   obtain⟨⟨f0,f1,old,hf',hz⟩,⟨o1,w1,_,_⟩⟩:=st;simp only[KS,K4,or_false]at hb;rcases hb with rfl|rfl
   ·exact⟨_,hz,trivial⟩
   ·exact⟨_,w1,trivial⟩
  rw[jh fun q=>absurd (K2 eo) (by rw[q];exact Ur.mpr hT)];exact(hf b hb).1
 done:=by
  intro X hP hw hK hc i pins s σ H E I hf st hg;subst hP hw hK;obtain⟨xs,q1,hl⟩:=hg;obtain⟨its1,r1,p1,_⟩:=I.list q1;have n1:=r1.length
  refine eend (I.ok.hd hc) hne st p1.isList (by simp;lia) fun h₂ k=>⟨rfl,?_⟩
  exact Inv.turnedN (ch:=[e,it]) I hf k
 self:=fun A i s Q E st h=>by
  obtain⟨⟨f0,f1,old,hf,hz⟩,_⟩:=st
  have ty:s.TypeIs (.ref e) "enumerate":=⟨_,hz,rfl⟩
  refine wpAny_pyIter_slot ty F.slot_enumerate_iter (YA F.slot_enumerate_iter ty F.entry_enumerate_iter ?_ (F.args_enumerate_iter_1 _));exact KW (M:=model P w) ⟨_,rfl,"enumerate",_,ty,Yg.lookup,h⟩
noncomputable def iEnm(K:KN)(ta:TA):TI:=fun σ H R=>ta σ H fun vs H1=>∃l,vs=[.ref l]/\(∃xs,SqL K H1 l xs)/\R (Ite K l) H1
theorem pi_enum{X:Cx}{x:Str}{px p pos:Pos}{a:Expr}{as:List Expr}{ta:TA}(hg:Gl X "enumerate")(hm:X.mg "enumerate"=none)(ha:PA X (a::as) ta)(hs:Qa (a::as) X.env=(false,eval a X.env)::Qa as X.env)(hpl:(backTo pos (Qa as X.env)).any (·.1)=false) :
 PI X (.Name x px) (.Call (.Name "enumerate" p) (a::as) [] pos) (iEnm X.K ta):=by
 intro pins s σ H R I h;refine Call_ (uc I hg hm boot_enumerate (X4 (thn (ha pos pins s σ H _ I h) fun us s1 ⟨vs,H1,I1,r1,q1⟩=>?_) hs hpl));obtain⟨l,rfl,⟨xs,hx⟩,q⟩:=q1;obtain⟨u1,rfl,e1⟩:=xi r1;cases e1;obtain⟨its1,r1,p1,_⟩:=I1.list hx
 refine call_enumerate_list p1.isList fun h₂ he hi _ hk=>?_
 refine wpAny_pyIter_enum (s:={ s1 with heap:=h₂ }) he ⟨_,_,_,_,H1,rfl,I1.kept (t':=s1.toks) hk,turn_enum (Nat.succ_ne_self _),⟨⟨.none,false,.none,.inl rfl,he⟩,hi⟩,fun b hb=>?_,q⟩
 have hb':s1.heap.objs.size<=b:=by
  simp only[KS,K4,or_false]at hb
  rcases hb with rfl|rfl<;>lia
 exact I1.fpOk hb' (I1.hok.fresh hb')
end Z
namespace Z
open PySem PySem.Spec PyProof.Rows L2
structure Ck where
 N:List Str
 names:List (Str×Yb)
 fns:List (Str×Nat)
 cns:List Str
 cls:List Str:=[]
 rz:Bool:=false
 rs:Bool:=false
 al:Bool:=true
noncomputable def Ck.loc(k:Ck)(i:Nat)(x:Str):Bool :=
 decide (k.N[i]?=some x)&&(decide (k.names.lookup x=some .local) ||decide (k.names.lookup x=some .cell)) && !(x == ("__debug__":Str)) && !(x == ("__classdict__":Str))
noncomputable def Ck.gl(k:Ck)(x:Str):Bool:=decide (k.names.lookup x=some .globalImplicit) && !(x == ("__debug__":Str))&&decide (x≠("__name__":Str))
noncomputable def opOk:BOp->Operator->Bool
 |.add,.Add=>true
 |.sub,.Sub=>true
 |.mul,.Mult=>true
 |.fdiv,.FloorDiv=>true
 |.mod,.Mod=>true
 |.shl,.LShift=>true
 |.shr,.RShift=>true
 |.band,.BitAnd=>true
 |.pow,.Pow=>true
 |_,_=>false
noncomputable def zw:Expr->Bool
 |.Constant .none _ _=>true
 |_=>false
noncomputable def isTrueC:Expr->Bool
 |.Constant (.bool _) _ _=>true
 |_=>false
noncomputable def cOk:COp->CmpOp->Expr->Bool
 |.eq,.Eq,_=>true
 |.ne,.NotEq,_=>true
 |.lt,.Lt,_=>true
 |.le,.LtE,_=>true
 |.gt,.Gt,_=>true
 |.ge,.GtE,_=>true
 |.isN,.Is,e=>zw e
 |.notN,.IsNot,e=>zw e
 |.isT,.Is,e=>isTrueC e
 |.notT,.IsNot,e=>isTrueC e
 |_,_,_=>false
noncomputable def constOk:D->Const->Bool
 |.non,.none=>true
 |.bl b,.bool c=>b == c
 |.int i,.int j=>decide (i=j)
 |.str x,.str y=>decide (x=y)&&Xo x
 |_,_=>false
noncomputable def Bi.nm:Bi->Str
 |.abs=>"abs"
 |.max=>"max"
 |.min=>"min"
 |.len=>"len"
 |.int=>"int"
 |.list=>"list"
 |.sum=>"sum"
 |.all=>"all"
 |.any=>"any"
 |.tuple=>"tuple"
 |.str=>"str"
noncomputable def Ty.nm:Ty->Str
 |.int=>"int"
 |.bool=>"bool"
 |.tuple=>"tuple"
 |.list=>"list"
 |.str=>"str"
noncomputable def Mt.nm:Mt->Str
 |.bitlen=>"bit_length"
noncomputable def plainO:Expr->Bool
 |.Call (.Name _ _) [] [] _=>false
 |_=>true
noncomputable def yL:Expr->Bool
 |.Slice ..=>true
 |_=>false
noncomputable def jo:Expr->Option Str
 |.Name x _=>some x
 |_=>none
noncomputable def kN:Expr->Option Const
 |.Constant c _ _=>some c
 |_=>none
noncomputable def asBin:Expr->Option (Expr×Operator×Expr)
 |.BinOp l o r _=>some (l,o,r)
 |_=>none
noncomputable def asUn:Expr->Option (UnaryOp×Expr)
 |.UnaryOp o e _=>some (o,e)
 |_=>none
noncomputable def asCmp:Expr->Option (Expr×List CmpOp×List Expr)
 |.Compare l o r _=>some (l,o,r)
 |_=>none
noncomputable def Kp:Expr->Option (BoolOp×List Expr×Pos)
 |.BoolOp o vs p=>some (o,vs,p)
 |_=>none
noncomputable def asIf:Expr->Option (Expr×Expr×Expr)
 |.IfExp t x y _=>some (t,x,y)
 |_=>none
noncomputable def asTup:Expr->Option (List Expr)
 |.Tuple xs _ _=>some xs
 |_=>none
noncomputable def Jf:Expr->Option (List Expr)
 |.List xs _=>some xs
 |_=>none
noncomputable def uA:Expr->Option (Expr×Expr)
 |.Subscript v i _=>some (v,i)
 |_=>none
noncomputable def xz:Expr->Option (Expr×List Expr×List Keyword×Pos)
 |.Call f xs ks p=>some (f,xs,ks,p)
 |_=>none
noncomputable def xy:Expr->Option (Expr×Str×Pos)
 |.Attribute v x p=>some (v,x,p)
 |_=>none
theorem jn{e:Expr}{x:Str}(h:jo e=some x):∃p,e=.Name x p:=by cases e<;>cases h;exact⟨_,rfl⟩
theorem qU{e:Expr}{x:Const}(h:kN e=some x):∃j p,e=.Constant x j p:=by cases e<;>cases h;exact⟨_,_,rfl⟩
theorem vh{e l r:Expr}{o:Operator}(h:asBin e=some (l,o,r)):∃p,e=.BinOp l o r p:=by cases e<;>cases h;exact⟨_,rfl⟩
theorem asUn_{e l:Expr}{o:UnaryOp}(h:asUn e=some (o,l)):∃p,e=.UnaryOp o l p:=by cases e<;>cases h;exact⟨_,rfl⟩
theorem JT{e l:Expr}{o:List CmpOp}{r:List Expr}(h:asCmp e=some (l,o,r)):∃p,e=.Compare l o r p:=by cases e<;>cases h;exact⟨_,rfl⟩
theorem uO{e:Expr}{o:BoolOp}{r:List Expr}{p:Pos}(h:Kp e=some (o,r,p)):e=.BoolOp o r p:=by cases e<;>cases h;rfl
theorem asIf_{e t x y:Expr}(h:asIf e=some (t,x,y)):∃p,e=.IfExp t x y p:=by cases e<;>cases h;exact⟨_,rfl⟩
theorem KE{e:Expr}{xs:List Expr}(h:asTup e=some xs):∃j p,e=.Tuple xs j p:=by cases e<;>cases h;exact⟨_,_,rfl⟩
theorem yi{e:Expr}{xs:List Expr}(h:Jf e=some xs):∃p,e=.List xs p:=by cases e<;>cases h;exact⟨_,rfl⟩
theorem yl{e v i:Expr}(h:uA e=some (v,i)):∃p,e=.Subscript v i p:=by cases e<;>cases h;exact⟨_,rfl⟩
theorem xt{e f:Expr}{xs:List Expr}{ks:List Keyword}{p:Pos}(h:xz e=some (f,xs,ks,p)):e=.Call f xs ks p:=by cases e<;>cases h;rfl
theorem xq{e v:Expr}{x:Str}{p:Pos}(h:xy e=some (v,x,p)):e=.Attribute v x p:=by cases e<;>cases h;rfl
noncomputable def kc(e:Expr):Option (Str×List Expr×Pos):=(xz e).bind fun c=>if c.2.2.1.isEmpty then (jo c.1).map fun x=>(x,c.2.1,c.2.2.2) else none
theorem jL{e:Expr}{x:Str}{xs:List Expr}{p:Pos}(h:kc e=some (x,xs,p)):∃q,e=.Call (.Name x q) xs [] p:=by
 unfold kc at h
 cases c:xz e with
 |none=>rw[c]at h;cases h
 |some c' =>
  obtain⟨f,ys,ks,p'⟩:=c';rw[c]at h;have e1:=xt c
  cases ks with
  |nil =>
   cases n:jo f with
   |none=>simp[n]at h
   |some y =>
    simp[n]at h;obtain⟨q,e2⟩:=jn n;obtain⟨rfl,rfl,rfl⟩:=h
    exact⟨q,by rw[e1,e2]⟩
  |cons _ _=>simp at h
noncomputable def isSet:Expr->Bool
 |.Set ..=>true
 |_=>false
noncomputable def asLC:Expr->Option (Expr×List Comprehension×Scope)
 |.ListComp a b c _=>some (a,b,c)
 |_=>none
theorem asLC_{e a:Expr}{b:List Comprehension}{c:Scope}(h:asLC e=some (a,b,c)):∃p,e=.ListComp a b c p:=by cases e<;>cases h;exact⟨_,rfl⟩
noncomputable def vj(e:Expr):Option (Expr×Str×Expr×Scope):=(asLC e).bind fun z=>match z.2.1 with
 |[g]=>if g.ifs.isEmpty&&decide (g.is_async=0) then (jo g.target).map fun x=>(z.1,x,g.iter,z.2.2) else none
 |_=>none
theorem kL{e a:Expr}{x:Str}{i:Expr}{c:Scope}(h:vj e=some (a,x,i,c)):∃px p,e=.ListComp a [⟨.Name x px,i,[],0⟩] c p:=by
 unfold vj at h
 cases z:asLC e with
 |none=>rw[z]at h;cases h
 |some y =>
  obtain⟨a',b,c'⟩:=y;obtain⟨p,rfl⟩:=asLC_ z;rw[z]at h;simp only[Option.bind_some]at h;split at h
  ·next g =>
   obtain⟨tg,it,ifs,asy⟩:=g;simp only at h;split at h
   ·next hc =>
    simp only[KM,Xd,decide_eq_true_eq]at hc;obtain⟨rfl,rfl⟩:=hc
    cases n:jo tg with
    |none=>rw[n]at h;cases h
    |some y =>
     rw[n]at h;obtain⟨px,rfl⟩:=jn n;cases h;exact⟨px,p,rfl⟩
   ·cases h
  ·cases h
noncomputable def JS(e:Expr):Option (Expr×Str×Expr×Scope×Expr):=(asLC e).bind fun z=>match z.2.1 with
 |[g]=>match g.ifs with
  |[c]=>if decide (g.is_async=0) then (jo g.target).map fun x=>(z.1,x,g.iter,z.2.2,c) else none
  |_=>none
 |_=>none
theorem u9{e a:Expr}{x:Str}{i f:Expr}{c:Scope}(h:JS e=some (a,x,i,c,f)):∃px p,e=.ListComp a [⟨.Name x px,i,[f],0⟩] c p:=by
 unfold JS at h
 cases z:asLC e with
 |none=>rw[z]at h;cases h
 |some y =>
  obtain⟨a',b,c'⟩:=y;obtain⟨p,rfl⟩:=asLC_ z;rw[z]at h;simp only[Option.bind_some]at h;split at h
  ·next g =>
   obtain⟨tg,it,ifs,asy⟩:=g;simp only at h;split at h
   ·next cc =>
    split at h
    ·next hc =>
     simp only[decide_eq_true_eq]at hc;subst hc
     cases n:jo tg with
     |none=>rw[n]at h;cases h
     |some y =>
      rw[n]at h;obtain⟨px,rfl⟩:=jn n;cases h;exact⟨px,p,rfl⟩
    ·cases h
   ·cases h
  ·cases h
noncomputable def relab(names out:List (Str×Yb)):List (Str×Yb):=names.map fun(n,k)=>if (k == .free&&out.lookup n == some .cell) then (n,.cell) else (n,k)
noncomputable def Ck.block(k:Ck)(x:Str)(sc:Scope):Ck:={ k with N:=kZ k.N x,names:=relab sc.names k.names }
noncomputable def qW(k:Ck)(x:Str)(sc:Scope):Bool :=
 (sc.kind == .function)&&decide ((sc.names.filter fun y=>y.2 == .cell)=if sc.names.lookup x=some .cell then [(x,.cell)] else [])&&(sc.names.all fun y=>!(y.2 == .local) ||decide (sc.names.lookup y.1=some .local))&&(decide (sc.names.lookup x=some .local) ||decide (sc.names.lookup x=some .cell)) &&
  (sc.names.all fun y=>!(y.2 == .local) ||decide (y.1=x) ||(!(k.N.contains y.1)&&decide (y.1≠(dum k.N))))&&(sc.names.all fun y=>!(y.2 == .free) ||decide (k.names.lookup y.1=some .cell) ||decide (k.names.lookup y.1=some .free)) &&
  decide (x≠(dum k.N))&&decide (k.names.lookup (dum k.N)=none) && !(k.N.contains (dum k.N))
noncomputable def plainE:Expr->Bool
 |.Starred .. |.Set .. |.SetComp .. |.DictComp .. |.Slice ..=>false
 |_=>true
noncomputable def KH:Expr->Option (Option Expr×Option Expr)
 |.Slice lo hi none _=>some (lo,hi)
 |_=>none
theorem asSlice_{e:Expr}{lo hi:Option Expr}(h:KH e=some (lo,hi)):∃p,e=.Slice lo hi none p:=by
 unfold KH at h;split at h
 ·cases h;exact⟨_,rfl⟩
 ·cases h
noncomputable def fmtV:Expr->Option Expr
 |.FormattedValue v (-1) none _=>some v
 |_=>none
theorem fmtV_{e v:Expr}(h:fmtV e=some v):∃p,e=.FormattedValue v (-1) none p:=by
 unfold fmtV at h;split at h
 ·cases h;exact⟨_,rfl⟩
 ·cases h
noncomputable def cstPart:Ex->Expr->Bool
 |.cst (.str z),.Constant (.str y) _ _=>decide (z=y)
 |_,_=>false
theorem cstPart_{x:Ex}{e:Expr}(h:cstPart x e=true):∃z j p,x=.cst (.str z)/\e=.Constant (.str z) j p:=by
 unfold cstPart at h;split at h
 ·cases of_decide_eq_true h;exact⟨_,_,_,rfl,rfl⟩
 ·cases h
mutual
noncomputable def chkE:Ck->Ex->Expr->Bool
 |k,.var i,e=>(jo e).any fun x=>k.loc i x
 |k,.cst d,e=>(kN e).any fun c=>constOk d c
 |k,.con i,e=>(jo e).any fun x=>decide (k.cns[i]?=some x)&&k.gl x
 |k,.bin o a b,e=>(asBin e).any fun z=>opOk o z.2.1&&chkE k a z.1&&chkE k b z.2.2
 |k,.neg a,e=>(asUn e).any fun z=>decide (z.1=.USub)&&chkE k a z.2
 |k,.not a,e=>(asUn e).any fun z=>decide (z.1=.Not)&&chkE k a z.2
 |k,.cmp o a b,e=>(asCmp e).any fun z=>decide (z.2.1.length=1)&&decide (z.2.2.length=1)&&cOk o (z.2.1.getD 0 .Eq) (z.2.2.getD 0 e)&&chkE k a z.1&&chkE k b (z.2.2.getD 0 e)
 |k,.and a b,e=>(Kp e).any fun z=>decide (z.1=.And)&&decide (2<=z.2.1.length)&&chkE k a (z.2.1.getD 0 e)&&(if z.2.1.length=2 then chkE k b (z.2.1.getD 1 e) else chkE k b (.BoolOp .And (z.2.1.drop 1) z.2.2))
 |k,.or a b,e=>(Kp e).any fun z=>decide (z.1=.Or)&&decide (2<=z.2.1.length)&&chkE k a (z.2.1.getD 0 e)&&(if z.2.1.length=2 then chkE k b (z.2.1.getD 1 e) else chkE k b (.BoolOp .Or (z.2.1.drop 1) z.2.2))
 |k,.ife c a b,e=>(asIf e).any fun z=>chkE k c z.1&&chkE k a z.2.1&&chkE k b z.2.2
 |k,.tup es,e=>(asTup e).any fun xs=>decide (xs.length<=1000)&&qm k es xs
 |k,.lst es,e=>(Jf e).any fun xs=>decide (xs.length<=1000)&&qm k es xs
 |k,.ix a b,e=>(uA e).any fun z=>!yL z.2&&chkE k a z.1&&chkE k b z.2
 |k,.call f es,e=>(kc e).any fun z=>decide (k.fns[f]?=some (z.1,z.2.1.length))&&k.gl z.1 && !z.2.1.isEmpty&&qm k es z.2.1
 |k,.bi f es,e=>(kc e).any fun z=>decide (z.1=f.nm)&&k.gl z.1 && !z.2.1.isEmpty&&qm k es z.2.1
 |k,.meth m o,e=>(xz e).any fun z=>z.2.1.isEmpty&&z.2.2.1.isEmpty&&(xy z.1).any fun y=>decide (y.2.1=m.nm)&&plainO y.1&&(y.2.2.endLine == z.2.2.2.line)&&chkE k o y.1
 |k,.isi a t,e=>(kc e).any fun z=>decide (z.1=("isinstance":Str))&&k.gl z.1&&decide (z.2.1.length=2)&&decide (jo (z.2.1.getD 1 e)=some t.nm)&&k.gl t.nm&&chkE k a (z.2.1.getD 0 e)
 |k,.compR es b,e=>(vj e).any fun z=>qW k z.2.1 z.2.2.2&&((kc z.2.2.1).any fun c=>decide (c.1=("range":Str))&&k.gl c.1 && !c.2.1.isEmpty&&qm k es c.2.1)&&chkE (k.block z.2.1 z.2.2.2) b z.1
 |k,.compE a b,e=>(vj e).any fun z=>qW k z.2.1 z.2.2.2 && !isSet z.2.2.1&&chkE k a z.2.2.1&&chkE (k.block z.2.1 z.2.2.2) b z.1
 |k,.compF a c b,e=>(JS e).any fun z=>qW k z.2.1 z.2.2.2.1 && !isSet z.2.2.1&&chkE k a z.2.2.1&&chkE (k.block z.2.1 z.2.2.2.1) c z.2.2.2.2&&chkE (k.block z.2.1 z.2.2.2.1) b z.1
 |k,.compZ a b c,e=>(vj e).any fun z=>qW k z.2.1 z.2.2.2&&((kc z.2.2.1).any fun y=>decide (y.1=("zip":Str))&&k.gl y.1&&decide (y.2.1.length=2)&&chkE k a (y.2.1.getD 0 e)&&chkE k b (y.2.1.getD 1 e))&&chkE (k.block z.2.1 z.2.2.2) c z.1
 |k,.slc a l h,e=>(uA e).any fun z=>(KH z.2).any fun y=>chkE k a z.1&&(y.1.isNone == kY l)&&(y.2.isNone == kY h)&&(kY l ||chkE k l (y.1.getD e))&&(kY h ||chkE k h (y.2.getD e))
 |k,.oix i a,e=>(uA e).any fun z=>!yL z.2&&((jo z.1).any fun x=>k.loc i x)&&chkE k a z.2
noncomputable def chkFs:Ck->List Ex->List Expr->Bool
 |_,[],es=>es.isEmpty
 |k,e::es,xs=>(((fmtV (xs.getD 0 (.Name "" ⟨0,0,0,0⟩))).any fun y=>chkE k e y) ||cstPart e (xs.getD 0 (.Name "" ⟨0,0,0,0⟩)))&&chkFs k es (xs.drop 1)
noncomputable def qm:Ck->List Ex->List Expr->Bool
 |_,[],es=>es.isEmpty
 |k,e::es,xs=>!xs.isEmpty&&chkE k e (xs.getD 0 (.Name "" ⟨0,0,0,0⟩))&&qm k es (xs.drop 1)
end
theorem qb{α:Type}{xs:List α}(h:xs.length=2):∃a b,xs=[a,b]:=by
 match xs,h with
 |[a,b],_=>exact⟨a,b,rfl⟩
theorem kJ{α:Type}{xs:List α}(h:xs.length=1):∃a,xs=[a]:=by
 match xs,h with
 |[a],_=>exact⟨a,rfl⟩
theorem xA{α:Type}{xs:List α}(h:(!xs.isEmpty)=true):∃a b,xs=a::b:=by
 cases xs with
 |nil=>cases h
 |cons a b=>exact⟨a,b,rfl⟩
theorem jb{α:Type}{o:Option α}{f:α->Bool}(h:o.any f=true):∃a,o=some a/\f a=true:=by
 cases o with
 |none=>cases h
 |some a=>exact⟨a,rfl,h⟩
theorem j0{k:Ck}{es:List Expr}(h:qm k [] es=true):es=[]:=by
 rw[qm]at h;simpa using h
theorem jR{k:Ck}{x:Ex}{xs:List Ex}{es:List Expr}(h:qm k (x::xs) es=true):∃y ys,es=y::ys/\chkE k x y=true/\qm k xs ys=true:=by
 rw[qm]at h
 cases es with
 |nil=>simp at h
 |cons y ys =>
  simp only[KM,QL,QZ]at h;exact⟨y,ys,rfl,h.1.2,h.2⟩
theorem ul{k:Ck}{x:Ex}{e:Expr}(h:chkE k x e=true):plainE e=true:=by
 cases x with
 |_ =>
  obtain⟨z,hz,_⟩:=jb h
  first
   |(obtain⟨_,rfl⟩:=jn hz;rfl)
   |(obtain⟨_,_,rfl⟩:=qU hz;rfl)
   |(obtain⟨_,rfl⟩:=vh hz;rfl)
   |(obtain⟨_,rfl⟩:=asUn_ hz;rfl)
   |(obtain⟨_,rfl⟩:=JT hz;rfl)
   |(have e:=uO hz;subst e;rfl)
   |(obtain⟨_,rfl⟩:=asIf_ hz;rfl)
   |(obtain⟨_,_,rfl⟩:=KE hz;rfl)
   |(obtain⟨_,rfl⟩:=yi hz;rfl)
   |(obtain⟨_,rfl⟩:=yl hz;rfl)
   |(obtain⟨_,rfl⟩:=jL hz;rfl)
   |(have e:=xt hz;subst e;rfl)
   |(obtain⟨_,rfl⟩:=asJoin_ hz;rfl)
   |(obtain⟨_,_,_,rfl⟩:=kL hz;rfl)
   |(obtain⟨_,_,rfl⟩:=u9 hz;rfl)
   |(obtain⟨_,_,rfl⟩:=kL hz;rfl)
noncomputable def Rws(K:KN)(O:List Addr)(H:Hp):List (List D)->List Addr->Prop
 |[],as=>as=[]
 |r::rs,as=>∃b bs vs,as=b::bs/\H b=some (.lst vs)/\Iss K (je H O) r vs/\Rws K O H rs bs
theorem Rws.imp{K:KN}{O O':List Addr}{H H':Hp}(s:jf (je H O) (je H' O')):∀ {rows:List (List D)} {as:List Addr},(∀b∈as,∀vs,H b=some (.lst vs)->H' b=some (.lst vs))->Rws K O H rows as->Rws K O' H' rows as
 |[],as,_,h=>h
 |r::rs,as,k,h=>by
  obtain⟨b,bs,vs,rfl,h1,h2,h3⟩:=h;exact⟨b,bs,vs,rfl,k b (K0 ..) vs h1,Iss.mono s r h2,Rws.imp s (fun c hc=>k c (KR _ hc)) h3⟩
theorem Rws.len{K:KN}{O:List Addr}{H:Hp}:∀ {rows:List (List D)} {as:List Addr},Rws K O H rows as->as.length=rows.length
 |[],as,h=>by cases h;rfl
 |r::rs,as,h=>by
  obtain⟨b,bs,vs,rfl,_,_,h3⟩:=h;simp[Rws.len h3]
theorem Rws.isL{K:KN}{O:List Addr}{H:Hp}:∀ {rows:List (List D)} {as:List Addr},Rws K O H rows as->∀b∈as,∃vs,H b=some (.lst vs)
 |[],as,h,b,hb=>by cases h;cases hb
 |r::rs,as,h,b,hb=>by
  obtain⟨c,bs,vs,rfl,h1,_,h3⟩:=h;rcases KS.mp hb with rfl|hb
  ·exact⟨vs,h1⟩
  ·exact Rws.isL h3 b hb
structure OwT (K:KN) (O:List Addr) (H:Hp) (rows:List (List D)) (a:Addr) (as:List Addr):Prop where
 top:H a=some (.lst (as.map .ref))
 nd:a ∉ as/\as.Nodup
 inO:a∈O/\∀b∈as,b∈O
 rw:Rws K O H rows as
theorem OwT.mono{K:KN}{O:List Addr}{H H':Hp}{rows:List (List D)}{a:Addr}{as:List Addr}(e:jf H H')(t:OwT K O H rows a as):OwT K O H' rows a as :=
 ⟨e _ _ t.top,t.nd,t.inO,t.rw.imp (jd e) fun b _ vs h=>e _ _ h⟩
noncomputable def OT(K:KN)(O:List Addr)(H:Hp)(σ:Sto)(τ:L2.St):Prop :=
 (∀i rows,getS σ i=some (.ot rows)->∃a as,τ[i]?=some (some (.ref a))/\OwT K O H rows a as/\∀j ds b,getS σ j=some (.ow ds)->τ[j]?=some (some (.ref b))->b≠a/\b ∉ as)/\∀i j rs qs,getS σ i=some (.ot rs)->getS σ j=some (.ot qs)->i=j
theorem OT.step{K:KN}{O O':List Addr}{H H':Hp}{σ σ':Sto}{τ τ':L2.St}(h:OT K O H σ τ)(hT:∀i rows,getS σ' i=some (.ot rows)->getS σ i=some (.ot rows)/\τ'[i]?=τ[i]?)
 (hO:∀i rows a as,getS σ i=some (.ot rows)->τ[i]?=some (some (.ref a))->(∀j ds b,getS σ j=some (.ow ds)->τ[j]?=some (some (.ref b))->b≠a/\b ∉ as)->OwT K O H rows a as->OwT K O' H' rows a as)
 (hW:∀i rows a as j ds b,getS σ i=some (.ot rows)->OwT K O H rows a as->getS σ' j=some (.ow ds)->τ'[j]?=some (some (.ref b))->(∃ds',getS σ j=some (.ow ds')/\τ[j]?=some (some (.ref b)))\/(b≠a/\b ∉ as)):OT K O' H' σ' τ':=by
 refine⟨fun i rows g=>?_,fun i j rs qs g1 g2=>h.2 i j rs qs (hT i rs g1).1 (hT j qs g2).1⟩;obtain⟨g0,e0⟩:=hT i rows g;obtain⟨a,as,e1,t,d⟩:=h.1 i rows g0;refine⟨a,as,e0.trans e1,hO i rows a as g0 e1 d t,fun j ds b g1 e2=>?_⟩;rcases hW i rows a as j ds b g0 t g1 e2 with⟨ds',g2,e3⟩|z
 ·exact d j ds' b g2 e3
 ·exact z
structure Reps (K:KN) (O:List Addr) (H:Hp) (σ:Sto) (τ:L2.St):Prop where
 len:σ.length=τ.length
 own:∀a∈O,H a≠none
 sh:∀i d,getS σ i=some (.sh d)->∃v,τ[i]?=some (some v)/\Is K (je H O) d v
 ow:∀i ds,getS σ i=some (.ow ds)->∃a vs,τ[i]?=some (some (.ref a))/\a∈O/\H a=some (.lst vs)/\Iss K (je H O) ds vs
 dj:∀i j ds es,i≠j->getS σ i=some (.ow ds)->getS σ j=some (.ow es)->τ[i]? ≠ τ[j]?
 tt:OT K O H σ τ
theorem Reps.mono{K:KN}{O:List Addr}{H H':Hp}{σ:Sto}{τ:L2.St}(r:Reps K O H σ τ)(e:jf H H'):Reps K O H' σ τ where
 len:=r.len
 own:=fun a ha z=>by
  cases q:H a with
  |none=>exact r.own a ha q
  |some o=>rw[e a o q]at z;cases z
 sh:=fun i d h=>by
  obtain⟨v,h1,h2⟩:=r.sh i d h;exact⟨v,h1,Is.mono (jd e) d h2⟩
 ow:=fun i ds h=>by
  obtain⟨a,vs,h1,h2,h3,h4⟩:=r.ow i ds h;exact⟨a,vs,h1,h2,e _ _ h3,Iss.mono (jd e) ds h4⟩
 dj:=r.dj
 tt:=r.tt.step (fun _ _ g=>⟨g,rfl⟩) (fun _ _ _ _ _ _ _ t=>t.mono e) fun _ _ _ _ j ds b _ _ g q=>.inl ⟨ds,g,q⟩
theorem kz:∀(σ:Sto) (i j:Nat) (v:Option Sl),getS (setS σ i v) j=if i=j/\i<σ.length then v else getS σ j
 |[],i,j,v=>by simp[setS,getS]
 |x::r,0,0,v=>by simp[setS,getS]
 |x::r,0,j+1,v=>by simp[setS,getS]
 |x::r,i+1,0,v=>by simp[setS,getS]
 |x::r,i+1,j+1,v=>by
  simp only[setS,getS,Xc];rw[kz r i j v];by_cases h:i=j/\i<r.length
  ·rw[if_pos h,if_pos (by lia)]
  ·rw[if_neg h,if_neg (by lia)]
theorem zH:∀(σ:Sto) (i:Nat) (v:Option Sl),(setS σ i v).length=σ.length
 |[],i,v=>rfl
 |_::_,0,v=>rfl
 |_::r,i+1,v=>by simp[setS,zH r i v]
noncomputable def less(O:List Addr)(a:Addr):List Addr:=O.filter fun b=>decide (b≠a)
theorem jX{O:List Addr}{a b:Addr}:b∈less O a ↔ b∈O/\b≠a:=by simp[less]
theorem Reps.share{K:KN}{O:List Addr}{H:Hp}{σ:Sto}{τ:L2.St}(r:Reps K O H σ τ){i:Nat}{ds:List D}{a:Addr}{vs:List V}(g:getS σ i=some (.ow ds))(e1:τ[i]?=some (some (.ref a)))(e3:H a=some (.lst vs))(e4:Iss K (je H O) ds vs) :
 Reps K (less O a) H (setS σ i (some (.sh (.lst ds)))) τ where
 len:=by rw[zH];exact r.len
 own:=fun b hb=>r.own b (jX.mp hb).1
 sh:=fun j d h=>by
  have lessS:jf (je H O) (je H (less O a)):=jC fun b hb=>(jX.mp hb).1
  rw[kz]at h;by_cases hj:i=j/\i<σ.length
  ·rw[if_pos hj]at h;obtain⟨rfl,_⟩:=hj;cases h;refine⟨.ref a,e1,qg (SqL.of ?_) (Iss.mono lessS ds e4)⟩;rw[j5 fun z=>(jX.mp z).2 rfl];exact e3
  ·rw[if_neg hj]at h;obtain⟨v,h1,h2⟩:=r.sh j d h;exact⟨v,h1,Is.mono lessS d h2⟩
 ow:=fun j es h=>by
  have lessS:jf (je H O) (je H (less O a)):=jC fun b hb=>(jX.mp hb).1
  rw[kz]at h;by_cases hj:i=j/\i<σ.length
  ·rw[if_pos hj]at h;cases h
  ·rw[if_neg hj]at h;obtain⟨b,ws,h1,h2,h3,h4⟩:=r.ow j es h;refine⟨b,ws,h1,jX.mpr ⟨h2,fun z=>?_⟩,h3,Iss.mono lessS es h4⟩;subst z
   have hij:i≠j:=fun z=>by
    subst z
    have:i<σ.length:=by
     rcases Qd i σ.length with q|q
     ·exact q
     ·rw[r.len]at q;rw[KT q]at e1;cases e1
    exact hj ⟨rfl,this⟩
   exact r.dj i j ds es hij g h (e1.trans h1.symm)
 dj:=fun j l es fs hjl g1 g2=>by
  rw[kz]at g1 g2;by_cases hj:i=j/\i<σ.length
  ·rw[if_pos hj]at g1;cases g1
  ·rw[if_neg hj]at g1;by_cases hl:i=l/\i<σ.length
   ·rw[if_pos hl]at g2;cases g2
   ·rw[if_neg hl]at g2;exact r.dj j l es fs hjl g1 g2
 tt:=by
  have old:∀j z,getS (setS σ i (some (.sh (.lst ds)))) j=some z->(∀d,z ≠ .sh d)->getS σ j=some z:=fun j z h n=>by
   rw[kz]at h;by_cases hj:i=j/\i<σ.length
   ·rw[if_pos hj]at h;cases h;exact absurd rfl (n _)
   ·rw[if_neg hj]at h;exact h
  refine r.tt.step (fun j rows h=>⟨old j _ h (fun _ z=>nomatch z),rfl⟩) (fun j rows b as h q d t=>?_) fun _ _ _ _ j es b _ _ h q=>.inl ⟨es,old j _ h (fun _ z=>nomatch z),q⟩
  obtain⟨n1,n2⟩:=d i ds a g e1;refine⟨t.top,t.nd,⟨jX.mpr ⟨t.inO.1,Xm n1⟩,fun c hc=>jX.mpr ⟨t.inO.2 c hc,fun z=>n2 (z ▸ hc)⟩⟩,t.rw.imp (jC fun b hb=>(jX.mp hb).1) fun _ _ _ z=>z⟩
theorem Jk{K:KN}{O O':List Addr}{H:Hp}{b:Addr}{us:List V}(k:∀u,je H O' b=some u->(∀vs,u ≠ .lst vs)->je H O b=some u)(h:SqT K (je H O') b us):SqT K (je H O) b us:=by
 rcases h with(h|⟨o,h⟩)|h
 ·exact .inl (.inl (k _ h fun _ z=>nomatch z))
 ·exact .inl (.inr ⟨o,k _ h fun _ z=>nomatch z⟩)
 ·exact .inr h
mutual
theorem nol_is{K:KN}{O:List Addr}{H:Hp}{a:Addr}{vs:List V}(h:H a=some (.lst vs)):∀(d:D) {v:V},nol d=true->Is K (je H (less O a)) d v->Is K (je H O) d v
 |.non,v,_,i=>by cases xw i;exact uY
 |.bl b,v,_,i=>by cases kq i;exact j6 _
 |.int n,v,_,i=>by cases jl i;exact jH _
 |.str x,v,_,i=>by obtain⟨rfl,o⟩:=kt i;exact qt o
 |.lst xs,v,n,i=>by simp[nol]at n
 |.tup xs,v,n,i=>by
  obtain⟨b,us,rfl,h1,h2⟩:=kx i;refine JX (Jk (fun u hu nl=>?_) h1) (nols_is h xs (by simpa[nol]using n) h2);have hb:H b=some u:=jg _ _ _ _ hu;rw[j5]
  ·exact hb
  ·intro z
   have hne:b≠a:=fun q=>by subst q;rw[h]at hb;cases hb;exact nl _ rfl
   have:je H (less O a) b=none:=by unfold je;rw[if_pos (jX.mpr ⟨z,hne⟩)]
   rw[this]at hu;cases hu
theorem nols_is{K:KN}{O:List Addr}{H:Hp}{a:Addr}{vs:List V}(h:H a=some (.lst vs)):∀(ds:List D) {us:List V},nols ds=true->Iss K (je H (less O a)) ds us->Iss K (je H O) ds us
 |[],us,_,i=>by unfold Iss at *;exact i
 |d::ds,us,n,i=>by
  simp only[nols,KM]at n;unfold Iss at *;obtain⟨v,r,e,i1,i2⟩:=i;exact⟨v,r,e,nol_is h d n.1 i1,nols_is h ds n.2 i2⟩
end
noncomputable def flD(d:D):V->Prop
 |.non=>d=.non
 |.bl b=>d=.bl b
 |.int i=>d=.int i
 |.str x=>d=.str x
 |.ref _=>(∃xs,d=.tup xs)\/∃xs,d=.lst xs
 |_=>False
theorem Is.fl{K:KN}{S:Hp}{d:D}{v:V}(g:Is K S d v):flD d v:=by
 cases d with
 |non=>cases xw g;rfl
 |bl b=>cases kq g;rfl
 |int i=>cases jl g;rfl
 |str x=>obtain⟨rfl,_⟩:=kt g;rfl
 |tup xs=>obtain⟨a,vs,rfl,_⟩:=kx g;exact .inl ⟨xs,rfl⟩
 |lst xs=>obtain⟨a,vs,rfl,_⟩:=jF g;exact .inr ⟨xs,rfl⟩
mutual
theorem Is.inj{pins:List (Addr×Obj)}{s:Shared}{τ:L2.St}{H:Hp}(I:Inv X pins τ H s):∀(d:D) {e:D} {v:V},Is X.K H d v->Is X.K H e v->d=e
 |.non,e,v,h,g=>by cases xw h;exact(show e=.non from g.fl).symm
 |.bl b,e,v,h,g=>by cases kq h;exact(show e=.bl b from g.fl).symm
 |.int b,e,v,h,g=>by cases jl h;exact(show e=.int b from g.fl).symm
 |.str b,e,v,h,g=>by obtain⟨rfl,_⟩:=kt h;exact(show e=.str b from g.fl).symm
 |.tup xs,e,v,h,g=>by
  obtain⟨a,vs,rfl,h1,h2⟩:=kx h
  cases e with
  |tup ys =>
   obtain⟨b,us,eb,g1,g2⟩:=kx g;cases eb;cases I.tuple_inj h1 g1
   rw[Iss.inj I xs h2 g2]
  |lst ys =>
   obtain⟨b,us,eb,g1,g2⟩:=jF g;cases eb;obtain⟨_,_,⟨o,e1,e2,_⟩,_⟩:=I.tuple h1;obtain⟨_,_,p,_⟩:=I.list g1;obtain⟨o',f1,f2,_⟩:=p.isList;rw[e1]at f1;cases f1;rw[e2]at f2;injection f2 with f2
   exact absurd f2 (by decide)
  |_=>rcases g.fl with⟨_,z⟩|⟨_,z⟩<;>cases z
 |.lst xs,e,v,h,g=>by
  obtain⟨a,vs,rfl,h1,h2⟩:=jF h
  cases e with
  |lst ys =>
   obtain⟨b,us,eb,g1,g2⟩:=jF g;cases eb;cases I.list_inj h1 g1
   rw[Iss.inj I xs h2 g2]
  |tup ys =>
   obtain⟨b,us,eb,g1,g2⟩:=kx g;cases eb;obtain⟨_,_,⟨o,e1,e2,_⟩,_⟩:=I.tuple g1;obtain⟨_,_,p,_⟩:=I.list h1;obtain⟨o',f1,f2,_⟩:=p.isList;rw[e1]at f1;cases f1;rw[e2]at f2;injection f2 with f2
   exact absurd f2 (by decide)
  |_=>rcases g.fl with⟨_,z⟩|⟨_,z⟩<;>cases z
theorem Iss.inj{pins:List (Addr×Obj)}{s:Shared}{τ:L2.St}{H:Hp}(I:Inv X pins τ H s):∀(ds:List D) {es:List D} {vs:List V},Iss X.K H ds vs->Iss X.K H es vs->ds=es
 |[],es,vs,h,g=>by
  unfold Iss at h;subst h
  cases es with
  |nil=>rfl
  |cons _ _=>unfold Iss at g;obtain⟨_,_,g,_⟩:=g;cases g
 |d::ds,es,vs,h,g=>by
  unfold Iss at h;obtain⟨v,r,rfl,h1,h2⟩:=h
  cases es with
  |nil=>unfold Iss at g;cases g
  |cons e es =>
   unfold Iss at g;obtain⟨v',r',eq,g1,g2⟩:=g;cases eq;rw[Is.inj I d h1 g1,Iss.inj I ds h2 g2]
end
noncomputable def yO(O as:List Addr):List Addr:=O.filter fun b=>decide (b ∉ as)
theorem jN{O as:List Addr}{b:Addr}:b∈yO O as ↔ b∈O/\b ∉ as:=by simp[yO]
mutual
theorem nol_isG{K:KN}{O O':List Addr}{H:Hp}(h:∀b∈O,b ∉ O'->∃vs,H b=some (.lst vs)):∀(d:D) {v:V},nol d=true->Is K (je H O') d v->Is K (je H O) d v
 |.non,v,_,i=>by cases xw i;exact uY
 |.bl b,v,_,i=>by cases kq i;exact j6 _
 |.int n,v,_,i=>by cases jl i;exact jH _
 |.str x,v,_,i=>by obtain⟨rfl,o⟩:=kt i;exact qt o
 |.lst xs,v,n,i=>by simp[nol]at n
 |.tup xs,v,n,i=>by
  obtain⟨b,us,rfl,h1,h2⟩:=kx i;refine JX (Jk (fun u hu nl=>?_) h1) (vF h xs (by simpa[nol]using n) h2);have hb:H b=some u:=jg _ _ _ _ hu;rw[j5]
  ·exact hb
  ·intro z;by_cases q:b∈O'
   ·have:je H O' b=none:=by unfold je;rw[if_pos q]
    rw[this]at hu;cases hu
   ·obtain⟨vs,e⟩:=h b z q;rw[e]at hb;cases hb;exact nl _ rfl
theorem vF{K:KN}{O O':List Addr}{H:Hp}(h:∀b∈O,b ∉ O'->∃vs,H b=some (.lst vs)):∀(ds:List D) {us:List V},nols ds=true->Iss K (je H O') ds us->Iss K (je H O) ds us
 |[],us,_,i=>by unfold Iss at *;exact i
 |d::ds,us,n,i=>by
  simp only[nols,KM]at n;unfold Iss at *;obtain⟨v,r,e,i1,i2⟩:=i;exact⟨v,r,e,nol_isG h d n.1 i1,vF h ds n.2 i2⟩
end
theorem Rws.iss{K:KN}{O O':List Addr}{H:Hp}(s:jf (je H O) (je H O')):∀ {rows:List (List D)} {as:List Addr},(∀b∈as,b ∉ O')->Rws K O H rows as->Iss K (je H O') (rows.map .lst) (as.map .ref)
 |[],as,_,h=>by cases h;simp only[QP];unfold Iss;rfl
 |r::rs,as,n,h=>by
  obtain⟨b,bs,vs,rfl,h1,h2,h3⟩:=h;simp only[K1];unfold Iss;refine⟨_,_,rfl,qg (SqL.of ?_) (Iss.mono s r h2),Rws.iss s (fun c hc=>n c (KR _ hc)) h3⟩;rw[j5 (n b (K0 ..))];exact h1
theorem OwT.is{K:KN}{O:List Addr}{H:Hp}{rows:List (List D)}{a:Addr}{as:List Addr}(t:OwT K O H rows a as):Is K (je H (yO O (a::as))) (qh rows) (.ref a):=by
 refine qg (SqL.of ?_) (t.rw.iss (jC fun b hb=>(jN.mp hb).1) fun b hb z=>(jN.mp z).2 (KR _ hb));rw[j5 fun z=>(jN.mp z).2 (K0 ..)];exact t.top
theorem Reps.shareT{K:KN}{O:List Addr}{H:Hp}{σ:Sto}{τ:L2.St}(r:Reps K O H σ τ){i:Nat}{rows:List (List D)}{a:Addr}{as:List Addr}(g:getS σ i=some (.ot rows))(e1:τ[i]?=some (some (.ref a)))(t:OwT K O H rows a as)(d:∀j ds b,getS σ j=some (.ow ds)->τ[j]?=some (some (.ref b))->b≠a/\b ∉ as) :
 Reps K (yO O (a::as)) H (setS σ i (some (.sh (qh rows)))) τ:=by
 have lessS:jf (je H O) (je H (yO O (a::as))):=jC fun b hb=>(jN.mp hb).1
 have old:∀j z,getS (setS σ i (some (.sh (qh rows)))) j=some z->(∀d,z ≠ .sh d)->getS σ j=some z:=fun j z h n=>by
  rw[kz]at h;by_cases hj:i=j/\i<σ.length
  ·rw[if_pos hj]at h;cases h;exact absurd rfl (n _)
  ·rw[if_neg hj]at h;exact h
 refine⟨by rw[zH];exact r.len,fun b hb=>r.own b (jN.mp hb).1,fun j e h=>?_,fun j es h=>?_,fun j l es fs hjl g1 g2=>r.dj j l es fs hjl (old j _ g1 fun _ z=>nomatch z) (old l _ g2 fun _ z=>nomatch z),?_⟩
 ·rw[kz]at h;by_cases hj:i=j/\i<σ.length
  ·rw[if_pos hj]at h;obtain⟨rfl,_⟩:=hj;cases h;exact⟨_,e1,t.is⟩
  ·rw[if_neg hj]at h;obtain⟨v,h1,h2⟩:=r.sh j e h;exact⟨v,h1,Is.mono lessS e h2⟩
 ·have h:=old j _ h fun _ z=>nomatch z
  obtain⟨b,ws,h1,h2,h3,h4⟩:=r.ow j es h;obtain⟨n1,n2⟩:=d j es b h h1;exact⟨b,ws,h1,jN.mpr ⟨h2,by simp[n1,n2]⟩,h3,Iss.mono lessS es h4⟩
 ·refine⟨fun j rs h=>?_,fun j l rs qs h1 h2=>r.tt.2 j l rs qs (old j _ h1 fun _ z=>nomatch z) (old l _ h2 fun _ z=>nomatch z)⟩
  have h':=old j _ h fun _ z=>nomatch z
  have hij:=r.tt.2 i j _ _ g h';subst hij;exfalso
  have hl:i<σ.length:=by
   rw[r.len];rcases Qd i τ.length with q|q
   ·exact q
   ·rw[KT q]at e1;cases e1
  rw[kz,if_pos ⟨rfl,hl⟩]at h;cases h
noncomputable def Wd(K:KN)(O:List Addr)(H:Hp)(Q:VK)(d:D):Prop:=∀v H',jf H H'->Is K (je H' O) d v->Q v H'
noncomputable def Wds(K:KN)(O:List Addr)(H:Hp)(Q:List V->Hp->Prop)(ds:List D):Prop:=∀vs H',jf H H'->Iss K (je H' O) ds vs->Q vs H'
theorem Wd.mono{K:KN}{O:List Addr}{H H':Hp}{Q:VK}{d:D}(e:jf H H')(w:Wd K O H Q d):Wd K O H' Q d:=fun v H'' e' i=>w v H'' (e.trans e') i
noncomputable def tD(K:KN)(C:Cfg)(x:Ex):TE:=fun τ H Q=>∃σ O,Reps K O H σ τ/\wpE C x σ (Wd K O H Q)
noncomputable def tDs(K:KN)(C:Cfg)(xs:List Ex):TA:=fun τ H Q=>∃σ O,Reps K O H σ τ/\wpEs C xs σ (Wds K O H Q)
noncomputable def tDT(K:KN)(C:Cfg)(x:Ex):TT:=fun τ H Q=>∃σ O,Reps K O H σ τ/\wpE C x σ (isB fun c=>∀H',jf H H'->Q c H')
noncomputable def WdF(K:KN)(O:List Addr)(H:Hp)(Q:VK)(d:D):Prop:=∀xs a H' vs,d=.lst xs->jf H H'->H a=none->H' a=some (.lst vs)->Iss K (je H' (a::O)) xs vs->Q (.ref a) H'
noncomputable def WdG(K:KN)(O:List Addr)(H:Hp)(Q:VK)(d:D):Prop:=∀rows a as H',d=qh rows->jf H H'->(H a=none/\∀b∈as,H b=none)->OwT K (a::as++O) H' rows a as->Q (.ref a) H'
noncomputable def Rw(K:KN)(fr g:Bool)(O:List Addr)(H:Hp)(Q:VK)(d:D):Prop:=if fr=true then WdF K O H Q d else if g=true then (WdG K O H Q d/\(nol d=true->Wd K O H Q d)) else Wd K O H Q d
theorem Wd.rw{K:KN}{fr g:Bool}{O:List Addr}{H:Hp}{Q:VK}{d:D}(ho:∀a∈O,H a≠none)(w:Wd K O H Q d):Rw K fr g O H Q d:=by
 unfold Rw;split
 ·intro xs a H' vs e s h0 h1 i;subst e
  have na:a ∉ O:=fun z=>ho a z h0
  refine w _ _ s (qg (SqL.of ?_) (Iss.mono (jC fun b hb=>KR _ hb) xs i));rw[j5 na];exact h1
 split
 ·refine⟨fun rows a as H' e s h0 t=>?_,fun _=>w⟩;subst e;refine w _ _ s (Is.mono (jC fun b hb=>jN.mpr ⟨K8 _ hb,fun z=>?_⟩) _ t.is);rcases KS.mp z with rfl|z
  ·exact ho _ hb h0.1
  ·exact ho _ hb (h0.2 _ z)
 ·exact w
def yB(x:Str):Str:=if x="Dependent" then "weights" else "at"
noncomputable def Fld(K:KN)(O:List Addr)(y:XD)(H:Hp)(da:Option Addr):Prop:=∀d∈y.f,∃D v,da=some D/\H D=some (.xd [(yB y.t,v)])/\Is K (je H O) d v
theorem Fld.less{K:KN}{O O':List Addr}{y:XD}{H:Hp}{da:Option Addr}(e:∀a∈O',a∈O)(h:Fld K O y H da):Fld K O' y H da:=fun d hd=>by
 obtain⟨D,v,h1,h2,h3⟩:=h d hd;exact⟨D,v,h1,h2,Is.mono (jC e) d h3⟩
noncomputable def spD(K:KN)(n:Nat)(fr g:Bool)(c:Ctr):Sp:=fun vs H Q E=>∃O ds,ds.length=n/\(∀a∈O,H a≠none)/\Iss K (je H O) ds vs/\c.wp ds (Rw K fr g O H Q) fun y=>∀H' da,jf H H'->Fld K O y H' da->E (.str y.t 0) da H'
noncomputable def CXz(P:Qp)(w:World)(mg:Str->Option KO):CXT:=fun outer H s E e s'=>∃x C H1 da,E (.str x 0) da H1/\mg x=some (.ref C)/\za P w C outer H s H1 da e s'
theorem passZ{X:Cx}:KJ (CXz X.prog X.w X.mg) X E0:=fun _ _ _ _ _ _ _ ⟨_,_,_,_,z,_⟩=>z.elim
theorem PE.imp{X:Cx}{e:Expr}{t t':TE}(h:∀τ H Q,t' τ H Q->t τ H Q)(p:PE X e t):PE X e t':=fun pins s τ H Q I w=>p pins s τ H Q I (h τ H Q w)
theorem PA.imp{X:Cx}{e:List Expr}{t t':TA}(h:∀τ H Q,t' τ H Q->t τ H Q)(p:PA X e t):PA X e t':=fun pos pins s τ H Q I w=>p pos pins s τ H Q I (h τ H Q w)
theorem PT.imp{X:Cx}{e:Expr}{t t':TT}(h:∀τ H Q,t' τ H Q->t τ H Q)(p:PT X e t):PT X e t':=fun pins s τ H Q I w=>p pins s τ H Q I (h τ H Q w)
theorem PS.imp{X:Cx}{e:Stmt}{t t':TS}(h:∀D τ H,t' D τ H->t D τ H)(p:PS X e t):PS X e t':=fun pins s τ H D I w=>p pins s τ H D I (h D τ H w)
theorem PSs.imp{X:Cx}{e:List Stmt}{t t':TS}(h:∀D τ H,t' D τ H->t D τ H)(p:PSs X e t):PSs X e t':=fun pins s τ H D I w=>p pins s τ H D I (h D τ H w)
theorem new_not_own{H:Hp}{O:List Addr}{p:Addr}(h:∀a∈O,H a≠none)(hp:H p=none):p ∉ O:=fun z=>h p z hp
theorem jB{H:Hp}{p:Addr}(h:H p=none)(o:HO):jf H (upd H p o):=fun b u q=>by rw[jh (kO q h)];exact q
section
variable {X:Cx}
noncomputable def rD(K:KN)(f:D->D->(D->Prop)->Prop):R2:=fun xv yv H Q=>∃O x y,(∀a∈O,H a≠none)/\Is K (je H O) x xv/\Is K (je H O) y yv/\f x y (Wd K O H Q)
theorem qJ{pins:List (Addr×Obj)}{τ:L2.St}{H:Hp}{s:Shared}{Q:VK}{O:List Addr}{d:D}{v:V}{u:KO}(I:Inv X pins τ H s)(w:Wd X.K O H Q d)(i:Is X.K (je H O) d v)(r:jV v u):EP X pins τ Q u s :=
 ⟨v,H,I,r,w v H (jf.refl H) i⟩
theorem mulOk{i j:Int}(h:kH i j):IntMulOk i j:=by
 rcases h with h|h|h
 ·exact .of_left h
 ·exact .of_right h
 ·unfold IntMulOk
  have e:Builtin.Int.intTooBig ((Xr i:Int)+(Xr j:Int))=false:=by
   unfold Builtin.Int.intTooBig;rw[bitsLine_eq];have h':Xr i+Xr j<=134217728:=h;exact decide_eq_false (by lia)
  intro z;simp[e]at z
theorem divOk{i j:Int}(h:bits j<=9000):Builtin.divisionGoesByPylong i j=false:=by
 refine PyProof.noPylong_of_log2 ?_;have h':Xr j<=9000:=h;unfold Xr at h';by_cases e:j=0
 ·subst e;decide +kernel
 ·have e':(j == 0)=false:=by simpa using e
  rw[e']at h';simp only[Qk,if_false]at h';lia
theorem Iss.minus_upd{K:KN}{H:Hp}{O:List Addr}{ds:List D}{vs:List V}{p:Addr}{o:HO}(hp:H p=none)(i:Iss K (je H O) ds vs):Iss K (je (upd H p o) O) ds vs:=Iss.mono (jd (jB hp o)) ds i
theorem xL{H:Hp}{O:List Addr}{p:Addr}{o:HO}(ho:∀a∈O,H a≠none)(hp:H p=none):je (upd H p o) O p=some o:=by rw[j5 (new_not_own ho hp),jm]
theorem ki{H H':Hp}{O:List Addr}{a:Addr}(s:jf H H')(h:H a=none):jf (je H O) (je H' (a::O)):=fun b o hb=>by
 have e:=jg _ _ _ _ hb
 have na:b≠a:=fun z=>by subst z;rw[h]at e;cases e
 have nb:b ∉ O:=fun z=>by unfold je at hb;rw[if_pos z]at hb;cases hb
 rw[j5 (by simp[na,nb])];exact s _ _ e
theorem Wd.wdF{K:KN}{O:List Addr}{H:Hp}{Q:VK}{d:D}(ho:∀a∈O,H a≠none)(w:Wd K O H Q d):WdF K O H Q d:=by
 have:=w.rw (fr:=true) (g:=false) ho;unfold Rw at this;rw[if_pos rfl]at this;exact this
theorem WdF.mono{K:KN}{O:List Addr}{H H':Hp}{Q:VK}{d:D}(e:jf H H')(w:WdF K O H Q d):WdF K O H' Q d:=fun xs a H'' vs q s h0 h1 i=>w xs a H'' vs q (e.trans s) (by
 cases z:H a with
 |none=>rfl
 |some o=>rw[e a o z]at h0;cases h0) h1 i
theorem vX{pins:List (Addr×Obj)}{s:Shared}{τ:L2.St}{H:Hp}{Q:VK}{O:List Addr}{a b:Addr}{vs ws:List V}{xs ys:List D}(I:Inv X pins τ H s)(ho:∀a∈O,H a≠none)(w:xs.length+ys.length<=lim/\WdF X.K O H Q (.lst (xs++ys)))
 (ha:SqL X.K H a vs) (hb:SqL X.K H b ws) (ia:Iss X.K (je H O) xs vs) (ib:Iss X.K (je H O) ys ws):wpAny (model X.prog X.w) X.A (Zf .Add (.ref a) (.ref b)) (EP X pins τ Q) X.xe s:=by
 obtain⟨its,r1,p1,z1⟩:=I.list ha;obtain⟨its2,r2,p2,z2⟩:=I.list hb;obtain⟨⟨cls,dd,data,sl⟩,h1,hc,n,hd⟩:=p1.isList;obtain⟨⟨cls2,dd2,data2,sl2⟩,h2,hc2,n2,hd2⟩:=p2.isList;simp only at hc hd hc2 hd2;subst hc hd hc2 hd2
 have hl:vs.length+ws.length<=sizeLine:=by rw[ia.length,ib.length,Xv];exact w.1
 have l1:=r1.length;have l2:=r2.length;refine concat_meets ⟨_,h1,rfl⟩ ⟨_,h2,rfl⟩ noFill_list_add seq_list_add PySem.F.slot_list_add PySem.F.entry_list_add (PySem.F.args_list_add_2 _ _) (list_addW a b its.toArray its2.toArray n n2 dd dd2 sl sl2 (by simp only[Qc];lia)) ⟨h1,h2,?_⟩
 have e:its.toArray++its2.toArray=(its++its2).toArray:=by simp
 rw[e];exact⟨.ref _,_,I.lnew (t':=s.toks) (r1.append r2) (by rw[K9];exact hl),rfl,w.2 _ _ _ _ rfl (jB I.fresh _) I.fresh (jm ..) (Iss.mono (ki (jB I.fresh _) I.fresh) _ (ia.append ib))⟩
theorem Jn{pins:List (Addr×Obj)}{s:Shared}{τ:L2.St}{H:Hp}{Q:VK}{O:List Addr}{a b:Addr}{vs ws:List V}{xs ys:List D}(I:Inv X pins τ H s)(ho:∀a∈O,H a≠none)(w:xs.length+ys.length<=lim/\Wd X.K O H Q (.lst (xs++ys)))
 (ha:SqL X.K H a vs) (hb:SqL X.K H b ws) (ia:Iss X.K (je H O) xs vs) (ib:Iss X.K (je H O) ys ws):wpAny (model X.prog X.w) X.A (Zf .Add (.ref a) (.ref b)) (EP X pins τ Q) X.xe s:=vX I ho ⟨w.1,w.2.wdF ho⟩ ha hb ia ib
theorem Iss.rep{K:KN}{S:Hp}{ds:List D}{vs:List V}(i:Iss K S ds vs):∀k:Nat,Iss K S (K5 k ds).flatten (K5 k vs).flatten
 |0=>by simp[Iss]
 |k+1=>by
  rw[QC,QC,Xw,Xw];exact i.append (Iss.rep i k)
theorem rep_list{pins:List (Addr×Obj)}{s:Shared}{τ:L2.St}{H:Hp}{Q:VK}{O:List Addr}{a:Addr}{k:Int}{t:Tok}{vs:List V}{xs:List D}(I:Inv X pins τ H s)(ho:∀a∈O,H a≠none)(w:RepOk xs.length k/\Wd X.K O H Q (.lst (K5 k.toNat xs).flatten))
 (ha:SqL X.K H a vs) (ia:Iss X.K (je H O) xs vs):wpAny (model X.prog X.w) X.A (Zf .Mult (.ref a) (.int k t)) (EP X pins τ Q) X.xe s:=by
 obtain⟨its,r1,p1,z1⟩:=I.list ha;obtain⟨⟨cls,dd,data,sl⟩,h1,hc,n,hd⟩:=p1.isList;simp only at hc hd;subst hc hd;have l1:=r1.length;have l2:=ia.length;obtain⟨⟨⟨k1,k2⟩,hz⟩,w⟩:=w
 have hz':vs.length*k.toNat<=sizeLine:=by rw[l2,Xv];exact hz
 have hlen:its.toArray.size*k.toNat<=sizeLine:=by rw[Qc,<- l1];exact hz'
 have hcap:¬ its.toArray.size*k.toNat > (2^63-1) / 8:=by
  have:(sizeLine:Nat)<=(2^63-1) / 8:=by decide
  lia
 have hfit:¬ (!XY.List.listFitsIndex k)=true:=by
  rw[fitsIndex_both (by lia) (by lia)];exact Xf
 have hlong:¬ XO (its.toArray.size*k.toNat)=true:=by
  rw[L2.notLongL hlen];exact Xf
 have hnew:List.foldl (fun x1 x2=>x1++x2) #[] (K5 (if its.toArray.isEmpty=true then 0 else k.toNat) its.toArray)=(K5 k.toNat its).flatten.toArray:=by
  have f0:∀m:Nat,List.foldl (fun x1 x2=>x1++x2) #[] (K5 m its.toArray)=(K5 m its).flatten.toArray:=fun m=>by
   have:=L2.foldl_rep its m [];rw[Qo]at this;exact this
  rw[f0]
  cases its with
  |nil=>simp
  |cons a r'=>rw[if_neg (by simp)]
 refine wpAny_binaryOp_repeat_ref (T:="list") (U:="int") (by decide) ⟨_,h1,rfl⟩ (fun s'=>typeIs_int s' k t) noFill_list_mul PySem.F.fills_int_mul PySem.F.slot_int_rmul repeat_list PySem.F.slot_int_index.lookup
  (call_meets PySem.F.slot_int_rmul (typeIs_int s k t) PySem.F.entry_int_rmul (PySem.F.args_int_rmul_2 _ _) (lm_int_rmul_list_any k t a its.toArray n dd sl)
   ⟨h1,rfl,⟨_,h1,rfl⟩,call_meets PySem.F.slot_list_mul ⟨_,h1,rfl⟩ PySem.F.entry_list_mul (PySem.F.args_list_mul_2 _ _) (lm_list_mul_any a its.toArray n dd sl k t hfit hcap hlong) ⟨h1,?_⟩⟩)
 rw[hnew];exact⟨.ref _,_,I.lnew (t':=s.toks) (r1.rep k.toNat) (by rw[L2.len_rep,Nat.mul_comm];exact hz'),rfl,w _ _ (jB I.fresh _) (qg (SqL.of (xL ho I.fresh)) (Iss.minus_upd I.fresh (ia.rep k.toNat)))⟩
theorem kC{f:Int->Int->(D->Prop)->Prop}{x y:D}{Q:D->Prop}(w:yw f x y Q):∃i j,x=.int i/\y=.int j/\f i j Q:=by
 cases x<;>first|exact w.elim|(cases y<;>first|exact w.elim|exact⟨_,_,rfl,rfl,w⟩)
theorem yM{x:Str}(h:Xo x=true){c:Nat}(hc:c∈x.cps.toList):c<0x110000:=by
 unfold Xo at h;rw[<- Array.all_toList,XM]at h;simpa using h c hc
theorem x5{l:List Nat}(h:∀c∈l,c<0x110000):Xo ⟨l.toArray⟩=true:=by
 unfold Xo;rw[<- Array.all_toList,XM];intro c hc;exact decide_eq_true (h c (by simpa using hc))
theorem ofString_ok(x:String):Xo (Yt x)=true:=by
 rw[Str.ofString_eq_toList]
 refine x5 fun c hc=>?_
 obtain⟨ch,_,rfl⟩:=K7.mp hc;have:=ch.valid;unfold Char.toNat
 rcases this with h|h<;>lia
theorem op_bin{o:BOp}{op:Operator}(h:opOk o op=true):OpR X (Zf op) (rD X.K (xI o)):=by
 intro pins s τ H xv yv v u Q I rx ry w;obtain⟨O,x,y,ho,ix,iy,w⟩:=w
 cases o with
 |add =>
  cases op<;>first|exact KZ h|skip
  cases x<;>first|exact w.elim|(cases y<;>first|exact w.elim|skip)
  ·cases jl ix;cases jl iy;obtain⟨t,rfl⟩:=rx;obtain⟨t',rfl⟩:=ry;exact add_int (qJ (I.tok _) w (jH _) ⟨_,rfl⟩)
  ·obtain⟨rfl,o1⟩:=kt ix;obtain⟨rfl,o2⟩:=kt iy;refine op_add_str pins s τ H _ _ v u Q I rx ry ⟨_,_,rfl,rfl,w.1,w.2 _ _ (jf.refl H) (qt ?_)⟩;unfold Xo at *;show (Array.all (_++_) _)=true;rw[Array.all_append,o1,o2];rfl
  ·obtain⟨a,xs,rfl,hx,jx⟩:=jF ix;obtain⟨b,ys,rfl,hy,jy⟩:=jF iy;have hx':=(jg H O).seq hx;have hy':=(jg H O).seq hy;cases rx;cases ry
   exact Jn I ho w hx' hy' jx jy
 |mul =>
  cases op<;>first|exact KZ h|skip
  cases x<;>first|exact w.elim|(cases y<;>first|exact w.elim|skip)
  ·cases jl ix;cases jl iy;obtain⟨t,rfl⟩:=rx;obtain⟨t',rfl⟩:=ry;exact mul_int (qJ (I.tok _) w.2 (jH _) ⟨_,rfl⟩) (mulOk w.1)
  ·obtain⟨rfl,o1⟩:=kt ix;cases jl iy;refine op_mulS pins s τ H _ _ v u Q I rx ry ⟨_,_,rfl,rfl,w.1,w.2 _ _ (jf.refl H) (qt ?_)⟩
   refine x5 fun c hc=>?_
   rw[Y9]at hc;obtain⟨l,hl,hc⟩:=hc;rw[(List.mem_replicate.mp hl).2]at hc;exact yM o1 hc
  ·obtain⟨a,xs,rfl,hx,jx⟩:=jF ix;cases jl iy;have hx':=(jg H O).seq hx;cases rx;obtain⟨t',rfl⟩:=ry
   exact rep_list I ho w hx' jx
 |sub =>
  cases op<;>first|exact KZ h|skip
  obtain⟨i,j,rfl,rfl,w⟩:=kC w;cases jl ix;cases jl iy;obtain⟨t,rfl⟩:=rx;obtain⟨t',rfl⟩:=ry
  exact sub_int (qJ (I.tok _) w (jH _) ⟨_,rfl⟩)
 |fdiv =>
  cases op<;>first|exact KZ h|skip
  obtain⟨i,j,rfl,rfl,w⟩:=kC w;cases jl ix;cases jl iy;obtain⟨t,rfl⟩:=rx;obtain⟨t',rfl⟩:=ry
  exact floordiv_int w.1.1 (qJ (I.tok _) w.2 (jH _) ⟨_,rfl⟩) (.inl (divOk w.1.2))
 |mod =>
  cases op<;>first|exact KZ h|skip
  obtain⟨i,j,rfl,rfl,w⟩:=kC w;cases jl ix;cases jl iy;obtain⟨t,rfl⟩:=rx;obtain⟨t',rfl⟩:=ry
  exact mod_int' w.1 (qJ (I.tok _) w.2 (jH _) ⟨_,rfl⟩)
 |shl =>
  cases op<;>first|exact KZ h|skip
  obtain⟨i,j,rfl,rfl,w⟩:=kC w;cases jl ix;cases jl iy;obtain⟨t,rfl⟩:=rx;obtain⟨t',rfl⟩:=ry
  exact lshift_int w.1.1 (by have:=w.1.2;unfold bits at this;lia) (qJ (I.tok _) w.2 (jH _) ⟨_,rfl⟩)
 |shr =>
  cases op<;>first|exact KZ h|skip
  obtain⟨i,j,rfl,rfl,w⟩:=kC w;cases jl ix;cases jl iy
  exact op_shr pins s τ H _ _ v u Q I rx ry ⟨_,_,rfl,rfl,w.1,w.2 _ _ (jf.refl H) (jH _)⟩
 |band =>
  cases op<;>first|exact KZ h|skip
  obtain⟨i,j,rfl,rfl,w⟩:=kC w;cases jl ix;cases jl iy
  exact op_and pins s τ H _ _ v u Q I rx ry ⟨_,_,rfl,rfl,w _ _ (jf.refl H) (jH _)⟩
 |pow =>
  cases op<;>first|exact KZ h|skip
  obtain⟨i,j,rfl,rfl,w⟩:=kC w;cases jl ix;cases jl iy;obtain⟨t,rfl⟩:=rx;obtain⟨t',rfl⟩:=ry;exact PyProof.Rows.pow_int w.1.1 w.1.2 (qJ (I.tok _) w.2 (jH _) ⟨_,rfl⟩)
theorem vq{K:KN}{S:Hp}:∀ {ns:List Int} {vs:List V},Iss K S (ns.map D.int) vs->vs=ns.map V.int
 |[],vs,h=>by simp only[QP]at h;unfold Iss at h;exact h
 |n::ns,vs,h=>by
  simp only[K1]at h;unfold Iss at h;obtain⟨v,r,rfl,i1,i2⟩:=h;rw[jl i1,vq i2];rfl
theorem bt(b:Bool):(b == true)=b:=by cases b<;>rfl
theorem zN{K:KN}{S:Hp}{d:D}{vs:List V}(h:Iss K S [d] vs):∃v,vs=[v]/\Is K S d v:=by
 unfold Iss at h;obtain⟨v,r,rfl,h1,h2⟩:=h;unfold Iss at h2;subst h2;exact⟨v,rfl,h1⟩
theorem iss2{K:KN}{S:Hp}{d e:D}{vs:List V}(h:Iss K S [d,e] vs):∃v w,vs=[v,w]/\Is K S d v/\Is K S e w:=by
 unfold Iss at h;obtain⟨v,r,rfl,h1,h2⟩:=h;obtain⟨w,rfl,h3⟩:=zN h2;exact⟨v,w,rfl,h1,h3⟩
theorem op_cmp{o:COp}{op:CmpOp}{e:Expr}(h:cOk o op e=true)(hu:X.A.units+100<cLine):OpR X (Yh op) (rD X.K (yW o)):=by
 intro pins s τ H xv yv v u Q I rx ry w;obtain⟨O,x,y,ho,ix,iy,w⟩:=w
 have hu1:X.A.in1.units+2<cLine:=by rw[QH.in1_units];lia
 have reads:∀ {k:Bool},min (kD x) (kD y)<=100->(∀ {as bs:List Addr},Reads s.heap v (zc x) as->Reads s.heap u (zc y) bs->(zc x).canLay0=true->(zc y).canLay0=true->X.A.units+min (zc x).depth (zc y).depth<cLine->wpAny (model X.prog X.w) X.A (Yh op v u) (EP X pins τ Q) X.xe s)->wpAny (model X.prog X.w) X.A (Yh op v u) (EP X pins τ Q) X.xe s:=by
  intro k hd f;obtain⟨⟨as,ra⟩,ca⟩:=Is.reads I x (Is.mono (jg H O) x ix) rx;obtain⟨⟨bs,rb⟩,cb⟩:=Is.reads I y (Is.mono (jg H O) y iy) ry;exact f ra rb ca cb (by rw[vR,vR];lia)
 cases o with
 |eq =>
  cases op<;>first|exact KZ h|skip
  have w':min (kD x) (kD y)<=100/\Wd X.K O H Q (.bl (eqD x y)):=w
  refine reads (k:=true) w'.1 fun ra rb ca cb hd=>SeqAt.compareEq_reads ra rb ca cb hd ?_
  rw[vf]
  exact qJ I w'.2 (j6 _) rfl
 |ne =>
  cases op<;>first|exact KZ h|skip
  have w':min (kD x) (kD y)<=100/\Wd X.K O H Q (.bl (!eqD x y)):=w
  refine reads (k:=true) w'.1 fun ra rb ca cb hd=>SeqAt.compareNe_reads ra rb ca cb hd ?_
  rw[vf]
  exact qJ I w'.2 (j6 _) rfl
 |lt =>
  cases op<;>first|exact KZ h|skip
  obtain⟨i,j,rfl,rfl,w⟩:=kC w;cases jl ix;cases jl iy
  exact op_lt pins s τ H _ _ v u Q I rx ry ⟨_,_,rfl,rfl,w _ _ (jf.refl H) (j6 _)⟩
 |le =>
  cases op<;>first|exact KZ h|skip
  obtain⟨i,j,rfl,rfl,w⟩:=kC w;cases jl ix;cases jl iy
  exact op_le pins s τ H _ _ v u Q I rx ry ⟨_,_,rfl,rfl,w _ _ (jf.refl H) (j6 _)⟩
 |gt =>
  cases op<;>first|exact KZ h|skip
  obtain⟨i,j,rfl,rfl,w⟩:=kC w;cases jl ix;cases jl iy
  exact op_gt pins s τ H _ _ v u Q I rx ry ⟨_,_,rfl,rfl,w _ _ (jf.refl H) (j6 _)⟩
 |ge =>
  cases op<;>first|exact KZ h|skip
  obtain⟨i,j,rfl,rfl,w⟩:=kC w;cases jl ix;cases jl iy
  exact op_ge pins s τ H _ _ v u Q I rx ry ⟨_,_,rfl,rfl,w _ _ (jf.refl H) (j6 _)⟩
 |isN =>
  cases op<;>first|exact KZ h|skip
  cases y<;>first|exact w.elim|skip
  cases xw iy;refine op_isN pins s τ H _ _ v u Q I rx ry ⟨rfl,w _ _ (jf.refl H) ?_⟩
  cases x with
  |non=>cases xw ix;exact j6 _
  |bl b=>cases kq ix;exact j6 _
  |int i=>cases jl ix;exact j6 _
  |str z=>obtain⟨rfl,_⟩:=kt ix;exact j6 _
  |tup zs=>obtain⟨_,_,rfl,_⟩:=kx ix;exact j6 _
  |lst zs=>obtain⟨_,_,rfl,_⟩:=jF ix;exact j6 _
 |notN =>
  cases op<;>first|exact KZ h|skip
  cases y<;>first|exact w.elim|skip
  cases xw iy;refine op_notN pins s τ H _ _ v u Q I rx ry ⟨rfl,w _ _ (jf.refl H) ?_⟩
  cases x with
  |non=>cases xw ix;exact j6 _
  |bl b=>cases kq ix;exact j6 _
  |int i=>cases jl ix;exact j6 _
  |str z=>obtain⟨rfl,_⟩:=kt ix;exact j6 _
  |tup zs=>obtain⟨_,_,rfl,_⟩:=kx ix;exact j6 _
  |lst zs=>obtain⟨_,_,rfl,_⟩:=jF ix;exact j6 _
 |isT =>
  cases op<;>first|exact KZ h|skip
  cases x<;>cases y<;>first|exact w.elim|skip
  next b b' =>
  cases kq ix;cases kq iy;cases rx;cases ry;refine wpAny_is_plain rfl ?_
  have e:(Zr b == Zr b')=(b == b'):=by cases b<;>cases b'<;>rfl
  rw[e]
  exact qJ I w (j6 _) (by cases b<;>cases b'<;>rfl)
 |notT =>
  cases op<;>first|exact KZ h|skip
  cases x<;>cases y<;>first|exact w.elim|skip
  next b b' =>
  cases kq ix;cases kq iy;cases rx;cases ry;refine wpAny_isNot_plain rfl ?_
  have e:(Zr b == Zr b')=(b == b'):=by cases b<;>cases b'<;>rfl
  rw[e];exact qJ I w (j6 _) (by cases b<;>cases b'<;>rfl)
noncomputable def cD(K:KN)(f:List D->(D->Prop)->Prop):List V->Hp->VK->Prop:=fun vs H Q=>∃O ds,(∀a∈O,H a≠none)/\Iss K (je H O) ds vs/\f ds (Wd K O H Q)
noncomputable def Bi.val:Bi->KO
 |.abs=>.builtin "abs"
 |.max=>.builtin "max"
 |.min=>.builtin "min"
 |.len=>.builtin "len"
 |.int=>.type "int"
 |.list=>.type "list"
 |.sum=>.builtin "sum"
 |.all=>.builtin "all"
 |.any=>.builtin "any"
 |.tuple=>.type "tuple"
 |.str=>.type "str"
theorem Inv.moved{pins:List (Addr×Obj)}{τ:L2.St}{H:Hp}{s s':Shared}{o:Obj}{tk:Nat}(I:Inv X pins τ H s)(m:Moved [s.heap.objs.size] (fun a b=>b=a) { s with heap:=s.heap.push o,toks:=tk } s'):Inv X pins τ H s':=by
 have k:∀b u,s.heap.get? b=some u->s'.heap.get? b=some u:=fun b u e=>m.heap b u (fun z=>by
  have:b=s.heap.objs.size:=by simpa using z
  exact absurd (K2 e) (by rw[this];exact Q9 _)) (KQ _ e)
 exact I.call' (ch:=[]) m.os (Un.kept k) (I.hok.kept k) (by rw[m.gens];exact I.bare) fun _ z=>nomatch z
theorem JE(ns:List Int)(f:Nat->Int)(h:∀i,i<ns.length->ns[i]?=some (f i)):∀k,k<=ns.length->preSum f k=(ns.take k).sum
 |0,_=>by simp[preSum]
 |k+1,hk=>by
  rw[preSum,JE ns f h k (by lia),List.take_add_one,h k (by lia)];simp
theorem xF:∀ {ns:List Int} {us:List KO},jG (ns.map V.int) us->∀i v,us[i]?=some v->∃t,v=Value.int (ns.getD i 0) t
 |[],us,r,i,v,h=>by cases r;simp at h
 |n::ns,us,r,i,v,h=>by
  cases r with
  |cons r1 r2 =>
   cases i with
   |zero=>simp at h;subst h;obtain⟨t,e⟩:=r1;exact⟨t,by simpa using e⟩
   |succ i=>simpa using xF r2 i v (by simpa using h)
theorem call_sumD(hc:X.calm=true):kU X (.builtin "sum") (fun vs H Q=>∃(a:Addr) (ns:List Int),vs=[.ref a]/\SqL X.K H a (ns.map V.int)/\Q (.int ns.sum) H):=by
 intro pins s τ H vs us Q I r h;obtain⟨a,ns,rfl,hq,q⟩:=h;obtain⟨u,rfl,e⟩:=xi r;cases e;obtain⟨its,rv,p,hz⟩:=I.list hq;have hl:=rv.length;rw[KP]at hl;obtain⟨o,n,ho,_⟩:=id p;have hne:a≠s.heap.objs.size:=Q0 (K2 ho);have W:=(Walks.list (prog:=X.prog) (w:=X.w) (A:=X.A.in1) (I.ok.hd hc) s.heap.objs.size a hne its.toArray).toS;refine call_sum_walkAnyS (XW p.isList ⟨s.heap.objs.size,_,_,_,_,_,_,fun i=>ns.getD i 0,rfl,W,⟨⟨_,Qh _ rfl,rfl,rfl⟩,?_⟩,fun b hb=>?_,fun i v hv=>xF rv i v (by simpa using hv),fun s' t' m=>?_⟩)
 ·obtain⟨o,n,ho,h1,h2,h3⟩:=p;exact⟨o,KQ _ ho,h1,n,h3⟩
 ·rw[ZD];simp only[KS,K4,or_false]at hb;rcases hb with z|z
  ·rw[z];exact Nat.lt_succ_self _
  ·rw[z];exact Nat.lt_succ_of_lt (K2 ho)
 ·have e:preSum (fun i=>ns.getD i 0) its.toArray.size=ns.sum:=by
   rw[Qc,<- hl];rw[JE ns _ (fun i hi=>by simp[hi]) _ (K6 _),List.take_length]
  exact⟨.int ns.sum,H,Inv.moved (tk:=s.toks) I m,⟨t',by rw[e]⟩,q⟩
theorem Ki{K:KN}{S:Hp}:∀ {ns:List Bool} {vs:List V},Iss K S (ns.map D.bl) vs->vs=ns.map V.bl
 |[],vs,h=>by simp only[QP]at h;unfold Iss at h;exact h
 |n::ns,vs,h=>by
  simp only[K1]at h;unfold Iss at h;obtain⟨v,r,rfl,i1,i2⟩:=h;rw[kq i1,Ki i2];rfl
theorem vN:∀ {ns:List Bool} {us:List KO},jG (ns.map V.bl) us->∀i v,us[i]?=some v->v=Zr (ns.getD i true)
 |[],us,r,i,v,h=>by cases r;simp at h
 |n::ns,us,r,i,v,h=>by
  cases r with
  |cons r1 r2 =>
   cases i with
   |zero=>simp at h;subst h;cases r1;rfl
   |succ i=>exact vN r2 i v (by simpa using h)
theorem all_range(bs:List Bool):(K3 bs.length).all (fun i=>bs.getD i true)=bs.all id:=by
 rw[YK,XM,XM];constructor
 ·intro h b hb;obtain⟨i,hi,rfl⟩:=List.mem_iff_getElem.mp hb;have:=h i (by simpa using hi);simpa[hi]using this
 ·intro h i hi
  have hi':i<bs.length:=by simpa using hi
  have:=h bs[i] (QJ hi');simpa[hi']using this
theorem call_allD(hc:X.calm=true):kU X (.builtin "all") (fun vs H Q=>∃(a:Addr) (ns:List Bool),vs=[.ref a]/\SqL X.K H a (ns.map V.bl)/\Q (.bl (ns.all id)) H):=by
 intro pins s τ H vs us Q I r h;obtain⟨a,ns,rfl,hq,q⟩:=h;obtain⟨u,rfl,e⟩:=xi r;cases e;obtain⟨its,rv,p,hz⟩:=I.list hq;have hl:=rv.length;rw[KP]at hl;obtain⟨o,n,ho,_⟩:=id p;have hne:a≠s.heap.objs.size:=Q0 (K2 ho);have W:=(Walks.list (prog:=X.prog) (w:=X.w) (A:=X.A.in1) (I.ok.hd hc) s.heap.objs.size a hne its.toArray).toS;refine call_all_walkS (XW p.isList ⟨s.heap.objs.size,_,_,_,_,_,_,fun i=>ns.getD i true,rfl,W,⟨⟨_,Qh _ rfl,rfl,rfl⟩,?_⟩,fun i v s Q E hv hQ=>?_,fun s' m=>?_⟩)
 ·obtain⟨o,n,ho,h1,h2,h3⟩:=p;exact⟨o,KQ _ ho,h1,n,h3⟩
 ·rw[vN rv i v (by simpa using hv)];exact Xu hQ
 ·have e:(K3 its.toArray.size).all (fun i=>ns.getD i true)=ns.all id:=by
   rw[Qc,<- hl];exact all_range ns
  exact⟨.bl (ns.all id),H,Inv.moved (tk:=s.toks) I m,by rw[e];rfl,q⟩
theorem any_range(bs:List Bool):(K3 bs.length).any (fun i=>bs.getD i true)=bs.any id:=by
 rw[YK,List.any_eq_true,List.any_eq_true];constructor
 ·rintro⟨i,hi,h⟩
  have hi':i<bs.length:=by simpa using hi
  exact⟨bs[i],QJ hi',by simpa[hi']using h⟩
 ·rintro⟨b,hb,h⟩;obtain⟨i,hi,rfl⟩:=List.mem_iff_getElem.mp hb;exact⟨i,by simpa using hi,by simpa[hi]using h⟩
theorem call_anyD(hc:X.calm=true):kU X (.builtin "any") (fun vs H Q=>∃(a:Addr) (ns:List Bool),vs=[.ref a]/\SqL X.K H a (ns.map V.bl)/\Q (.bl (ns.any id)) H):=by
 intro pins s τ H vs us Q I r h;obtain⟨a,ns,rfl,hq,q⟩:=h;obtain⟨u,rfl,e⟩:=xi r;cases e;obtain⟨its,rv,p,hz⟩:=I.list hq;have hl:=rv.length;rw[KP]at hl;obtain⟨o,n,ho,_⟩:=id p;have hne:a≠s.heap.objs.size:=Q0 (K2 ho);have W:=(Walks.list (prog:=X.prog) (w:=X.w) (A:=X.A.in1) (I.ok.hd hc) s.heap.objs.size a hne its.toArray).toS;refine call_any_walkS (XW p.isList ⟨s.heap.objs.size,_,_,_,_,_,_,fun i=>ns.getD i true,rfl,W,⟨⟨_,Qh _ rfl,rfl,rfl⟩,?_⟩,fun i v s Q E hv hQ=>?_,fun s' m=>?_⟩)
 ·obtain⟨o,n,ho,h1,h2,h3⟩:=p;exact⟨o,KQ _ ho,h1,n,h3⟩
 ·rw[vN rv i v (by simpa using hv)];exact Xu hQ
 ·have e:(K3 its.toArray.size).any (fun i=>ns.getD i true)=ns.any id:=by
   rw[Qc,<- hl];exact any_range ns
  exact⟨.bl (ns.any id),H,Inv.moved (tk:=s.toks) I m,by rw[e];rfl,q⟩
theorem qy{f:D->(D->Prop)->Prop}{xs:List D}{Q:D->Prop}(w:yX f xs Q):∃x,xs=[x]/\f x Q:=by
 match xs,w with
 |[x],w=>exact⟨x,rfl,w⟩
theorem two2_of{f:D->D->(D->Prop)->Prop}{xs:List D}{Q:D->Prop}(w:two2 f xs Q):∃x y,xs=[x,y]/\f x y Q:=by
 match xs,w with
 |[x,y],w=>exact⟨x,y,rfl,w⟩
theorem zG{f:List D->(D->Prop)->Prop}{x:D}{Q:D->Prop}(w:yg f x Q):∃xs,x=.lst xs/\f xs Q:=by
 cases x<;>first|exact w.elim|exact⟨_,rfl,w⟩
theorem minD_of{ds:List D}{Q:D->Prop}(w:minD ds Q):(∃x,ds=[x]/\yg (fun xs Q=>∃ns:List Int,xs=ns.map .int/\ns ≠ []/\Q (.int (mmF false 0 ns))) x Q)\/∃x y,ds=[x,y]/\yw (fun i j Q=>Q (.int (if j<i then j else i))) x y Q:=by
 cases ds with
 |nil=>exact w.elim
 |cons x r=>cases r with
  |nil=>exact .inl ⟨x,rfl,w⟩
  |cons y r=>cases r with
   |nil=>exact .inr ⟨x,y,rfl,w⟩
   |cons z r=>exact w.elim
section
variable {α β:Type}
end
theorem call_bi{f:Bi}(hc:X.calm=true):kU X f.val (cD X.K (biD f)):=by
 intro pins s τ H vs us Q I r w;obtain⟨O,ds,ho,is,w⟩:=w
 cases f with
 |abs =>
  obtain⟨x,rfl,w⟩:=qy w;obtain⟨v,rfl,i1⟩:=zN is
  cases x<;>first|exact w.elim|skip
  cases jl i1
  exact call_abs pins s τ H _ us Q I r ⟨_,rfl,w _ _ (jf.refl H) (jH _)⟩
 |max =>
  obtain⟨x,y,rfl,w⟩:=two2_of w;obtain⟨i,j,rfl,rfl,w⟩:=kC w;obtain⟨v,v',rfl,i1,i2⟩:=iss2 is;cases jl i1;cases jl i2
  exact call_max2 hc pins s τ H _ us Q I r ⟨_,_,rfl,w _ _ (jf.refl H) (jH _)⟩
 |min =>
  rcases minD_of w with⟨x,rfl,w⟩|⟨x,y,rfl,w⟩
  ·obtain⟨xs,rfl,ns,rfl,hn,w⟩:=zG w;obtain⟨v,rfl,i1⟩:=zN is;obtain⟨a,vs,rfl,h1,h2⟩:=jF i1
   cases ns with
   |nil=>exact absurd rfl hn
   |cons n ns =>
    obtain⟨u,rfl,e1⟩:=xi r;cases e1;cases vq h2;exact call_min1 hc I ((jg H O).seq h1) (w _ _ (jf.refl H) (jH _))
  ·obtain⟨i,j,rfl,rfl,w⟩:=kC w;obtain⟨v,v',rfl,i1,i2⟩:=iss2 is;cases jl i1;cases jl i2
   exact call_min2 hc pins s τ H _ us Q I r ⟨_,_,rfl,w _ _ (jf.refl H) (jH _)⟩
 |len =>
  obtain⟨x,rfl,w⟩:=qy w;obtain⟨v,rfl,i1⟩:=zN is
  cases x<;>first|exact w.elim|skip
  ·obtain⟨rfl,o1⟩:=kt i1;exact Ky pins s τ H _ us Q I r ⟨_,rfl,by rw[Xv];exact w.1,w.2 _ _ (jf.refl H) (jH _)⟩
  ·obtain⟨a,vs,rfl,h1,h2⟩:=kx i1;refine zJ pins s τ H _ us Q I r ⟨a,vs,rfl,.inr ((kK (jg H O) h1)),?_⟩;rw[h2.length];exact w _ _ (jf.refl H) (jH _)
  ·obtain⟨a,vs,rfl,h1,h2⟩:=jF i1;refine zJ pins s τ H _ us Q I r ⟨a,vs,rfl,.inl ((jg H O).seq h1),?_⟩;rw[h2.length]
   exact w _ _ (jf.refl H) (jH _)
 |int =>
  obtain⟨x,rfl,w⟩:=qy w;obtain⟨v,rfl,i1⟩:=zN is
  cases x<;>first|exact w.elim|skip
  ·cases kq i1;exact zX pins s τ H _ us Q I r (.inr ⟨_,rfl,w _ _ (jf.refl H) (jH _)⟩)
  ·cases jl i1;exact zX pins s τ H _ us Q I r (.inl ⟨_,rfl,w _ _ (jf.refl H) (jH _)⟩)
  ·obtain⟨rfl,o1⟩:=kt i1;obtain⟨n,⟨hl,hn⟩,w⟩:=w
   exact call_intS pins s τ H _ us Q I r ⟨_,n,rfl,by rw[Xv];exact hl,hn,w _ _ (jf.refl H) (jH _)⟩
 |str =>
  obtain⟨x,rfl,w⟩:=qy w;obtain⟨v,rfl,i1⟩:=zN is
  cases x<;>first|exact w.elim|skip
  cases jl i1
  exact Kj pins s τ H _ us Q I r ⟨_,rfl,w.1,w.2 _ _ (jf.refl H) (qt (ofString_ok _))⟩
 |list =>
  obtain⟨x,rfl,w⟩:=qy w;obtain⟨v,rfl,i1⟩:=zN is
  cases x<;>first|exact w.elim|skip
  ·obtain⟨a,vs,rfl,h1,h2⟩:=kx i1;exact kX pins s τ H _ us Q I r ⟨a,vs,rfl,.inr ((kK (jg H O) h1)),fun l hl=>w _ _ (jB hl _) (qg (SqL.of (xL ho hl)) (Iss.minus_upd hl h2))⟩
  ·obtain⟨a,vs,rfl,h1,h2⟩:=jF i1
   exact kX pins s τ H _ us Q I r ⟨a,vs,rfl,.inl ((jg H O).seq h1),fun l hl=>w _ _ (jB hl _) (qg (SqL.of (xL ho hl)) (Iss.minus_upd hl h2))⟩
 |tuple =>
  obtain⟨x,rfl,w⟩:=qy w;obtain⟨v,rfl,i1⟩:=zN is
  cases x<;>first|exact w.elim|skip
  ·obtain⟨a,vs,rfl,h1,h2⟩:=kx i1;exact yR pins s τ H _ us Q I r ⟨a,vs,rfl,.inr ⟨(kK (jg H O) h1),w _ _ (jf.refl H) (JX h1 h2)⟩⟩
  ·obtain⟨a,vs,rfl,h1,h2⟩:=jF i1
   exact yR pins s τ H _ us Q I r ⟨a,vs,rfl,.inl ⟨(jg H O).seq h1,fun l hl=>w _ _ (jB hl _) (Km (xL ho hl) (Iss.minus_upd hl h2))⟩⟩
 |sum =>
  obtain⟨x,rfl,w⟩:=qy w;obtain⟨xs,rfl,w1⟩:=zG w;obtain⟨v,rfl,i1⟩:=zN is;obtain⟨a,vs,rfl,h1,h2⟩:=jF i1;obtain⟨ns,rfl,w2⟩:=w1;cases vq h2
  exact call_sumD hc pins s τ H _ us Q I r ⟨a,ns,rfl,(jg H O).seq h1,w2 _ _ (jf.refl H) (jH _)⟩
 |all =>
  obtain⟨x,rfl,w⟩:=qy w;obtain⟨xs,rfl,w1⟩:=zG w;obtain⟨v,rfl,i1⟩:=zN is;obtain⟨a,vs,rfl,h1,h2⟩:=jF i1;obtain⟨ns,rfl,w2⟩:=w1;cases Ki h2
  exact call_allD hc pins s τ H _ us Q I r ⟨a,ns,rfl,(jg H O).seq h1,w2 _ _ (jf.refl H) (j6 _)⟩
 |any =>
  obtain⟨x,rfl,w⟩:=qy w;obtain⟨xs,rfl,w1⟩:=zG w;obtain⟨v,rfl,i1⟩:=zN is;obtain⟨a,vs,rfl,h1,h2⟩:=jF i1;obtain⟨ns,rfl,w2⟩:=w1;cases Ki h2;exact call_anyD hc pins s τ H _ us Q I r ⟨a,ns,rfl,(jg H O).seq h1,w2 _ _ (jf.refl H) (j6 _)⟩
theorem at_of{K:KN}{S:Hp}{xs:List D}{vs:List V}{i:Int}{d:D}(is:Iss K S xs vs)(e:atD xs i=some d):∃v,atI vs i=some v/\Is K S d v:=by
 have hl:=is.length;unfold atD at e;unfold atI ixN;by_cases h0:0<=i
 ·rw[if_pos h0]at e ⊢
  have hlt:i.toNat<xs.length:=by
   rcases Qd i.toNat xs.length with z|z
   ·exact z
   ·rw[KT z]at e;cases e
  rw[if_pos (by lia)];exact is.get e
 ·rw[if_neg h0]at e ⊢;by_cases h1:-(xs.length:Int)<=i
  ·rw[if_pos h1]at e;rw[if_pos (by lia),hl];exact is.get e
  ·rw[if_neg h1]at e;cases e
theorem ix_D:IxR X (rD X.K ixD):=by
 intro value slice pins s τ H xv yv v u Q I rx ry w hs;obtain⟨O,x,y,ho,ix,iy,w⟩:=w;unfold ixD at w;split at w
 ·obtain⟨a,vs,rfl,h1,h2⟩:=jF ix;cases jl iy;obtain⟨d,e,w⟩:=w;obtain⟨z,e1,e2⟩:=at_of h2 e;exact L2.ix_list value slice pins s τ H _ _ v u Q I rx ry ⟨a,vs,_,z,rfl,rfl,(jg H O).seq h1,e1,w _ _ (jf.refl H) e2⟩ hs
 ·obtain⟨a,vs,rfl,h1,h2⟩:=kx ix;cases jl iy;obtain⟨d,e,w⟩:=w;obtain⟨z,e1,e2⟩:=at_of h2 e;exact L2.ix_tup value slice pins s τ H _ _ v u Q I rx ry ⟨a,vs,_,z,rfl,rfl,(kK (jg H O) h1),e1,w _ _ (jf.refl H) e2⟩ hs
 ·next z j =>
  obtain⟨rfl,o1⟩:=kt ix;cases jl iy;obtain⟨c,⟨hl,h0,hc⟩,w⟩:=w
  have hc':z.cps.toList[j.toNat]?=some c:=by simpa using hc
  refine L2.ix_str value slice pins s τ H _ _ v u Q I rx ry ⟨_,_,c,rfl,rfl,by rw[Xv];exact hl,?_,w _ _ (jf.refl H) (qt ?_)⟩ hs
  ·have hj:=(Q4.mp hc').1;unfold atI ixN;rw[if_pos h0,if_pos (by lia)];exact hc'
  ·refine x5 (l:=[c]) fun d hd=>?_
   rw[Qz.mp hd];exact yM o1 (QD hc')
 ·exact w.elim
noncomputable def tyName:D->String
 |.non=>"NoneType"
 |.bl _=>"bool"
 |.int _=>"int"
 |.str _=>"str"
 |.tup _=>"tuple"
 |.lst _=>"list"
noncomputable def Ty.val:Ty->KO
 |.int=>.type "int"
 |.bool=>.type "bool"
 |.tuple=>.type "tuple"
 |.list=>.type "list"
 |.str=>.type "str"
theorem kit_ty(K:KN)(d:D)(t:Ty):Y1 K (.type (tyName d)) t.val=some (tyD t d):=by
 cases d<;>cases t<;>with_unfolding_all rfl
theorem call_isi{t:Ty}{pins:List (Addr×Obj)}{s:Shared}{τ:L2.St}{H:Hp}{d:D}{v:V}{u:KO}{Q:KO->Shared->Prop}{E:KO->Shared->Prop}(I:Inv X pins τ H s)(i:Is X.K H d v)(r:jV v u)(h:∀tk,Q (.bool (tyD t d)) { s with toks:=tk }) :
 wpAny (model X.prog X.w) X.A (call (.builtin "isinstance") [u,t.val]) Q E s:=by
 have e:=kit_ty X.K d t
 cases d with
 |non=>cases xw i;cases r;exact Ym PySem.W.kitx_none I.kIn True.intro e (fun z=>nomatch z) h
 |bl b=>cases kq i;cases r;exact Ym PySem.W.kitx_bool I.kIn True.intro e (fun z=>nomatch z) h
 |int n=>cases jl i;obtain⟨t,rfl⟩:=r;exact Ym PySem.W.kitx_int I.kIn True.intro e (fun z=>nomatch z) h
 |str x=>obtain⟨rfl,_⟩:=kt i;obtain⟨t,rfl⟩:=r;exact Ym PySem.W.kitx_str I.kIn True.intro e (fun z=>nomatch z) h
 |tup xs =>
  obtain⟨a,vs,rfl,h1,h2⟩:=kx i;cases r;obtain⟨its,rv,⟨o,e1,e2,n,e3⟩,_⟩:=I.tuple h1
  exact Ym PySem.W.kitx_tuple I.kIn ⟨o,e1,e2⟩ e (fun z=>nomatch z) h
 |lst xs =>
  obtain⟨a,vs,rfl,h1,h2⟩:=jF i;cases r;obtain⟨its,rv,pl,_⟩:=I.list h1;obtain⟨o,e1,e2,n,e3⟩:=pl.isList;exact Ym PySem.W.kitx_list I.kIn ⟨o,e1,e2⟩ e (fun z=>nomatch z) h
end
end Z
namespace Z
open PySem PySem.Spec PyProof.Rows L2
section
variable {X:Cx} {k:Ck} {C:Cfg}
theorem qq{e:Expr}(h:isSet e=false)(env:Env)(v:KO):XX e env v=pure v:=by
 cases e<;>first|rfl|exact KZ h
noncomputable def Its(lo st:Int)(n:Nat):It:=⟨fun i _=>i<n,fun i H x H'=>H'=H/\x=.int (lo+i*st),fun i _=>n<=i⟩
theorem turn_step{P:Qp}{w:World}{K:KN}{tg:Expr}(it:Addr)(lo st:Int)(n:Nat):Turn P w K tg (Its lo st n) [it] it (fun i h=>IsRangeIter h it (lo+(i:Nat)*st) ((n:Int)-(i:Nat)) st) where
 mem:=by simp
 obj:=fun i h s b hb=>by
  have e:b=it:=by simpa using hb
  subst e
  exact⟨_,s,fun v z=>by
   have z':Data.fields _=Data.cell v:=z
   cases z'⟩
 keep:=fun i h h' s k=>k it (by simp) _ s
 item:=by
  intro X hP hw hK hc i pins s σ H E I hf s1 hg;subst hP hw hK;obtain⟨f0,f1,f2,f3,f4,f5⟩:=hf it (by simp);have W:=Walks.range (prog:=X.prog) (w:=X.w) (I.ok.hd hc) it lo st n
  refine W.item i s _ _ hg s1 fun v h' tk hv s2 kk=>?_
  obtain⟨t,rfl⟩:=hv;have I1:Inv X pins σ H { s with heap:=h',toks:=tk }:=I.turned (fun b o hb e=>kk b o (by simpa using hb) e) f0 f1 f3 f4 f5;exact⟨_,rfl,go_of (s:={ s with heap:=h',toks:=tk }) (n:="range_iterator") s2 rfl rfl (by decide) ⟨.int (lo+i*st),H,I1,⟨t,rfl⟩,⟨rfl,rfl⟩,s2,fun b hb=>(hf b hb).1⟩⟩
 done:=by
  intro X hP hw hK hc i pins s σ H E I hf s1 hg;subst hP hw hK;obtain⟨f0,f1,f2,f3,f4,f5⟩:=hf it (by simp)
  exact wpAny_pyNext_range_end (I.ok.hd hc) s1 (by have:n<=i:=hg;lia) fun h' eb=>⟨rfl,I.turned (t':=s.toks) (fun b o hb e=>eb b o hb e) f0 f1 f3 f4 f5⟩
 self:=fun _ _ _ _ _ s h=>wpAny_pyIter_rangeiter s h
theorem small_step{a b c:Int}(ha:kQ a)(hb:kQ b)(hc:0<c)(hc2:c<1000):Builtin.Range.small a b c=true:=by
 unfold Builtin.Range.small ZA;unfold kQ at ha hb;have h1:(b-a-1) / c*c<=b-a-1:=Int.ediv_mul_le _ (by lia)
 have h2:a<b->0<=(b-a-1) / c:=fun h=>Int.ediv_nonneg (by lia) (by lia)
 have h3:a<b->(b-a-1) / c<=b-a-1:=fun h=>Int.ediv_le_self _ (by lia)
 simp only[XY.Range.rangeFitsLong,KM,Yl,decide_eq_true_eq,beq_iff_eq,show c > 0 from hc,if_true];by_cases h:a<b
 ·rw[if_pos h];generalize hq:(b-a-1) / c=q at *
  have e:(q+1)*c=q*c+c:=by rw[Int.add_mul,Z0]
  have h2':=h2 h;have h3':=h3 h;lia
 ·rw[if_neg h];lia
theorem KI{tg:Expr}{pins:List (Addr×Obj)}{σ:L2.St}{H:Hp}{s:Shared}{R:It->Hp->Prop}{E:KO->Shared->Prop}{lo hi st:Int}{t u v:Tok}{tk:Nat}(I:Inv X pins σ H s)(h1:kQ lo)(h2:kQ hi)(h3:0<st)(h4:st<1000)
 (q:R (Its lo st (if lo<hi then (hi-lo-1) / st+1 else 0).toNat) H):wpAny (model X.prog X.w) X.A (pyIter (.ref s.heap.objs.size)) (PIE X pins σ tg R) E { s with heap:=s.heap.push { cls:=.type "range",data:=.fields #[.int lo t,.int hi u,.int st v] },toks:=tk }:=by
 refine wpAny_pyIter_range (IsRange.new ..) (small_step h1 h2 h3 h4) ?_
 have I1:Inv X pins σ H { s with heap:=s.heap.push { cls:=.type "range",data:=.fields #[.int lo t,.int hi u,.int st v] },toks:=tk }:=I.kept fun b o e=>KQ _ e
 refine⟨(s.heap.push { cls:=.type "range",data:=.fields #[.int lo t,.int hi u,.int st v] }).objs.size,[(s.heap.push { cls:=.type "range",data:=.fields #[.int lo t,.int hi u,.int st v] }).objs.size],_,_,H,rfl,
  I1.kept (t':=tk) fun b o e=>KQ _ e,turn_step _ lo st (if lo<hi then (hi-lo-1) / st+1 else 0).toNat,?_,fun b hb=>?_,q⟩
 ·have e1:lo+((0:Nat):Int)*st=lo:=by simp
  have e2:(((if lo<hi then (hi-lo-1) / st+1 else 0).toNat:Nat):Int)-((0:Nat):Int)=ZA lo hi st:=by
   unfold ZA;rw[if_pos h3]
   have:lo<hi->0<=(hi-lo-1) / st:=fun h=>Int.ediv_nonneg (by lia) (by lia)
   split<;>lia
  show IsRangeIter _ _ (lo+((0:Nat):Int)*st) ((((if lo<hi then (hi-lo-1) / st+1 else 0).toNat:Nat):Int)-((0:Nat):Int)) st;rw[e1,e2];exact Qh _ rfl
 ·have e:b=(s.heap.push { cls:=.type "range",data:=.fields #[.int lo t,.int hi u,.int st v] }).objs.size:=by simpa using hb
  subst e;exact I1.fpOk (K6 _) (I1.hok.fresh (K6 _))
noncomputable def iRg(ta:TA):TI:=fun σ H R=>ta σ H fun vs H1=>∃lo hi st:Int,(vs=[.int hi]/\lo=0/\st=1\/vs=[.int lo,.int hi]/\st=1\/vs=[.int lo,.int hi,.int st])/\(kQ lo/\kQ hi/\0<st/\st<1000)/\R (Its lo st (if lo<hi then (hi-lo-1) / st+1 else 0).toNat) H1
theorem pi_rg{tg a:Expr}{as:List Expr}{ta:TA}{p pos:Pos}(hg:Gl X "range")(hm:X.mg "range"=none)(ha:PA X (a::as) ta)(hs:Qa (a::as) X.env=(false,eval a X.env)::Qa as X.env)(hpl:(backTo pos (Qa as X.env)).any (·.1)=false):PI X tg (.Call (.Name "range" p) (a::as) [] pos) (iRg ta):=by
 intro pins s σ H R I h;refine Call_ (uc I hg hm boot_range (X4 (thn (ha pos pins s σ H _ I h) fun us s1 ⟨vs,H1,I1,r1,q1⟩=>?_) hs hpl));obtain⟨lo,hi,st,e,⟨q1,q2,q3,q4⟩,q⟩:=q1;rcases e with⟨rfl,rfl,rfl⟩|⟨rfl,rfl⟩|rfl
 ·cases r1 with
  |cons r rr =>
   cases rr;obtain⟨t,rfl⟩:=r;exact call_range_1 (KI I1 q1 q2 q3 q4 q)
 ·cases r1 with
  |cons r rr =>
   cases rr with
   |cons r' rr =>
    cases rr;obtain⟨t,rfl⟩:=r;obtain⟨t',rfl⟩:=r';exact call_range_2 (KI I1 q1 q2 q3 q4 q)
 ·cases r1 with
  |cons r rr =>
   cases rr with
   |cons r' rr =>
    cases rr with
    |cons r'' rr =>
     cases rr;obtain⟨t,rfl⟩:=r;obtain⟨t',rfl⟩:=r';obtain⟨t'',rfl⟩:=r'';exact call_range_3 (by lia) (KI I1 q1 q2 q3 q4 q) (.inl (PyProof.noPylong_small (by lia)))
theorem qr:∀(n:Nat) (lo st:Int) (i:Nat),i<n->(jP lo st n)[i]?=some (.int (lo+i*st))
 |0,lo,st,i,h=>by lia
 |n+1,lo,st,0,h=>by simp[jP]
 |n+1,lo,st,i+1,h=>by
  simp only[jP,List.getElem?_cons_succ];rw[qr n (lo+st) st i (by lia)];congr 2
  have:((i+1:Nat):Int)*st=i*st+st:=by rw[Int.natCast_add,Int.add_mul];simp
  lia
theorem jv:∀(n:Nat) (lo st:Int),(jP lo st n).length=n
 |0,lo,st=>rfl
 |n+1,lo,st=>by simp[jP,jv n]
theorem v8{K:KN}{S:Hp}{ds:List D}{vs:List V}{P:List D->Prop}(i:Iss K S ds vs)(w:rgD ds P) :
 ∃lo hi st:Int,(vs=[.int hi]/\lo=0/\st=1\/vs=[.int lo,.int hi]/\st=1\/vs=[.int lo,.int hi,.int st])/\(kQ lo/\kQ hi/\0<st/\st<1000)/\P (jP lo st (if lo<hi then (hi-lo-1) / st+1 else 0).toNat):=by
 unfold rgD at w;split at w
 ·next hi =>
  obtain⟨v,rfl,i1⟩:=zN i;cases jl i1;refine⟨0,hi,1,.inl ⟨rfl,rfl,rfl⟩,⟨by unfold kQ;lia,w.1,by decide,by decide⟩,?_⟩
  have e:(if (0:Int)<hi then (hi-0-1) / 1+1 else 0).toNat=hi.toNat:=by
   rw[Int.ediv_one];split<;>lia
  rw[e];exact w.2
 ·next lo hi =>
  obtain⟨v,v',rfl,i1,i2⟩:=iss2 i;cases jl i1;cases jl i2;refine⟨lo,hi,1,.inr (.inl ⟨rfl,rfl⟩),⟨w.1.1,w.1.2,by decide,by decide⟩,?_⟩
  have e:(if lo<hi then (hi-lo-1) / 1+1 else 0).toNat=(hi-lo).toNat:=by
   rw[Int.ediv_one];split<;>lia
  rw[e];exact w.2
 ·next lo hi st =>
  unfold Iss at i;obtain⟨v,r,rfl,i1,i⟩:=i;obtain⟨v',v'',rfl,i2,i3⟩:=iss2 i;cases jl i1;cases jl i2;cases jl i3;exact⟨lo,hi,st,.inr (.inr rfl),w.1,w.2⟩
 ·exact w.elim
noncomputable def Itx(z:Str):It:=⟨fun i _=>i<z.cps.size,fun i H x H'=>H'=H/\∃c,z.cps[i]?=some c/\x=.str ⟨#[c]⟩,fun i _=>z.cps.size<=i⟩
theorem JF{P:Qp}{w:World}{K:KN}{tg:Expr}(it:Addr)(z:Str)(t:Tok){n:String}(hn:n="str_ascii_iterator" \/ n="str_iterator"):Turn P w K tg (Itx z) [it] it (fun i h=>h.IsStrIter it n z t i) where
 mem:=by simp
 obj:=fun i h st b hb=>by
  have e:b=it:=by simpa using hb
  subst e;obtain⟨o,e,c,d⟩:=st;exact⟨o,e,fun v z=>by rw[d]at z;cases z⟩
 keep:=fun i h h' st k=>by
  obtain⟨o,e,r⟩:=st;exact⟨o,k it (by simp) o e,r⟩
 item:=by
  intro X hP hw hK hc i pins s σ H E I hf st hg;subst hP hw hK;obtain⟨f0,f1,f2,f3,f4,f5⟩:=hf it (by simp)
  have W:Walks X.prog X.w X.A it [it] [it] z.cps.size (SignAt z) (fun i h=>h.IsStrIter it n z t i):=by
   rcases hn with rfl|rfl
   ·exact Walks.strAscii (I.ok.hd hc) it z t
   ·exact Walks.strWide (I.ok.hd hc) it z t
  refine W.item i s _ _ hg st fun v h' tk hv st' kk=>?_
  obtain⟨c,u,hc',rfl⟩:=hv;have I1:Inv X pins σ H { s with heap:=h',toks:=tk }:=I.turned (fun b o hb e=>kk b o (by simpa using hb) e) f0 f1 f3 f4 f5;obtain⟨o,e,cl,d⟩:=id st';exact⟨_,rfl,go_of (s:={ s with heap:=h',toks:=tk }) e cl d (by rcases hn with rfl|rfl<;>decide) ⟨.str ⟨#[c]⟩,H,I1,⟨_,rfl⟩,⟨rfl,c,hc',rfl⟩,st',fun b hb=>(hf b hb).1⟩⟩
 done:=by
  intro X hP hw hK hc i pins s σ H E I hf st hg;subst hP hw hK;obtain⟨f0,f1,f2,f3,f4,f5⟩:=hf it (by simp);have hg':z.cps[i]?=none:=Array.getElem?_eq_none hg;rcases hn with rfl|rfl
  ·exact wpAny_pyNext_ascii_end (I.ok.hd hc) st hg' fun h' eb=>⟨rfl,I.turned (t':=s.toks) (fun b o hb e=>eb b o hb e) f0 f1 f3 f4 f5⟩
  ·exact wpAny_pyNext_wide_end (I.ok.hd hc) st hg' fun h' eb=>⟨rfl,I.turned (t':=s.toks) (fun b o hb e=>eb b o hb e) f0 f1 f3 f4 f5⟩
 self:=fun _ _ _ _ _ st h=>by
  rcases hn with rfl|rfl
  ·exact wpAny_pyIter_striter_ascii st h
  ·exact wpAny_pyIter_striter_wide st h
noncomputable def Wlk(K:KN)(x:V)(H:Hp)(J:It):Prop:=(∃a,x=.ref a/\((∃xs,SqL K H a xs)/\J=Itl K a\/(∃xs,SqT K H a xs)/\J=Itt K a))\/∃z,x=.str z/\J=Itx z
noncomputable def iSeq(K:KN)(tl:TE):TI:=fun σ H R=>tl σ H fun x H1=>∃J,Wlk K x H1 J/\R J H1
theorem xR{tg l:Expr}{tl:TE}(hl:PE X l tl):PI X tg l (iSeq X.K tl):=by
 intro pins s σ H R I h
 refine thn (hl pins s σ H _ I h) fun v s1 ⟨x,H1,I1,r1,J,hw,q⟩=>?_
 have fp:∀b ∈ [s1.heap.objs.size],ur X pins H1 b:=fun b hb=>by
  have e:b=s1.heap.objs.size:=by simpa using hb
  subst e;exact I1.fpOk (K6 _) (I1.hok.fresh (K6 _))
 rcases hw with⟨a,rfl,⟨⟨xs,hq⟩,rfl⟩|⟨⟨xs,hq⟩,rfl⟩⟩|⟨z,rfl,rfl⟩
 ·cases r1;obtain⟨its,rv,p,hz⟩:=I1.list hq;exact XW p.isList ⟨s1.heap.objs.size,[s1.heap.objs.size],_,_,H1,rfl,I1.kept (t':=s1.toks) fun b o e=>KQ _ e,Jl a _,⟨_,Qh _ rfl,rfl,rfl⟩,fp,q⟩
 ·cases r1;obtain⟨its,rv,p,hz⟩:=I1.tuple hq;exact wpAny_pyIter_tuple (show s1.heap.IsTuple a its.toArray from p) ⟨s1.heap.objs.size,[s1.heap.objs.size],_,_,H1,rfl,I1.kept (t':=s1.toks) fun b o e=>KQ _ e,turn_tuple a _,⟨_,Qh _ rfl,rfl,rfl⟩,fp,q⟩
 ·obtain⟨t,rfl⟩:=r1;cases ha:z.cps.all (· < 128)
  ·exact wpAny_pyIter_wide ha ⟨s1.heap.objs.size,[s1.heap.objs.size],_,_,H1,rfl,I1.kept (t':=s1.toks) fun b o e=>KQ _ e,JF _ z t (.inr rfl),⟨_,Qh _ rfl,rfl,rfl⟩,fp,q⟩
  ·exact wpAny_pyIter_ascii ha ⟨s1.heap.objs.size,[s1.heap.objs.size],_,_,H1,rfl,I1.kept (t':=s1.toks) fun b o e=>KQ _ e,JF _ z t (.inl rfl),⟨_,Qh _ rfl,rfl,rfl⟩,fp,q⟩
theorem walk_of{K:KN}{d:D}{xs:List D}{v:V}{H1:Hp}{O:List Addr}(e:itemsD d=some xs)(i:Is K (je H1 O) d v):∃J,Wlk K v H1 J /\
 (∀j H O',jf (je H1 O) (je H O')->j<xs.length->J.go j H)/\(∀j H O',jf (je H1 O) (je H O')->xs.length<=j->J.stop j H) /\
 (∀j H O' v H' d,jf (je H1 O) (je H O')->J.yld j H v H'->xs[j]?=some d->H'=H/\Is K (je H O') d v):=by
 cases d with
 |lst ys =>
  cases e;obtain⟨a,vs,rfl,h5,h6⟩:=jF i;have hl:=h6.length
  have sq:∀ {H:Hp} {O':List Addr},jf (je H1 O) (je H O')->SqL K H a vs:=fun sm=>(jg _ _).seq (sm.seq h5)
  refine⟨_,.inl ⟨a,rfl,.inl ⟨⟨vs,(jg _ _).seq h5⟩,rfl⟩⟩,?_,?_,?_⟩
  ·intro j H O' sm hj;exact⟨vs,vs[j],sq sm,KU (by omega)⟩
  ·intro j H O' sm hj;exact⟨vs,sq sm,by omega⟩
  ·intro j H O' v H' d sm y hd;obtain⟨e2,y⟩:=y;obtain⟨z,e3,e4⟩:=h6.get hd;have:=y vs (sq sm);rw[e3]at this;cases this
   exact⟨e2,Is.mono sm d e4⟩
 |tup ys =>
  cases e;obtain⟨a,vs,rfl,h5,h6⟩:=kx i;have hl:=h6.length
  have sq:∀ {H:Hp} {O':List Addr},jf (je H1 O) (je H O')->SqT K H a vs:=fun sm=>kK (jg _ _) (kK sm h5)
  refine⟨_,.inl ⟨a,rfl,.inr ⟨⟨vs,(kK (jg _ _) h5)⟩,rfl⟩⟩,?_,?_,?_⟩
  ·intro j H O' sm hj;exact⟨vs,vs[j],sq sm,KU (by omega)⟩
  ·intro j H O' sm hj;exact⟨vs,sq sm,by omega⟩
  ·intro j H O' v H' d sm y hd;obtain⟨e2,y⟩:=y;obtain⟨z,e3,e4⟩:=h6.get hd;have:=y vs (sq sm);rw[e3]at this;cases this
   exact⟨e2,Is.mono sm d e4⟩
 |str x =>
  cases e;obtain⟨rfl,ok⟩:=kt i;refine⟨_,.inr ⟨x,rfl,rfl⟩,?_,?_,?_⟩
  ·intro j H O' sm hj;rw[KP]at hj;exact hj
  ·intro j H O' sm hj;rw[KP]at hj;exact hj
  ·rintro j H O' v H' d sm ⟨e2,c,hc,rfl⟩ hd;rw[Qg,Array.getElem?_toList,hc]at hd;cases hd
   exact⟨e2,qt (x5 (l:=[c]) fun c' h'=>by rw[Qz.mp h'];exact yM ok (Array.mem_toList_iff.mpr (Array.mem_of_getElem? hc)))⟩
 |_=>cases e
theorem xm{σ:Sto}{z:Option Sl}:∀(i:Nat),getS (σ ++ [z]) i=if i<σ.length then getS σ i else if i=σ.length then z else none:=by
 induction σ with
 |nil =>
  intro i
  cases i with
  |zero=>rfl
  |succ i=>simp[getS]
 |cons a r ih =>
  intro i
  cases i with
  |zero=>simp[getS]
  |succ i =>
   show getS (r ++ [z]) i=_;rw[ih i];simp only[Xc,Nat.add_lt_add_iff_right,Nat.add_right_cancel_iff];rfl
theorem Reps.snoc{K:KN}{O:List Addr}{H:Hp}{σ:Sto}{τ:L2.St}{d:D}{v:V}(R:Reps K O H σ τ)(h:Is K (je H O) d v):Reps K O H (σ ++ [some (.sh d)]) (τ ++ [some v]) where
 len:=by simp[R.len]
 own:=R.own
 sh:=fun i e g=>by
  rw[xm]at g;split at g
  ·next hi =>
   obtain⟨u,e1,e2⟩:=R.sh i e g;exact⟨u,by rw[Qt (by rw[<- R.len];exact hi)];exact e1,e2⟩
  ·split at g
   ·next hi =>
    cases g;subst hi;exact⟨v,by rw[Qs (by rw[R.len];exact K6 _),R.len];simp,h⟩
   ·cases g
 ow:=fun i ds g=>by
  rw[xm]at g;split at g
  ·next hi =>
   obtain⟨a,vs,e1,e2⟩:=R.ow i ds g;exact⟨a,vs,by rw[Qt (by rw[<- R.len];exact hi)];exact e1,e2⟩
  ·split at g<;>cases g
 dj:=fun i j ds es hij g1 g2=>by
  rw[xm]at g1 g2;split at g1
  ·next hi =>
   split at g2
   ·next hj =>
    rw[Qt (by rw[<- R.len];exact hi),Qt (by rw[<- R.len];exact hj)];exact R.dj i j ds es hij g1 g2
   ·split at g2<;>cases g2
  ·split at g1<;>cases g1
 tt:=by
  have old:∀j z,getS (σ ++ [some (.sh d)]) j=some z->(∀d,z ≠ .sh d)->getS σ j=some z/\(τ ++ [some v])[j]?=τ[j]?:=fun j z g n=>by
   rw[xm]at g;split at g
   ·next hj=>exact⟨g,Qt (by rw[<- R.len];exact hj)⟩
   ·split at g
    ·cases g;exact absurd rfl (n _)
    ·cases g
  exact R.tt.step (fun j rows g=>old j _ g fun _ z=>nomatch z) (fun _ _ _ _ _ _ _ t=>t) fun _ _ _ _ j ds b _ _ g q=>by
   obtain⟨g1,e⟩:=old j _ g fun _ z=>nomatch z
   exact .inl ⟨ds,g1,by rw[<- e];exact q⟩
theorem Iss.snoc{K:KN}{S:Hp}{ds:List D}{vs:List V}{d:D}{v:V}(h:Iss K S ds vs)(g:Is K S d v):Iss K S (ds ++ [d]) (vs ++ [v]) :=
 h.append (by unfold Iss;exact⟨v,[],rfl,g,by unfold Iss;rfl⟩)
theorem comp_turnsGF{K:KN}{J:It}{xs:List D}{e:Ex}{τ:L2.St}{H1:Hp}{σ:Sto}{O:List Addr}{Q:VK}(R1:Reps K O H1 σ τ)(hx:xs.length<=lim)
 (hgo:∀j H,jf H1 H->j<xs.length->J.go j H) (hst:∀j H,jf H1 H->xs.length<=j->J.stop j H)
 (hy:∀j H v H' d,jf H1 H->J.yld j H v H'->xs[j]?=some d->jf H H'/\Is K (je H' O) d v)
 (w:kI (fun d Q=>wpE C e (σ ++ [some (.sh d)]) Q) xs fun ys=>WdF K O H1 Q (.lst ys)) :
 ∃W:Nat->Nat->List V->Hp->Prop,(∃m,W 0 m [] H1)/\∀i m ys H,W i m ys H ->
  (J.stop i H/\ys.length<=sizeLine/\∀p,H p=none->Q (.ref p) (upd H p (.lst ys)))\/(J.go i H/\ys.length<sizeLine/\∀x H',J.yld i H x H'->tD K C e (τ ++ [some x]) H' fun y H2=>∃m',m'<m/\W (i+1) m' (ys ++ [y]) H2):=by
 refine⟨fun j m ys H=>m=xs.length-j/\j<=xs.length/\jf H1 H/\∃ds,ds.length=j/\Iss K (je H O) ds ys/\kI (fun d Q=>wpE C e (σ ++ [some (.sh d)]) Q) (xs.drop j) fun rest=>WdF K O H1 Q (.lst (ds++rest)),
  ⟨_,rfl,XB _,jf.refl _,[],rfl,by unfold Iss;rfl,by simpa using w⟩,?_⟩
 rintro j m ys H ⟨rfl,hj,sm,ds,hd,is,w⟩
 have hl:ys.length=j:=by rw[is.length,hd]
 have R:=R1.mono sm
 have hlim:lim<=sizeLine:=by decide
 by_cases hlt:j<xs.length
 ·refine .inr ⟨hgo j H sm hlt,by lia,fun x H' y=>?_⟩;obtain⟨e1,ix⟩:=hy j H x H' xs[j] sm y (KU hlt);rw[QS hlt]at w;rw[kI]at w;refine⟨_,O,(R.mono e1).snoc ix,ja e (fun yd wy v H2 s2 i2=>?_) w⟩;refine⟨xs.length-(j+1),by lia,rfl,hlt,(sm.trans e1).trans s2,ds ++ [yd],by simp[hd],(Iss.mono (jd (e1.trans s2)) ds is).snoc i2,?_⟩;simpa using wy
 ·have e1:j=xs.length:=by lia
  refine .inl ⟨hst _ H sm (by lia),by lia,fun p hp=>?_⟩;rw[ZH (by lia)]at w;rw[kI]at w;rw[Qu]at w
  have h1:H1 p=none:=by
   cases q:H1 p with
   |none=>rfl
   |some o=>rw[sm p o q]at hp;cases hp
  exact w ds p _ ys rfl (sm.trans (jB hp _)) h1 (jm ..) (Iss.mono (ki (jB hp _) hp) ds is)
theorem comp_turnsG{K:KN}{J:It}{xs:List D}{e:Ex}{τ:L2.St}{H1:Hp}{σ:Sto}{O:List Addr}{Q:VK}(R1:Reps K O H1 σ τ)(hx:xs.length<=lim)
 (hgo:∀j H,jf H1 H->j<xs.length->J.go j H) (hst:∀j H,jf H1 H->xs.length<=j->J.stop j H)
 (hy:∀j H v H' d,jf H1 H->J.yld j H v H'->xs[j]?=some d->jf H H'/\Is K (je H' O) d v)
 (w:kI (fun d Q=>wpE C e (σ ++ [some (.sh d)]) Q) xs fun ys=>Wd K O H1 Q (.lst ys)) :
 ∃W:Nat->Nat->List V->Hp->Prop,(∃m,W 0 m [] H1)/\∀i m ys H,W i m ys H ->
  (J.stop i H/\ys.length<=sizeLine/\∀p,H p=none->Q (.ref p) (upd H p (.lst ys)))\/(J.go i H/\ys.length<sizeLine/\∀x H',J.yld i H x H'->tD K C e (τ ++ [some x]) H' fun y H2=>∃m',m'<m/\W (i+1) m' (ys ++ [y]) H2) :=
 comp_turnsGF R1 hx hgo hst hy (jQ (f:=fun d Q=>wpE C e (σ ++ [some (.sh d)]) Q) (fun d _ _ hq=>ja e hq) _ (fun ys wy=>wy.wdF R1.own) w)
theorem xP{K:KN}{J:It}{xs:List D}{e:Ex}{τ:L2.St}{H1:Hp}{σ:Sto}{O:List Addr}{Q:VK}(R1:Reps K O H1 σ τ)(hx:xs.length<=lim)
 (hgo:∀j H,jf H1 H->j<xs.length->J.go j H) (hst:∀j H,jf H1 H->xs.length<=j->J.stop j H)
 (hy:∀j H v H' d,jf H1 H->J.yld j H v H'->xs[j]?=some d->H'=H/\Is K (je H O) d v)
 (w:kI (fun d Q=>wpE C e (σ ++ [some (.sh d)]) Q) xs fun ys=>Wd K O H1 Q (.lst ys)) :
 ∃W:Nat->Nat->List V->Hp->Prop,(∃m,W 0 m [] H1)/\∀i m ys H,W i m ys H ->
  (J.stop i H/\ys.length<=sizeLine/\∀p,H p=none->Q (.ref p) (upd H p (.lst ys)))\/(J.go i H/\ys.length<sizeLine/\∀x H',J.yld i H x H'->tD K C e (τ ++ [some x]) H' fun y H2=>∃m',m'<m/\W (i+1) m' (ys ++ [y]) H2) :=
 comp_turnsG R1 hx hgo hst (fun j H v H' d s y e=>by obtain⟨q,i⟩:=hy j H v H' d s y e;subst q;exact⟨jf.refl _,i⟩) w
theorem comp_turnsFF{K:KN}{J:It}{xs:List D}{c e:Ex}{τ:L2.St}{H1:Hp}{σ:Sto}{O:List Addr}{Q:VK}(R1:Reps K O H1 σ τ)(hx:xs.length<=lim)
 (hgo:∀j H,jf H1 H->j<xs.length->J.go j H) (hst:∀j H,jf H1 H->xs.length<=j->J.stop j H)
 (hy:∀j H v H' d,jf H1 H->J.yld j H v H'->xs[j]?=some d->H'=H/\Is K (je H O) d v)
 (w:kW (fun d Q=>wpE C c (σ ++ [some (.sh d)]) (isB Q)) (fun d Q=>wpE C e (σ ++ [some (.sh d)]) Q) xs fun ys=>WdF K O H1 Q (.lst ys)) :
 ∃W:Nat->Nat->List V->Hp->Prop,(∃m,W 0 m [] H1)/\∀i m ys H,W i m ys H ->
  (J.stop i H/\ys.length<=sizeLine/\∀p,H p=none->Q (.ref p) (upd H p (.lst ys)))\/(J.go i H/\ys.length<sizeLine/\∀x H',J.yld i H x H'->tDT K C c (τ ++ [some x]) H' fun b H1 =>
   if b=true then tD K C e (τ ++ [some x]) H1 fun y H2=>∃m',m'<m/\W (i+1) m' (ys ++ [y]) H2 else ∃m',m'<m/\W (i+1) m' ys H1):=by
 refine⟨fun j m ys H=>m=xs.length-j/\j<=xs.length/\jf H1 H/\∃ds,ds.length<=j/\Iss K (je H O) ds ys/\kW (fun d Q=>wpE C c (σ ++ [some (.sh d)]) (isB Q)) (fun d Q=>wpE C e (σ ++ [some (.sh d)]) Q) (xs.drop j) fun rest=>WdF K O H1 Q (.lst (ds++rest)),
  ⟨_,rfl,XB _,jf.refl _,[],K6 _,by unfold Iss;rfl,by simpa using w⟩,?_⟩
 rintro j m ys H ⟨rfl,hj,sm,ds,hd,is,w⟩;have hl:ys.length=ds.length:=is.length;have R:=R1.mono sm
 have hlim:lim<=sizeLine:=by decide
 by_cases hlt:j<xs.length
 ·refine .inr ⟨hgo j H sm hlt,by lia,fun x H' y=>?_⟩;obtain⟨rfl,ix⟩:=hy j H x H' xs[j] sm y (KU hlt);rw[QS hlt]at w;rw[kW]at w;refine⟨_,O,R.snoc ix,ja c (fun cd=>jZ fun b wb H2 s2=>?_) w⟩
  cases b with
  |true =>
   refine⟨_,O,(R.snoc ix).mono s2,ja e (fun yd wy v H3 s3 i3=>?_) wb⟩;refine⟨xs.length-(j+1),by lia,rfl,hlt,(sm.trans s2).trans s3,ds ++ [yd],by simp;lia,(Iss.mono (jd (s2.trans s3)) ds is).snoc i3,?_⟩
   simpa using wy
  |false=>exact⟨xs.length-(j+1),by lia,rfl,hlt,sm.trans s2,ds,by lia,Iss.mono (jd s2) ds is,wb⟩
 ·have e1:j=xs.length:=by lia
  refine .inl ⟨hst _ H sm (by lia),by lia,fun p hp=>?_⟩;rw[ZH (by lia)]at w;rw[kW]at w;rw[Qu]at w
  have h1:H1 p=none:=by
   cases q:H1 p with
   |none=>rfl
   |some o=>rw[sm p o q]at hp;cases hp
  exact w ds p _ ys rfl (sm.trans (jB hp _)) h1 (jm ..) (Iss.mono (ki (jB hp _) hp) ds is)
theorem comp_turnsF{K:KN}{J:It}{xs:List D}{c e:Ex}{τ:L2.St}{H1:Hp}{σ:Sto}{O:List Addr}{Q:VK}(R1:Reps K O H1 σ τ)(hx:xs.length<=lim)
 (hgo:∀j H,jf H1 H->j<xs.length->J.go j H) (hst:∀j H,jf H1 H->xs.length<=j->J.stop j H)
 (hy:∀j H v H' d,jf H1 H->J.yld j H v H'->xs[j]?=some d->H'=H/\Is K (je H O) d v)
 (w:kW (fun d Q=>wpE C c (σ ++ [some (.sh d)]) (isB Q)) (fun d Q=>wpE C e (σ ++ [some (.sh d)]) Q) xs fun ys=>Wd K O H1 Q (.lst ys)) :
 ∃W:Nat->Nat->List V->Hp->Prop,(∃m,W 0 m [] H1)/\∀i m ys H,W i m ys H ->
  (J.stop i H/\ys.length<=sizeLine/\∀p,H p=none->Q (.ref p) (upd H p (.lst ys)))\/(J.go i H/\ys.length<sizeLine/\∀x H',J.yld i H x H'->tDT K C c (τ ++ [some x]) H' fun b H1 =>
   if b=true then tD K C e (τ ++ [some x]) H1 fun y H2=>∃m',m'<m/\W (i+1) m' (ys ++ [y]) H2 else ∃m',m'<m/\W (i+1) m' ys H1) :=
 comp_turnsFF R1 hx hgo hst hy (qA (p:=fun d Q=>wpE C c (σ ++ [some (.sh d)]) (isB Q)) (f:=fun d Q=>wpE C e (σ ++ [some (.sh d)]) Q) (fun d _ _ hq=>ja c fun _=>jZ hq) (fun d _ _ hq=>ja e hq) _ (fun ys wy=>wy.wdF R1.own) w)
theorem Jm{K:KN}{xs ys:List D}{l1 l2:Addr}{vs ws:List V}{e:Ex}{τ:L2.St}{H1:Hp}{σ:Sto}{O:List Addr}{Q:VK}(R1:Reps K O H1 σ τ)(hx:(yU xs ys).length<=lim)
 (q1:SqL K H1 l1 vs) (q2:SqL K H1 l2 ws) (i1:Iss K (je H1 O) xs vs) (i2:Iss K (je H1 O) ys ws) (w:kI (fun d Q=>wpE C e (σ ++ [some (.sh d)]) Q) (yU xs ys) fun ys=>Wd K O H1 Q (.lst ys)) :
 ∃W:Nat->Nat->List V->Hp->Prop,(∃m,W 0 m [] H1)/\∀i m ys H,W i m ys H ->
  ((Itz K l1 l2).stop i H/\ys.length<=sizeLine/\∀p,H p=none->Q (.ref p) (upd H p (.lst ys)))\/((Itz K l1 l2).go i H/\ys.length<sizeLine/\∀x H',(Itz K l1 l2).yld i H x H'->tD K C e (τ ++ [some x]) H' fun y H2=>∃m',m'<m/\W (i+1) m' (ys ++ [y]) H2):=by
 have n1:=i1.length;have n2:=i2.length
 have ln:(yU xs ys).length=min xs.length ys.length:=by unfold yU;simp
 refine comp_turnsG R1 hx (fun j H s hj=>?_) (fun j H s hj=>?_) (fun j H v H' d s y hd=>?_) w
 ·rw[ln]at hj;exact⟨vs,ws,vs[j]'(by lia),ws[j]'(by lia),s.seq q1,s.seq q2,KU _,KU _⟩
 ·rw[ln]at hj;exact⟨vs,ws,s.seq q1,s.seq q2,by lia⟩
 ·obtain⟨T,x,y,rfl,hT,hx',hy',rfl⟩:=y;have hz:(yU xs ys)[j]?=some d:=hd;unfold yU at hz;rw[Qg]at hz
  cases hzz:(xs.zip ys)[j]? with
  |none=>rw[hzz]at hz;cases hz
  |some p =>
   rw[hzz]at hz;simp only[Z7,Q8]at hz;subst hz;obtain⟨a,b⟩:=p;obtain⟨e1,e2⟩:=List.getElem?_zip_eq_some.mp hzz;obtain⟨u1,g1,k1⟩:=i1.get e1;obtain⟨u2,g2,k2⟩:=i2.get e2;rw[hx' vs (s.seq q1)]at g1;rw[hy' ws (s.seq q2)]at g2;cases g1;cases g2;have s':=jB hT (.tup [x,y]);refine⟨s',Km (xL (R1.mono s).own hT) ?_⟩;have sm:=jd (O:=O) (s.trans s');unfold Iss;refine⟨x,[y],rfl,Is.mono sm a k1,?_⟩;unfold Iss;exact⟨y,[],rfl,Is.mono sm b k2,by unfold Iss;rfl⟩
end
end Z
namespace Z
open PySem PySem.Spec PyProof.Rows L2
noncomputable def blts:List Str:=["abs","max","min","len","int","list","isinstance","range","bool","tuple","str","sum","all","zip","any","divmod","reversed","sorted","enumerate"]
structure Ok (X:Cx) (k:Ck) (C:Cfg):Prop where
 N:X.N=k.N
 nd:X.N.Nodup
 names:X.env.scope.names=k.names
 kd:X.env.scope.kind=.function
 calm:X.calm=true
 xe:X.xe=fun _ _=>False
 units:X.A.units+100<cLine
 fns:∀i x n,k.fns[i]?=some (x,n)->∃f fd ps lv,FnOk X.prog X.w X.K X.mg X.base (CXz X.prog X.w X.mg) lv f fd ps (spD X.K n (C.fr i) (C.f2 i) (C.ct i))/\Room lv X.A/\X.mg x=some (.ref f)/\XS X.K (.ref f)=true/\yP X.K fd ps []
 cns:∀i x,k.cns[i]?=some x->∃u v,X.mg x=some u/\jV v u/\∀S,Is X.K S (C.cn i) v
 blt:∀x∈blts,X.mg x=none
 E:∀x,¬ C.E x
noncomputable def PJ(X:Cx)(C:Cfg)(xs:List Ex)(es:List Expr):Prop:=∀(pins:List (Addr×Obj)) (s:Shared) (τ:L2.St) (H:Hp) (out:List Nat) (Q:VK),Inv X pins τ H s->out.length<=sizeLine ->
 (∃σ O,Reps X.K O H σ τ/\vD C xs out σ fun l=>∀H',jf H H'->Q (.str ⟨l.toArray⟩) H')->wpAny (model X.prog X.w) X.A (joinParts ⟨out.toArray⟩ (evalEach es X.env)) (EP X pins τ Q) X.xe s
section
variable {X:Cx} {k:Ck} {C:Cfg}
theorem jz{x:Ex}{e:Expr}(h:chkE k x e=true)(es:List Expr)(env:Env):Qa (e::es) env=(false,eval e env)::Qa es env:=by
 have p:=ul h
 cases e<;>first|rfl|exact KZ p
theorem ko:∀ {xs:List Ex} {es:List Expr} (h:qm k xs es=true) (pos:Pos) (env:Env),(backTo pos (Qa es env)).any (·.1)=false
 |[],es,h,pos,env=>by rw[j0 h];rfl
 |x::xs,es,h,pos,env=>by
  obtain⟨y,ys,rfl,h1,h2⟩:=jR h;rw[jz h1];have:=ko h2 pos env;simpa[backTo]using this
theorem zW:∀ {xs:List Ex} {es:List Expr} (h:qm k xs es=true),xs.length=es.length
 |[],es,h=>by rw[j0 h];rfl
 |x::xs,es,h=>by
  obtain⟨y,ys,rfl,h1,h2⟩:=jR h;simp[zW h2]
theorem xB{C:Cfg}:∀(es:List Ex) {σ:Sto} {Q:List D->Prop},wpEs C es σ Q->wpEs C es σ fun ds=>ds.length=es.length/\Q ds
 |[],σ,Q,w=>by unfold wpEs at *;exact⟨rfl,w⟩
 |e::es,σ,Q,w=>by
  unfold wpEs at *;exact ja e (fun d wd=>jw es (fun ds ⟨h1,h2⟩=>⟨by simp[h1],h2⟩) (xB es wd)) w
theorem Ok.vis(ok:Ok X k C){i:Nat}{x:Str}(h:k.loc i x=true):X.N[i]?=some x/\L2.Loc X.env.scope x/\(x == ("__debug__":Str))=false/\(x == ("__classdict__":Str))=false:=by
 unfold Ck.loc at h;simp only[KM,Yl,decide_eq_true_eq,Ql]at h;obtain⟨⟨⟨h1,h2⟩,h3⟩,h4⟩:=h;refine⟨by rw[ok.N];exact h1,?_,h3,h4⟩;unfold L2.Loc;rw[ok.names];exact h2
theorem Ok.gl(ok:Ok X k C){x:Str}(h:k.gl x=true):Gl X x/\(x == ("__debug__":Str))=false/\x≠("__name__":Str):=by
 unfold Ck.gl at h;simp only[KM,decide_eq_true_eq,Ql]at h;exact⟨by unfold Gl Env.kindOf;rw[ok.names];exact h.1.1,h.1.2,h.2⟩
theorem qd{sc:Scope}{x:Str}(h:L2.Loc sc x):Vis sc x:=h.elim .inl fun z=>.inr (.inl z)
theorem JQ{a b:Ex}{f:D->D->(D->Prop)->Prop}(hm:∀ {x y:D} {Q Q':D->Prop},(∀d,Q d->Q' d)->f x y Q->f x y Q'){τ:L2.St}{H:Hp}{Q:VK}{σ:Sto}{O:List Addr}{K:KN}(R:Reps K O H σ τ)
 (w:wpE C a σ fun x=>wpE C b σ fun y=>f x y (Wd K O H Q)):tOp (rD K f) (tD K C a) (tD K C b) τ H Q :=
 ⟨σ,O,R,ja a (fun x wx xv H1 s1 i1=>⟨σ,O,R.mono s1,ja b (fun y wy yv H2 s2 i2=>⟨O,x,y,(R.mono (s1.trans s2)).own,Is.mono (jd s2) x i1,i2,hm (fun d=>Wd.mono (s1.trans s2)) wy⟩) wx⟩) w⟩
theorem tD_test{x:Ex}{τ:L2.St}{H:Hp}{Q:Bool->Hp->Prop}{K:KN}(h:tDT K C x τ H Q):tB (tD K C x) τ H Q:=by
 obtain⟨σ,O,R,w⟩:=h;refine⟨σ,O,R,ja x (fun d wd v H1 s1 i1=>?_) w⟩
 cases d with
 |bl c=>exact⟨c,kq i1,wd H1 s1⟩
 |_=>exact wd.elim
noncomputable def mtI(x:V)(xs:List V)(H:Hp)(Q:VK):Prop:=xs=[]/\∃i,x=.int i/\Q (.int (bits i)) H
theorem mt_bits':MtR X "int.bit_length" mtI:=by
 rintro pins s τ H x xs v us Q I rx rs ⟨rfl,i,rfl,q⟩;cases rs;obtain⟨t,rfl⟩:=rx;exact call_int_bit_length ⟨.int _,H,I.tok _,⟨_,rfl⟩,q⟩
noncomputable def isiR(K:KN)(t:Ty)(n:String)(vs:List V)(H:Hp)(Q:VK):Prop:=∃O d v,vs=[v,.ty n]/\Is K (je H O) d v/\Wd K O H Q (.bl (tyD t d))
noncomputable def Ty.s:Ty->String
 |.int=>"int"
 |.bool=>"bool"
 |.tuple=>"tuple"
 |.list=>"list"
 |.str=>"str"
theorem call_isiR{t:Ty}:kU X (.builtin "isinstance") (isiR X.K t t.s):=by
 rintro pins s τ H vs us Q I r ⟨O,d,v,rfl,i,w⟩;obtain⟨u,w',rfl,r1,r2⟩:=vals2 r
 have e:w'=t.val:=by
  have r2':w'=KO.type t.s:=r2
  rw[r2'];cases t<;>rfl
 subst e
 exact call_isi I (Is.mono (jg H O) d i) r1 fun tk=>qJ (I.tok tk) w (j6 _) rfl
theorem ty_boot(t:Ty):Y4 t.nm=some (.type t.s):=by
 cases t
 ·exact ZM
 ·exact PyProof.Rows.boot_bool
 ·exact PyProof.Rows.boot_tuple
 ·exact X6
 ·exact PyProof.Rows.boot_str
theorem ty_blt(t:Ty):t.nm∈blts:=by cases t<;>decide
theorem bi_blt(f:Bi):f.nm∈blts:=by cases f<;>decide
theorem noMark{op:CmpOp}{x:Ex}{e:Expr}(h:chkE k x e=true):Yu op e=false:=by
 have p:=ul h
 cases e<;>first|rfl|exact KZ p
theorem ixPlain{e:Expr}(h:yL e=false):PlainIx e:=by
 intro o i
 cases e<;>first|rfl|(exact KZ h)
theorem basePlain{o:Expr}{n:Str}{env:Env}(h:plainO o=true):Zg o n env (eval o env)=eval o env:=by
 unfold Zg;split
 ·exact KZ h
 ·rfl
theorem j8{x:Ex}{e:Expr}(p:PE X e (tD X.K C x))(he:∀whole,isTrue e X.env whole=(do let v <- whole;standAt e.pos;Zo [v] (truthy v))):PT X e (tDT X.K C x):=PT.imp (fun _ _ _=>tD_test) (pt_val p he)
theorem pw_of{op:BoolOp}{vs:List Expr}{pos:Pos}{t:TT}(h:PT X (.BoolOp op vs pos) t):PW X (.BoolOp op vs pos) t:=fun whole pins s τ H Q I w=>h pins s τ H Q I w
noncomputable def Kd(cells:List (Str×Addr)):List (Str×Yb)->List (Str×Addr)->List (Str×Addr)
 |[],cs=>cs
 |(n,kd)::r,cs=>Kd cells r (if kd == .free then (match cells.lookup n with|some c=>(n,c)::cs|none=>cs) else cs)
theorem clOf_sub{cells:List (Str×Addr)}:∀(l:List (Str×Yb)) (cs:List (Str×Addr)),(∀y c,(y,c)∈cs->cells.lookup y=some c)->∀y c,(y,c)∈Kd cells l cs->cells.lookup y=some c
 |[],cs,h,y,c,m=>h y c m
 |(n,kd)::r,cs,h,y,c,m=>by
  refine clOf_sub r _ (fun z d hz=>?_) y c m;split at hz
  ·split at hz
   ·next q =>
    rcases KS.mp hz with e|e
    ·cases e;exact q
    ·exact h z d e
   ·exact h z d hz
  ·exact h z d hz
theorem clOf_old{cells:List (Str×Addr)}:∀(l:List (Str×Yb)) (cs:List (Str×Addr)) (z:Str×Addr),z∈cs->z∈Kd cells l cs
 |[],cs,z,h=>h
 |(n,kd)::r,cs,z,h=>by
  refine clOf_old r _ z ?_;split
  ·split
   ·exact KR _ h
   ·exact h
  ·exact h
theorem clOf_has{cells:List (Str×Addr)}:∀(l:List (Str×Yb)) (cs:List (Str×Addr)) (y:Str) (c:Addr),(y,.free)∈l->cells.lookup y=some c->(y,c)∈Kd cells l cs
 |[],cs,y,c,h,e=>nomatch h
 |(n,kd)::r,cs,y,c,h,e=>by
  rcases KS.mp h with z|z
  ·cases z;refine clOf_old r _ _ ?_;simp only[beq_self_eq_true,if_true,e];exact K0 ..
  ·exact clOf_has r _ y c z e
theorem vZ{α:Type}{l:List (Str×α)}{y:Str}{c:α}(h:l.lookup y=some c):(y,c)∈l:=X2 h
theorem mem_lookup{α:Type}{l:List (Str×α)}{y:Str}{c:α}(h:(y,c)∈l):∃d,l.lookup y=some d:=by
 induction l with
 |nil=>cases h
 |cons a r ih =>
  obtain⟨n,b⟩:=a;by_cases e:y=n
  ·subst e;exact⟨b,by simp[QW]⟩
  ·rcases KS.mp h with z|z
   ·cases z;exact absurd rfl e
   ·obtain⟨d,q⟩:=ih z;refine⟨d,?_⟩
    have:(y == n)=false:=by simpa using e
    rw[QW,this];exact q
theorem clos_of{env:Env}{sc:Scope}(h:∀y∈sc.names,y.2=.free->∃c,env.cells.lookup y.1=some c):closureFor sc env=pure (Kd env.cells sc.names []):=by
 simp only[closureFor];generalize ([]:List (Str×Addr))=cs;generalize sc.names=l at h
 induction l generalizing cs with
 |nil=>rfl
 |cons a r ih =>
  obtain⟨n,kd⟩:=a
  have ih':=fun cs=>ih cs fun y hy=>h y (KR _ hy)
  rw[YM];by_cases e:kd=.free
  ·subst e;obtain⟨c,hc⟩:=h (n,.free) (K0 ..) rfl
   have e1:cellOf env n=pure c:=by unfold cellOf;rw[hc]
   simp only[beq_self_eq_true,if_true,e1,Kd];rw[hc];exact ih' _
  ·have e1:(kd == ZV)=false:=by simpa using e
   simp only[e1,Qk,if_false,Kd];exact ih' _
theorem Ok.rel(ok:Ok X k C)(sc:Scope):(Ui sc X.env).names=relab sc.names k.names:=by
 unfold Ui relab Env.kindOf;rw[ok.names,ok.kd];simp
theorem Ok.comp_nE(ok:Ok X k C){x:Str}{sc:Scope}(h:qW k x sc=true):dum X.N ∉ X.N:=by
 unfold qW at h;simp only[KM,Ql,List.contains_eq_mem,decide_eq_false_iff_not]at h;rw[ok.N];exact h.2
theorem vQ{names out:List (Str×Yb)}{y:Str}{kd:Yb}(h:(relab names out).lookup y=some kd):∃kd',(y,kd')∈names/\(kd=kd'\/(kd'=.free/\kd=.cell)):=by
 have m:=vZ h;unfold relab at m;obtain⟨⟨n,q⟩,hq,e⟩:=K7.mp m;simp only at e;split at e
 ·next hc =>
  simp only[KM,beq_iff_eq]at hc;cases e;exact⟨q,hq,.inr ⟨hc.1,rfl⟩⟩
 ·cases e;exact⟨kd,hq,.inl rfl⟩
theorem Ok.comp(ok:Ok X k C){x:Str}{sc:Scope}(h:qW k x sc=true)(xo:X.Ok):∃cl,CompOk X x sc cl:=by
 unfold qW at h;simp only[KM,Ql,XM,decide_eq_true_eq,Yl,beq_iff_eq,beq_eq_false_iff_ne,ne_eq]at h;obtain⟨⟨⟨⟨⟨⟨⟨⟨h1,h2⟩,h3⟩,h4⟩,h5⟩,h6⟩,h7⟩,h8⟩,h9⟩:=h
 have hc:∀y∈sc.names,y.2=.free->∃c,X.env.cells.lookup y.1=some c:=fun y hy e=>by
  refine xo.has y.1 ?_;unfold Env.kindOf;rw[ok.names];rcases h6 y hy with(z|z)|z
  ·exact absurd e z
  ·exact .inl z
  ·exact .inr z
 have sub:∀y c,(Kd X.env.cells sc.names []).lookup y=some c->X.env.cells.lookup y=some c:=fun y c e=>clOf_sub _ _ (fun _ _ z=>absurd z (by simp)) y c (vZ e)
 refine⟨Kd X.env.cells sc.names [],clos_of hc,h1,h2,fun y hy e=>?_,h4,fun y e=>?_,fun y hyx e=>?_,sub,by rw[ok.N];exact h7,by rw[ok.names,ok.N];exact h8⟩
 ·rcases h3 y hy with z|z
  ·exact absurd e z
  ·exact z
 ·rw[ok.rel]at e;obtain⟨kd,m,z|⟨_,z⟩⟩:=vQ e
  ·rcases h5 _ m with(q|q)|q
   ·exact absurd z.symm q
   ·exact .inl q
   ·refine .inr ⟨?_,by rw[ok.N];exact q.2⟩;rw[ok.N];simpa using q.1
  ·cases z
 ·rw[ok.rel]at e
  have m:(y,ZV)∈sc.names:=by
   rcases e with e|e
   ·obtain⟨kd,m,z|⟨z,_⟩⟩:=vQ e
    ·exfalso;rw[<- z]at m
     have q:(y,Zi)∈sc.names.filter fun y=>y.2 == .cell:=List.mem_filter.mpr ⟨m,rfl⟩
     rw[h2]at q;split at q
     ·simp only[KS,ZU,K4,or_false]at q;exact hyx q.1
     ·cases q
    ·rw[<- z];exact m
   ·obtain⟨kd,m,z|⟨_,z⟩⟩:=vQ e
    ·rw[z];exact m
    ·cases z
  obtain⟨c,hcc⟩:=hc _ m rfl;have k6:=h6 _ m;refine⟨?_,?_,mem_lookup (clOf_has _ _ y c m hcc)⟩
  ·unfold Vis;rw[ok.names];rcases k6 with(z|z)|z
   ·exact absurd rfl z
   ·exact .inr (.inl z)
   ·exact .inr (.inr z)
  ·rw[ok.names];rcases k6 with(z|z)|z
   ·exact absurd rfl z
   ·intro q;simp only at z;rw[z]at q;cases q
   ·intro q;simp only at z;rw[z]at q;cases q
theorem Ok.block(ok:Ok X k C){x:Str}{sc:Scope}{cl:List (Str×Addr)}(h:qW k x sc=true)(co:CompOk X x sc cl)(s:Shared)(H:Hp)(fp:List Addr)(Ca:Addr):Ok (qa X s H fp x sc cl Ca) (k.block x sc) C where
 N:=by show kZ X.N x=kZ k.N x;rw[ok.N]
 nd:=Jd ok.nd (ok.comp_nE h) co.ne
 names:=ok.rel sc
 kd:=co.kind
 calm:=ok.calm
 xe:=rfl
 units:=ok.units
 fns:=ok.fns
 cns:=ok.cns
 blt:=ok.blt
 E:=ok.E
theorem uC{K:KN}{a c b:Ex}{τ:L2.St}{H:Hp}{Q:VK}(w:tD K C (.compF a c b) τ H Q):uf (iSeq K (tD K C a)) (tDT K C c) (tD K C b) τ H Q:=by
 obtain⟨σ,O,R,w⟩:=w;refine⟨σ,O,R,ja a (fun d wd v H1 s1 i1=>?_) w⟩;obtain⟨xs,e1,hx,wd⟩:=wd;have wd':=qA (p:=fun d Q=>wpE C c (σ ++ [some (.sh d)]) (isB Q)) (f:=fun d Q=>wpE C b (σ ++ [some (.sh d)]) Q) (fun d _ _ hq=>ja c fun _=>jZ hq) (fun d _ _ hq=>ja b hq) _ (fun ys (wy:Wd K O H Q (.lst ys))=>wy.mono s1) wd;obtain⟨J,hw,g1,g2,g3⟩:=walk_of e1 i1;exact⟨J,hw,comp_turnsF (R.mono s1) hx (fun j H2 s2=>g1 j H2 O (jd s2)) (fun j H2 s2=>g2 j H2 O (jd s2)) (fun j H2 v H' d s2=>g3 j H2 O v H' d (jd s2)) wd'⟩
noncomputable def tPt(K:KN)(C:Cfg)(l:Ex):TO:=fun τ H R=>∃σ O,Reps K O H σ τ/\prt (kY l) (fun Q=>wpE C l σ Q) fun o=>∀H',jf H H'->R o H'
theorem po_D{l:Ex}{lo:Option Expr}(h:(lo.isNone == kY l)=true)(p:∀x,lo=some x->kY l=false->PE X x (tD X.K C l)):PO X lo (tPt X.K C l):=by
 cases lo with
 |none =>
  have e:kY l=true:=by simpa using h
  intro pins s τ H R I w;obtain⟨σ,O,r,w⟩:=w;unfold prt at w;rw[if_pos e]at w
  exact po_none pins s τ H R I (w _ (jf.refl H))
 |some x =>
  have e:kY l=false:=by simpa using h
  intro pins s τ H R I w;refine po_some (p x rfl e) pins s τ H R I ?_;obtain⟨σ,O,r,w⟩:=w;unfold prt at w;rw[if_neg (by rw[e];decide)]at w;refine⟨σ,O,r,ja l (fun d wd v H1 s1 i1=>?_) w⟩
  cases d<;>first|exact wd.elim|(cases jl i1;exact⟨_,rfl,wd _ s1⟩)
theorem Iss.drop{K:KN}{S:Hp}:∀ {ds:List D} {vs:List V} (n:Nat),Iss K S ds vs->Iss K S (ds.drop n) (vs.drop n)
 |ds,vs,0,i=>i
 |[],vs,n+1,i=>by
  have:vs=[]:=by have:=i.length;simpa using this
  subst this
  simpa using i
 |d::ds,vs,n+1,i=>by
  unfold Iss at i;obtain⟨v,ws,rfl,_,i2⟩:=i;simpa using Iss.drop n i2
theorem Iss.take{K:KN}{S:Hp}:∀ {ds:List D} {vs:List V} (n:Nat),Iss K S ds vs->Iss K S (ds.take n) (vs.take n)
 |ds,vs,0,i=>by simp only[Ye];unfold Iss;rfl
 |[],vs,n+1,i=>by
  have:vs=[]:=by have:=i.length;simpa using this
  subst this
  simpa using i
 |d::ds,vs,n+1,i=>by
  unfold Iss at i;obtain⟨v,ws,rfl,i1,i2⟩:=i;simp only[Xk];unfold Iss;exact⟨v,_,rfl,i1,Iss.take n i2⟩
theorem sIx_eq(n d:Nat)(o:Option Int):sIx n d o=HT.sIx n d o:=by cases o<;>rfl
theorem Iss.cut{K:KN}{S:Hp}{ds:List D}{vs:List V}(lo hi:Option Int)(i:Iss K S ds vs):Iss K S (ui ds lo hi) (cutV vs lo hi):=by
 have l:=i.length;unfold ui cutV;rw[sIx_eq,sIx_eq,<- l];exact(i.drop _).take _
theorem tab_of{f:List (List D)->Prop}{o:Option Sl}(w:otD f o):∃rows,o=some (.ot rows)/\f rows:=by
 match o,w with
 |some (.ot rows),w=>exact⟨rows,rfl,w⟩
mutual
theorem sB:∀ {X:Cx} {k:Ck} (ok:Ok X k C) (x:Ex) (e:Expr),chkE k x e=true->PE X e (tD X.K C x)/\PT X e (tDT X.K C x)
 |X,k,ok,.var i,e,h=>by
  replace h:=jb h;obtain⟨x,hx,h⟩:=h;obtain⟨pos,rfl⟩:=jn hx;obtain⟨h1,h2,h3,h4⟩:=ok.vis h
  have p:PE X (.Name x pos) (tD X.K C (.var i)):=by
   refine PE.imp (fun τ H Q w=>?_) (j9 h1 (qd h2) h3 h4);obtain⟨σ,O,R,w⟩:=w;rw[wE_var]at w
   cases g:getS σ i with
   |none=>rw[g]at w;exact w.elim
   |some z =>
    rw[g]at w
    cases z with
    |sh d =>
     obtain⟨v,e1,e2⟩:=R.sh i d g
     exact⟨v,e1,w v H (jf.refl H) e2⟩
    |ow ds=>exact w.elim
    |ot _=>exact w.elim
  exact⟨p,j8 p fun _=>rfl⟩
 |X,k,ok,.cst d,e,h=>by
  replace h:=jb h;obtain⟨c,hx,h⟩:=h;obtain⟨j,pos,rfl⟩:=qU hx
  have p:PE X (.Constant c j pos) (tD X.K C (.cst d)):=by
   cases d with
   |non =>
    cases c<;>first|exact KZ h|skip
    exact PE.imp (fun τ H Q ⟨σ,O,R,w⟩=>by exact w _ _ (jf.refl H) uY) pe_non
   |bl b =>
    cases c<;>first|exact KZ h|skip
    have e:_=_:=eq_of_beq h;subst e
    exact PE.imp (fun τ H Q ⟨σ,O,R,w⟩=>by exact w _ _ (jf.refl H) (j6 _)) pe_bl
   |int i =>
    cases c<;>first|exact KZ h|skip
    have e:_=_:=of_decide_eq_true h;subst e
    exact PE.imp (fun τ H Q ⟨σ,O,R,w⟩=>by exact w _ _ (jf.refl H) (jH _)) Kq
   |str x =>
    cases c<;>first|exact KZ h|skip
    have h':=(KM _ _).mp h;have e:_=_:=of_decide_eq_true h'.1;subst e
    exact PE.imp (fun τ H Q ⟨σ,O,R,w⟩=>by exact w _ _ (jf.refl H) (qt h'.2)) vd
   |tup xs=>cases c<;>exact KZ h
   |lst xs=>cases c<;>exact KZ h
  exact⟨p,j8 p fun _=>rfl⟩
 |X,k,ok,.con i,e,h=>by
  replace h:=jb h;obtain⟨x,hx,h⟩:=h;obtain⟨pos,rfl⟩:=jn hx;rw[KM,decide_eq_true_eq]at h;obtain⟨u,v,h1,h2,h3⟩:=ok.cns i x h.1;obtain⟨g1,g2,g3⟩:=ok.gl h.2;have p:PE X (.Name x pos) (tD X.K C (.con i)):=PE.imp (fun τ H Q ⟨σ,O,R,w⟩=>by exact w _ _ (jf.refl H) (h3 _)) (KK g1 h1 h2 g2)
  exact⟨p,j8 p fun _=>rfl⟩
 |X,k,ok,.bin o a b,e,h=>by
  replace h:=jb h;obtain⟨⟨l,op,r⟩,hx,h⟩:=h;obtain⟨pos,rfl⟩:=vh hx;rw[KM,KM]at h;have p:PE X (.BinOp l op r pos) (tD X.K C (.bin o a b)):=PE.imp (t':=tD X.K C (.bin o a b)) (fun τ H Q ⟨σ,O,R,w⟩=>by exact JQ (f:=xI o) JD R w) (pe_op (op_bin h.1.1) (sB ok a _ h.1.2).1 (sB ok b _ h.2).1)
  exact⟨p,j8 p fun _=>rfl⟩
 |X,k,ok,.neg a,e,h=>by
  replace h:=jb h;obtain⟨⟨op,x⟩,hx,h⟩:=h;obtain⟨pos,rfl⟩:=asUn_ hx;rw[KM,decide_eq_true_eq]at h;obtain⟨ho,h⟩:=h;simp only at ho h;subst ho
  have p:PE X (.UnaryOp .USub x pos) (tD X.K C (.neg a)):=by
   refine PE.imp (fun τ H Q w=>?_) (pe_un un_neg (sB ok a _ h).1);obtain⟨σ,O,R,w⟩:=w;refine⟨σ,O,R,ja a (fun d wd v H1 s1 i1=>?_) w⟩
   cases d with
   |int i=>exact⟨i,jl i1,wd _ _ s1 (jH _)⟩
   |_=>exact wd.elim
  exact⟨p,j8 p fun _=>rfl⟩
 |X,k,ok,.not a,e,h=>by
  replace h:=jb h;obtain⟨⟨op,x⟩,hx,h⟩:=h;obtain⟨pos,rfl⟩:=asUn_ hx;rw[KM,decide_eq_true_eq]at h;obtain⟨ho,h⟩:=h;simp only at ho h;subst ho;obtain⟨pa,ta⟩:=sB ok a _ h;refine⟨PE.imp (fun τ H Q w=>?_) (pe_not pa),PT.imp (fun τ H Q w=>?_) (pt_not ta)⟩
  ·obtain⟨σ,O,R,w⟩:=w;refine⟨σ,O,R,ja a (fun d wd v H1 s1 i1=>?_) w⟩
   cases d with
   |bl c=>exact⟨c,kq i1,wd _ _ s1 (j6 _)⟩
   |_=>exact wd.elim
  ·obtain⟨σ,O,R,w⟩:=w;refine⟨σ,O,R,ja a (fun d wd=>?_) w⟩
   cases d with
   |bl c=>exact fun H' s'=>wd H' s'
   |_=>exact wd.elim
 |X,k,ok,.cmp o a b,e,h=>by
  replace h:=jb h;obtain⟨⟨l,ops,cs⟩,hx,h⟩:=h;obtain⟨pos,rfl⟩:=JT hx;simp only[KM,decide_eq_true_eq]at h;obtain⟨⟨⟨⟨n1,n2⟩,h1⟩,h2⟩,h3⟩:=h
  match ops,n1,cs,n2,h1,h3 with
  |[op],_,[r],_,h1,h3 =>
   have h:(cOk o op r=true/\chkE k a l=true)/\chkE k b r=true:=⟨⟨h1,h2⟩,h3⟩
   have pa:=(sB ok a _ h.1.2).1;have pb:=(sB ok b _ h.2).1;refine⟨PE.imp (fun τ H Q w=>?_) (pe_cmpR (op_cmp h.1.1 ok.units) pa pb (noMark h.2)),PT.imp (fun τ H Q w=>?_) (pt_cmpR (op_cmp h.1.1 ok.units) pa pb (noMark h.2))⟩
   ·obtain⟨σ,O,R,w⟩:=w;exact JQ (f:=yW o) yF R w
   ·obtain⟨σ,O,R,w⟩:=w;refine JQ (f:=yW o) yF R (ja a (fun x wx=>ja b (fun y wy=>yF (o:=o) (fun d wd v H1 s1 i1=>?_) wy) wx) w)
    cases d with
    |bl c=>exact⟨c,kq i1,wd H1 s1⟩
    |_=>exact wd.elim
 |X,k,ok,.and a b,e,h=>by
  replace h:=jb h;obtain⟨⟨op,vs,pos⟩,hx,h⟩:=h;have ee:=uO hx;subst ee;simp only[KM,decide_eq_true_eq]at h;obtain⟨⟨⟨ho,n1⟩,h1⟩,h2⟩:=h;subst ho
  match vs,n1,h1,h2 with
  |x::y::r,_,h1,h2 =>
   have h:chkE k a x=true/\(if r.isEmpty then chkE k b y else chkE k b (.BoolOp .And (y::r) pos))=true:=by
    refine⟨h1,?_⟩
    cases r with
    |nil=>simpa using h2
    |cons z r=>simpa using h2
   obtain⟨pa,ta⟩:=sB ok a _ h.1
   have hb:PE X (.BoolOp .And (y::r) pos) (tD X.K C b)/\PW X (.BoolOp .And (y::r) pos) (tDT X.K C b):=by
    cases r with
    |nil =>
     have:=sB ok b y h.2
     exact⟨pe_one this.1,pw_and1 this.2⟩
    |cons z r =>
     have:=sB ok b (.BoolOp .And (y::z::r) pos) h.2;exact⟨this.1,pw_of this.2⟩
   refine⟨PE.imp (fun τ H Q w=>?_) (pe_and pa hb.1),PT.imp (fun τ H Q w=>?_) (pw_and ta hb.2).pt⟩
   ·obtain⟨σ,O,R,w⟩:=w;refine⟨σ,O,R,ja a (fun d wd v H1 s1 i1=>?_) w⟩
    cases d with
    |bl c =>
     refine⟨c,kq i1,?_⟩
     cases c with
     |true=>exact⟨σ,O,R.mono s1,ja b (fun d=>Wd.mono s1) wd⟩
     |false=>exact wd _ _ s1 (j6 _)
    |_=>exact wd.elim
   ·obtain⟨σ,O,R,w⟩:=w;refine⟨σ,O,R,ja a (fun d wd=>?_) w⟩
    cases d with
    |bl c =>
     intro H1 s1
     cases c with
     |true=>exact⟨σ,O,R.mono s1,ja b (fun d=>jZ fun c q H' s'=>q H' (s1.trans s')) wd⟩
     |false=>exact wd H1 s1
    |_=>exact wd.elim
 |X,k,ok,.or a b,e,h=>by
  replace h:=jb h;obtain⟨⟨op,vs,pos⟩,hx,h⟩:=h;have ee:=uO hx;subst ee;simp only[KM,decide_eq_true_eq]at h;obtain⟨⟨⟨ho,n1⟩,h1⟩,h2⟩:=h;subst ho
  match vs,n1,h1,h2 with
  |x::y::r,_,h1,h2 =>
   have h:chkE k a x=true/\(if r.isEmpty then chkE k b y else chkE k b (.BoolOp .Or (y::r) pos))=true:=by
    refine⟨h1,?_⟩
    cases r with
    |nil=>simpa using h2
    |cons z r=>simpa using h2
   obtain⟨pa,ta⟩:=sB ok a _ h.1
   have hb:PE X (.BoolOp .Or (y::r) pos) (tD X.K C b)/\PW X (.BoolOp .Or (y::r) pos) (tDT X.K C b):=by
    cases r with
    |nil =>
     have:=sB ok b y h.2
     exact⟨pe_one this.1,pw_or1 this.2⟩
    |cons z r =>
     have:=sB ok b (.BoolOp .Or (y::z::r) pos) h.2;exact⟨this.1,pw_of this.2⟩
   refine⟨PE.imp (fun τ H Q w=>?_) (pe_or pa hb.1),PT.imp (fun τ H Q w=>?_) (pw_or ta hb.2).pt⟩
   ·obtain⟨σ,O,R,w⟩:=w;refine⟨σ,O,R,ja a (fun d wd v H1 s1 i1=>?_) w⟩
    cases d with
    |bl c =>
     refine⟨c,kq i1,?_⟩
     cases c with
     |false=>exact⟨σ,O,R.mono s1,ja b (fun d=>Wd.mono s1) wd⟩
     |true=>exact wd _ _ s1 (j6 _)
    |_=>exact wd.elim
   ·obtain⟨σ,O,R,w⟩:=w;refine⟨σ,O,R,ja a (fun d wd=>?_) w⟩
    cases d with
    |bl c =>
     intro H1 s1
     cases c with
     |false=>exact⟨σ,O,R.mono s1,ja b (fun d=>jZ fun c q H' s'=>q H' (s1.trans s')) wd⟩
     |true=>exact wd H1 s1
    |_=>exact wd.elim
 |X,k,ok,.ife c a b,e,h=>by
  replace h:=jb h;obtain⟨⟨t,x,y⟩,hx,h⟩:=h;obtain⟨pos,rfl⟩:=asIf_ hx;simp only[KM]at h;obtain⟨pc,tc⟩:=sB ok c _ h.1.1;obtain⟨pa,ta⟩:=sB ok a _ h.1.2;obtain⟨pb,tb⟩:=sB ok b _ h.2;refine⟨PE.imp (fun τ H Q w=>?_) (pe_ifExp tc pa pb),fun pins s τ H Q I w=>?_⟩
  ·obtain⟨σ,O,R,w⟩:=w;refine⟨σ,O,R,ja c (fun d wd=>?_) w⟩
   cases d with
   |bl k =>
    intro H1 s1
    cases k with
    |true=>exact⟨σ,O,R.mono s1,ja a (fun d=>Wd.mono s1) wd⟩
    |false=>exact⟨σ,O,R.mono s1,ja b (fun d=>Wd.mono s1) wd⟩
   |_=>exact wd.elim
  ·obtain⟨σ,O,R,w⟩:=w;refine isTrue_IfExp (thn (tc pins s τ H (fun d H1=>if d=true then tDT X.K C a τ H1 Q else tDT X.K C b τ H1 Q) I ⟨σ,O,R,ja c (fun d wd=>?_) w⟩) fun d s1 ⟨H1,I1,q1⟩=>?_)
   ·cases d with
    |bl k =>
     intro H1 s1
     cases k with
     |true=>exact⟨σ,O,R.mono s1,ja a (fun d=>jZ fun c q H' s'=>q H' (s1.trans s')) wd⟩
     |false=>exact⟨σ,O,R.mono s1,ja b (fun d=>jZ fun c q H' s'=>q H' (s1.trans s')) wd⟩
    |_=>exact wd.elim
   ·cases d with
    |true=>exact ta pins s1 τ H1 Q I1 q1
    |false=>exact tb pins s1 τ H1 Q I1 q1
 |X,k,ok,.tup es,e,h=>by
  replace h:=jb h;obtain⟨xs,hx,h⟩:=h;obtain⟨j,pos,rfl⟩:=KE hx;rw[KM,decide_eq_true_eq]at h
  have p:PE X (.Tuple xs j pos) (tD X.K C (.tup es)):=by
   refine PE.imp (fun τ H Q w=>?_) (Kz (sA ok es xs h.2));obtain⟨σ,O,R,w⟩:=w;refine⟨σ,O,R,jw es (fun ds ⟨hl,wd⟩ vs H1 s1 i1=>⟨?_,fun p hp=>?_⟩) (xB es w)⟩
   ·rw[i1.length,hl,zW h.2,Xv];lia
   ·exact wd _ _ (s1.trans (jB hp _)) (Km (xL (R.mono s1).own hp) (Iss.minus_upd hp i1))
  exact⟨p,j8 p fun _=>rfl⟩
 |X,k,ok,.lst es,e,h=>by
  replace h:=jb h;obtain⟨xs,hx,h⟩:=h;obtain⟨pos,rfl⟩:=yi hx;rw[KM,decide_eq_true_eq]at h
  have p:PE X (.List xs pos) (tD X.K C (.lst es)):=by
   refine PE.imp (fun τ H Q w=>?_) (vo (sA ok es xs h.2));obtain⟨σ,O,R,w⟩:=w;refine⟨σ,O,R,jw es (fun ds ⟨hl,wd⟩ vs H1 s1 i1=>⟨?_,fun p hp=>?_⟩) (xB es w)⟩
   ·rw[i1.length,hl,zW h.2,Xv];lia
   ·exact wd _ _ (s1.trans (jB hp _)) (qg (SqL.of (xL (R.mono s1).own hp)) (Iss.minus_upd hp i1))
  exact⟨p,j8 p fun _=>rfl⟩
 |X,k,ok,.slc a l u,e,h=>by
  replace h:=jb h;obtain⟨⟨v,i⟩,hx,h⟩:=h;obtain⟨pos,rfl⟩:=yl hx;replace h:=jb h;obtain⟨⟨lo,hi⟩,hs,h⟩:=h;obtain⟨p2,e2⟩:=asSlice_ hs;simp only at e2;subst e2;simp only[KM]at h;obtain⟨⟨⟨⟨ha,hl1⟩,hu1⟩,hl2⟩,hu2⟩:=h
  have pl:PO X lo (tPt X.K C l):=po_D hl1 fun x ex nl=>by
   subst ex;rw[nl]at hl2;exact(sB ok l x hl2).1
  have pu:PO X hi (tPt X.K C u):=po_D hu1 fun x ex nl=>by
   subst ex;rw[nl]at hu2;exact(sB ok u x hu2).1
  have p:PE X (.Subscript v (.Slice lo hi none p2) pos) (tD X.K C (.slc a l u)):=by
   refine PE.imp (fun τ H Q w=>?_) (pe_slice (sl_list.or sl_strR) (sB ok a v ha).1 pl pu);obtain⟨σ,O,R,w⟩:=w;refine⟨σ,O,R,ja a (fun d wd x H1 s1 i1=>⟨σ,O,R.mono s1,xE (fun hq=>ja l hq) (fun lo' wl H2 s2=>⟨σ,O,(R.mono s1).mono s2,xE (fun hq=>ja u hq) (fun hi' wh H3 s3=>?_) wl⟩) wd⟩) w⟩;have ss:=s2.trans s3
   cases d<;>first|exact wh.elim|skip
   ·obtain⟨rfl,o1⟩:=kt i1;refine .inr ⟨_,rfl,by rw[Xv];exact wh.1,wh.2 _ _ (s1.trans ss) (qt (x5 fun c hc=>yM o1 (QV (XV hc))))⟩
   next xs =>
   obtain⟨b,vs,rfl,h1,h2⟩:=jF i1;refine .inl ⟨b,vs,rfl,(jg _ _).seq ((jd ss).seq h1),fun p hp=>wh _ _ ((s1.trans ss).trans (jB hp _)) (qg (SqL.of (xL (((R.mono s1).mono s2).mono s3).own hp)) (Iss.minus_upd hp (Iss.cut lo' hi' (Iss.mono (jd ss) xs h2))))⟩
  exact⟨p,j8 p fun _=>rfl⟩
 |X,k,ok,.ix a b,e,h=>by
  replace h:=jb h;obtain⟨⟨v,i⟩,hx,h⟩:=h;obtain⟨pos,rfl⟩:=yl hx;simp only[KM,Ql]at h;have p:PE X (.Subscript v i pos) (tD X.K C (.ix a b)):=PE.imp (t':=tD X.K C (.ix a b)) (fun τ H Q ⟨σ,O,R,w⟩=>by exact JQ (f:=ixD) vK R w) (pe_ix ix_D (sB ok a _ h.1.2).1 (sB ok b _ h.2).1 (ixPlain h.1.1))
  exact⟨p,j8 p fun _=>rfl⟩
 |X,k,ok,.call f es,e,h=>by
  replace h:=jb h;obtain⟨⟨x,xs,pos⟩,hx,h⟩:=h;obtain⟨q,rfl⟩:=jL hx;simp only[KM,decide_eq_true_eq]at h;obtain⟨⟨⟨h1,h2⟩,hne⟩,h4⟩:=h;obtain⟨y,ys,rfl⟩:=xA hne;obtain⟨g1,g2,g3⟩:=ok.gl h2;obtain⟨fa,fd,ps,lv,F,hr,hm,hk,hb⟩:=ok.fns f x _ h1
  have hs:Qa (y::ys) X.env=(false,eval y X.env)::Qa ys X.env/\(backTo pos (Qa ys X.env)).any (·.1)=false:=by
   cases es with
   |nil=>have:=j0 h4;cases this
   |cons z zs =>
    obtain⟨y',ys',e',h5,h6⟩:=jR h4;cases e';exact⟨jz h5 _ _,ko h6 _ _⟩
  have p:PE X (.Call (.Name x q) (y::ys) [] pos) (tD X.K C (.call f es)):=by
   refine PE.imp (fun τ H Q w=>?_) (zl (CX:=CXz X.prog X.w X.mg) (E:=E0) (dvs:=[]) F hr g1 hm hk hb .nil passZ (sA ok es _ h4) g2 hs.1 hs.2);obtain⟨σ,O,R,w⟩:=w;refine⟨σ,O,R,jw es (fun ds ⟨hl,wd⟩ vs H1 s1 i1=>?_) (xB es w)⟩;show spD X.K (y::ys).length (C.fr f) (C.f2 f) (C.ct f) (vs ++ []) H1 Q E0;rw[Qu];exact⟨O,ds,by rw[hl,zW h4],(R.mono s1).own,i1,wd.1,fun d r=>((wd.2.1 d r).mono s1).rw (R.mono s1).own,fun x hx=>(ok.E x (wd.2.2 x hx)).elim⟩
  exact⟨p,j8 p fun _=>rfl⟩
 |X,k,ok,.bi f es,e,h=>by
  replace h:=jb h;obtain⟨⟨x,xs,pos⟩,hx,h⟩:=h;obtain⟨q,rfl⟩:=jL hx;simp only[KM,decide_eq_true_eq]at h;obtain⟨⟨⟨h1,h2⟩,hne⟩,h4⟩:=h;obtain⟨y,ys,rfl⟩:=xA hne;subst h1;obtain⟨g1,g2,g3⟩:=ok.gl h2;have hm:=ok.blt _ (bi_blt f)
  have hs:Qa (y::ys) X.env=(false,eval y X.env)::Qa ys X.env/\(backTo pos (Qa ys X.env)).any (·.1)=false:=by
   cases es with
   |nil=>have:=j0 h4;cases this
   |cons z zs =>
    obtain⟨y',ys',e',h5,h6⟩:=jR h4;cases e';exact⟨jz h5 _ _,ko h6 _ _⟩
  have w':∀τ H Q,tD X.K C (.bi f es) τ H Q->tCB (cD X.K (biD f)) (tDs X.K C es) τ H Q:=by
   rintro τ H Q ⟨σ,O,R,w⟩;exact⟨σ,O,R,jw es (fun ds wd vs H1 s1 i1=>⟨O,ds,(R.mono s1).own,i1,biD_mono (fun d=>Wd.mono s1) wd⟩) w⟩
  have cb:kU X f.val (cD X.K (biD f)):=call_bi ok.calm
  have p:PE X (.Call (.Name f.nm q) (y::ys) [] pos) (tD X.K C (.bi f es)):=by
   cases f with
   |abs=>exact PE.imp w' (kr (id:="abs") cb g1 hm PyProof.Rows.boot_abs (sA ok es _ h4) g3 g2 hs.1 hs.2)
   |max=>exact PE.imp w' (kr (id:="max") cb g1 hm PyProof.Rows.boot_max (sA ok es _ h4) g3 g2 hs.1 hs.2)
   |min=>exact PE.imp w' (kr (id:="min") cb g1 hm PyProof.Rows.boot_min (sA ok es _ h4) g3 g2 hs.1 hs.2)
   |len=>exact PE.imp w' (kr (id:="len") cb g1 hm PySem.boot_len (sA ok es _ h4) g3 g2 hs.1 hs.2)
   |int=>exact PE.imp w' (kR (T:="int") cb g1 hm ZM (sA ok es _ h4) g3 g2 hs.1 hs.2)
   |list=>exact PE.imp w' (kR (T:="list") cb g1 hm X6 (sA ok es _ h4) g3 g2 hs.1 hs.2)
   |sum=>exact PE.imp w' (kr (id:="sum") cb g1 hm PyProof.Rows.boot_sum (sA ok es _ h4) g3 g2 hs.1 hs.2)
   |all=>exact PE.imp w' (kr (id:="all") cb g1 hm PyProof.Rows.boot_all (sA ok es _ h4) g3 g2 hs.1 hs.2)
   |str=>exact PE.imp w' (kR (T:="str") cb g1 hm PyProof.Rows.boot_str (sA ok es _ h4) g3 g2 hs.1 hs.2)
   |tuple=>exact PE.imp w' (kR (T:="tuple") cb g1 hm PyProof.Rows.boot_tuple (sA ok es _ h4) g3 g2 hs.1 hs.2)
   |any=>exact PE.imp w' (kr (id:="any") cb g1 hm PyProof.Rows.boot_any (sA ok es _ h4) g3 g2 hs.1 hs.2)
  exact⟨p,j8 p fun _=>rfl⟩
 |X,k,ok,.meth m o,e,h=>by
  replace h:=jb h;obtain⟨⟨fe,xs,ks,pos⟩,hx,h⟩:=h;have ee:=xt hx;subst ee;simp only[KM]at h;obtain⟨⟨n1,n2⟩,h⟩:=h;replace h:=jb h;obtain⟨⟨v,x,ap⟩,hy,h⟩:=h;have ee:=xq hy;subst ee;simp only[KM,decide_eq_true_eq]at h
  match xs,n1,ks,n2 with
  |[],_,[],_ =>
   obtain⟨⟨⟨h1,h2⟩,h3⟩,h4⟩:=h;subst h1
   have p:PE X (.Call (.Attribute v m.nm ap) [] [] pos) (tD X.K C (.meth m o)):=by
    cases m with
    |bitlen =>
     refine PE.imp (fun τ H Q w=>?_) (pe_bm0 (T:="int") PySem.F.plainAttrs_int PySem.F.slot_int_bit_length PySem.F.type_int_bit_length mt_bits' (sB ok o _ h4).1 (basePlain h2) h3);obtain⟨σ,O,R,w⟩:=w;refine⟨σ,O,R,ja o (fun d wd v H1 s1 i1=>?_) w⟩
     cases d with
     |int i=>cases jl i1;exact⟨rfl,rfl,i,rfl,wd _ _ s1 (jH _)⟩
     |_=>exact wd.elim
   exact⟨p,j8 p fun _=>rfl⟩
 |X,k,ok,.isi a t,e,h=>by
  replace h:=jb h;obtain⟨⟨x,xs,pos⟩,hx,h⟩:=h;obtain⟨q,rfl⟩:=jL hx;simp only[KM,decide_eq_true_eq]at h;obtain⟨⟨⟨⟨⟨h1,h2⟩,n1⟩,h3⟩,h4⟩,h5⟩:=h;obtain⟨y,ny,rfl⟩:=qb n1;obtain⟨q',rfl⟩:=jn h3;have h5:chkE k a y=true:=h5
  try simp only at h1 h2
  subst h1;obtain⟨g1,g2,g3⟩:=ok.gl h2;obtain⟨k1,k2,k3⟩:=ok.gl h4;have pn:PE X (.Name t.nm q') (tC (.ty t.s)):=pe_bltn k1 (ok.blt _ (ty_blt t)) (ty_boot t) rfl k3 k2
  have p:PE X (.Call (.Name "isinstance" q) [y,.Name t.nm q'] [] pos) (tD X.K C (.isi a t)):=by
   refine PE.imp (fun τ H Q w=>?_) (kr (call_isiR (t:=t)) g1 (ok.blt _ (by decide)) X1 (js (sB ok a _ h5).1 (js pn jU rfl) (jz h5 _ _)) g3 g2 (jz h5 _ _) rfl);obtain⟨σ,O,R,w⟩:=w;exact⟨σ,O,R,ja a (fun d wd v H1 s1 i1=>⟨O,d,v,rfl,i1,wd.mono s1⟩) w⟩
  exact⟨p,j8 p fun _=>rfl⟩
 |X,k,ok,.compR es b,e,h=>by
  replace h:=jb h;obtain⟨⟨elt,x,iter,sc⟩,hz,h⟩:=h;obtain⟨px,pos,rfl⟩:=kL hz;simp only[KM]at h;obtain⟨⟨h1,h2⟩,h3⟩:=h;replace h2:=jb h2;obtain⟨⟨f,args,p2⟩,hcn,h2⟩:=h2;obtain⟨q,e2⟩:=jL hcn;subst e2;simp only[KM,decide_eq_true_eq,Ql]at h2;obtain⟨⟨⟨hf,hg⟩,hne⟩,ha⟩:=h2;subst hf;obtain⟨g1,_,_⟩:=ok.gl hg
  have p:PE X (.ListComp elt [⟨.Name x px,.Call (.Name "range" q) args [] p2,[],0⟩] sc pos) (tD X.K C (.compR es b)):=by
   cases args with
   |nil=>simp at hne
   |cons y ys =>
    have hs:Qa (y::ys) X.env=(false,eval y X.env)::Qa ys X.env/\(backTo p2 (Qa ys X.env)).any (·.1)=false:=by
     cases es with
     |nil=>have:=j0 ha;cases this
     |cons z zs =>
      obtain⟨y',ys',e',h5,h6⟩:=jR ha;cases e';exact⟨jz h5 _ _,ko h6 _ _⟩
    intro pins s τ H Q I w;obtain⟨cl,co⟩:=ok.comp h1 I.ok;refine xM (te:=tD X.K C b) ok.calm ok.nd (ok.comp_nE h1) co (pi_rg g1 (ok.blt _ (by decide)) (sA ok es _ ha) hs.1 hs.2) (fun _ _ _ _=>qz) (fun s H fp Ca=>(sB (ok.block h1 co s H fp Ca) b elt h3).1) (fun _=>rfl) pins s τ H Q I ?_;obtain⟨σ,O,R,w⟩:=w;refine⟨σ,O,R,jw es (fun ds wd vs H1 s1 i1=>?_) w⟩;obtain⟨lo,hi,st,e,c,hx,wd⟩:=v8 i1 wd;refine⟨lo,hi,st,e,c,?_⟩;refine xP (R.mono s1) hx ?_ ?_ ?_ (jQ (f:=fun d Q=>wpE C b (σ ++ [some (.sh d)]) Q) (fun d _ _ hq=>ja b hq) _ (fun ys wy=>wy.mono s1) wd)
    ·intro j H _ hj;rw[jv]at hj;exact hj
    ·intro j H _ hj;rw[jv]at hj;exact hj
    ·intro j H v H' d _ y hd;obtain⟨e1,e2⟩:=y
     have hj:j<(if lo<hi then (hi-lo-1) / st+1 else 0).toNat:=by
      rcases Qd j (if lo<hi then (hi-lo-1) / st+1 else 0).toNat with z|z
      ·exact z
      ·rw[KT (by rw[jv];exact z)]at hd;cases hd
     rw[qr _ _ _ _ hj]at hd;cases hd;exact⟨e1,by rw[e2];exact jH _⟩
  exact⟨p,j8 p fun _=>rfl⟩
 |X,k,ok,.compE a b,e,h=>by
  replace h:=jb h;obtain⟨⟨elt,x,iter,sc⟩,hz,h⟩:=h;obtain⟨px,pos,rfl⟩:=kL hz;simp only[KM,Ql]at h;obtain⟨⟨⟨h1,hn⟩,ha⟩,h3⟩:=h
  have p:PE X (.ListComp elt [⟨.Name x px,iter,[],0⟩] sc pos) (tD X.K C (.compE a b)):=by
   intro pins s τ H Q I w;obtain⟨cl,co⟩:=ok.comp h1 I.ok;refine xM (te:=tD X.K C b) ok.calm ok.nd (ok.comp_nE h1) co (xR (sB ok a iter ha).1) (fun _ _ _ _=>qz) (fun s H fp Ca=>(sB (ok.block h1 co s H fp Ca) b elt h3).1) (qq hn _) pins s τ H Q I ?_;obtain⟨σ,O,R,w⟩:=w;refine⟨σ,O,R,ja a (fun d wd v H1 s1 i1=>?_) w⟩;obtain⟨xs,e1,hx,wd⟩:=wd;have wd':=jQ (f:=fun d Q=>wpE C b (σ ++ [some (.sh d)]) Q) (fun d _ _ hq=>ja b hq) _ (fun ys (wy:Wd X.K O H Q (.lst ys))=>wy.mono s1) wd;obtain⟨J,hw,g1,g2,g3⟩:=walk_of e1 i1;exact⟨J,hw,xP (R.mono s1) hx (fun j H2 s2=>g1 j H2 O (jd s2)) (fun j H2 s2=>g2 j H2 O (jd s2)) (fun j H2 v H' d s2=>g3 j H2 O v H' d (jd s2)) wd'⟩
  exact⟨p,j8 p fun _=>rfl⟩
 |X,k,ok,.compF a c b,e,h=>by
  replace h:=jb h;obtain⟨⟨elt,x,iter,sc,cnd⟩,hz,h⟩:=h;obtain⟨px,pos,rfl⟩:=u9 hz;simp only[KM,Ql]at h;obtain⟨⟨⟨⟨h1,hn⟩,ha⟩,hcd⟩,h3⟩:=h
  have p:PE X (.ListComp elt [⟨.Name x px,iter,[cnd],0⟩] sc pos) (tD X.K C (.compF a c b)):=by
   intro pins s τ H Q I w;obtain⟨cl,co⟩:=ok.comp h1 I.ok;exact xM (te:=tD X.K C b) ok.calm ok.nd (ok.comp_nE h1) co (xR (sB ok a iter ha).1) (fun s H fp Ca=>pts_one (sB (ok.block h1 co s H fp Ca) c cnd hcd).2) (fun s H fp Ca=>(sB (ok.block h1 co s H fp Ca) b elt h3).1) (qq hn _) pins s τ H Q I (uC w)
  exact⟨p,j8 p fun _=>rfl⟩
 |X,k,ok,.oix i a,e,h=>by
  replace h:=jb h;obtain⟨⟨ob,ix⟩,hx,h⟩:=h;obtain⟨pos,rfl⟩:=yl hx;simp only[KM,Ql]at h;obtain⟨⟨h1,h2⟩,h3⟩:=h;replace h2:=jb h2;obtain⟨x,hn,h2⟩:=h2;obtain⟨q,rfl⟩:=jn hn;obtain⟨k1,k2,k3,k4⟩:=ok.vis h2
  have p:PE X (.Subscript (.Name x q) ix pos) (tD X.K C (.oix i a)):=by
   refine PE.imp (fun τ H Q w=>?_) (pe_ix L2.ix_list (j9 k1 (qd k2) k3 k4) (sB ok a ix h3).1 (ixPlain h1));obtain⟨σ,O,R,w⟩:=w;rw[wE_oix]at w
   cases g:getS σ i with
   |none=>rw[g]at w;exact w.elim
   |some z =>
    rw[g]at w
    cases z with
    |sh d=>exact w.elim
    |ot _=>exact w.elim
    |ow ds =>
     obtain⟨ad,vs,e1,e2,e3,e4⟩:=R.ow i ds g;refine⟨.ref ad,e1,σ,O,R,ja a (fun y wy v H1 s1 i1=>?_) w⟩
     cases y with
     |int n =>
      obtain⟨d,e5,wd⟩:=wy;cases jl i1;obtain⟨u,e6,i6⟩:=at_of e4 e5
      exact⟨ad,vs,n,u,rfl,rfl,SqL.of (s1 _ _ e3),e6,wd u H1 s1 (Is.mono (jd s1) d i6)⟩
     |_=>exact wy.elim
  exact⟨p,j8 p fun _=>rfl⟩
 |X,k,ok,.compZ a b c,e,h=>by
  replace h:=jb h;obtain⟨⟨elt,x,iter,sc⟩,hz,h⟩:=h;obtain⟨px,pos,rfl⟩:=kL hz;simp only[KM]at h;obtain⟨⟨h1,h2⟩,h3⟩:=h;replace h2:=jb h2;obtain⟨⟨f,args,p2⟩,hcn,h2⟩:=h2;obtain⟨q,e2⟩:=jL hcn;subst e2;simp only[KM,decide_eq_true_eq]at h2;obtain⟨⟨⟨⟨hf,hg⟩,hn⟩,ha⟩,hb⟩:=h2;subst hf;obtain⟨g1,_,_⟩:=ok.gl hg;obtain⟨y1,y2,rfl⟩:=qb hn;have ha:chkE k a y1=true:=ha;have hb:chkE k b y2=true:=hb
  have p:PE X (.ListComp elt [⟨.Name x px,.Call (.Name "zip" q) [y1,y2] [] p2,[],0⟩] sc pos) (tD X.K C (.compZ a b c)):=by
   intro pins s τ H Q I w;obtain⟨cl,co⟩:=ok.comp h1 I.ok;refine xM (te:=tD X.K C c) ok.calm ok.nd (ok.comp_nE h1) co (pi_zip g1 (ok.blt _ (by decide)) (js (sB ok a y1 ha).1 (js (sB ok b y2 hb).1 jU (jz hb _ _)) (jz ha _ _)) (jz ha _ _) (by rw[jz hb];rfl)) (fun _ _ _ _=>qz) (fun s H fp Ca=>(sB (ok.block h1 co s H fp Ca) c elt h3).1) (fun _=>rfl) pins s τ H Q I ?_;obtain⟨σ,O,R,w⟩:=w;refine⟨σ,O,R,ja a (fun d wd v H1 s1 i1=>⟨σ,O,R.mono s1,ja b (fun d2 wd2 v2 H2 s2 i2=>?_) wd⟩) w⟩;obtain⟨xs,ys,⟨rfl,rfl⟩,hx,wz⟩:=wd2;have i1':=Is.mono (jd s2) _ i1;obtain⟨ad,vs,rfl,hq,hv⟩:=jF i1';obtain⟨ad2,ws,rfl,hq2,hv2⟩:=jF i2;have hq':=(jg _ _).seq hq;have hq2':=(jg _ _).seq hq2;have s12:=s1.trans s2;exact⟨ad,ad2,rfl,⟨vs,hq'⟩,⟨ws,hq2'⟩,Jm (R.mono s12) hx hq' hq2' hv hv2 (jQ (f:=fun d Q=>wpE C c (σ ++ [some (.sh d)]) Q) (fun d _ _ hq=>ja c hq) _ (fun ys wy=>wy.mono s12) wz)⟩
  exact⟨p,j8 p fun _=>rfl⟩
theorem sJ:∀ {X:Cx} {k:Ck} (ok:Ok X k C) (xs:List Ex) (es:List Expr),chkFs k xs es=true->PJ X C xs es
 |X,k,ok,[],es,h=>by
  have e:es=[]:=by rw[chkFs]at h;simpa using h
  subst e;intro pins s τ H out Q I hl w;obtain⟨σ,O,R,w⟩:=w;unfold vD at w
  exact joinParts_nil ⟨.str _,H,I.tok _,⟨_,rfl⟩,w H (jf.refl H)⟩ (by show out.toArray.size<=_;rw[Qc];exact hl)
 |X,k,ok,x::xs,es,h=>by
  rw[chkFs,KM,Yl]at h;obtain⟨h1,h2⟩:=h
  cases es with
  |nil =>
   rcases h1 with h1|h1
   ·cases h1
   ·obtain⟨_,_,_,_,e⟩:=cstPart_ h1
    cases e
  |cons y ys =>
   have h1:((fmtV y).any fun y=>chkE k x y)=true\/cstPart x y=true:=h1;have h2:chkFs k xs ys=true:=h2;intro pins s τ H out Q I hl w;obtain⟨σ,O,R,w⟩:=w;unfold vD at w
   have h24:lim=sizeLine:=by rw[Xv];rfl
   have ap:∀z:Str,((⟨out.toArray⟩:Str)++z)=⟨(out++z.cps.toList).toArray⟩:=fun z=>by
    show (⟨out.toArray++z.cps⟩:Str)=_;congr 1;apply Array.ext';simp
   have go:∀(z:Str) (u:Tok) (s1:Shared) (H1:Hp),Inv X pins τ H1 s1->jf H H1->out.length+z.length<=lim->vD C xs (out++z.cps.toList) σ (fun l=>∀H',jf H H'->Q (.str ⟨l.toArray⟩) H') ->
    (((⟨out.toArray⟩:Str)++z).length<=sizeLine/\wpAny (model X.prog X.w) X.A (joinParts ((⟨out.toArray⟩:Str)++z) (evalEach ys X.env)) (EP X pins τ Q) X.xe s1):=fun z u s1 H1 I1 sm hz wz=>by
    have hlen:(out++z.cps.toList).length<=sizeLine:=by
     have e:(out++z.cps.toList).length=out.length+z.length:=by simp[Str.length]
     lia
    rw[ap];refine⟨by show (out++z.cps.toList).toArray.size<=_;rw[Qc];exact hlen,?_⟩;exact sJ ok xs ys h2 pins s1 τ H1 _ Q I1 hlen ⟨σ,O,R.mono sm,Jj xs (fun l q H' s'=>q H' (sm.trans s')) wz⟩
   show wpAny _ _ (joinParts _ (eval y X.env::evalEach ys X.env)) _ _ _;refine joinParts_cons ?_;rcases h1 with h1|h1
   ·obtain⟨v,hv,h3⟩:=jb h1;obtain⟨p,rfl⟩:=fmtV_ hv
    let Q1:VK:=fun vv H1=>jf H H1/\((∃z,vv=.str z/\out.length+z.length<=lim/\vD C xs (out++z.cps.toList) σ fun l=>∀H',jf H H'->Q (.str ⟨l.toArray⟩) H')\/∃i:Int,vv=.int i/\i.natAbs.log2<1920/\out.length+(Yt (toString i)).length<=lim/\vD C xs (out++(Yt (toString i)).cps.toList) σ fun l=>∀H',jf H H'->Q (.str ⟨l.toArray⟩) H')
    have t1:tD X.K C x τ H Q1:=by
     refine⟨σ,O,R,ja x (fun d wd vv H1 s1 i1=>⟨s1,?_⟩) w⟩;obtain⟨z,⟨e1,e2⟩,wd⟩:=wd;unfold fmtS at e1;split at e1
     ·cases e1;exact .inl ⟨_,(kt i1).1,e2,wd⟩
     ·split at e1
      ·next hb =>
       cases e1;exact .inr ⟨_,jl i1,hb,e2,wd⟩
      ·cases e1
     ·cases e1
    refine FormattedValue_plain (thn ((sB ok x v h3).1 pins s τ H Q1 I t1) fun u s1 q=>?_);obtain⟨vv,H1,I1,r1,sm,q1⟩:=q;rcases q1 with⟨z,rfl,hz,wz⟩|⟨i,rfl,hb,hz,wz⟩
    ·obtain⟨t,rfl⟩:=r1;exact formatField_str (fun t' tk=>go z t' _ H1 (I1.tok _) sm hz wz) (by lia)
    ·obtain⟨t,rfl⟩:=r1;exact formatField_int_small hb (go _ 0 _ H1 (I1.tok _) sm hz wz)
   ·obtain⟨z,j,p,rfl,rfl⟩:=cstPart_ h1;obtain⟨z',⟨e1,e2⟩,wz⟩:=w;have e1:some z=some z':=e1;cases e1;exact Calls.Constant_str (go z 0 _ H (I.tok _) (jf.refl H) e2 wz)
theorem sA:∀ {X:Cx} {k:Ck} (ok:Ok X k C) (xs:List Ex) (es:List Expr),qm k xs es=true->PA X es (tDs X.K C xs)
 |X,k,ok,[],es,h=>by
  rw[j0 h]
  exact PA.imp (fun τ H Q ⟨σ,O,R,w⟩=>by unfold wpEs at w;exact w _ _ (jf.refl H) (by unfold Iss;rfl)) jU
 |X,k,ok,x::xs,es,h=>by
  obtain⟨e,es,rfl,h1,h2⟩:=jR h;refine PA.imp (fun τ H Q w=>?_) (js (sB ok x e h1).1 (sA ok xs es h2) (jz h1 _ _));obtain⟨σ,O,R,w⟩:=w;unfold wpEs at w;exact⟨σ,O,R,ja x (fun d wd v H1 s1 i1=>⟨σ,O,R.mono s1,jw xs (fun ds wds vs H2 s2 i2=>wds _ _ (s1.trans s2) (by unfold Iss;exact⟨v,vs,rfl,Is.mono (jd s2) d i1,i2⟩)) wd⟩) w⟩
end
noncomputable def zR(e:Expr):Bool:=(asLC e).isSome
theorem comp_parts(ok:Ok X k C)(z:Ex)(e:Expr)(h:chkE k z e=true)(hc:zR e=true):∃(x:Str) (px:Pos) (iter elt:Expr) (ifs:List Expr) (sc:Scope) (pos:Pos) (wi:TI) (tt:TT) (te:TE),e=.ListComp elt [⟨.Name x px,iter,ifs,0⟩] sc pos/\qW k x sc=true/\PI X (.Name x px) iter wi/\(∀v,XX iter X.env v=pure v) /\
 (∀cl,CompOk X x sc cl->(∀s H fp Ca,PTs (qa X s H fp x sc cl Ca) ifs tt)/\∀s H fp Ca,PE (qa X s H fp x sc cl Ca) elt te)/\∀τ H Q,tD X.K C z τ H Q->uf wi tt te τ H Q:=by
 cases z with
 |compR es b =>
  replace h:=jb h;obtain⟨⟨elt,x,iter,sc⟩,hz,h⟩:=h;obtain⟨px,pos,rfl⟩:=kL hz;simp only[KM]at h;obtain⟨⟨h1,h2⟩,h3⟩:=h;replace h2:=jb h2;obtain⟨⟨f,args,p2⟩,hcn,h2⟩:=h2;obtain⟨q,e2⟩:=jL hcn;subst e2;simp only[KM,decide_eq_true_eq,Ql]at h2;obtain⟨⟨⟨hf,hg⟩,hne⟩,ha⟩:=h2;subst hf;obtain⟨g1,_,_⟩:=ok.gl hg
  cases args with
  |nil=>simp at hne
  |cons y ys =>
   have hs:Qa (y::ys) X.env=(false,eval y X.env)::Qa ys X.env/\(backTo p2 (Qa ys X.env)).any (·.1)=false:=by
    cases es with
    |nil=>have:=j0 ha;cases this
    |cons z zs =>
     obtain⟨y',ys',e',h5,h6⟩:=jR ha;cases e';exact⟨jz h5 _ _,ko h6 _ _⟩
   refine⟨x,px,_,elt,[],sc,pos,_,tYes,tD X.K C b,rfl,h1,pi_rg g1 (ok.blt _ (by decide)) (sA ok es _ ha) hs.1 hs.2,fun _=>rfl,fun cl co=>⟨fun _ _ _ _=>qz,fun s H fp Ca=>(sB (ok.block h1 co s H fp Ca) b elt h3).1⟩,fun τ H Q w=>?_⟩;obtain⟨σ,O,R,w⟩:=w;refine⟨σ,O,R,jw es (fun ds wd vs H1 s1 i1=>?_) w⟩;obtain⟨lo,hi,st,e,c,hx,wd⟩:=v8 i1 wd;refine⟨lo,hi,st,e,c,?_⟩;refine xP (R.mono s1) hx ?_ ?_ ?_ (jQ (f:=fun d Q=>wpE C b (σ ++ [some (.sh d)]) Q) (fun d _ _ hq=>ja b hq) _ (fun ys wy=>wy.mono s1) wd)
   ·intro j H _ hj;rw[jv]at hj;exact hj
   ·intro j H _ hj;rw[jv]at hj;exact hj
   ·intro j H v H' d _ y hd;obtain⟨e1,e2⟩:=y
    have hj:j<(if lo<hi then (hi-lo-1) / st+1 else 0).toNat:=by
     rcases Qd j (if lo<hi then (hi-lo-1) / st+1 else 0).toNat with z|z
     ·exact z
     ·rw[KT (by rw[jv];exact z)]at hd;cases hd
    rw[qr _ _ _ _ hj]at hd;cases hd
    exact⟨e1,by rw[e2];exact jH _⟩
 |compF a c b =>
  replace h:=jb h;obtain⟨⟨elt,x,iter,sc,cnd⟩,hz,h⟩:=h;obtain⟨px,pos,rfl⟩:=u9 hz;simp only[KM,Ql]at h;obtain⟨⟨⟨⟨h1,hn⟩,ha⟩,hcd⟩,h3⟩:=h
  exact⟨x,px,iter,elt,[cnd],sc,pos,_,_,tD X.K C b,rfl,h1,xR (sB ok a iter ha).1,qq hn _,fun cl co=>⟨fun s H fp Ca=>pts_one (sB (ok.block h1 co s H fp Ca) c cnd hcd).2,fun s H fp Ca=>(sB (ok.block h1 co s H fp Ca) b elt h3).1⟩,fun τ H Q w=>uC w⟩
 |compE a b =>
  replace h:=jb h;obtain⟨⟨elt,x,iter,sc⟩,hz,h⟩:=h;obtain⟨px,pos,rfl⟩:=kL hz;simp only[KM,Ql]at h;obtain⟨⟨⟨h1,hn⟩,ha⟩,h3⟩:=h;refine⟨x,px,iter,elt,[],sc,pos,_,tYes,tD X.K C b,rfl,h1,xR (sB ok a iter ha).1,qq hn _,fun cl co=>⟨fun _ _ _ _=>qz,fun s H fp Ca=>(sB (ok.block h1 co s H fp Ca) b elt h3).1⟩,fun τ H Q w=>?_⟩;obtain⟨σ,O,R,w⟩:=w;refine⟨σ,O,R,ja a (fun d wd v H1 s1 i1=>?_) w⟩;obtain⟨xs,e1,hx,wd⟩:=wd;have wd':=jQ (f:=fun d Q=>wpE C b (σ ++ [some (.sh d)]) Q) (fun d _ _ hq=>ja b hq) _ (fun ys (wy:Wd X.K O H Q (.lst ys))=>wy.mono s1) wd;obtain⟨J,hw,g1,g2,g3⟩:=walk_of e1 i1
  exact⟨J,hw,xP (R.mono s1) hx (fun j H2 s2=>g1 j H2 O (jd s2)) (fun j H2 s2=>g2 j H2 O (jd s2)) (fun j H2 v H' d s2=>g3 j H2 O v H' d (jd s2)) wd'⟩
 |compZ a b c =>
  replace h:=jb h;obtain⟨⟨elt,x,iter,sc⟩,hz,h⟩:=h;obtain⟨px,pos,rfl⟩:=kL hz;simp only[KM]at h;obtain⟨⟨h1,h2⟩,h3⟩:=h;replace h2:=jb h2;obtain⟨⟨f,args,p2⟩,hcn,h2⟩:=h2;obtain⟨q,e2⟩:=jL hcn;subst e2;simp only[KM,decide_eq_true_eq]at h2;obtain⟨⟨⟨⟨hf,hg⟩,hn⟩,ha⟩,hb⟩:=h2;subst hf;obtain⟨g1,_,_⟩:=ok.gl hg;obtain⟨y1,y2,rfl⟩:=qb hn;have ha:chkE k a y1=true:=ha;have hb:chkE k b y2=true:=hb;refine⟨x,px,_,elt,[],sc,pos,_,tYes,tD X.K C c,rfl,h1,pi_zip g1 (ok.blt _ (by decide)) (js (sB ok a y1 ha).1 (js (sB ok b y2 hb).1 jU (jz hb _ _)) (jz ha _ _)) (jz ha _ _) (by rw[jz hb];rfl),fun _=>rfl,fun cl co=>⟨fun _ _ _ _=>qz,fun s H fp Ca=>(sB (ok.block h1 co s H fp Ca) c elt h3).1⟩,fun τ H Q w=>?_⟩;obtain⟨σ,O,R,w⟩:=w;refine⟨σ,O,R,ja a (fun d wd v H1 s1 i1=>⟨σ,O,R.mono s1,ja b (fun d2 wd2 v2 H2 s2 i2=>?_) wd⟩) w⟩;obtain⟨xs,ys,⟨rfl,rfl⟩,hx,wz⟩:=wd2;have i1':=Is.mono (jd s2) _ i1;obtain⟨ad,vs,rfl,hq,hv⟩:=jF i1';obtain⟨ad2,ws,rfl,hq2,hv2⟩:=jF i2;have hq':=(jg _ _).seq hq;have hq2':=(jg _ _).seq hq2;have s12:=s1.trans s2
  exact⟨ad,ad2,rfl,⟨vs,hq'⟩,⟨ws,hq2'⟩,Jm (R.mono s12) hx hq' hq2' hv hv2 (jQ (f:=fun d Q=>wpE C c (σ ++ [some (.sh d)]) Q) (fun d _ _ hq=>ja c hq) _ (fun ys wy=>wy.mono s12) wz)⟩
 |_ =>
  exfalso;obtain⟨⟨a,b,c⟩,q⟩:=Option.isSome_iff_exists.mp hc;obtain⟨p,rfl⟩:=asLC_ q
  first|exact KZ (show false=true from h)|(obtain⟨y,hy,_⟩:=jb h;first|cases hy|(simp[kc,xz]at hy))
end
end Z
namespace Z
open PySem PySem.Spec PyProof.Rows L2
noncomputable def yo:Stmt->Option (List Expr×Expr)
 |.Assign ts v _=>some (ts,v)
 |_=>none
noncomputable def vW:Stmt->Option (Option Expr)
 |.Return v _=>some v
 |_=>none
noncomputable def asIfS:Stmt->Option (Expr×List Stmt×List Stmt)
 |.If t x y _=>some (t,x,y)
 |_=>none
noncomputable def asWhl:Stmt->Option (Expr×List Stmt×List Stmt)
 |.While t x y _=>some (t,x,y)
 |_=>none
noncomputable def JB:Stmt->Option (Expr×Expr×List Stmt×List Stmt)
 |.For t i x y _=>some (t,i,x,y)
 |_=>none
noncomputable def isBrk:Stmt->Bool
 |.Break _=>true
 |_=>false
noncomputable def isCnt:Stmt->Bool
 |.Continue _=>true
 |_=>false
noncomputable def asExp:Stmt->Option Expr
 |.Expr e _=>some e
 |_=>none
theorem JV{s:Stmt}{e:Expr}(h:asExp s=some e):∃p,s=.Expr e p:=by cases s<;>cases h;exact⟨_,rfl⟩
noncomputable def zu:Sm->Bool
 |.shr _=>true
 |.shrT _=>true
 |.hlfT _=>true
 |_=>false
theorem isShr_{s:Sm}(h:zu s=true):∃i,s=.shr i\/s=.shrT i\/s=.hlfT i:=by cases s<;>first|exact⟨_,.inl rfl⟩|exact⟨_,.inr (.inl rfl)⟩|exact⟨_,.inr (.inr rfl)⟩|exact KZ h
theorem xN{s:Stmt}{ts:List Expr}{v:Expr}(h:yo s=some (ts,v)):∃p,s=.Assign ts v p:=by cases s<;>cases h;exact⟨_,rfl⟩
theorem ut{s:Stmt}{v:Option Expr}(h:vW s=some v):∃p,s=.Return v p:=by cases s<;>cases h;exact⟨_,rfl⟩
theorem asIfS_{s:Stmt}{t:Expr}{x y:List Stmt}(h:asIfS s=some (t,x,y)):∃p,s=.If t x y p:=by cases s<;>cases h;exact⟨_,rfl⟩
theorem asWhl_{s:Stmt}{t:Expr}{x y:List Stmt}(h:asWhl s=some (t,x,y)):∃p,s=.While t x y p:=by cases s<;>cases h;exact⟨_,rfl⟩
theorem vI{s:Stmt}{t i:Expr}{x y:List Stmt}(h:JB s=some (t,i,x,y)):∃p,s=.For t i x y p:=by cases s<;>cases h;exact⟨_,rfl⟩
theorem isBrk_{s:Stmt}(h:isBrk s=true):∃p,s=.Break p:=by cases s<;>first|exact KZ h|exact⟨_,rfl⟩
theorem isCnt_{s:Stmt}(h:isCnt s=true):∃p,s=.Continue p:=by cases s<;>first|exact KZ h|exact⟨_,rfl⟩
noncomputable def uG(ts:List Expr):Option Expr:=if ts.length=1 then ts[0]? else none
theorem zx{ts:List Expr}{t:Expr}(h:uG ts=some t):ts=[t]:=by
 unfold uG at h
 match ts with
 |[]=>simp at h
 |[a]=>simp at h;rw[h]
 |_::_::_=>simp at h
noncomputable def sole1(ts:List Stmt):Option Stmt:=if ts.length=1 then ts[0]? else none
theorem sole1_{ts:List Stmt}{t:Stmt}(h:sole1 ts=some t):ts=[t]:=by
 unfold sole1 at h;split at h
 ·next hl =>
  match ts,hl with
  |[x],_=>simp at h;rw[h]
 ·cases h
noncomputable def frE:Ex->Bool
 |.bin .add _ _=>true
 |.bi .list _=>true
 |_=>false
noncomputable def frL:Ex->Bool
 |.compR _ _=>true
 |.compE _ _=>true
 |.slc _ _ _=>true
 |x=>frE x
noncomputable def frI:Ex->Bool
 |.call _ _=>true
 |x=>frL x
noncomputable def frG:Ex->Bool
 |.compR _ b=>frI b
 |.compE _ b=>frI b
 |_=>false
noncomputable def vc(k:Ck):List Nat->List Expr->Bool
 |[],es=>es.isEmpty
 |i::is,es=>!es.isEmpty&&((jo (es.getD 0 (.Tuple [] 0 ⟨0,0,0,0⟩))).any fun x=>k.loc i x)&&vc k is (es.drop 1)
theorem chkTs_cons{k:Ck}{i:Nat}{is:List Nat}{es:List Expr}(h:vc k (i::is) es=true):∃x p ys,es=.Name x p::ys/\k.loc i x=true/\vc k is ys=true:=by
 rw[vc]at h
 cases es with
 |nil=>simp at h
 |cons y ys =>
  simp only[KM,QL,QZ]at h;obtain⟨x,hx,hl⟩:=jb h.1.2;have hx':jo y=some x:=hx;obtain⟨p,rfl⟩:=jn hx';exact⟨x,p,ys,rfl,hl,h.2⟩
noncomputable def uD(k:Ck)(j:Nat):RSt->Stmt->Bool
 |.app v,s=>(asExp s).any fun z=>(xz z).any fun c=>c.2.2.1.isEmpty&&decide (c.2.1.length=1)&&((xy c.1).any fun y=>decide (y.2.1=("append":Str))&&((jo y.1).any fun x=>k.loc j x)&&(y.2.2.endLine == c.2.2.2.line))&&chkE k v (c.2.1.getD 0 z)
 |.sto none e v,s=>(yo s).any fun z=>(uG z.1).any fun t=>(uA t).any fun u=>!yL u.2 && !zR z.2&&((jo u.1).any fun x=>k.loc j x)&&chkE k e u.2&&chkE k v z.2
 |.sto (some c) e v,s=>(asIfS s).any fun y=>y.2.2.isEmpty&&chkE k c y.1&&(sole1 y.2.1).any fun s=>(yo s).any fun z=>(uG z.1).any fun t=>(uA t).any fun u=>!yL u.2 && !zR z.2&&((jo u.1).any fun x=>k.loc j x)&&chkE k e u.2&&chkE k v z.2
noncomputable def chkR(k:Ck)(j:Nat):List RSt->List Stmt->Bool
 |[],ss=>ss.isEmpty
 |r::rs,ss=>!ss.isEmpty&&uD k j r (ss.getD 0 (.Pass ⟨0,0,0,0⟩))&&chkR k j rs (ss.drop 1)
mutual
noncomputable def xh(k:Ck):Sm->Stmt->Bool
 |.set i e,s=>(yo s).any fun z=>(uG z.1).any fun t=>(jo t).any fun x=>k.loc i x&&chkE k e z.2
 |.unp is e,s=>(yo s).any fun z=>(uG z.1).any fun t=>(asTup t).any fun ts=>vc k is ts&&(asTup z.2).isNone&&chkE k e z.2
 |.ret e,s=>(vW s).any fun v=>v.any fun v=>chkE k e v
 |.ite c a b,s=>(asIfS s).any fun z=>chkE k c z.1&&x0 k a z.2.1&&x0 k b z.2.2
 |.whl c b,s=>(asWhl s).any fun z=>z.2.2.isEmpty&&chkE k c z.1&&x0 k b z.2.1
 |.forR i es b,s=>(JB s).any fun z=>(jo z.1).any fun x=>(kc z.2.1).any fun c=>z.2.2.2.isEmpty&&k.loc i x&&decide (c.1=("range":Str))&&k.gl c.1 && !c.2.1.isEmpty&&qm k es c.2.1&&x0 k b z.2.2.1
 |.forE i e b,s=>(JB s).any fun z=>(jo z.1).any fun x=>z.2.2.2.isEmpty&&k.loc i x && !isSet z.2.1&&chkE k e z.2.1&&x0 k b z.2.2.1
 |.brk,s=>isBrk s
 |.cnt,s=>isCnt s
 |.never,_=>true
 |.new i,s=>(yo s).any fun z=>(uG z.1).any fun t=>(jo t).any fun x=>k.loc i x&&(Jf z.2).any (·.isEmpty)
 |.app i e,s=>(asExp s).any fun z=>(xz z).any fun c=>c.2.2.1.isEmpty&&decide (c.2.1.length=1)&&((xy c.1).any fun y=>decide (y.2.1=("append":Str))&&((jo y.1).any fun x=>k.loc i x)&&(y.2.2.endLine == c.2.2.2.line))&&chkE k e (c.2.1.getD 0 z)
 |.sto i e v,s=>(yo s).any fun z=>(uG z.1).any fun t=>(uA t).any fun u=>!yL u.2&&((jo u.1).any fun x=>k.loc i x)&&chkE k e u.2&&chkE k v z.2
 |.retO i,s=>(vW s).any fun v=>v.any fun v=>(jo v).any fun x=>k.loc i x
 |.shr _,_=>false
 |.raiseA _ _,_=>false
 |.retY _ _,_=>false
 |.ext i e,s=>(asExp s).any fun z=>(xz z).any fun c=>c.2.2.1.isEmpty&&decide (c.2.1.length=1)&&((xy c.1).any fun y=>decide (y.2.1=("extend":Str))&&((jo y.1).any fun x=>k.loc i x)&&(y.2.2.endLine == c.2.2.2.line))&&chkE k e (c.2.1.getD 0 z)
 |.forN i e b,s=>(JB s).any fun z=>(jo z.1).any fun x=>(kc z.2.1).any fun c=>z.2.2.2.isEmpty&&k.loc i x&&decide (c.1=("enumerate":Str))&&k.gl c.1&&decide (c.2.1.length=1)&&chkE k e (c.2.1.getD 0 z.2.1)&&x0 k b z.2.2.1
 |.forU i j m e,s=>(JB s).any fun z=>(jo z.1).any fun x=>(jo z.2.1).any fun y=>z.2.2.2.isEmpty&&k.loc i x&&k.loc j y&&decide (i≠j)&&decide (m≠j)&&(sole1 z.2.2.1).any fun b=>(yo b).any fun q=>(uG q.1).any fun t=>(jo t).any fun u=>k.loc m u && !zR q.2&&chkE k e q.2
 |.retF e,s=>(vW s).any fun v=>v.any fun v=>frL e&&chkE k e v
 |.ownG i e,s=>(yo s).any fun z=>(uG z.1).any fun t=>(jo t).any fun x=>k.loc i x&&frG e&&chkE k e z.2
 |.forT j i ss,s=>(JB s).any fun z=>(jo z.1).any fun x=>(jo z.2.1).any fun y=>z.2.2.2.isEmpty&&k.loc j x&&k.loc i y&&decide (i≠j)&&chkR k j ss z.2.2.1
 |.shrT _,_=>false
 |.hlfT _,_=>false
 |.nop,_=>false
 |.seq _ _,_=>false
noncomputable def x0(k:Ck):Sm->List Stmt->Bool
 |.nop,ss=>ss.isEmpty
 |.seq a b,ss=>if zu a then x0 k b ss else !ss.isEmpty&&xh k a (ss.getD 0 (.Pass ⟨0,0,0,0⟩))&&x0 k b (ss.drop 1)
 |_,_=>false
end
theorem chkB_shr{k:Ck}{a b:Sm}{ss:List Stmt}(hs:zu a=true)(h:x0 k (.seq a b) ss=true):x0 k b ss=true:=by
 rw[x0,if_pos hs]at h;exact h
theorem chkB_cons{k:Ck}{a b:Sm}{ss:List Stmt}(hs:zu a=false)(h:x0 k (.seq a b) ss=true):∃s r,ss=s::r/\xh k a s=true/\x0 k b r=true:=by
 rw[x0,if_neg (by rw[hs];decide)]at h
 cases ss with
 |nil=>simp at h
 |cons s r =>
  simp only[KM,QL,QZ]at h;exact⟨s,r,rfl,h.1.2,h.2⟩
structure Good (O₀:List Addr) (H₀:Hp) (O:List Addr) (H:Hp):Prop where
 same:jf H₀ H
 sub:∀a∈O₀,a∈O
 new:∀a∈O,a∈O₀\/H₀ a=none
theorem Good.mono{O₀ O:List Addr}{H₀ H H':Hp}(g:Good O₀ H₀ O H)(e:jf H H'):Good O₀ H₀ O H':=⟨g.same.trans e,g.sub,g.new⟩
noncomputable def MT(O₀:List Addr)(H:Hp)(σ:Sto)(τ:L2.St):Prop:=∀(i:Nat) (rows:List (List D)) (a:Addr) (as:List Addr),getS σ i=some (.ot rows)->τ[i]?=some (some (.ref a))->H a=some (.lst (as.map .ref))->a ∉ O₀/\∀b∈as,b ∉ O₀
theorem MT.step{O₀:List Addr}{H H':Hp}{σ σ':Sto}{τ τ':L2.St}(h:MT O₀ H σ τ)(hT:∀i rows,getS σ' i=some (.ot rows)->getS σ i=some (.ot rows)/\τ'[i]?=τ[i]?)
 (hH:∀i rows a,getS σ i=some (.ot rows)->τ[i]?=some (some (.ref a))->H' a=H a):MT O₀ H' σ' τ':=fun i rows a as g e t=>by
 obtain⟨g0,e0⟩:=hT i rows g;rw[e0]at e;rw[hH i rows a g0 e]at t;exact h i rows a as g0 e t
theorem OT.same{K:KN}{O:List Addr}{H H':Hp}{σ:Sto}{τ:L2.St}(h:OT K O H σ τ)(e:jf H H'):∀i rows a,getS σ i=some (.ot rows)->τ[i]?=some (some (.ref a))->H' a=H a:=fun i rows a g q=>by
 obtain⟨b,as,e1,t,_⟩:=h.1 i rows g;rw[q]at e1;cases e1;rw[t.top];exact e _ _ t.top
structure RepS (O₀:List Addr) (K:KN) (O:List Addr) (H:Hp) (σ:Sto) (τ:L2.St):Prop extends Reps K O H σ τ where
 mine:∀i ds a,getS σ i=some (.ow ds)->τ[i]?=some (some (.ref a))->a ∉ O₀
 mineT:MT O₀ H σ τ
theorem RepS.mono{O₀ O:List Addr}{K:KN}{H H':Hp}{σ:Sto}{τ:L2.St}(r:RepS O₀ K O H σ τ)(e:jf H H'):RepS O₀ K O H' σ τ:=⟨r.toReps.mono e,r.mine,r.mineT.step (fun _ _ g=>⟨g,rfl⟩) (r.tt.same e)⟩
noncomputable def zE(K:KN)(O₀:List Addr)(H₀:Hp)(ex:XD->Prop)(D:Ends)(O:List Addr)(H:Hp):DE where
 xn:=ex
 nx σ':=∀τ' H' O',Good O₀ H₀ O' H'->jf (je H O) (je H' O')->RepS O₀ K O' H' σ' τ'->D.nx τ' H'
 rt d:=∀v H',jf H₀ H'->Is K (je H' O₀) d v->D.rt v H'
 bk σ':=∀τ' H' O',Good O₀ H₀ O' H'->jf (je H O) (je H' O')->RepS O₀ K O' H' σ' τ'->D.bk τ' H'
 ct σ':=∀τ' H' O',Good O₀ H₀ O' H'->jf (je H O) (je H' O')->RepS O₀ K O' H' σ' τ'->D.ct τ' H'
 rf ds:=∀a H' vs,jf H₀ H'->H₀ a=none->H' a=some (.lst vs)->Iss K (je H' (a::O₀)) ds vs->D.rt (.ref a) H'
 rg rows:=∀a as H',jf H₀ H'->(H₀ a=none/\∀b∈as,H₀ b=none)->OwT K (a::as++O₀) H' rows a as->D.rt (.ref a) H'
theorem kM{K:KN}{O₀ O O':List Addr}{H₀ H H':Hp}{ex:XD->Prop}{D:Ends}(e:jf (je H O) (je H' O')):DE.le (zE K O₀ H₀ ex D O H) (zE K O₀ H₀ ex D O' H') where
 nx:=fun _ q τ' H'' O'' g s r=>q τ' H'' O'' g (e.trans s) r
 rt:=fun _ q=>q
 bk:=fun _ q τ' H'' O'' g s r=>q τ' H'' O'' g (e.trans s) r
 ct:=fun _ q τ' H'' O'' g s r=>q τ' H'' O'' g (e.trans s) r
 rf:=fun _ q=>q
noncomputable def tS(K:KN)(C:Cfg)(O₀:List Addr)(H₀:Hp)(ex:XD->Prop)(s:Sm):TS:=fun D τ H=>∃σ O,Good O₀ H₀ O H/\RepS O₀ K O H σ τ/\wpS C s (zE K O₀ H₀ ex D O H) σ
theorem ju(σ:Sto)(i:Nat)(v:Option Sl):(setS σ i v).length=σ.length:=zH σ i v
theorem jj(σ:Sto)(i j:Nat)(v:Option Sl):getS (setS σ i v) j=if i=j/\i<σ.length then v else getS σ j:=kz σ i j v
section
variable {K:KN} {O:List Addr} {H:Hp} {σ:Sto} {τ:L2.St}
theorem Reps.set(R:Reps K O H σ τ){i:Nat}{d:D}{v:V}(h:Is K (je H O) d v):Reps K O H (setS σ i (some (.sh d))) (τ.set i (some v)) where
 len:=by rw[ju,Xi];exact R.len
 own:=R.own
 sh:=fun j e g=>by
  rw[jj]at g;by_cases hj:i=j/\i<σ.length
  ·rw[if_pos hj]at g;obtain⟨rfl,hl⟩:=hj;cases g;exact⟨v,by rw[Qq (by rw[<- R.len];exact hl)],h⟩
  ·rw[if_neg hj]at g;obtain⟨w,e1,e2⟩:=R.sh j e g;refine⟨w,?_,e2⟩;by_cases hij:i=j
   ·subst hij
    have:¬ i<τ.length:=by rw[<- R.len];lia
    rw[KT (by lia)]at e1;cases e1
   ·rw[Qe hij];exact e1
 ow:=fun j ds g=>by
  rw[jj]at g;by_cases hj:i=j/\i<σ.length
  ·rw[if_pos hj]at g;cases g
  ·rw[if_neg hj]at g;obtain⟨a,vs,e1,e2⟩:=R.ow j ds g;refine⟨a,vs,?_,e2⟩;by_cases hij:i=j
   ·subst hij
    have:¬ i<τ.length:=by rw[<- R.len];lia
    rw[KT (by lia)]at e1;cases e1
   ·rw[Qe hij];exact e1
 dj:=fun j l ds es hjl g1 g2=>by
  rw[jj]at g1 g2;by_cases hj:i=j/\i<σ.length
  ·rw[if_pos hj]at g1;cases g1
  ·rw[if_neg hj]at g1;by_cases hl:i=l/\i<σ.length
   ·rw[if_pos hl]at g2;cases g2
   ·rw[if_neg hl]at g2;have hd:=R.dj j l ds es hjl g1 g2;obtain⟨a,_,e1,_⟩:=R.ow j ds g1;obtain⟨b,_,e2,_⟩:=R.ow l es g2
    have nj:i≠j:=fun z=>by
     subst z
     have:¬ i<τ.length:=by rw[<- R.len];lia
     rw[KT (by lia)]at e1;cases e1
    have nl:i≠l:=fun z=>by
     subst z
     have:¬ i<τ.length:=by rw[<- R.len];lia
     rw[KT (by lia)]at e2;cases e2
    rw[Qe nj,Qe nl];exact hd
 tt:=by
  refine R.tt.step (fun j rows g=>?_) (fun _ _ _ _ _ _ _ t=>t) fun _ _ _ _ j ds b _ _ g q=>?_
  ·rw[jj]at g;by_cases hj:i=j/\i<σ.length
   ·rw[if_pos hj]at g;cases g
   ·rw[if_neg hj]at g;obtain⟨a,as,e1,_⟩:=R.tt.1 j rows g
    have hij:i≠j:=fun z=>by
     subst z
     have:¬ i<τ.length:=by rw[<- R.len];lia
     rw[KT (by lia)]at e1;cases e1
    exact⟨g,Qe hij⟩
  ·rw[jj]at g;by_cases hj:i=j/\i<σ.length
   ·rw[if_pos hj]at g;cases g
   ·rw[if_neg hj]at g;obtain⟨a,vs,e1,_⟩:=R.ow j ds g
    have hij:i≠j:=fun z=>by
     subst z
     have:¬ i<τ.length:=by rw[<- R.len];lia
     rw[KT (by lia)]at e1;cases e1
    rw[Qe hij]at q;exact .inl ⟨ds,g,q⟩
end
theorem set_at{τ:L2.St}{i j:Nat}{v w:Option V}(h:(τ.set i v)[j]?=some w):(i=j/\w=v)\/(i≠j/\τ[j]?=some w):=by
 by_cases hij:i=j
 ·subst hij;rcases Qd i τ.length with z|z
  ·rw[Qq z]at h;cases h;exact .inl ⟨rfl,rfl⟩
  ·rw[KT (by rw[Xi];exact z)]at h;cases h
 ·rw[Qe hij]at h;exact .inr ⟨hij,h⟩
section
variable {K:KN} {O₀ O:List Addr} {H H':Hp} {σ:Sto} {τ:L2.St}
theorem RepS.set(R:RepS O₀ K O H σ τ){i:Nat}{d:D}{v:V}(h:Is K (je H O) d v):RepS O₀ K O H (setS σ i (some (.sh d))) (τ.set i (some v)):=by
 refine⟨R.toReps.set h,fun j ds a g e=>?_,R.mineT.step (fun j rows g=>?_) fun _ _ _ _ _=>rfl⟩
 rotate_left
 ·rw[jj]at g;by_cases hj:i=j/\i<σ.length
  ·rw[if_pos hj]at g;cases g
  ·rw[if_neg hj]at g;obtain⟨a,as,e1,_⟩:=R.tt.1 j rows g
   have hij:i≠j:=fun z=>by
    subst z
    have:¬ i<τ.length:=by rw[<- R.len];lia
    rw[KT (by lia)]at e1;cases e1
   exact⟨g,Qe hij⟩
 rw[jj]at g;by_cases hj:i=j/\i<σ.length
 ·rw[if_pos hj]at g;cases g
 ·rw[if_neg hj]at g;rcases set_at e with⟨q,_⟩|⟨_,q⟩
  ·exfalso;subst q;obtain⟨_,_,e1,_⟩:=R.ow i ds g
   have:i<τ.length:=by
    rcases Qd i τ.length with z|z
    ·exact z
    ·rw[KT z]at e1;cases e1
   exact hj ⟨rfl,by rw[R.len];exact this⟩
  ·exact R.mine j ds a g q
theorem Good.fresh{H₀:Hp}{a:Addr}(g:Good O₀ H₀ O H)(s:jf H H')(h:H a=none):Good O₀ H₀ (a::O) H':=by
 refine⟨g.same.trans s,fun b hb=>KR _ (g.sub b hb),fun b hb=>?_⟩;rcases KS.mp hb with rfl|hb
 ·right
  cases q:H₀ b with
  |none=>rfl
  |some o=>rw[g.same b o q]at h;cases h
 ·exact g.new b hb
theorem fresh_T{a:Addr}{xs:List D}{i:Nat}(hi:i<τ.length)(R:RepS O₀ K O H σ τ):∀j rows,getS (setS σ i (some (.ow xs))) j=some (.ot rows)->getS σ j=some (.ot rows)/\(τ.set i (some (.ref a)))[j]?=τ[j]?:=fun j rows g=>by
 rw[jj]at g;by_cases hj:i=j/\i<σ.length
 ·rw[if_pos hj]at g;cases g
 ·rw[if_neg hj]at g
  have hij:i≠j:=fun z=>hj ⟨z,by rw[R.len];exact hi⟩
  exact⟨g,Qe hij⟩
theorem RepS.fresh{a:Addr}{vs:List V}{xs:List D}{i:Nat}(R:RepS O₀ K O H σ τ)(sub:∀b∈O₀,b∈O)(s:jf H H')(h:H a=none)(h1:H' a=some (.lst vs))(is:Iss K (je H' (a::O)) xs vs)(hi:i<τ.length) :
 RepS O₀ K (a::O) H' (setS σ i (some (.ow xs))) (τ.set i (some (.ref a))) where
 len:=by rw[ju,Xi];exact R.len
 own:=fun b hb=>by
  rcases KS.mp hb with rfl|hb
  ·rw[h1];exact fun z=>nomatch z
  ·exact(R.toReps.mono s).own b hb
 sh:=fun j d g=>by
  rw[jj]at g;by_cases hj:i=j/\i<σ.length
  ·rw[if_pos hj]at g;cases g
  ·rw[if_neg hj]at g;obtain⟨v,e1,e2⟩:=R.sh j d g
   have hij:i≠j:=fun z=>hj ⟨z,by rw[R.len];exact hi⟩
   exact⟨v,by rw[Qe hij];exact e1,Is.mono (ki s h) d e2⟩
 ow:=fun j ds g=>by
  rw[jj]at g;by_cases hj:i=j/\i<σ.length
  ·rw[if_pos hj]at g;obtain⟨rfl,_⟩:=hj;cases g;exact⟨a,vs,Qq hi,K0 ..,h1,is⟩
  ·rw[if_neg hj]at g;obtain⟨b,ws,e1,e2,e3,e4⟩:=R.ow j ds g
   have hij:i≠j:=fun z=>hj ⟨z,by rw[R.len];exact hi⟩
   exact⟨b,ws,by rw[Qe hij];exact e1,KR _ e2,s _ _ e3,Iss.mono (ki s h) ds e4⟩
 dj:=fun j l ds es hjl g1 g2=>by
  have key:∀j ds,i≠j->getS σ j=some (.ow ds)->τ[j]? ≠ some (some (.ref a)):=fun j ds _ g e=>by
   obtain⟨b,_,e1,e2,e3,_⟩:=R.ow j ds g;rw[e1]at e;cases e;rw[h]at e3;cases e3
  rw[jj]at g1 g2;by_cases hj:i=j/\i<σ.length
  ·obtain⟨rfl,_⟩:=hj;rw[if_neg fun z=>hjl z.1]at g2;rw[Qq hi,Qe hjl]
   exact fun z=>key l es hjl g2 z.symm
  ·rw[if_neg hj]at g1
   have hij:i≠j:=fun z=>hj ⟨z,by rw[R.len];exact hi⟩
   by_cases hl:i=l/\i<σ.length
   ·obtain⟨rfl,_⟩:=hl;rw[Qq hi,Qe hij];exact key j ds hij g1
   ·rw[if_neg hl]at g2
    have hil:i≠l:=fun z=>hl ⟨z,by rw[R.len];exact hi⟩
    rw[Qe hij,Qe hil];exact R.dj j l ds es hjl g1 g2
 mine:=fun j ds b g e=>by
  rw[jj]at g;rcases set_at e with⟨rfl,q⟩|⟨hij,q⟩
  ·cases q
   exact fun z=>R.own _ (sub _ z) h
  ·rw[if_neg fun z=>hij z.1]at g;exact R.mine j ds b g q
 tt:=by
  refine R.tt.step (fresh_T hi R) (fun j rows b as g e d t=>⟨s _ _ t.top,t.nd,⟨KR _ t.inO.1,fun c hc=>KR _ (t.inO.2 c hc)⟩,t.rw.imp (ki s h) fun c _ vs q=>s _ _ q⟩) fun _ _ b as j ds c _ t g q=>?_
  rw[jj]at g;rcases set_at q with⟨rfl,q'⟩|⟨hij,q⟩
  ·cases q';refine .inr ⟨fun z=>?_,fun z=>?_⟩
   ·subst z;rw[t.top]at h;cases h
   ·obtain⟨_,e⟩:=t.rw.isL _ z;rw[e]at h;cases h
  ·rw[if_neg fun z=>hij z.1]at g;exact .inl ⟨ds,g,q⟩
 mineT:=R.mineT.step (fresh_T hi R) (R.tt.same s)
theorem jM{a:Addr}{o:HO}(h:a∈O):je (upd H a o) O=je H O:=by
 funext b;unfold je;by_cases hb:b∈O
 ·rw[if_pos hb,if_pos hb]
 ·rw[if_neg hb,if_neg hb,jh fun z=>hb (by rw[z];exact h)]
theorem Good.write{H₀:Hp}{a:Addr}{o:HO}(g:Good O₀ H₀ O H)(h:a∈O)(hn:a ∉ O₀):Good O₀ H₀ O (upd H a o):=by
 refine⟨fun b u q=>?_,g.sub,g.new⟩;have h0:H₀ a=none:=(g.new a h).resolve_left hn;rw[jh fun z=>by subst z;rw[h0]at q;cases q];exact g.same b u q
theorem write_T{i:Nat}(es:List D):∀j rows,getS (setS σ i (some (.ow es))) j=some (.ot rows)->getS σ j=some (.ot rows)/\τ[j]?=τ[j]?:=fun j rows g=>by
 rw[jj]at g;by_cases hj:i=j/\i<σ.length
 ·rw[if_pos hj]at g;cases g
 ·rw[if_neg hj]at g;exact⟨g,rfl⟩
theorem RepS.write{a:Addr}{vs ws:List V}{ds es:List D}{i:Nat}(R:RepS O₀ K O H σ τ)(g:getS σ i=some (.ow ds))(e1:τ[i]?=some (some (.ref a)))(e2:a∈O)(is:Iss K (je H O) es ws) :
 RepS O₀ K O (upd H a (.lst ws)) (setS σ i (some (.ow es))) τ where
 len:=by rw[ju];exact R.len
 own:=fun b hb=>by
  by_cases z:b=a
  ·subst z;rw[jm];exact fun z=>nomatch z
  ·rw[jh z];exact R.own b hb
 sh:=fun j d h=>by
  rw[jj]at h;by_cases hj:i=j/\i<σ.length
  ·rw[if_pos hj]at h;cases h
  ·rw[if_neg hj]at h;rw[jM e2];exact R.sh j d h
 ow:=fun j fs h=>by
  rw[jj]at h;rw[jM e2];by_cases hj:i=j/\i<σ.length
  ·rw[if_pos hj]at h;obtain⟨rfl,_⟩:=hj;cases h;exact⟨a,ws,e1,e2,jm ..,is⟩
  ·rw[if_neg hj]at h;obtain⟨b,us,h1,h2,h3,h4⟩:=R.ow j fs h
   have hij:i≠j:=fun z=>hj ⟨z,by
    rw[R.len];rcases Qd i τ.length with q|q
    ·exact q
    ·rw[KT q]at e1;cases e1⟩
   have hb:b≠a:=fun z=>by subst z;exact R.dj i j ds fs hij g h (e1.trans h1.symm)
   exact⟨b,us,h1,h2,by rw[jh hb];exact h3,h4⟩
 dj:=fun j l fs gs hjl g1 g2=>by
  have old:∀j fs,getS (setS σ i (some (.ow es))) j=some (.ow fs)->∃fs',getS σ j=some (.ow fs'):=fun j fs h=>by
   rw[jj]at h;by_cases hj:i=j/\i<σ.length
   ·obtain⟨rfl,_⟩:=hj;exact⟨_,g⟩
   ·rw[if_neg hj]at h;exact⟨_,h⟩
  obtain⟨_,k1⟩:=old j fs g1;obtain⟨_,k2⟩:=old l gs g2;exact R.dj j l _ _ hjl k1 k2
 mine:=fun j fs b h e=>by
  rw[jj]at h;by_cases hj:i=j/\i<σ.length
  ·obtain⟨rfl,_⟩:=hj;exact R.mine i ds b g e
  ·rw[if_neg hj]at h;exact R.mine j fs b h e
 tt:=by
  refine R.tt.step (write_T es) (fun j rows b as q e d t=>?_) fun _ _ _ _ j fs c _ _ q e=>?_
  ·obtain⟨n1,n2⟩:=d i ds a g e1;exact⟨by rw[jh (Xm n1)];exact t.top,t.nd,t.inO,t.rw.imp (by rw[jM e2];exact jf.refl _) fun c hc vs z=>by rw[jh (show c≠a from fun y=>n2 (by rw[<- y];exact hc))];exact z⟩
  ·rw[jj]at q;by_cases hj:i=j/\i<σ.length
   ·obtain⟨rfl,_⟩:=hj;exact .inl ⟨ds,g,e⟩
   ·rw[if_neg hj]at q;exact .inl ⟨fs,q,e⟩
 mineT:=R.mineT.step (write_T es) fun j rows b q e=>by
  obtain⟨b',as,e3,t,d⟩:=R.tt.1 j rows q;rw[e]at e3;cases e3;exact jh (Xm (d i ds a g e1).1)
theorem RepS.share(R:RepS O₀ K O H σ τ){i:Nat}{ds:List D}{a:Addr}{vs:List V}(g:getS σ i=some (.ow ds))(e1:τ[i]?=some (some (.ref a)))(e3:H a=some (.lst vs))(e4:Iss K (je H O) ds vs):RepS O₀ K (less O a) H (setS σ i (some (.sh (.lst ds)))) τ:=by
 refine⟨R.toReps.share g e1 e3 e4,fun j fs b h e=>?_,R.mineT.step (fun j rows q=>?_) fun _ _ _ _ _=>rfl⟩
 rotate_left
 ·rw[jj]at q;by_cases hj:i=j/\i<σ.length
  ·rw[if_pos hj]at q;cases q
  ·rw[if_neg hj]at q;exact⟨q,rfl⟩
 rw[jj]at h;by_cases hj:i=j/\i<σ.length
 ·rw[if_pos hj]at h;cases h
 ·rw[if_neg hj]at h;exact R.mine j fs b h e
theorem Good.share{H₀:Hp}{a:Addr}(g:Good O₀ H₀ O H)(hn:a ∉ O₀):Good O₀ H₀ (less O a) H :=
 ⟨g.same,fun b hb=>jX.mpr ⟨g.sub b hb,fun z=>hn (z ▸ hb)⟩,fun b hb=>g.new b (jX.mp hb).1⟩
end
section
variable {X:Cx} {k:Ck} {C:Cfg} {O₀:List Addr} {H₀:Hp}
theorem u7{x:Ex}{e:Expr}(h:chkE k x e=true)(hc:zR e=false)(t:Option Expr)(n:Nat)(env:Env):Y5 e t n env=pure false:=by
 have p:=ul h
 cases e<;>first|rfl|exact KZ p|exact KZ hc
theorem swaps_sub(e o i:Expr){p:Pos}(n:Nat)(env:Env):Y5 e (some (.Subscript o i p)) n env=pure false:=by
 cases e<;>rfl
theorem swaps_tup(e:Expr){es:List Expr}{j:Nat}{p:Pos}(n:Nat)(env:Env):Y5 e (some (.Tuple es j p)) n env=pure false:=by
 cases e<;>rfl
theorem uT{elt:Expr}{gs:List Comprehension}{sc:Scope}{pos py:Pos}{y:Str}(n:Nat)(env:Env):∃b,Y5 (.ListComp elt gs sc pos) (some (.Name y py)) n env=pure b:=⟨_,rfl⟩
structure OkS (X:Cx) (k:Ck) (C:Cfg):Prop extends Ok X k C where
 fn:∀x,X.fn x=true
noncomputable def gNames:List Nat->TGs
 |[]=>gNil
 |i::is=>gCons (k7 i) (gNames is)
theorem Jr(ok:OkS X k C):∀(is:List Nat) (ts:List Expr),vc k is ts=true->PGs X ts (gNames is)/\(X9 ts X.env).length=is.length/\(X9 ts X.env).findIdx? (·.1)=none
 |[],ts,h=>by
  have e:ts=[]:=by rw[vc]at h;simpa using h
  subst e
  exact⟨pgs_nil,rfl,rfl⟩
 |i::is,ts,h=>by
  obtain⟨x,pos,ts,rfl,h1,h2⟩:=chkTs_cons h;obtain⟨h1,h3,h4,h5⟩:=ok.vis h1;obtain⟨p,l,f⟩:=Jr ok is ts h2;refine⟨uV (xY ok.nd h1 h3 (.inl (ok.fn _))) p,?_,?_⟩
  ·show (X9 ts X.env).length+1=is.length+1;rw[l]
  ·show List.findIdx? _ ((false,assign (.Name x pos) X.env)::X9 ts X.env)=none;rw[List.findIdx?_cons,f];rfl
theorem ug{K:KN}{O₀ O:List Addr}{H:Hp}{Q:L2.St->Hp->Prop}:∀(is:List Nat) {ds:List D} {vs:List V} {σ σ':Sto} {τ:L2.St},RepS O₀ K O H σ τ->Iss K (je H O) ds vs->setAll is ds σ=some σ'->(∀τ',RepS O₀ K O H σ' τ'->Q τ' H)->gNames is vs τ H Q
 |[],ds,vs,σ,σ',τ,R,i,e,q=>by
  cases ds with
  |nil =>
   unfold Iss at i;simp only[setAll,Q8]at e;subst e
   exact⟨i,q τ R⟩
  |cons d ds=>simp[setAll]at e
 |n::is,ds,vs,σ,σ',τ,R,i,e,q=>by
  cases ds with
  |nil=>simp[setAll]at e
  |cons d ds =>
   unfold Iss at i;obtain⟨v,r,rfl,i1,i2⟩:=i;simp only[setAll]at e;exact⟨v,r,rfl,ug is (R.set i1) i2 e q⟩
theorem yZ:∀(is:List Nat) {ds:List D} {σ σ':Sto},setAll is ds σ=some σ'->ds.length=is.length
 |[],ds,σ,σ',e=>by cases ds with|nil=>rfl|cons d ds=>simp[setAll]at e
 |n::is,ds,σ,σ',e=>by
  cases ds with
  |nil=>simp[setAll]at e
  |cons d ds=>simp only[setAll]at e;simp[yZ is e]
end
end Z
namespace Z
open PySem PySem.Spec PyProof.Rows L2
noncomputable def IsRv(h:QG)(it l:Addr)(j:Int):Prop:=∃o,h.get? it=some o/\o.cls=.type "list_reverseiterator" /\ o.data=.fields #[.ref l,.int j 0]
theorem IsRv.ty{s:Shared}{it l:Addr}{j:Int}(x:IsRv s.heap it l j):s.TypeIs (.ref it) "list_reverseiterator":=let ⟨o,ho,hc,_⟩:=x;⟨o,ho,hc⟩
section
variable {prog:Qp} {w:World} {A:QH} {E:KO->Shared->Prop} {s:Shared}
end
section
variable {prog:Qp} {w:World} {A:QH} {E:KO->Shared->Prop} {s:Shared}
end
noncomputable def tDL(K:KN)(C:Cfg)(x:Ex):TE:=fun τ H Q=>∃σ O,Reps K O H σ τ/\wpE C x σ (isL fun xs=>WdF K O H Q (.lst xs))
noncomputable def rCat(K:KN):R2:=fun xv yv H Q=>∃O xs ys,(∀a∈O,H a≠none)/\Is K (je H O) (.lst xs) xv/\Is K (je H O) (.lst ys) yv/\xs.length+ys.length<=lim/\WdF K O H Q (.lst (xs++ys))
theorem op_catL{X:Cx}:OpR X (Zf .Add) (rCat X.K):=by
 intro pins s τ H x y v u Q I rx ry h;obtain⟨O,xs,ys,ho,ix,iy,w⟩:=h;obtain⟨a,vs,rfl,h1,h2⟩:=jF ix;obtain⟨b,ws,rfl,h3,h4⟩:=jF iy;cases rx;cases ry;exact vX I ho w ((jg H O).seq h1) ((jg H O).seq h3) h2 h4
theorem addD_isL{x y:D}{f:List D->Prop}(w:addD x y (isL f)):∃xs ys,x=.lst xs/\y=.lst ys/\xs.length+ys.length<=lim/\f (xs++ys):=by
 cases x<;>cases y<;>first|exact w.elim|exact w.2.elim|exact⟨_,_,rfl,rfl,w.1,w.2⟩
theorem vL{K:KN}{O:List Addr}{H:Hp}{Q:VK}{xs:List D}{vs:List V}{l:Addr}(w:WdF K O H Q (.lst xs))(hl:H l=none)(i:Iss K (je H O) xs vs):Q (.ref l) (upd H l (.lst vs)) :=
 w xs l _ vs rfl (jB hl _) hl (jm ..) (Iss.mono (ki (jB hl _) hl) xs i)
theorem sF{X:Cx}{k:Ck}{C:Cfg}(ok:Ok X k C)(x:Ex)(e:Expr)(hf:frE x=true)(h:chkE k x e=true):PE X e (tDL X.K C x):=by
 cases x with
 |bin o a b =>
  cases o<;>first|exact KZ hf|skip
  replace h:=jb h;obtain⟨⟨l,op,r⟩,hx,h⟩:=h;obtain⟨pos,rfl⟩:=vh hx;rw[KM,KM]at h
  have hop:op=.Add:=by
   have:=h.1.1
   cases op<;>first|rfl|exact KZ this
  subst hop;refine PE.imp (fun τ H Q w=>?_) (pe_op op_catL (sB ok a _ h.1.2).1 (sB ok b _ h.2).1);obtain⟨σ,O,R,w⟩:=w;refine⟨σ,O,R,ja a (fun x wx xv H1 s1 i1=>⟨σ,O,R.mono s1,ja b (fun y wy yv H2 s2 i2=>?_) wx⟩) w⟩;obtain⟨xs,ys,rfl,rfl,hl,q⟩:=addD_isL wy
  exact⟨O,xs,ys,(R.mono (s1.trans s2)).own,Is.mono (jd s2) _ i1,i2,hl,q.mono (s1.trans s2)⟩
 |bi f es =>
  cases f<;>first|exact KZ hf|skip
  replace h:=jb h;obtain⟨⟨x,xs,pos⟩,hx,h⟩:=h;obtain⟨q,rfl⟩:=jL hx;simp only[KM,decide_eq_true_eq]at h;obtain⟨⟨⟨h1,h2⟩,hne⟩,h4⟩:=h
  match xs,hne,h1,h4 with
  |y::ys,_,h1,h4 =>
   subst h1;obtain⟨g1,g2,g3⟩:=ok.gl h2
   have hs:Qa (y::ys) X.env=(false,eval y X.env)::Qa ys X.env/\(backTo pos (Qa ys X.env)).any (·.1)=false:=by
    cases es with
    |nil=>have:=j0 h4;cases this
    |cons z zs =>
     obtain⟨y',ys',e',h5,h6⟩:=jR h4;cases e';exact⟨jz h5 _ _,ko h6 _ _⟩
   refine PE.imp (fun τ H Q w=>?_) (kR (T:="list") kX g1 (ok.blt _ (bi_blt .list)) X6 (sA ok es _ h4) g3 g2 hs.1 hs.2);obtain⟨σ,O,R,w⟩:=w;refine⟨σ,O,R,jw es (fun ds wd vs H1 s1 i1=>?_) w⟩;obtain⟨x,rfl,wd⟩:=qy wd;obtain⟨v,rfl,j1⟩:=zN i1;clear i1
   cases x<;>first|exact wd.elim|skip
   ·obtain⟨a,vs,rfl,h1,h2⟩:=kx j1;exact⟨a,vs,rfl,.inr ((kK (jg H1 O) h1)),fun l hl=>vL (WdF.mono s1 wd) hl h2⟩
   ·obtain⟨a,vs,rfl,h1,h2⟩:=jF j1
    exact⟨a,vs,rfl,.inl ((jg H1 O).seq h1),fun l hl=>vL (WdF.mono s1 wd) hl h2⟩
 |_=>exact KZ hf
end Z
namespace Z
open PySem PySem.Spec PyProof.Rows L2
section
variable {X:Cx} {k:Ck} {C:Cfg}
theorem sL(ok:Ok X k C)(x:Ex)(e:Expr)(hf:frL x=true)(h:chkE k x e=true):PE X e (tDL X.K C x):=by
 cases x with
 |compE a b =>
  replace h:=jb h;obtain⟨⟨elt,x,iter,sc⟩,hz,h⟩:=h;obtain⟨px,pos,rfl⟩:=kL hz;simp only[KM,Ql]at h;obtain⟨⟨⟨h1,hn⟩,ha⟩,h3⟩:=h;intro pins s τ H Q I w;obtain⟨cl,co⟩:=ok.comp h1 I.ok;refine xM (te:=tD X.K C b) ok.calm ok.nd (ok.comp_nE h1) co (xR (sB ok a iter ha).1) (fun _ _ _ _=>qz) (fun s H fp Ca=>(sB (ok.block h1 co s H fp Ca) b elt h3).1) (qq hn _) pins s τ H Q I ?_;obtain⟨σ,O,R,w⟩:=w;refine⟨σ,O,R,ja a (fun d wd v H1 s1 i1=>?_) w⟩;obtain⟨xs,e1,hx,wd⟩:=wd;have wd':=jQ (f:=fun d Q=>wpE C b (σ ++ [some (.sh d)]) Q) (fun d _ _ hq=>ja b hq) _ (fun ys (wy:WdF X.K O H Q (.lst ys))=>WdF.mono s1 wy) wd;obtain⟨J,hw,g1,g2,g3⟩:=walk_of e1 i1
  exact⟨J,hw,comp_turnsGF (R.mono s1) hx (fun j H2 s2=>g1 j H2 O (jd s2)) (fun j H2 s2=>g2 j H2 O (jd s2)) (fun j H2 v H' d s2 y e=>by obtain⟨q,i⟩:=g3 j H2 O v H' d (jd s2) y e;subst q;exact⟨jf.refl _,i⟩) wd'⟩
 |compR es b =>
  replace h:=jb h;obtain⟨⟨elt,x,iter,sc⟩,hz,h⟩:=h;obtain⟨px,pos,rfl⟩:=kL hz;simp only[KM]at h;obtain⟨⟨h1,h2⟩,h3⟩:=h;replace h2:=jb h2;obtain⟨⟨f,args,p2⟩,hcn,h2⟩:=h2;obtain⟨q,e2⟩:=jL hcn;subst e2;simp only[KM,decide_eq_true_eq,Ql]at h2;obtain⟨⟨⟨hf,hg⟩,hne⟩,ha⟩:=h2;subst hf;obtain⟨g1,_,_⟩:=ok.gl hg
  cases args with
  |nil=>simp at hne
  |cons y ys =>
   have hs:Qa (y::ys) X.env=(false,eval y X.env)::Qa ys X.env/\(backTo p2 (Qa ys X.env)).any (·.1)=false:=by
    cases es with
    |nil=>have:=j0 ha;cases this
    |cons z zs =>
     obtain⟨y',ys',e',h5,h6⟩:=jR ha;cases e';exact⟨jz h5 _ _,ko h6 _ _⟩
   intro pins s τ H Q I w;obtain⟨cl,co⟩:=ok.comp h1 I.ok;refine xM (te:=tD X.K C b) ok.calm ok.nd (ok.comp_nE h1) co (pi_rg g1 (ok.blt _ (by decide)) (sA ok es _ ha) hs.1 hs.2) (fun _ _ _ _=>qz) (fun s H fp Ca=>(sB (ok.block h1 co s H fp Ca) b elt h3).1) (fun _=>rfl) pins s τ H Q I ?_;obtain⟨σ,O,R,w⟩:=w;refine⟨σ,O,R,jw es (fun ds wd vs H1 s1 i1=>?_) w⟩;obtain⟨lo,hi,st,e,c,hx,wd⟩:=v8 i1 wd;refine⟨lo,hi,st,e,c,?_⟩;refine comp_turnsGF (R.mono s1) hx ?_ ?_ ?_ (jQ (f:=fun d Q=>wpE C b (σ ++ [some (.sh d)]) Q) (fun d _ _ hq=>ja b hq) _ (fun ys (wy:WdF X.K O H Q (.lst ys))=>WdF.mono s1 wy) wd)
   ·intro j H _ hj;rw[jv]at hj;exact hj
   ·intro j H _ hj;rw[jv]at hj;exact hj
   ·intro j H v H' d _ y hd;obtain⟨e1,e2⟩:=y
    have hj:j<(if lo<hi then (hi-lo-1) / st+1 else 0).toNat:=by
     rcases Qd j (if lo<hi then (hi-lo-1) / st+1 else 0).toNat with z|z
     ·exact z
     ·rw[KT (by rw[jv];exact z)]at hd;cases hd
    rw[qr _ _ _ _ hj]at hd;cases hd;subst e1
    exact⟨jf.refl _,by rw[e2];exact jH _⟩
 |slc a l u =>
  replace h:=jb h;obtain⟨⟨v,i⟩,hx,h⟩:=h;obtain⟨pos,rfl⟩:=yl hx;replace h:=jb h;obtain⟨⟨lo,hi⟩,hs,h⟩:=h;obtain⟨p2,e2⟩:=asSlice_ hs;simp only at e2;subst e2;simp only[KM]at h;obtain⟨⟨⟨⟨ha,hl1⟩,hu1⟩,hl2⟩,hu2⟩:=h
  have pl:PO X lo (tPt X.K C l):=po_D hl1 fun x ex nl=>by
   subst ex;rw[nl]at hl2;exact(sB ok l x hl2).1
  have pu:PO X hi (tPt X.K C u):=po_D hu1 fun x ex nl=>by
   subst ex;rw[nl]at hu2;exact(sB ok u x hu2).1
  refine PE.imp (fun τ H Q w=>?_) (pe_slice sl_list (sB ok a v ha).1 pl pu);obtain⟨σ,O,R,w⟩:=w;refine⟨σ,O,R,ja a (fun d wd x H1 s1 i1=>⟨σ,O,R.mono s1,xE (fun hq=>ja l hq) (fun lo' wl H2 s2=>⟨σ,O,(R.mono s1).mono s2,xE (fun hq=>ja u hq) (fun hi' wh H3 s3=>?_) wl⟩) wd⟩) w⟩;have ss:=s2.trans s3
  cases d<;>first|exact wh.elim|exact wh.2.elim|skip
  next xs =>
  obtain⟨b,vs,rfl,h1,h2⟩:=jF i1;have wh:WdF X.K O H Q (.lst (ui xs lo' hi')):=wh
  exact⟨b,vs,rfl,(jg _ _).seq ((jd ss).seq h1),fun p hp=>vL (WdF.mono (s1.trans ss) wh) hp (Iss.cut lo' hi' (Iss.mono (jd ss) xs h2))⟩
 |bin o a b=>exact sF ok _ e hf h
 |bi f es=>exact sF ok _ e hf h
 |_=>exact KZ hf
noncomputable def tIt(K:KN)(C:Cfg)(b:Ex):TE:=fun τ H Q=>frIt C b=true/\tDL K C b τ H Q
theorem sI(ok:Ok X k C)(x:Ex)(e:Expr)(hf:frI x=true)(h:chkE k x e=true):PE X e (tIt X.K C x):=by
 cases x with
 |call f es =>
  replace h:=jb h;obtain⟨⟨x,xs,pos⟩,hx,h⟩:=h;obtain⟨q,rfl⟩:=jL hx;simp only[KM,decide_eq_true_eq]at h;obtain⟨⟨⟨k1,k2⟩,hne⟩,k4⟩:=h;obtain⟨y,ys,rfl⟩:=xA hne;obtain⟨g1,g2,g3⟩:=ok.gl k2;obtain⟨fa,fd,ps,lv,F,hr,hm,hk,hb⟩:=ok.fns f x _ k1
  have hs:Qa (y::ys) X.env=(false,eval y X.env)::Qa ys X.env/\(backTo pos (Qa ys X.env)).any (·.1)=false:=by
   cases es with
   |nil=>have:=j0 k4;cases this
   |cons z zs =>
    obtain⟨y',ys',e',h5,h6⟩:=jR k4;cases e';exact⟨jz h5 _ _,ko h6 _ _⟩
  refine PE.imp (fun τ H Q w=>?_) (zl (CX:=CXz X.prog X.w X.mg) (E:=E0) (dvs:=[]) F hr g1 hm hk hb .nil passZ (sA ok es _ k4) g2 hs.1 hs.2);obtain⟨hfr,σ,O,R,w⟩:=w;have hfr:C.fr f=true:=hfr;refine⟨σ,O,R,jw es (fun ds ⟨hl,wd⟩ vs H1 s1 i1=>?_) (xB es w)⟩;show spD X.K (y::ys).length (C.fr f) (C.f2 f) (C.ct f) (vs ++ []) H1 _ E0;rw[Qu];refine⟨O,ds,by rw[hl,zW k4],(R.mono s1).own,i1,wd.1,fun d r=>?_,fun x hx=>(ok.E x (wd.2.2 x hx)).elim⟩;unfold Rw;rw[if_pos hfr]
  obtain⟨xs,rfl,q⟩:∃xs,d=.lst xs/\WdF X.K O H Q (.lst xs):=by
   have:=wd.2.1 d r
   cases d<;>first|exact this.elim|exact⟨_,rfl,this⟩
  exact q.mono s1
 |_=>exact PE.imp (fun τ H Q w=>w.2) (sL ok _ e hf h)
theorem k8{H H':Hp}{O as:List Addr}(s:jf H H')(h:∀b∈as,H b=none):jf (je H O) (je H' (as++O)):=fun b o hb=>by
 have e:=jg _ _ _ _ hb
 have na:b ∉ as:=fun z=>by rw[h b z]at e;cases e
 have nb:b ∉ O:=fun z=>by unfold je at hb;rw[if_pos z]at hb;cases hb
 rw[j5 (by simp[na,nb])];exact s _ _ e
theorem Reps.grow{K:KN}{O as:List Addr}{H H':Hp}{σ:Sto}{τ:L2.St}(R:Reps K O H σ τ)(s:jf H H')(hn:∀b∈as,H b=none)(hs:∀b∈as,H' b≠none):Reps K (as++O) H' σ τ where
 len:=R.len
 own:=fun b hb=>by
  rcases QA.mp hb with z|z
  ·exact hs b z
  ·exact(R.mono s).own b z
 sh:=fun i d g=>by
  obtain⟨v,e1,e2⟩:=R.sh i d g;exact⟨v,e1,Is.mono (k8 s hn) d e2⟩
 ow:=fun i ds g=>by
  obtain⟨a,vs,e1,e2,e3,e4⟩:=R.ow i ds g;exact⟨a,vs,e1,K8 _ e2,s _ _ e3,Iss.mono (k8 s hn) ds e4⟩
 dj:=R.dj
 tt:=R.tt.step (fun _ _ g=>⟨g,rfl⟩) (fun _ _ _ _ _ _ _ t=>⟨s _ _ t.top,t.nd,⟨K8 _ t.inO.1,fun b hb=>K8 _ (t.inO.2 b hb)⟩,t.rw.imp (k8 s hn) fun b _ vs h=>s _ _ h⟩) fun _ _ _ _ j ds b _ _ g q=>.inl ⟨ds,g,q⟩
theorem minus_eq{H:Hp}{O O':List Addr}(h:∀b,b∈O ↔ b∈O'):je H O=je H O':=by
 funext b;unfold je;by_cases z:b∈O
 ·rw[if_pos z,if_pos ((h b).mp z)]
 ·rw[if_neg z,if_neg fun y=>z ((h b).mpr y)]
theorem Rws.snoc{K:KN}{O:List Addr}{H:Hp}{r:List D}{b:Addr}{vs:List V}(h1:H b=some (.lst vs))(h2:Iss K (je H O) r vs):∀ {rows:List (List D)} {as:List Addr},Rws K O H rows as->Rws K O H (rows ++ [r]) (as ++ [b])
 |[],as,h=>by cases h;exact⟨b,[],vs,rfl,h1,h2,rfl⟩
 |q::rows,as,h=>by
  obtain⟨c,bs,us,rfl,e1,e2,e3⟩:=h;exact⟨c,bs ++ [b],us,rfl,e1,e2,Rws.snoc h1 h2 e3⟩
theorem Rws.own{K:KN}{O O':List Addr}{H:Hp}{rows:List (List D)}{as:List Addr}(h:∀b,b∈O ↔ b∈O')(r:Rws K O H rows as):Rws K O' H rows as:=r.imp (by rw[minus_eq h];exact jf.refl _) fun _ _ _ z=>z
theorem uw{K:KN}{J:It}{xs:List D}{e:Ex}{τ:L2.St}{H1:Hp}{σ:Sto}{O:List Addr}{Q:VK}(R1:Reps K O H1 σ τ)(hx:xs.length<=lim)(hb:frIt C e=true)
 (hgo:∀j H O',jf (je H1 O) (je H O')->j<xs.length->J.go j H) (hst:∀j H O',jf (je H1 O) (je H O')->xs.length<=j->J.stop j H)
 (hy:∀j H O' v H' d,jf (je H1 O) (je H O')->J.yld j H v H'->xs[j]?=some d->H'=H/\Is K (je H O') d v)
 (w:qL (fun d Q=>wpE C e (σ ++ [some (.sh d)]) (isL Q)) xs fun rows=>WdG K O H1 Q (qh rows)) :
 ∃W:Nat->Nat->List V->Hp->Prop,(∃m,W 0 m [] H1)/\∀i m ys H,W i m ys H ->
  (J.stop i H/\ys.length<=sizeLine/\∀p,H p=none->Q (.ref p) (upd H p (.lst ys)))\/(J.go i H/\ys.length<sizeLine/\∀x H',J.yld i H x H'->tIt K C e (τ ++ [some x]) H' fun y H2=>∃m',m'<m/\W (i+1) m' (ys ++ [y]) H2):=by
 refine⟨fun j m ys H=>m=xs.length-j/\j<=xs.length/\jf H1 H/\∃rows as,as.length=j/\ys=as.map V.ref/\(∀b∈as,H1 b=none)/\as.Nodup/\Rws K (as++O) H rows as/\qL (fun d Q=>wpE C e (σ ++ [some (.sh d)]) (isL Q)) (xs.drop j) fun rest=>WdG K O H1 Q (qh (rows++rest)),
  ⟨_,rfl,XB _,jf.refl _,[],[],rfl,rfl,(fun _ z=>nomatch z),List.nodup_nil,rfl,by simpa using w⟩,?_⟩
 rintro j m ys H ⟨rfl,hj,sm,rows,as,hd,rfl,fr,nd,rw',w⟩
 have hl:(as.map V.ref).length=j:=by rw[KP,hd]
 have hs:∀b∈as,H b≠none:=fun b hb=>by obtain⟨vs,q⟩:=rw'.isL b hb;rw[q];exact fun z=>nomatch z
 have R:=R1.grow sm fr hs;have sO:=k8 (O:=O) sm fr
 have hlim:lim<=sizeLine:=by decide
 by_cases hlt:j<xs.length
 ·refine .inr ⟨hgo j H _ sO hlt,by lia,fun x H' y=>?_⟩;obtain⟨e1,ix⟩:=hy j H _ x H' xs[j] sO y (KU hlt);subst e1;rw[QS hlt]at w;rw[qL]at w;refine⟨hb,_,as++O,R.snoc ix,ja e (fun yd=>qj fun r wr r' a H2 vs q s2 h0 h1 is=>?_) w⟩;cases q
  have na:a ∉ as:=fun z=>hs a z h0
  have h01:H1 a=none:=by
   cases q:H1 a with
   |none=>rfl
   |some o=>rw[sm a o q]at h0;cases h0
  have mem:∀b,b∈a::(as++O) ↔ b∈(as ++ [a])++O:=fun b=>by
   simp only[KS,QA,K4,or_false];constructor
   ·rintro(z|z|z)
    ·exact .inl (.inr z)
    ·exact .inl (.inl z)
    ·exact .inr z
   ·rintro((z|z)|z)
    ·exact .inr (.inl z)
    ·exact .inl z
    ·exact .inr (.inr z)
  refine⟨xs.length-(j+1),by lia,rfl,hlt,sm.trans s2,rows ++ [r],as ++ [a],by simp[hd],by simp,fun b hb=>?_,?_,?_,?_⟩
  ·rcases QA.mp hb with z|z
   ·exact fr b z
   ·rw[Qz.mp z];exact h01
  ·rw[List.nodup_append];exact⟨nd,by simp,fun b hb c hc z=>by rw[Qz.mp hc]at z;exact na (z ▸ hb)⟩
  ·refine Rws.own mem (Rws.snoc h1 is (rw'.imp (fun b o hb=>?_) fun b hb vs q=>s2 _ _ q));have q:=jg _ _ _ _ hb
   have nb:b ∉ as++O:=fun z=>by unfold je at hb;rw[if_pos z]at hb;cases hb
   rw[j5 (fun z=>(KS.mp z).elim (fun y=>by rw[y,h0]at q;cases q) nb)];exact s2 _ _ q
  ·simpa using wr
 ·have e1:j=xs.length:=by lia
  refine .inl ⟨hst _ H _ sO (by lia),by lia,fun p hp=>?_⟩;rw[ZH (by lia)]at w;rw[qL,Qu]at w
  have np:p ∉ as:=fun z=>hs p z hp
  have s2:=jB hp (.lst (as.map V.ref))
  have h01:H1 p=none:=by
   cases q:H1 p with
   |none=>rfl
   |some o=>rw[sm p o q]at hp;cases hp
  refine w rows p as _ rfl (sm.trans s2) ⟨h01,fr⟩ ⟨jm ..,⟨np,nd⟩,⟨K0 ..,fun b hb=>KR _ (Xe _ hb)⟩,?_⟩
  exact rw'.imp (ki s2 hp) fun b hb vs q=>s2 _ _ q
noncomputable def tDG(K:KN)(C:Cfg)(x:Ex):TE:=fun τ H Q=>∃σ O,Reps K O H σ τ/\wpG C x σ fun rows=>WdG K O H Q (qh rows)
theorem WdG.mono{K:KN}{O:List Addr}{H H':Hp}{Q:VK}{d:D}(e:jf H H')(w:WdG K O H Q d):WdG K O H' Q d:=fun rows a as H'' q s h0 t=>by
 have old:∀b,H' b=none->H b=none:=fun b h=>by
  cases z:H b with
  |none=>rfl
  |some o=>rw[e b o z]at h;cases h
 exact w rows a as H'' q (e.trans s) ⟨old _ h0.1,fun b hb=>old _ (h0.2 b hb)⟩ t
theorem gcomp(ok:Ok X k C)(z:Ex)(e:Expr)(hf:frG z=true)(h:chkE k z e=true):∃(x:Str) (px:Pos) (iter elt:Expr) (sc:Scope) (pos:Pos) (wi:TI) (b:Ex),e=.ListComp elt [⟨.Name x px,iter,[],0⟩] sc pos/\qW k x sc=true/\PI X (.Name x px) iter wi/\(∀v,XX iter X.env v=pure v) /\
 (∀cl,CompOk X x sc cl->∀s H fp Ca,PE (qa X s H fp x sc cl Ca) elt (tIt X.K C b))/\∀τ H Q,tDG X.K C z τ H Q->tComp wi (tIt X.K C b) τ H Q:=by
 cases z with
 |compE a b =>
  replace h:=jb h;obtain⟨⟨elt,x,iter,sc⟩,hz,h⟩:=h;obtain⟨px,pos,rfl⟩:=kL hz;simp only[KM,Ql]at h;obtain⟨⟨⟨h1,hn⟩,ha⟩,h3⟩:=h;refine⟨x,px,iter,elt,sc,pos,_,b,rfl,h1,xR (sB ok a iter ha).1,qq hn _,fun cl co s H fp Ca=>sI (ok.block h1 co s H fp Ca) b elt hf h3,fun τ H Q w=>?_⟩;obtain⟨σ,O,R,hb,w⟩:=w;refine⟨σ,O,R,ja a (fun d wd v H1 s1 i1=>?_) w⟩;obtain⟨xs,e1,hx,wd⟩:=wd;have wd':=qE (f:=fun d Q=>wpE C b (σ ++ [some (.sh d)]) (isL Q)) (fun d _ _ hq=>ja b fun _=>qj hq) _ (fun ys (wy:WdG X.K O H Q (qh ys))=>WdG.mono s1 wy) wd;obtain⟨J,hw,g1,g2,g3⟩:=walk_of e1 i1
  exact⟨J,hw,uw (R.mono s1) hx hb g1 g2 g3 wd'⟩
 |compR es b =>
  replace h:=jb h;obtain⟨⟨elt,x,iter,sc⟩,hz,h⟩:=h;obtain⟨px,pos,rfl⟩:=kL hz;simp only[KM]at h;obtain⟨⟨h1,h2⟩,h3⟩:=h;replace h2:=jb h2;obtain⟨⟨f,args,p2⟩,hcn,h2⟩:=h2;obtain⟨q,e2⟩:=jL hcn;subst e2;simp only[KM,decide_eq_true_eq,Ql]at h2;obtain⟨⟨⟨hfn,hg⟩,hne⟩,ha⟩:=h2;subst hfn;obtain⟨g1,_,_⟩:=ok.gl hg
  cases args with
  |nil=>simp at hne
  |cons y ys =>
   have hs:Qa (y::ys) X.env=(false,eval y X.env)::Qa ys X.env/\(backTo p2 (Qa ys X.env)).any (·.1)=false:=by
    cases es with
    |nil=>have:=j0 ha;cases this
    |cons z zs =>
     obtain⟨y',ys',e',h5,h6⟩:=jR ha;cases e';exact⟨jz h5 _ _,ko h6 _ _⟩
   refine⟨x,px,_,elt,sc,pos,_,b,rfl,h1,pi_rg g1 (ok.blt _ (by decide)) (sA ok es _ ha) hs.1 hs.2,fun _=>rfl,fun cl co s H fp Ca=>sI (ok.block h1 co s H fp Ca) b elt hf h3,fun τ H Q w=>?_⟩;obtain⟨σ,O,R,hb,w⟩:=w;refine⟨σ,O,R,jw es (fun ds wd vs H1 s1 i1=>?_) w⟩;obtain⟨lo,hi,st,e,c,hx,wd⟩:=v8 i1 wd;refine⟨lo,hi,st,e,c,?_⟩;refine uw (R.mono s1) hx hb ?_ ?_ ?_ (qE (f:=fun d Q=>wpE C b (σ ++ [some (.sh d)]) (isL Q)) (fun d _ _ hq=>ja b fun _=>qj hq) _ (fun ys (wy:WdG X.K O H Q (qh ys))=>WdG.mono s1 wy) wd)
   ·intro j H _ _ hj;rw[jv]at hj;exact hj
   ·intro j H _ _ hj;rw[jv]at hj;exact hj
   ·intro j H O' v H' d _ y hd;obtain⟨e1,e2⟩:=y
    have hj:j<(if lo<hi then (hi-lo-1) / st+1 else 0).toNat:=by
     rcases Qd j (if lo<hi then (hi-lo-1) / st+1 else 0).toNat with z|z
     ·exact z
     ·rw[KT (by rw[jv];exact z)]at hd;cases hd
    rw[qr _ _ _ _ hj]at hd;cases hd
    exact⟨e1,by rw[e2];exact jH _⟩
 |_=>exact KZ hf
theorem sG(ok:Ok X k C)(z:Ex)(e:Expr)(hf:frG z=true)(h:chkE k z e=true):PE X e (tDG X.K C z):=by
 obtain⟨x,px,iter,elt,sc,pos,wi,b,rfl,hck,hpi,hfo,hel,hco⟩:=gcomp ok z e hf h;intro pins s τ H Q I w;obtain⟨cl,co⟩:=ok.comp hck I.ok;exact xM ok.calm ok.nd (ok.comp_nE hck) co hpi (fun _ _ _ _=>qz) (hel cl co) hfo pins s τ H Q I (hco τ H Q w)
variable {K:KN} {O₀ O O':List Addr} {H H' H₀:Hp} {σ:Sto} {τ:L2.St}
theorem all_notT:∀ {σ:Sto} {j:Nat} {rows:List (List D)},σ.all notT=true->getS σ j≠some (.ot rows)
 |[],j,rows,_=>fun z=>nomatch z
 |x::r,0,rows,h=>fun z=>by
  have z:x=some (.ot rows):=z;subst z
  simp[notT]at h
 |x::r,j+1,rows,h=>by
  simp only[List.all_cons,KM]at h;exact all_notT (σ:=r) h.2
theorem yc:∀ {σ:Sto} {i j:Nat} {rows:List (List D)},noT σ i=true->j≠i->getS σ j≠some (.ot rows)
 |[],i,j,rows,_,_=>fun z=>nomatch z
 |x::r,0,0,rows,_,n=>absurd rfl n
 |x::r,0,j+1,rows,h,n=>all_notT (σ:=r) h
 |x::r,i+1,0,rows,h,n=>fun z=>by
  have z:x=some (.ot rows):=z;subst z
  simp[noT,notT]at h
 |x::r,i+1,j+1,rows,h,n=>by
  simp only[noT,KM]at h;exact yc (σ:=r) h.2 (by lia)
theorem zA{as bs:List Addr}(h:(HO.lst (as.map V.ref))=HO.lst (bs.map V.ref)):as=bs:=by
 injection h with h
 induction as generalizing bs with
 |nil=>cases bs<;>simp at h;rfl
 |cons a as ih =>
  cases bs with
  |nil=>simp at h
  |cons b bs =>
   simp only[K1,Qj]at h;injection h.1 with e;rw[e,ih h.2]
theorem Good.freshT{a:Addr}{as:List Addr}(g:Good O₀ H₀ O H)(s:jf H H')(h:H a=none/\∀b∈as,H b=none):Good O₀ H₀ (a::as++O) H':=by
 have old:∀b,H b=none->H₀ b=none:=fun b h=>by
  cases q:H₀ b with
  |none=>rfl
  |some o=>rw[g.same b o q]at h;cases h
 refine⟨g.same.trans s,fun b hb=>K8 _ (g.sub b hb),fun b hb=>?_⟩;rcases QA.mp hb with hb|hb
 ·rcases KS.mp hb with rfl|hb
  ·exact .inr (old _ h.1)
  ·exact .inr (old _ (h.2 b hb))
 ·exact g.new b hb
theorem RepS.freshT{a:Addr}{as:List Addr}{rows:List (List D)}{i:Nat}(R:RepS O₀ K O H σ τ)(sub:∀b∈O₀,b∈O)(s:jf H H')(h:H a=none/\∀b∈as,H b=none)(t:OwT K (a::as++O) H' rows a as)(nt:noT σ i=true)(hi:i<τ.length) :
 RepS O₀ K (a::as++O) H' (setS σ i (some (.ot rows))) (τ.set i (some (.ref a))):=by
 have hn:∀b∈a::as,H b=none:=fun b hb=>(KS.mp hb).elim (fun z=>by rw[z];exact h.1) (h.2 b)
 have G:Reps K (a::as++O) H' σ τ:=R.toReps.grow s hn fun b hb=>by
  rcases KS.mp hb with rfl|hb
  ·rw[t.top];exact fun z=>nomatch z
  ·obtain⟨vs,q⟩:=t.rw.isL b hb;rw[q];exact fun z=>nomatch z
 have at_:∀j z,getS (setS σ i (some (.ot rows))) j=some z->(j=i/\z=.ot rows)\/(i≠j/\getS σ j=some z/\(τ.set i (some (.ref a)))[j]?=τ[j]?):=fun j z g=>by
  rw[jj]at g;by_cases hj:i=j/\i<σ.length
  ·rw[if_pos hj]at g;cases g;exact .inl ⟨hj.1.symm,rfl⟩
  ·rw[if_neg hj]at g
   have hij:i≠j:=fun z=>hj ⟨z,by rw[R.len];exact hi⟩
   exact .inr ⟨hij,g,Qe hij⟩
 have own_ne:∀j ds b,getS σ j=some (.ow ds)->τ[j]?=some (some (.ref b))->b≠a/\b ∉ as:=fun j ds b g e=>by
  obtain⟨b',vs,e1,_,e3,_⟩:=R.ow j ds g;rw[e]at e1;cases e1;exact⟨fun z=>(by rw[z,h.1]at e3;cases e3),fun z=>(by rw[h.2 b z]at e3;cases e3)⟩
 refine⟨⟨by rw[ju,Xi];exact R.len,G.own,fun j d g=>?_,fun j ds g=>?_,fun j l ds es hjl g1 g2=>?_,⟨fun j rs g=>?_,fun j l rs qs g1 g2=>?_⟩⟩,fun j ds b g e=>?_,fun j rs b bs g e q=>?_⟩
 ·rcases at_ j _ g with⟨_,z⟩|⟨_,g,e⟩
  ·cases z
  ·obtain⟨v,e1,e2⟩:=G.sh j d g;exact⟨v,e.trans e1,e2⟩
 ·rcases at_ j _ g with⟨_,z⟩|⟨_,g,e⟩
  ·cases z
  ·obtain⟨b,vs,e1,e2⟩:=G.ow j ds g;exact⟨b,vs,e.trans e1,e2⟩
 ·rcases at_ j _ g1 with⟨_,z⟩|⟨_,g1,e1⟩
  ·cases z
  rcases at_ l _ g2 with⟨_,z⟩|⟨_,g2,e2⟩
  ·cases z
  rw[e1,e2];exact G.dj j l ds es hjl g1 g2
 ·rcases at_ j _ g with⟨rfl,z⟩|⟨hij,g,e⟩
  ·cases z;refine⟨a,as,Qq hi,t,fun l ds b g2 e2=>?_⟩;rcases at_ l _ g2 with⟨_,z⟩|⟨_,g2,e⟩
   ·cases z
   ·rw[e]at e2;exact own_ne l ds b g2 e2
  ·exact absurd g (yc nt (Xm hij))
 ·rcases at_ j _ g1 with⟨rfl,z⟩|⟨hij,g1,e⟩
  ·rcases at_ l _ g2 with⟨rfl,z⟩|⟨hij,g2,e⟩
   ·rfl
   ·exact absurd g2 (yc nt (Xm hij))
  ·exact absurd g1 (yc nt (Xm hij))
 ·rcases at_ j _ g with⟨_,z⟩|⟨_,g,e'⟩
  ·cases z
  ·rw[e']at e;exact R.mine j ds b g e
 ·rcases at_ j _ g with⟨rfl,z⟩|⟨hij,g,e'⟩
  ·rw[Qq hi]at e;cases e;rw[t.top]at q;have:=zA (Q5 q);subst this;exact⟨fun z=>R.own _ (sub _ z) h.1,fun b hb z=>R.own _ (sub _ z) (h.2 b hb)⟩
  ·exact absurd g (yc nt (Xm hij))
theorem put_newT{ex:XD->Prop}{Dd:Ends}{i:Nat}{a:Addr}{as:List Addr}{rows:List (List D)}(g:Good O₀ H₀ O H)(R:RepS O₀ K O H σ τ)(s:jf H H')(h:H a=none/\∀b∈as,H b=none)(t:OwT K (a::as++O) H' rows a as)(nt:noT σ i=true)
 (nx:(zE K O₀ H₀ ex Dd O H).nx (setS σ i (some (.ot rows)))):Dd.nx (τ.set i (some (.ref a))) H':=by
 have hn:∀b∈a::as,H b=none:=fun b hb=>(KS.mp hb).elim (fun z=>by rw[z];exact h.1) (h.2 b)
 rcases Qd i τ.length with hi|hi
 ·exact nx _ _ (a::as++O) (g.freshT s h) (k8 s hn) (R.freshT g.sub s h t nt hi)
 ·have e1:setS σ i (some (.ot rows))=σ:=by
   have out:∀ {σ:Sto} {i:Nat} (v:Option Sl),σ.length<=i->setS σ i v=σ:=by
    intro σ
    induction σ with
    |nil=>intro i v _;rfl
    |cons x r ih =>
     intro i v hl
     cases i with
     |zero=>simp at hl
     |succ i=>simp only[setS];rw[ih v (by simpa using hl)]
   exact out _ (by rw[R.len];exact hi)
  have e2:τ.set i (some (.ref a))=τ:=List.set_eq_of_length_le hi;rw[e1]at nx;rw[e2];exact nx _ _ O (g.mono s) (jd s) (R.mono s)
theorem RepS.reT{a:Addr}{as as':List Addr}{rows rows':List (List D)}{i:Nat}(R:RepS O₀ K O H σ τ)(g:getS σ i=some (.ot rows))(e1:τ[i]?=some (some (.ref a)))(t:OwT K O H rows a as)(hS:jf (je H O) (je H' O'))(hK:∀b∈O,b ∉ a::as->H' b=H b/\b∈O')(hO:∀b∈O',H' b≠none)
 (t':OwT K O' H' rows' a as') (hn:∀b∈as',b∈as\/H b=none) (hm:∀b∈as',b ∉ O₀):RepS O₀ K O' H' (setS σ i (some (.ot rows'))) τ:=by
 have hi:i<σ.length:=by
  rw[R.len];rcases Qd i τ.length with q|q
  ·exact q
  ·rw[KT q]at e1;cases e1
 obtain⟨a',as0,e1',t0,d⟩:=R.tt.1 i rows g;rw[e1]at e1';cases e1'
 have eas:as0=as:=by
  have:=t0.top;rw[t.top]at this;exact(zA (Q5 this)).symm
 subst eas
 have at_:∀j z,getS (setS σ i (some (.ot rows'))) j=some z->(j=i/\z=.ot rows')\/(i≠j/\getS σ j=some z):=fun j z g=>by
  rw[jj]at g;by_cases hj:i=j/\i<σ.length
  ·rw[if_pos hj]at g;cases g;exact .inl ⟨hj.1.symm,rfl⟩
  ·rw[if_neg hj]at g;exact .inr ⟨fun z=>hj ⟨z,hi⟩,g⟩
 refine⟨⟨by rw[ju];exact R.len,hO,fun j e gg=>?_,fun j ds gg=>?_,fun j l ds es hjl g1 g2=>?_,⟨fun j rs gg=>?_,fun j l rs qs g1 g2=>?_⟩⟩,fun j ds b gg e=>?_,fun j rs b bs gg e q=>?_⟩
 ·rcases at_ j _ gg with⟨_,z⟩|⟨_,gg⟩
  ·cases z
  ·obtain⟨v,e2,e3⟩:=R.sh j e gg;exact⟨v,e2,Is.mono hS e e3⟩
 ·rcases at_ j _ gg with⟨_,z⟩|⟨_,gg⟩
  ·cases z
  ·obtain⟨b,vs,e2,e3,e4,e5⟩:=R.ow j ds gg;obtain⟨n1,n2⟩:=d j ds b gg e2;obtain⟨k1,k2⟩:=hK b e3 (by simp[n1,n2]);exact⟨b,vs,e2,k2,by rw[k1];exact e4,Iss.mono hS ds e5⟩
 ·rcases at_ j _ g1 with⟨_,z⟩|⟨_,g1⟩
  ·cases z
  rcases at_ l _ g2 with⟨_,z⟩|⟨_,g2⟩
  ·cases z
  exact R.dj j l ds es hjl g1 g2
 ·rcases at_ j _ gg with⟨rfl,z⟩|⟨hij,g'⟩
  ·cases z;refine⟨a,as',e1,t',fun l ds b g2 e2=>?_⟩;rcases at_ l _ g2 with⟨_,z⟩|⟨_,g2⟩
   ·cases z
   ·obtain⟨n1,n2⟩:=d l ds b g2 e2;refine⟨n1,fun z=>?_⟩;rcases hn b z with y|y
    ·exact n2 y
    ·obtain⟨b',vs,e3,_,e4,_⟩:=R.ow l ds g2;rw[e2]at e3;cases e3;rw[y]at e4;cases e4
  ·exact absurd (R.tt.2 i j _ _ g g') hij
 ·rcases at_ j _ g1 with⟨rfl,_⟩|⟨hij,g'⟩
  ·rcases at_ l _ g2 with⟨rfl,_⟩|⟨hij,g'⟩
   ·rfl
   ·exact absurd (R.tt.2 j l _ _ g g') hij
  ·exact absurd (R.tt.2 i j _ _ g g') hij
 ·rcases at_ j _ gg with⟨_,z⟩|⟨_,gg⟩
  ·cases z
  ·exact R.mine j ds b gg e
 ·rcases at_ j _ gg with⟨rfl,_⟩|⟨hij,g'⟩
  ·rw[e1]at e;cases e;rw[t'.top]at q;have:=zA (Q5 q);subst this;exact⟨(R.mineT _ rows a as0 g e1 t.top).1,hm⟩
  ·exact absurd (R.tt.2 i j _ _ g g') hij
theorem Iss.setAt{S:Hp}:∀ {ds:List D} {vs:List V} {i:Nat} {d:D} {v:V},Iss K S ds vs->Is K S d v->Iss K S (ds.set i d) (vs.set i v)
 |[],vs,i,d,v,h,g=>by unfold Iss at h;subst h;simp;unfold Iss;rfl
 |x::ds,vs,i,d,v,h,g=>by
  unfold Iss at h;obtain⟨u,r,rfl,h1,h2⟩:=h
  cases i with
  |zero=>simp only[List.set_cons_zero];unfold Iss;exact⟨v,r,rfl,g,h2⟩
  |succ i=>simp only[List.set_cons_succ];unfold Iss;exact⟨u,_,rfl,h1,h2.setAt g⟩
theorem Rws.get{H:Hp}:∀ {rows:List (List D)} {as:List Addr} {n:Nat} {r:List D},Rws K O H rows as->rows[n]?=some r->∃b vs,as[n]?=some b/\H b=some (.lst vs)/\Iss K (je H O) r vs
 |[],as,n,r,_,e=>by simp at e
 |q::rows,as,n,r,h,e=>by
  obtain⟨b,bs,vs,rfl,h1,h2,h3⟩:=h
  cases n with
  |zero=>simp at e;subst e;exact⟨b,vs,rfl,h1,h2⟩
  |succ n=>exact Rws.get (n:=n) h3 (by simpa using e)
theorem Rws.write{H:Hp}{b:Addr}{r:List D}{ws:List V}(hb:b∈O)(is:Iss K (je H O) r ws):∀ {rows:List (List D)} {as:List Addr} {n:Nat},Rws K O H rows as->as.Nodup->as[n]?=some b->Rws K O (upd H b (.lst ws)) (rows.set n r) as
 |[],as,n,h,_,e=>by cases h;simp at e
 |q::rows,as,n,h,nd,e=>by
  obtain⟨c,bs,vs,rfl,h1,h2,h3⟩:=h;have nd':=Yj.mp nd
  cases n with
  |zero =>
   simp at e;subst e;refine⟨c,bs,ws,rfl,jm ..,by rw[jM hb];exact is,h3.imp (by rw[jM hb];exact jf.refl _) fun x hx us z=>?_⟩
   rw[jh fun y=>nd'.1 (by rw[<- y];exact hx)];exact z
  |succ n =>
   have e':bs[n]?=some b:=by simpa using e
   have ne:c≠b:=fun y=>nd'.1 (by rw[y];exact QD e')
   exact⟨c,bs,vs,rfl,by rw[jh ne];exact h1,by rw[jM hb];exact h2,Rws.write hb is h3 nd'.2 e'⟩
theorem RepS.rowT{a b:Addr}{as:List Addr}{rows:List (List D)}{r:List D}{ws:List V}{i n:Nat}(R:RepS O₀ K O H σ τ)(g:getS σ i=some (.ot rows))(e1:τ[i]?=some (some (.ref a)))(t:OwT K O H rows a as)(hb:as[n]?=some b)(is:Iss K (je H O) r ws) :
 RepS O₀ K O (upd H b (.lst ws)) (setS σ i (some (.ot (rows.set n r)))) τ:=by
 have hm:=QD hb;have hbO:=t.inO.2 b hm
 refine R.reT g e1 t (by rw[jM hbO];exact jf.refl _) (fun c hc n=>⟨jh fun z=>n (by rw[z];exact KR _ hm),hc⟩) (fun c hc=>?_) ⟨?_,t.nd,t.inO,t.rw.write hbO is t.nd.2 hb⟩ (fun c hc=>.inl hc) fun c hc=>(R.mineT i rows a as g e1 t.top).2 c hc
 ·by_cases z:c=b
  ·subst z;rw[jm];exact fun z=>nomatch z
  ·rw[jh z];exact R.own c hc
 ·rw[jh fun z=>t.nd.1 (by rw[z];exact hm)];exact t.top
theorem RepS.shareT{a:Addr}{as:List Addr}{rows:List (List D)}{i:Nat}(R:RepS O₀ K O H σ τ)(g:getS σ i=some (.ot rows))(e1:τ[i]?=some (some (.ref a)))(t:OwT K O H rows a as)(d:∀j ds b,getS σ j=some (.ow ds)->τ[j]?=some (some (.ref b))->b≠a/\b ∉ as) :
 RepS O₀ K (yO O (a::as)) H (setS σ i (some (.sh (qh rows)))) τ:=by
 have old:∀j z,getS (setS σ i (some (.sh (qh rows)))) j=some z->(∀d,z ≠ .sh d)->getS σ j=some z:=fun j z h n=>by
  rw[jj]at h;by_cases hj:i=j/\i<σ.length
  ·rw[if_pos hj]at h;cases h;exact absurd rfl (n _)
  ·rw[if_neg hj]at h;exact h
 exact⟨R.toReps.shareT g e1 t d,fun j ds b h e=>R.mine j ds b (old j _ h (fun _ z=>nomatch z)) e,R.mineT.step (fun j rs h=>⟨old j _ h (fun _ z=>nomatch z),rfl⟩) fun _ _ _ _ _=>rfl⟩
theorem Good.shareT{as:List Addr}(g:Good O₀ H₀ O H)(hn:∀b∈as,b ∉ O₀):Good O₀ H₀ (yO O as) H :=
 ⟨g.same,fun b hb=>jN.mpr ⟨g.sub b hb,fun z=>hn b z hb⟩,fun b hb=>g.new b (jN.mp hb).1⟩
theorem RepS.halfT{a:Addr}{as:List Addr}{rows:List (List D)}{i:Nat}(R:RepS O₀ K O H σ τ)(g:getS σ i=some (.ot rows))(e1:τ[i]?=some (some (.ref a)))(t:OwT K O H rows a as)(d:∀j ds b,getS σ j=some (.ow ds)->τ[j]?=some (some (.ref b))->b≠a/\b ∉ as) :
 RepS O₀ K (yO O as) H (setS σ i (some (.ow (rows.map .lst)))) τ:=by
 have lessS:jf (je H O) (je H (yO O as)):=jC fun b hb=>(jN.mp hb).1
 have hi:i<σ.length:=by
  rw[R.len];rcases Qd i τ.length with q|q
  ·exact q
  ·rw[KT q]at e1;cases e1
 have at_:∀j z,getS (setS σ i (some (.ow (rows.map .lst)))) j=some z->(j=i/\z=.ow (rows.map .lst))\/(i≠j/\getS σ j=some z):=fun j z g=>by
  rw[jj]at g;by_cases hj:i=j/\i<σ.length
  ·rw[if_pos hj]at g;cases g;exact .inl ⟨hj.1.symm,rfl⟩
  ·rw[if_neg hj]at g;exact .inr ⟨fun z=>hj ⟨z,hi⟩,g⟩
 have aO:a∈yO O as:=jN.mpr ⟨t.inO.1,t.nd.1⟩;refine⟨⟨by rw[ju];exact R.len,fun b hb=>R.own b (jN.mp hb).1,fun j e h=>?_,fun j es h=>?_,fun j l es fs hjl g1 g2=>?_,⟨fun j rs h=>?_,fun j l rs qs g1 g2=>?_⟩⟩,fun j ds b h e=>?_,fun j rs b bs h e q=>?_⟩
 ·rcases at_ j _ h with⟨_,z⟩|⟨_,h⟩
  ·cases z
  ·obtain⟨v,h1,h2⟩:=R.sh j e h;exact⟨v,h1,Is.mono lessS e h2⟩
 ·rcases at_ j _ h with⟨rfl,z⟩|⟨_,h⟩
  ·cases z;exact⟨a,_,e1,aO,t.top,t.rw.iss lessS fun b hb z=>(jN.mp z).2 hb⟩
  ·obtain⟨b,ws,h1,h2,h3,h4⟩:=R.ow j es h;exact⟨b,ws,h1,jN.mpr ⟨h2,(d j es b h h1).2⟩,h3,Iss.mono lessS es h4⟩
 ·rcases at_ j _ g1 with⟨rfl,z⟩|⟨_,g1'⟩
  ·rcases at_ l _ g2 with⟨rfl,z⟩|⟨_,g2⟩
   ·exact absurd rfl hjl
   ·intro q;rw[e1]at q;exact(d l fs a g2 q.symm).1 rfl
  ·rcases at_ l _ g2 with⟨rfl,z⟩|⟨_,g2⟩
   ·intro q;rw[e1]at q;exact(d j es a g1' q).1 rfl
   ·exact R.dj j l es fs hjl g1' g2
 ·rcases at_ j _ h with⟨_,z⟩|⟨hij,h⟩
  ·cases z
  ·exact absurd (R.tt.2 i j _ _ g h) hij
 ·rcases at_ j _ g1 with⟨_,z⟩|⟨hij,h⟩
  ·cases z
  ·exact absurd (R.tt.2 i j _ _ g h) hij
 ·rcases at_ j _ h with⟨rfl,z⟩|⟨_,h⟩
  ·rw[e1]at e;cases e;exact(R.mineT _ rows a as g e1 t.top).1
  ·exact R.mine j ds b h e
 ·rcases at_ j _ h with⟨_,z⟩|⟨hij,h⟩
  ·cases z
  ·exact absurd (R.tt.2 i j _ _ g h) hij
theorem Reps.ofGet{σ':Sto}(R:Reps K O H σ τ)(hl:σ'.length=σ.length)(h:∀j z,getS σ' j=some z->getS σ j=some z):Reps K O H σ' τ where
 len:=by rw[hl];exact R.len
 own:=R.own
 sh:=fun j d g=>R.sh j d (h j _ g)
 ow:=fun j ds g=>R.ow j ds (h j _ g)
 dj:=fun j l ds es n g1 g2=>R.dj j l ds es n (h j _ g1) (h l _ g2)
 tt:=R.tt.step (fun j rows g=>⟨h j _ g,rfl⟩) (fun _ _ _ _ _ _ _ t=>t) fun _ _ _ _ j ds b _ _ g q=>.inl ⟨ds,h j _ g,q⟩
theorem RepS.ofGet{σ':Sto}(R:RepS O₀ K O H σ τ)(hl:σ'.length=σ.length)(h:∀j z,getS σ' j=some z->getS σ j=some z):RepS O₀ K O H σ' τ :=
 ⟨R.toReps.ofGet hl h,fun j ds a g e=>R.mine j ds a (h j _ g) e,R.mineT.step (fun j rows g=>⟨h j _ g,rfl⟩) fun _ _ _ _ _=>rfl⟩
theorem RepS.lose(R:RepS O₀ K O H σ τ)(j:Nat)(v:Option V):RepS O₀ K O H (setS σ j none) (τ.set j v):=by
 have at_:∀i z,getS (setS σ j none) i=some z->getS σ i=some z/\∀w,τ[i]?=some w->(τ.set j v)[i]?=τ[i]?:=fun i z g=>by
  rw[jj]at g;by_cases hj:j=i/\j<σ.length
  ·rw[if_pos hj]at g;cases g
  ·rw[if_neg hj]at g;refine⟨g,fun w e=>?_⟩;by_cases hij:j=i
   ·subst hij
    have hl:j<τ.length:=by
     rcases Qd j τ.length with q|q
     ·exact q
     ·rw[KT q]at e;cases e
    exact absurd ⟨rfl,by rw[R.len];exact hl⟩ hj
   ·exact Qe hij
 have back:∀i z w,getS (setS σ j none) i=some z->(τ.set j v)[i]?=some w->τ[i]?=some w:=fun i z w g e=>by
  rcases Qd i τ.length with q|q
  ·obtain⟨_,k⟩:=at_ i z g;have:=k _ (KU q);rw[this]at e;exact e
  ·rw[KT (by rw[Xi];exact q)]at e;cases e
 refine⟨⟨by rw[ju,Xi];exact R.len,R.own,fun i d g=>?_,fun i ds g=>?_,fun i l ds es n g1 g2=>?_,⟨fun i rows g=>?_,fun i l rs qs g1 g2=>R.tt.2 i l rs qs (at_ i _ g1).1 (at_ l _ g2).1⟩⟩,fun i ds a g e=>R.mine i ds a (at_ i _ g).1 (back i _ _ g e),fun i rows a as g e t=>R.mineT i rows a as (at_ i _ g).1 (back i _ _ g e) t⟩
 ·obtain⟨u,e1,e2⟩:=R.sh i d (at_ i _ g).1;exact⟨u,((at_ i _ g).2 _ e1).trans e1,e2⟩
 ·obtain⟨a,vs,e1,e2⟩:=R.ow i ds (at_ i _ g).1;exact⟨a,vs,((at_ i _ g).2 _ e1).trans e1,e2⟩
 ·obtain⟨a,vs,e1,_⟩:=R.ow i ds (at_ i _ g1).1;obtain⟨b,ws,e2,_⟩:=R.ow l es (at_ l _ g2).1;rw[(at_ i _ g1).2 _ e1,(at_ l _ g2).2 _ e2];exact R.dj i l ds es n (at_ i _ g1).1 (at_ l _ g2).1
 ·obtain⟨a,as,e1,t,d⟩:=R.tt.1 i rows (at_ i _ g).1;exact⟨a,as,((at_ i _ g).2 _ e1).trans e1,t,fun l ds b g2 e2=>d l ds b (at_ l _ g2).1 (back l _ _ g2 e2)⟩
noncomputable def xK(σ:Sto)(i j:Nat)(rows:List (List D)):Sto:=setS (setS σ i (some (.ot rows))) j none
structure RowAt (K:KN) (O₀:List Addr) (H₀:Hp) (σ:Sto) (i j l:Nat) (a:Addr) (as:List Addr) (rows:List (List D)) (O:List Addr) (H:Hp) (τ:L2.St):Prop where
 g:Good O₀ H₀ O H
 R:RepS O₀ K O H (xK σ i j rows) τ
 ia:τ[i]?=some (some (.ref a))
 top:H a=some (.lst (as.map V.ref))
 row:∃b,as[l]?=some b/\τ[j]?=some (some (.ref b))
theorem zm{i j:Nat}{rows:List (List D)}(hij:i≠j)(hi:i<σ.length):getS (xK σ i j rows) i=some (.ot rows):=by
 unfold xK;rw[jj,if_neg fun z=>hij z.1.symm,jj,if_pos ⟨rfl,hi⟩]
theorem RowAt.get{i j l:Nat}{a:Addr}{as:List Addr}{rows:List (List D)}{row:List D}(A:RowAt K O₀ H₀ σ i j l a as rows O H τ)(hij:i≠j)(hi:i<σ.length)(hr:rows[l]?=some row) :
 ∃b vs,OwT K O H rows a as/\as[l]?=some b/\τ[j]?=some (some (.ref b))/\H b=some (.lst vs)/\Iss K (je H O) row vs/\b∈O:=by
 obtain⟨a',as',e1,t,d⟩:=A.R.tt.1 i rows (zm hij hi);rw[A.ia]at e1;cases e1
 have eas:as'=as:=by
  have:=t.top;rw[A.top]at this;exact(zA (Q5 this)).symm
 subst eas;obtain⟨b,hb,ej⟩:=A.row;obtain⟨b',vs,hb',e3,e4⟩:=t.rw.get hr;rw[hb]at hb';cases hb';exact⟨b,vs,t,hb,ej,e3,e4,t.inO.2 b (QD hb)⟩
theorem RowAt.mono{i j l:Nat}{a:Addr}{as:List Addr}{rows:List (List D)}(A:RowAt K O₀ H₀ σ i j l a as rows O H τ)(s:jf H H'):RowAt K O₀ H₀ σ i j l a as rows O H' τ:=⟨A.g.mono s,A.R.mono s,A.ia,s _ _ A.top,A.row⟩
theorem RowAt.rest{i j l:Nat}{a:Addr}{as:List Addr}{rows:List (List D)}(A:RowAt K O₀ H₀ σ i j l a as rows O H τ)(hij:i≠j):Reps K O H (setS (setS σ i none) j none) τ:=by
 refine A.R.toReps.ofGet (by unfold xK;simp only[ju]) fun m z g=>?_
 unfold xK;rw[jj]at g ⊢;simp only[ju]at g ⊢;split at g
 ·cases g
 ·next h1 =>
  rw[if_neg h1];rw[jj]at g ⊢;split at g
  ·cases g
  ·next h2=>rw[if_neg h2];exact g
theorem RowAt.seen{i j l:Nat}{rows:List (List D)}{row:List D}{vs:List V}{a b:Addr}{as:List Addr}(A:RowAt K O₀ H₀ σ i j l a as rows O H τ)(hij:i≠j)(hi:i<σ.length)(t:OwT K O H rows a as)(hb:as[l]?=some b)(ej:τ[j]?=some (some (.ref b)))(e3:H b=some (.lst vs))(e4:Iss K (je H O) row vs) :
 Reps K (less O b) H (setS (setS σ i none) j (some (.sh (.lst row)))) τ:=by
 have lessS:jf (je H O) (je H (less O b)):=jC fun c hc=>(jX.mp hc).1
 have at_:∀m z,getS (setS (setS σ i none) j (some (.sh (.lst row)))) m=some z->(m=j/\z=.sh (.lst row))\/(m≠i/\getS (xK σ i j rows) m=some z):=fun m z g=>by
  rw[jj]at g;simp only[ju]at g;split at g
  ·next h=>cases g;exact .inl ⟨h.1.symm,rfl⟩
  ·next h1 =>
   rw[jj]at g;split at g
   ·cases g
   ·next h2 =>
    have hm:m≠i:=fun z=>h2 ⟨z.symm,by rw[<- z]at hi;rw[z]at hi;exact hi⟩
    refine .inr ⟨hm,?_⟩;unfold xK;rw[jj];simp only[ju];rw[if_neg h1,jj,if_neg fun z=>hm z.1.symm];exact g
 obtain⟨a',as',e1',t',d⟩:=A.R.tt.1 i rows (zm hij hi);rw[A.ia]at e1';cases e1'
 have eas:as'=as:=by
  have:=t'.top;rw[t.top]at this;exact(zA (Q5 this)).symm
 subst eas;refine⟨by simp only[ju];have:=A.R.len;unfold xK at this;simp only[ju]at this;exact this,fun c hc=>A.R.own c (jX.mp hc).1,fun m d' g=>?_,fun m ds g=>?_,fun m n ds es hmn g1 g2=>?_,⟨fun m rs g=>?_,fun m n rs qs g1 g2=>?_⟩⟩
 ·rcases at_ m _ g with⟨rfl,z⟩|⟨_,g⟩
  ·cases z;refine⟨.ref b,ej,qg (SqL.of ?_) (Iss.mono lessS row e4)⟩;rw[j5 fun z=>(jX.mp z).2 rfl];exact e3
  ·obtain⟨v,q1,q2⟩:=A.R.sh m d' g;exact⟨v,q1,Is.mono lessS d' q2⟩
 ·rcases at_ m _ g with⟨_,z⟩|⟨_,g⟩
  ·cases z
  ·obtain⟨c,ws,q1,q2,q3,q4⟩:=A.R.ow m ds g;refine⟨c,ws,q1,jX.mpr ⟨q2,fun z=>(d m ds c g q1).2 ?_⟩,q3,Iss.mono lessS ds q4⟩;rw[z];exact QD hb
 ·rcases at_ m _ g1 with⟨_,z⟩|⟨_,g1⟩
  ·cases z
  rcases at_ n _ g2 with⟨_,z⟩|⟨_,g2⟩
  ·cases z
  exact A.R.dj m n ds es hmn g1 g2
 ·rcases at_ m _ g with⟨_,z⟩|⟨hm,g⟩
  ·cases z
  ·exact absurd (A.R.tt.2 m i _ _ g (zm hij hi)) hm
 ·rcases at_ m _ g1 with⟨_,z⟩|⟨hm,g⟩
  ·cases z
  ·exact absurd (A.R.tt.2 m i _ _ g (zm hij hi)) hm
theorem RowAt.write{i j l:Nat}{rows:List (List D)}{r:List D}{ws:List V}{a b:Addr}{as:List Addr}(A:RowAt K O₀ H₀ σ i j l a as rows O H τ)(hij:i≠j)(hi:i<σ.length)(t:OwT K O H rows a as)(hb:as[l]?=some b)(ej:τ[j]?=some (some (.ref b)))(is:Iss K (je H O) r ws) :
 RowAt K O₀ H₀ σ i j l a as (rows.set l r) O (upd H b (.lst ws)) τ:=by
 have hm:=QD hb;have gi:=zm (rows:=rows) hij hi;have e1:=A.ia;have hn:=(A.R.mineT i rows a as gi e1 t.top).2 b hm;refine⟨A.g.write (t.inO.2 b hm) hn,(A.R.rowT gi e1 t hb is).ofGet (by unfold xK;simp only[ju]) fun m z g=>?_,A.ia,?_,b,hb,ej⟩
 ·unfold xK at *;rw[jj]at g;rw[jj];simp only[ju]at g ⊢;by_cases him:i=m/\i<σ.length
  ·rw[if_pos him];rw[if_neg fun z=>hij (him.1.trans z.1.symm),jj,if_pos him]at g;exact g
  ·rw[if_neg him,jj];simp only[ju];split at g
   ·cases g
   ·next h1 =>
    rw[if_neg h1];rw[jj,if_neg him]at g;rw[jj,if_neg him];exact g
 ·rw[jh fun z=>t.nd.1 (by rw[z];exact hm)];exact t.top
noncomputable def tR1(K:KN)(C:Cfg)(O₀:List Addr)(H₀:Hp)(i j:Nat)(r:RSt):TS:=fun D τ H=>∃σ l a as rows row O,(i≠j/\i<σ.length)/\RowAt K O₀ H₀ σ i j l a as rows O H τ/\rows[l]?=some row /\
 wpR1 C j (setS σ i none) r row fun row'=>∀H',jf (je H O) (je H' O)->RowAt K O₀ H₀ σ i j l a as (rows.set l row') O H' τ->D.nx τ H'
noncomputable def tR(K:KN)(C:Cfg)(O₀:List Addr)(H₀:Hp)(i j:Nat)(rs:List RSt):TS:=fun D τ H=>∃σ l a as rows row O,(i≠j/\i<σ.length)/\RowAt K O₀ H₀ σ i j l a as rows O H τ/\rows[l]?=some row /\
 wpR C j (setS σ i none) rs row fun row'=>∀H',jf (je H O) (je H' O)->RowAt K O₀ H₀ σ i j l a as (rows.set l row') O H' τ->D.nx τ H'
theorem sR_app(ok:OkS X k C){i j:Nat}{v:Ex}{st:Stmt}(h:uD k j (.app v) st=true):PS X st (tR1 X.K C O₀ H₀ i j (.app v)):=by
 unfold uD at h;replace h:=jb h;obtain⟨z,hz,h⟩:=h;obtain⟨pos,rfl⟩:=JV hz;replace h:=jb h;obtain⟨⟨fe,xs,ks,cp⟩,hc,h⟩:=h;have ee:=xt hc;subst ee;simp only[KM,decide_eq_true_eq,Xd]at h;obtain⟨⟨⟨hk,hl1⟩,hat⟩,he⟩:=h;replace hat:=jb hat;obtain⟨⟨ob,at',ap⟩,hy,hat⟩:=hat;have ee:=xq hy;subst ee;simp only[KM,decide_eq_true_eq]at hat;obtain⟨⟨ha1,ha2⟩,ha3⟩:=hat;subst ha1 hk;replace ha2:=jb ha2;obtain⟨x,hx,hloc⟩:=ha2;obtain⟨q,rfl⟩:=jn hx;obtain⟨y,rfl⟩:=kJ hl1;have he:chkE k v y=true:=he;obtain⟨h1,h2,h3,h4⟩:=ok.vis hloc;refine PS.imp (fun D τ H w=>?_) (zO (pe_bm X0 Zk PySem.F.type_list_append uh (j9 h1 (qd h2) h3 h4) (js (sB ok.toOk v y he).1 jU (jz he _ _)) rfl (by rw[jz he];rfl) ha3 (jz he _ _) rfl));obtain⟨σ,l,a,as,rows,row,O,⟨hij,hi⟩,A,hr,hlim,w⟩:=w;obtain⟨b,vs,t,hb,ej,e3,e4,hbO⟩:=A.get hij hi hr;refine⟨.ref b,ej,.inl ⟨rfl,vs,SqL.of e3⟩,_,O,A.rest hij,ja v (fun d wd u H1 s1 i1=>?_) w⟩;have hl:=e4.length;refine⟨b,vs,u,rfl,rfl,s1 _ _ e3,by rw[Xv];unfold lim at hlim;lia,?_⟩;refine wd _ ?_ ((A.mono s1).write hij hi (t.mono s1) hb ej ((Iss.mono (jd s1) row e4).append (by unfold Iss;exact⟨u,[],rfl,i1,by unfold Iss;rfl⟩)));rw[jM hbO];exact jd s1
theorem sR_sto(ok:OkS X k C){i j:Nat}{e v:Ex}{st:Stmt}(h:uD k j (.sto none e v) st=true):PS X st (tR1 X.K C O₀ H₀ i j (.sto none e v)):=by
 unfold uD at h;replace h:=jb h;obtain⟨⟨ts,vE⟩,ha,h⟩:=h;obtain⟨pos,rfl⟩:=xN ha;replace h:=jb h;obtain⟨t,ht,h⟩:=h;have et:=zx ht;simp only at et;subst et;replace h:=jb h;obtain⟨⟨ob,ix⟩,hx,h⟩:=h;obtain⟨p,rfl⟩:=yl hx;simp only[KM,Ql]at h;obtain⟨⟨⟨⟨hsl,hcm⟩,hloc⟩,he⟩,hv⟩:=h;replace hloc:=jb hloc;obtain⟨x,hn,hloc⟩:=hloc;obtain⟨q,rfl⟩:=jn hn;obtain⟨h1,h2,h3,h4⟩:=ok.vis hloc
 have hasg:∀u,assign (.Subscript (.Name x q) ix p) X.env u=(do
  let ov <- Zo [u] (eval (.Name x q) X.env)
  let iv <- Zo [u,ov] (eval ix X.env)
  standAt p
  Zo [u,ov,iv] (setItem ov iv u)
  release [u,ov,iv] []):=by
  intro u
  cases ix<;>first|rfl|exact KZ hsl
 refine PS.imp (fun D τ H w=>?_) (Ks (sB ok.toOk v vE hv).1 (pg_sub (j9 h1 (qd h2) h3 h4) (sB ok.toOk e ix he).1 set_list hasg) (by unfold swapsWithSole;exact u7 hv hcm _ _ _) (by cases vE<;>rfl) rfl);obtain⟨σ,l,a,as,rows,row,O,⟨hij,hi⟩,A,hr,w⟩:=w;obtain⟨b,vs,t,hb,ej,e3,e4,hbO⟩:=A.get hij hi hr;refine⟨_,_,A.seen hij hi t hb ej e3 e4,ja v (fun d wd u H1 s1 i1=>?_) w⟩;have i1:=nol_is (s1 _ _ e3) d wd.1 i1;refine⟨.ref b,ej,_,O,(A.mono s1).rest hij,ja e (fun y wy yv H2 s2 i2=>?_) wd.2⟩
 cases y with
 |int n =>
  cases jl i2;obtain⟨⟨n0,n1⟩,q⟩:=wy;have s12:=s1.trans s2;have hl:=e4.length;refine⟨b,vs,n,n.toNat,rfl,rfl,s12 _ _ e3,by unfold ixN;rw[if_pos n0,if_pos (by lia)],?_⟩;have i3:Iss X.K (je H2 O) (row.set n.toNat d) (vs.set n.toNat u):=(Iss.mono (jd s12) row e4).setAt (Is.mono (jd s2) d i1);refine q _ ?_ ((A.mono s12).write hij hi (t.mono s12) hb ej i3);rw[jM hbO]
  exact jd s12
 |_=>exact wy.elim
theorem sR1(ok:OkS X k C){i j:Nat}(r:RSt)(st:Stmt)(h:uD k j r st=true):PS X st (tR1 X.K C O₀ H₀ i j r):=by
 cases r with
 |app v=>exact sR_app ok h
 |sto c e v =>
  cases c with
  |none=>exact sR_sto ok h
  |some c =>
   unfold uD at h;replace h:=jb h;obtain⟨⟨t,xs,ys⟩,hz,h⟩:=h;obtain⟨pos,rfl⟩:=asIfS_ hz;simp only[KM,Xd]at h;obtain⟨⟨h0,hc⟩,h⟩:=h;subst h0;replace h:=jb h;obtain⟨s,hs,h⟩:=h;have es:=sole1_ hs;subst es;refine PS.imp (fun D τ H w=>?_) (ps_if (sB ok.toOk c t hc).2 (pss_one (sR_sto (O₀:=O₀) (H₀:=H₀) (i:=i) ok (e:=e) (v:=v) (show uD k j (.sto none e v) s=true from h))) j7);obtain⟨σ,l,a,as,rows,row,O,⟨hij,hi⟩,A,hr,w⟩:=w;refine⟨_,O,A.rest hij,ja c (fun d=>jZ fun b wb H1 s1=>?_) w⟩
   cases b with
   |true=>exact⟨σ,l,a,as,rows,row,O,⟨hij,hi⟩,A.mono s1,hr,uq (s:=.sto none e v) (fun row' q H' s' A'=>q H' ((jd s1).trans s') A') wb⟩
   |false =>
    have hset:rows.set l row=rows:=by
     apply List.ext_getElem?;intro m;rw[List.getElem?_set];split
     ·next e=>subst e;split
              ·exact hr.symm
              ·next hh=>rw[KT (by lia)]
     ·rfl
    exact wb H1 (jd s1) (by rw[hset];exact A.mono s1)
theorem sRs(ok:OkS X k C){i j:Nat}:∀(rs:List RSt) (ss:List Stmt),chkR k j rs ss=true->PSs X ss (tR X.K C O₀ H₀ i j rs)
 |[],ss,h=>by
  have e:ss=[]:=by rw[chkR]at h;simpa using h
  subst e;refine PSs.imp (fun D τ H w=>?_) j7;obtain⟨σ,l,a,as,rows,row,O,hh,A,hr,w⟩:=w
  have hset:rows.set l row=rows:=by
   apply List.ext_getElem?;intro m;rw[List.getElem?_set];split
   ·next e=>subst e;split
            ·exact hr.symm
            ·next hh=>rw[KT (by lia)]
   ·rfl
  exact w H (jf.refl _) (by rw[hset];exact A)
 |r::rs,ss,h=>by
  rw[chkR]at h
  cases ss with
  |nil=>simp at h
  |cons s ss =>
   simp only[KM,QL,QZ]at h;refine PSs.imp (fun D τ H w=>?_) (jr (sR1 (i:=i) (O₀:=O₀) (H₀:=H₀) ok r s h.1.2) (sRs (i:=i) ok rs ss h.2));obtain⟨σ,l,a,as,rows,row,O,hh,A,hr,w⟩:=w;refine⟨σ,l,a,as,rows,row,O,hh,A,hr,uq (fun row' q H' s' A'=>?_) w⟩;have hl:l<rows.length:=(Q4.mp hr).1;refine⟨σ,l,a,as,rows.set l row',row',O,hh,A',by rw[Qq hl],zr rs (fun row2 q2 H2 s2 A2=>q2 H2 (s'.trans s2) ?_) q⟩;rw[List.set_set]at A2;exact A2
theorem forT_turns{ex:XD->Prop}{i j:Nat}{ss:List RSt}{a:Addr}{as:List Addr}{rows:List (List D)}{Dd:Ends}(hij:i≠j)(hjl:j<σ.length)(g:Good O₀ H₀ O H)(R:RepS O₀ K O H σ τ)(gs:getS σ i=some (.ot rows))(ea:τ[i]?=some (some (.ref a)))(t:OwT K O H rows a as)
 (w:zj (wpR C j (setS σ i none) ss) rows fun rows'=>(zE K O₀ H₀ ex Dd O H).nx (setS (setS σ i (some (.ot rows'))) j none)) :
 ∃W:Nat->Nat->L2.St->Hp->Prop,(∃m,W 0 m τ H)/\∀l m τ H,W l m τ H->((Itl K a).stop l H/\Dd.nx τ H)\/((Itl K a).go l H/\∃N:L2.St->Hp->Prop,(∀τ' H',N τ' H'->∃m',m'<m/\W (l+1) m' τ' H') /\
  ∀x H',(Itl K a).yld l H x H'->k7 j x τ H' fun τ2 H2=>tR K C O₀ H₀ i j ss { Dd with nx:=N,ct:=N,bk:=Dd.nx } τ2 H2):=by
 have hi:i<σ.length:=by
  rw[R.len];rcases Qd i τ.length with q|q
  ·exact q
  ·rw[KT q]at ea;cases ea
 have hlen:=t.rw.len
 have R0:RepS O₀ K O H (xK σ i j rows) τ:=by
  refine R.ofGet (by unfold xK;simp only[ju]) fun m z q=>?_
  unfold xK at q;rw[jj]at q;split at q
  ·cases q
  ·rw[jj]at q;split at q
   ·next h=>rw[<- h.1,gs];exact q
   ·exact q
 let P:Nat->L2.St->Hp->Prop:=fun l τ' H'=>∃dn rest,dn.length=l/\dn.length+rest.length=as.length/\Good O₀ H₀ O H'/\jf (je H O) (je H' O)/\RepS O₀ K O H' (xK σ i j (dn++rest)) τ'/\τ'[i]?=some (some (.ref a))/\H' a=some (.lst (as.map V.ref)) /\
  zj (wpR C j (setS σ i none) ss) rest fun rest'=>(zE K O₀ H₀ ex Dd O H).nx (setS (setS σ i (some (.ot (dn++rest')))) j none)
 refine⟨fun l m τ' H'=>m=as.length-l/\l<=as.length/\P l τ' H',⟨_,rfl,XB _,[],rows,rfl,by simp[hlen],g,jf.refl _,R0,ea,t.top,w⟩,?_⟩;rintro l m τ1 H1 ⟨rfl,hl,dn,rest,hd,hsum,g1,s1,R1,ea1,top1,w1⟩
 cases rest with
 |nil =>
  refine .inl ⟨⟨as.map V.ref,SqL.of top1,by rw[KP];simp at hsum;lia⟩,?_⟩;rw[Qu]at R1;have w1:(zE K O₀ H₀ ex Dd O H).nx (setS (setS σ i (some (.ot (dn ++ [])))) j none):=w1;rw[Qu]at w1
  exact w1 τ1 H1 O g1 s1 R1
 |cons row rest =>
  have hlt:l<as.length:=by simp only[Xc]at hsum;lia
  refine .inr ⟨⟨as.map V.ref,.ref as[l],SqL.of top1,by rw[Qg,KU hlt];rfl⟩,fun τ' H'=>l+1<=as.length/\P (l+1) τ' H',fun τ' H' q=>⟨as.length-(l+1),by lia,rfl,q.1,q.2⟩,fun x H2 y=>?_⟩;obtain⟨e2,y⟩:=y;subst e2;have hx:=y _ (SqL.of top1);rw[Qg,KU hlt]at hx;cases hx
  have hrow:(dn++row::rest)[l]?=some row:=by rw[Qs (by lia),hd,Za];rfl
  have R2:=R1.lose j (some (.ref as[l]))
  have R3:RepS O₀ K O H2 (xK σ i j (dn++row::rest)) (τ1.set j (some (.ref as[l]))):=by
   refine R2.ofGet (by unfold xK;simp only[ju]) fun m z q=>?_
   rw[jj];split
   ·next h =>
    unfold xK at q;rw[jj]at q;unfold xK at h;simp only[ju]at h q;rw[if_pos h]at q;exact q
   ·exact q
  have ei:(τ1.set j (some (.ref as[l])))[i]?=some (some (.ref a)):=by rw[Qe (Xm hij)];exact ea1
  have hj:j<τ1.length:=by
   have:=R1.len;unfold xK at this;simp only[ju]at this;lia
  refine⟨σ,l,a,as,_,row,O,⟨hij,hi⟩,⟨g1,R3,ei,top1,as[l],KU hlt,Qq hj⟩,hrow,zr ss (fun row' q H' s' A'=>⟨hlt,dn ++ [row'],rest,by simp[hd],by simp only[K9,Xc,XG]at hsum ⊢;lia,A'.g,s1.trans s',?_,ei,A'.top,by simpa using q⟩) w1⟩
  have e:(dn++row::rest).set l row'=dn ++ [row']++rest:=by rw[List.set_append_right _ _ (by lia),hd,Za];simp
  have:=A'.R;rw[e]at this;exact this
end
end Z
namespace Z
open PySem PySem.Spec PySem.Calls PyProof.Rows PySem.W L2
noncomputable def exAt(D:Addr)(σ:L2.St)(H:Hp):Prop:=∃ea oe u,σ[0]?=some (some (.ref ea))/\H ea=some (.frz oe u)/\oe.cls=.ref D
noncomputable def tIx(D:Addr)(b:Bool):TE:=fun σ H Q=>exAt D σ H/\Q (.bl b) H
noncomputable def isiOk(e:Expr)(c:Str):Bool:=(kc e).any fun z=>decide (z.1=("isinstance":Str))&&decide (z.2.1.length=2)&&decide (jo (z.2.1.getD 0 e)=some ("_law_e":Str))&&decide (jo (z.2.1.getD 1 e)=some c)
theorem isiOk_{e:Expr}{c:Str}(h:isiOk e c=true):∃q qe qc p,e=.Call (.Name "isinstance" q) [.Name "_law_e" qe,.Name c qc] [] p:=by
 unfold isiOk at h;obtain⟨⟨x,xs,pos⟩,hx,h⟩:=jb h;obtain⟨q,rfl⟩:=jL hx;simp only[KM,decide_eq_true_eq]at h;obtain⟨⟨⟨h1,h2⟩,h3⟩,h4⟩:=h;subst h1;obtain⟨a,b,rfl⟩:=qb h2;obtain⟨qe,rfl⟩:=jn (show jo a=_ from h3);obtain⟨qc,rfl⟩:=jn (show jo b=_ from h4);exact⟨q,qe,qc,pos,rfl⟩
noncomputable def ze:List Str->List Expr->Bool
 |[],es=>es.isEmpty
 |c::cs,es=>!es.isEmpty&&isiOk (es.getD 0 (.Name "" ⟨0,0,0,0⟩)) c&&ze cs (es.drop 1)
noncomputable def flagsOk(cs:List Str)(e:Expr):Bool:=(Jf e).any fun es=>ze cs es
noncomputable def setOk(s:Stmt)(p:Expr->Bool):Bool:=(yo s).any fun z=>(uG z.1).any fun t=>decide (jo t=some ("_law_flags":Str))&&p z.2
noncomputable def moreOk(cs:List Str)(e:Expr):Bool:=(asBin e).any fun z=>decide (z.2.1=.Add)&&decide (jo z.1=some ("_law_flags":Str))&&flagsOk cs z.2.2
theorem setOk_{s:Stmt}{p:Expr->Bool}(h:setOk s p=true):∃q v pos,s=.Assign [.Name "_law_flags" q] v pos/\p v=true:=by
 unfold setOk at h;replace h:=jb h;obtain⟨⟨ts,v⟩,ha,h⟩:=h;obtain⟨pos,rfl⟩:=xN ha;replace h:=jb h;obtain⟨t,ht,h⟩:=h;have et:=zx ht;simp only at et;subst et;simp only[KM,decide_eq_true_eq]at h;obtain⟨q,rfl⟩:=jn h.1;exact⟨q,v,pos,rfl,h.2⟩
structure AX (X:Cx):Prop where
 n0:X.N[0]?=some ("_law_e":Str)
 n1:X.N[1]?=some ("_law_flags":Str)
 nd:X.N.Nodup
 l0:X.env.scope.names.lookup ("_law_e":Str)=some .local
 l1:X.env.scope.names.lookup ("_law_flags":Str)=some .local
 gl:∀c∈("isinstance":Str)::("TrueError":Str)::("ValueError":Str)::names12,Gl X c
 fn:∀x,X.fn x=true
section
variable {X:Cx} {D:Addr} {y:Str}
theorem vH(e:ExcIn X.K D):kU X (.builtin "isinstance") (fun vs H Q=>∃ea oe u cv cu b,vs=[.ref ea,cv]/\H ea=some (.frz oe u)/\oe.cls=.ref D/\(∀u',jV cv u'->u'=cu)/\kitOne X.K (.ref D) cu=some b/\Q (.bl b) H):=by
 rintro pins s τ H vs us Q I r ⟨ea,oe,u,cv,cu,b,rfl,he,hc,hr,hk,q⟩;obtain⟨u1,u2,rfl,r1,r2⟩:=vals2 r;cases hr u2 r2;cases (show u1=Xa ea from r1);have ob:=I.hok ea _ he
 exact Ym (kitx_exc e) I.kIn ⟨oe,ob.1,hc⟩ hk (fun z=>nomatch z) fun tk=>⟨.bl b,H,I.tok tk,rfl,q⟩
theorem pe_isx(a:AX X)(F:AloneF X.K X.mg y D){c:Str}(hc:c∈names12){q qe qc p:Pos}:PE X (.Call (.Name "isinstance" q) [.Name "_law_e" qe,.Name c qc] [] p) (tIx D (decide (c=y))):=by
 obtain⟨Ca,hm,hk⟩:=F.cls c hc;have g:=a.gl c (by simp[hc])
 have hdb:(c == ("__debug__":Str))=false:=by
  have:∀c∈names12,(c == ("__debug__":Str))=false:=by decide +kernel
  exact this c hc
 have pn:PE X (.Name c qc) (tC (.ref Ca)):=KK g hm rfl hdb;refine PE.imp (fun τ H Q w=>?_) (kr (vH F.ex) (a.gl _ (by simp)) F.isi X1 (js (j9 a.n0 (.inl a.l0)) (js pn jU)));obtain⟨⟨ea,oe,u,h1,h2,h3⟩,w⟩:=w;exact⟨_,h1,ea,oe,u,_,_,_,rfl,h2,h3,fun u' r=>r,hk,w⟩
theorem pe_isT(a:AX X)(F:AloneF X.K X.mg y D){q qe qc p:Pos}:PE X (.Call (.Name "isinstance" q) [.Name "_law_e" qe,.Name "TrueError" qc] [] p) (tIx D true):=by
 obtain⟨Ca,hm,hk⟩:=F.te;have pn:PE X (.Name "TrueError" qc) (tC (.ref Ca)):=KK (a.gl _ (by simp)) hm rfl;refine PE.imp (fun τ H Q w=>?_) (kr (vH F.ex) (a.gl _ (by simp)) F.isi X1 (js (j9 a.n0 (.inl a.l0)) (js pn jU)));obtain⟨⟨ea,oe,u,h1,h2,h3⟩,w⟩:=w;exact⟨_,h1,ea,oe,u,_,_,_,rfl,h2,h3,fun u' r=>r,hk,w⟩
theorem pe_isV(a:AX X)(F:AloneF X.K X.mg y D){q qe qc p:Pos}:PE X (.Call (.Name "isinstance" q) [.Name "_law_e" qe,.Name "ValueError" qc] [] p) (tIx D true):=by
 have pn:PE X (.Name "ValueError" qc) (tC (.ty "ValueError")):=pe_bltn (a.gl _ (by simp)) F.vn PyProof.Rows.Boot.«ValueError» rfl;refine PE.imp (fun τ H Q w=>?_) (kr (vH F.ex) (a.gl _ (by simp)) F.isi X1 (js (j9 a.n0 (.inl a.l0)) (js pn jU)));obtain⟨⟨ea,oe,u,h1,h2,h3⟩,w⟩:=w;exact⟨_,h1,ea,oe,u,_,_,_,rfl,h2,h3,fun u' r=>r,F.ve,w⟩
noncomputable def fl(y:Str)(cs:List Str):List Bool:=cs.map fun c=>decide (c=y)
theorem pa_isis(a:AX X)(F:AloneF X.K X.mg y D):∀(cs:List Str) (es:List Expr),ze cs es=true->(∀c∈cs,c∈names12)->PA X es (fun σ H Q=>exAt D σ H/\Q ((fl y cs).map .bl) H)
 |[],es,h,_=>by
  have e:es=[]:=by rw[ze]at h;simpa using h
  subst e
  exact PA.imp (fun τ H Q w=>w.2) jU
 |c::cs,es,h,hc=>by
  rw[ze]at h
  cases es with
  |nil=>simp at h
  |cons e r =>
   simp only[KM,QL,QZ]at h;obtain⟨q,qe,qc,p,rfl⟩:=isiOk_ (show isiOk e c=true from h.1.2);refine PA.imp (fun τ H Q w=>?_) (js (pe_isx a F (hc c (K0 ..))) (pa_isis a F cs r h.2 fun z hz=>hc z (KR _ hz)));exact⟨w.1,w.1,w.2⟩
theorem pe_flags(a:AX X)(F:AloneF X.K X.mg y D){cs:List Str}{es:List Expr}{p:Pos}(h:ze cs es=true)(hc:∀c∈cs,c∈names12)(hl:cs.length<=100) :
 PE X (.List es p) (fun σ H Q=>exAt D σ H/\∀p H',jf H H'->SqL X.K H' p ((fl y cs).map .bl)->Q (.ref p) H'):=by
 refine PE.imp (fun τ H Q w=>?_) (vo (pa_isis a F cs es h hc));refine⟨w.1,?_,fun p hp=>w.2 p _ (jB hp _) (SqL.of (jm ..))⟩
 have:100<=sizeLine:=by decide
 simp[fl];exact Qx hl this
theorem iss_bl{K:Frag}{S:Hp}:∀bs:List Bool,Iss K S (bs.map Z.D.bl) (bs.map V.bl)
 |[]=>by unfold Iss;rfl
 |b::bs=>by
  simp only[K1];unfold Iss;exact⟨_,_,rfl,j6 b,iss_bl bs⟩
theorem iss_bl_{K:Frag}{S:Hp}:∀ {bs:List Bool} {vs:List V},Iss K S (bs.map Z.D.bl) vs->vs=bs.map V.bl
 |[],vs,h=>by unfold Iss at h;exact h
 |b::bs,vs,h=>by
  simp only[K1]at h;unfold Iss at h;obtain⟨v,r,rfl,h1,h2⟩:=h;rw[kq h1,iss_bl_ h2];rfl
theorem op_cat:OpR X (Zf .Add) (fun x z H Q=>∃(p1 p2:Addr) (bs cs:List Bool),x=.ref p1/\z=.ref p2/\SqL X.K H p1 (bs.map .bl)/\SqL X.K H p2 (cs.map .bl)/\bs.length+cs.length<=lim/\∀p H',jf H H'->SqL X.K H' p ((bs++cs).map .bl)->Q (.ref p) H'):=by
 rintro pins s τ H x z v u Q I rx ry ⟨p1,p2,bs,cs,rfl,rfl,h1,h2,hl,q⟩;cases (show v=Xa p1 from rx);cases (show u=Xa p2 from ry);refine Jn (O:=[]) (xs:=bs.map Z.D.bl) (ys:=cs.map Z.D.bl) I (fun _ z=>nomatch z) ⟨by simpa using hl,fun v H' sm i=>?_⟩ h1 h2 (iss_bl bs) (iss_bl cs);rw[<- Qw]at i;obtain⟨p,vs,rfl,sq,is⟩:=jF i;rw[iss_bl_ is]at sq;exact q p H' sm ((jg _ _).seq sq)
theorem pe_more(a:AX X)(F:AloneF X.K X.mg y D){cs:List Str}{es:List Expr}{p q pos:Pos}(h:ze cs es=true)(hc:∀c∈cs,c∈names12)(hl:cs.length<=100) :
 PE X (.BinOp (.Name "_law_flags" q) .Add (.List es p) pos) (fun σ H Q=>exAt D σ H/\∃(p1:Addr) (bs:List Bool),σ[1]?=some (some (.ref p1))/\SqL X.K H p1 (bs.map .bl)/\bs.length<=1000/\∀p H',jf H H'->SqL X.K H' p ((bs++fl y cs).map .bl)->Q (.ref p) H'):=by
 refine PE.imp (fun τ H Q w=>?_) (pe_op op_cat (j9 a.n1 (.inl a.l1)) (pe_flags a F h hc hl));obtain⟨hx,p1,bs,e1,sq,hb,w⟩:=w;refine⟨.ref p1,e1,hx,fun p2 H' sm sq2=>⟨p1,p2,bs,fl y cs,rfl,rfl,sm.seq sq,sq2,?_,fun p H2 s2 sq3=>w p H2 (sm.trans s2) sq3⟩⟩;simp[fl];unfold lim;lia
theorem reads_bl{h:QG}:∀ {bs:List Bool} {its:List KO},jG (bs.map V.bl) its->∃as,ReadsAll h its (bs.map Z5) as
 |[],its,r=>by cases r;exact⟨_,.nil⟩
 |b::bs,its,r=>by
  cases r with
  |cons r1 r2 =>
   cases r1;obtain⟨as,ra⟩:=reads_bl r2;exact⟨_,.cons (.bool b) ra⟩
theorem count_bl(bs:List Bool):Spec.countIn (.bool true) (bs.map Z5)=(bs.countP id:Nat):=by
 induction bs with
 |nil=>rfl
 |cons b bs ih =>
  rw[K1,Spec.countIn,ih];cases b
  ·rw[show (if Spec.same (Z5 false) (Z5 true)=true then (1:Int) else 0)=0 from rfl];simp
  ·rw[show (if Spec.same (Z5 true) (Z5 true)=true then (1:Int) else 0)=1 from rfl];simp;lia
theorem mt_count:MtR X "list.count" (fun x xs H Q=>∃(p:Addr) (bs:List Bool),x=.ref p/\xs=[.bl true]/\SqL X.K H p (bs.map .bl)/\Q (.int (bs.countP id:Nat)) H):=by
 rintro pins s τ H x xs v us Q I rx rs ⟨p,bs,rfl,rfl,sq,q⟩;cases (show v=Xa p from rx);obtain⟨u,rfl,ru⟩:=rs.one;cases (show u=Zr true from ru);obtain⟨its,r,pl,_⟩:=I.list sq;obtain⟨as,ra⟩:=reads_bl (h:=s.heap) r;refine count_list_bools pl.isList ra (by simp[Shape.has]) ?_;rw[count_bl];exact⟨.int _,H,I.tok _,⟨_,rfl⟩,q⟩
noncomputable def endOk(s:Stmt):Bool:=(vW s).any fun v=>v.any fun v=>(Kp v).any fun z=>decide (z.1=.And)&&decide (z.2.1.length=3)&&isiOk (z.2.1.getD 1 v) "TrueError" && isiOk (z.2.1.getD 2 v) "ValueError" &&
 (asCmp (z.2.1.getD 0 v)).any fun c=>decide (c.2.1=[.Eq])&&decide (c.2.2.length=1)&&decide (kN (c.2.2.getD 0 v)=some (.int 1)) &&
  (xz c.1).any fun f=>f.2.2.1.isEmpty&&decide (f.2.1.length=1)&&decide (kN (f.2.1.getD 0 v)=some (.bool true))&&(xy f.1).any fun o=>decide (o.2.1=("count":Str))&&decide (jo o.1=some ("_law_flags":Str))&&(o.2.2.endLine == f.2.2.2.line)
theorem endOk_{s:Stmt}(h:endOk s=true):∃e1 e2 q ap cp j p j2 p2 p3 p4 p5,s=.Return (some (.BoolOp .And [.Compare (.Call (.Attribute (.Name "_law_flags" q) "count" ap) [.Constant (.bool true) j p] [] cp) [.Eq] [.Constant (.int 1) j2 p2] p3,e1,e2] p4)) p5 /\
 isiOk e1 "TrueError"=true/\isiOk e2 "ValueError"=true/\(ap.endLine == cp.line)=true:=by
 unfold endOk at h;replace h:=jb h;obtain⟨ov,h1,h⟩:=h;obtain⟨p5,rfl⟩:=ut h1;replace h:=jb h;obtain⟨v,rfl,h⟩:=h;replace h:=jb h;obtain⟨⟨op,vs,p4⟩,h2,h⟩:=h;have e2:=uO h2;subst e2;simp only[KM,decide_eq_true_eq]at h;obtain⟨⟨⟨⟨h3,h4⟩,h5⟩,h6⟩,h⟩:=h;subst h3
 match vs,h4,h5,h6,h with
 |[c,e1,e2],_,h5,h6,h =>
  replace h:=jb h;obtain⟨⟨l,ops,rs⟩,h7,h⟩:=h;obtain⟨p3,e7⟩:=JT (show asCmp c=_ from h7);subst e7;simp only[KM,decide_eq_true_eq]at h;obtain⟨⟨⟨h8,h9⟩,h10⟩,h⟩:=h;subst h8;obtain⟨r,rfl⟩:=kJ h9;obtain⟨j2,p2,rfl⟩:=qU (show kN r=_ from h10);replace h:=jb h;obtain⟨⟨f,xs,ks,cp⟩,h11,h⟩:=h;have e11:=xt h11;subst e11;simp only[KM,decide_eq_true_eq,Xd]at h;obtain⟨⟨⟨h12,h13⟩,h14⟩,h⟩:=h;subst h12;obtain⟨x,rfl⟩:=kJ h13;obtain⟨j,p,rfl⟩:=qU (show kN x=_ from h14);replace h:=jb h;obtain⟨⟨o,nm,ap⟩,h15,h⟩:=h;have e15:=xq h15;subst e15;simp only[KM,decide_eq_true_eq]at h;obtain⟨⟨h16,h17⟩,h18⟩:=h;subst h16;obtain⟨q,rfl⟩:=jn h17;exact⟨e1,e2,q,ap,cp,j,p,j2,p2,p3,p4,p5,rfl,h5,h6,h18⟩
noncomputable def uK:List Stmt->Bool
 |[s1,s2,s3,s4]=>setOk s1 (flagsOk (names12.take 4))&&setOk s2 (moreOk ((names12.drop 4).take 4))&&setOk s3 (moreOk (names12.drop 8))&&endOk s4
 |_=>false
theorem sum1{y:Str}(h:y∈names12):(((fl y (names12.take 4)++fl y ((names12.drop 4).take 4))++fl y (names12.drop 8)).countP id)=1:=by
 have:∀y∈names12,(((fl y (names12.take 4)++fl y ((names12.drop 4).take 4))++fl y (names12.drop 8)).countP id)=1:=by decide +kernel
 exact this y h
theorem xD{σ:L2.St}{H H':Hp}{v:V}{D:Addr}(h:exAt D σ H)(sm:jf H H'):exAt D (σ.set 1 (some v)) H':=by
 obtain⟨ea,oe,u,h1,h2,h3⟩:=h;exact⟨ea,oe,u,by rw[Qe (by decide)];exact h1,sm _ _ h2,h3⟩
theorem pss_alone(a:AX X)(F:AloneF X.K X.mg y D)(hN:1<X.N.length){body:List Stmt}(h:uK body=true):PSs X body (fun E σ H=>exAt D σ H/\σ.length=X.N.length/\∀H',jf H H'->E.rt (.bl true) H'):=by
 unfold uK at h;split at h
 ·next s1 s2 s3 s4 =>
  simp only[KM]at h;obtain⟨⟨⟨h1,h2⟩,h3⟩,h4⟩:=h;obtain⟨q1,v1,p1,rfl,g1⟩:=setOk_ h1;obtain⟨q2,v2,p2,rfl,g2⟩:=setOk_ h2;obtain⟨q3,v3,p3,rfl,g3⟩:=setOk_ h3;obtain⟨e1,e2,q,ap,cp,j,p,j2,p2',p3',p4,p5,rfl,i1,i2,hl⟩:=endOk_ h4;obtain⟨es1,f1,g1⟩:=jb g1;obtain⟨lp1,rfl⟩:=yi f1;replace g2:=jb g2;obtain⟨⟨l2,o2,r2⟩,b2,g2⟩:=g2;obtain⟨bp2,rfl⟩:=vh b2;simp only[KM,decide_eq_true_eq]at g2;obtain⟨⟨z2,y2⟩,g2⟩:=g2;subst z2;obtain⟨nq2,rfl⟩:=jn y2;replace g2:=jb g2;obtain⟨es2,f2,g2⟩:=g2;obtain⟨lp2,rfl⟩:=yi f2;replace g3:=jb g3;obtain⟨⟨l3,o3,r3⟩,b3,g3⟩:=g3;obtain⟨bp3,rfl⟩:=vh b3;simp only[KM,decide_eq_true_eq]at g3;obtain⟨⟨z3,y3⟩,g3⟩:=g3;subst z3;obtain⟨nq3,rfl⟩:=jn y3;replace g3:=jb g3;obtain⟨es3,f3,g3⟩:=g3;obtain⟨lp3,rfl⟩:=yi f3;obtain⟨a1,a2,a3,a4,rfl⟩:=isiOk_ i1;obtain⟨b1',b2',b3',b4',rfl⟩:=isiOk_ i2
  have m1:∀c∈names12.take 4,c∈names12:=fun c hc=>XV hc
  have m2:∀c∈(names12.drop 4).take 4,c∈names12:=fun c hc=>QV (XV hc)
  have m3:∀c∈names12.drop 8,c∈names12:=fun c hc=>QV hc
  refine PSs.imp (fun E σ H w=>?_) (jr (yh a.nd a.n1 (.inl a.l1) (pe_flags a F g1 m1 (by decide)) rfl (.inl (a.fn _))) (jr (yh a.nd a.n1 (.inl a.l1) (pe_more a F g2 m2 (by decide)) rfl (.inl (a.fn _))) (jr (yh a.nd a.n1 (.inl a.l1) (pe_more a F g3 m3 (by decide)) rfl (.inl (a.fn _))) (jr
   (qY (pe_and (pe_cmpR op_eq (pe_bm X0 PySem.F.slot_list_count PySem.F.type_list_count mt_count (j9 a.n1 (.inl a.l1)) (js pe_bl jU) rfl rfl hl) Kq (nomark _)) (pe_and (pe_isT a F) (pe_one (pe_isV a F))))) j7))))
  obtain⟨hx,hln,w⟩:=w
  have h1l:1<σ.length:=by rw[hln];exact hN
  refine⟨hx,fun p1 H1 s1 sq1=>?_⟩;refine⟨xD hx s1,p1,_,Qq h1l,sq1,by simp[fl,names12],fun p2 H2 s2 sq2=>?_⟩;refine⟨xD (xD hx s1) s2,p2,_,Qq (by rw[Xi];exact h1l),sq2,by simp[fl,names12],fun p3 H3 s3 sq3=>?_⟩;have hx3:=xD (v:=.ref p3) (xD (v:=.ref p2) (xD (v:=.ref p1) hx s1) s2) s3;refine⟨.ref p3,Qq (by rw[Xi,Xi];exact h1l),.inl ⟨rfl,_,sq3⟩,p3,_,rfl,rfl,sq3,?_⟩;rw[sum1 F.mem];refine⟨rfl,true,rfl,?_⟩;rw[if_pos rfl];refine⟨hx3,true,rfl,?_⟩;rw[if_pos rfl];exact⟨hx3,w H3 ((s1.trans s2).trans s3)⟩
 ·cases h
end
end Z
namespace Z
open PySem PySem.Spec PyProof.Rows L2
section
variable {X:Cx} {k:Ck} {C:Cfg} {O₀:List Addr} {H₀:Hp} {ex:XD->Prop}
theorem setS_out:∀ {σ:Sto} {i:Nat} (v:Option Sl),σ.length<=i->setS σ i v=σ
 |[],i,v,_=>rfl
 |x::r,0,v,h=>by simp at h
 |x::r,i+1,v,h=>by simp only[setS];rw[setS_out v (by simpa using h)]
theorem Iss.set{K:KN}{S:Hp}:∀ {ds:List D} {vs:List V} {i:Nat} {d:D} {v:V},Iss K S ds vs->Is K S d v->Iss K S (ds.set i d) (vs.set i v)
 |[],vs,i,d,v,h,g=>by unfold Iss at h;subst h;simp;unfold Iss;rfl
 |x::ds,vs,i,d,v,h,g=>by
  unfold Iss at h;obtain⟨u,r,rfl,h1,h2⟩:=h
  cases i with
  |zero=>simp only[List.set_cons_zero];unfold Iss;exact⟨v,r,rfl,g,h2⟩
  |succ i=>simp only[List.set_cons_succ];unfold Iss;exact⟨u,_,rfl,h1,h2.set g⟩
theorem for_turnsG{J:It}{xs:List D}{S:Hp}{i:Nat}{body:Sm}{D:Ends}{τ:L2.St}{H1:Hp}{σ:Sto}{O1:List Addr}(g1:Good O₀ H₀ O1 H1)(R1:RepS O₀ X.K O1 H1 σ τ)
 (hgo:∀j H O,jf (je H1 O1) (je H O)->j<xs.length->J.go j H) (hst:∀j H O,jf (je H1 O1) (je H O)->xs.length<=j->J.stop j H)
 (hy:∀j H O v H' d,(∀a∈O,H a≠none)->jf (je H1 O1) (je H O)->J.yld j H v H'->xs[j]?=some d->jf H H'/\Is X.K (je H' O) d v)
 (w:forL (fun K σ=>wpS C body K σ) i (zE X.K O₀ H₀ ex D O1 H1) xs σ) :
 ∃W:Nat->Nat->L2.St->Hp->Prop,(∃m,W 0 m τ H1)/\∀j m τ H,W j m τ H->(J.stop j H/\D.nx τ H)\/(J.go j H/\∃N:L2.St->Hp->Prop,(∀τ' H',N τ' H'->∃m',m'<m/\W (j+1) m' τ' H') /\
  ∀x H',J.yld j H x H'->k7 i x τ H' fun τ2 H2=>tS X.K C O₀ H₀ ex body { D with nx:=N,ct:=N,bk:=D.nx } τ2 H2):=by
 refine⟨fun j m τ H=>m=xs.length-j/\j<=xs.length/\∃σ O,Good O₀ H₀ O H/\jf (je H1 O1) (je H O)/\RepS O₀ X.K O H σ τ/\forL (fun K σ=>wpS C body K σ) i (zE X.K O₀ H₀ ex D O1 H1) (xs.drop j) σ,
  ⟨_,rfl,XB _,σ,O1,g1,jf.refl _,R1,by simpa using w⟩,?_⟩
 rintro j m τ H ⟨rfl,hj,σ,O,g,sm,R,w⟩;by_cases hlt:j<xs.length
 ·refine .inr ⟨hgo j H O sm hlt,fun τ' H'=>j+1<=xs.length/\∃σ O,Good O₀ H₀ O H'/\jf (je H1 O1) (je H' O)/\RepS O₀ X.K O H' σ τ'/\forL (fun K σ=>wpS C body K σ) i (zE X.K O₀ H₀ ex D O1 H1) (xs.drop (j+1)) σ,
   fun τ' H' ⟨h1,h2⟩=>⟨xs.length-(j+1),by lia,rfl,h1,h2⟩,fun x H' y=>?_⟩
  obtain⟨e,is⟩:=hy j H O x H' xs[j] R.own sm y (KU hlt);rw[QS hlt]at w;rw[forL]at w;refine⟨_,O,g.mono e,(R.mono e).set is,jq body ?_ w⟩;exact⟨fun σ' q τ' H' O' g' s' r'=>⟨hlt,σ',O',g',(sm.trans (jd e)).trans s',r',q⟩,fun _ q=>q,fun σ' q τ' H' O' g' s' r'=>q τ' H' O' g' ((sm.trans (jd e)).trans s') r',fun σ' q τ' H' O' g' s' r'=>⟨hlt,σ',O',g',(sm.trans (jd e)).trans s',r',q⟩,fun _ q=>q,fun _ q=>q,fun _ q=>q⟩
 ·have e:j=xs.length:=by lia
  subst e;refine .inl ⟨hst _ H O sm (K6 _),?_⟩;rw[List.drop_length]at w;exact w τ H O g sm R
theorem Jv{J:It}{xs:List D}{S:Hp}{i:Nat}{body:Sm}{D:Ends}{τ:L2.St}{H1:Hp}{σ:Sto}{O1:List Addr}(g1:Good O₀ H₀ O1 H1)(R1:RepS O₀ X.K O1 H1 σ τ)
 (hgo:∀j H O,jf (je H1 O1) (je H O)->j<xs.length->J.go j H) (hst:∀j H O,jf (je H1 O1) (je H O)->xs.length<=j->J.stop j H)
 (hy:∀j H O v H' d,jf (je H1 O1) (je H O)->J.yld j H v H'->xs[j]?=some d->H'=H/\Is X.K (je H O) d v)
 (w:forL (fun K σ=>wpS C body K σ) i (zE X.K O₀ H₀ ex D O1 H1) xs σ) :
 ∃W:Nat->Nat->L2.St->Hp->Prop,(∃m,W 0 m τ H1)/\∀j m τ H,W j m τ H->(J.stop j H/\D.nx τ H)\/(J.go j H/\∃N:L2.St->Hp->Prop,(∀τ' H',N τ' H'->∃m',m'<m/\W (j+1) m' τ' H') /\
  ∀x H',J.yld j H x H'->k7 i x τ H' fun τ2 H2=>tS X.K C O₀ H₀ ex body { D with nx:=N,ct:=N,bk:=D.nx } τ2 H2) :=
 for_turnsG (S:=S) g1 R1 hgo hst (fun j H O v H' d _ s y e=>by obtain⟨q,i⟩:=hy j H O v H' d s y e;subst q;exact⟨jf.refl _,i⟩) w
theorem ext_meets(l:Addr)(items:Array KO)(n:Nat)(b:Addr)(items2:Array KO)(n2:Nat)(sl:Array (Option KO))(hc0:¬(!items.isEmpty&&XO (items.size+items2.size))=true)(hc1:items.size<=sizeLine)(hs2:items.size+items2.size<=sizeLine+1) :
 Meets (XY.«list.extend» ⟨[.ref l,.ref b],[]⟩) (fun _ R s=>s.heap.get? l=some { cls:=.type "list",dict:=none,data:=.seq items n,slots:=#[] }/\s.heap.get? b=some { cls:=.type "list",dict:=none,data:=.seq items2 n2,slots:=sl }/\R (.ok (.ret YD)) { s with heap:=s.heap.update l (ZP fun x=>x++items2),toks:=s.toks }) :=
 .of_wp fun prog w A R s h=>by
  obtain⟨hp,g,d,tk,os⟩:=s;obtain⟨hl,hb,h⟩:=h;have f1:=AutoSeq1.idx_int;have f2:=AutoSeq1.sub_tuple_tuple;have f3:=AutoSeq1.sub_list_list;have f4:=AutoSeq1.sub_tuple_list;have f5:=AutoSeq1.sub_list_tuple
  have hz':(items++items2).size<=sizeLine+1:=by rw[Array.size_append];exact hs2
  wp_walk using(Z9 hl rfl (hz:=hc1) (_hz':=hz')),AutoSeq1.wpAny_loadPart' hl,AutoSeq1.wpAny_loadPart' hb;exact⟨_,rfl,h⟩
noncomputable def rExtS(K:KN):V->List V->Hp->VK->Prop:=fun x vs H Q=>∃l b xs zs,x=.ref l/\vs=[.ref b]/\H l=some (.lst xs)/\SqL K H b zs/\xs.length+zs.length<=sizeLine/\Q .non (upd H l (.lst (xs++zs)))
theorem mt_extS{X:Cx}:MtM X "list.extend" (rExtS X.K):=by
 intro pins s σ H x vs v us Q I rx rv h;obtain⟨l,b,xs,zs,rfl,rfl,hH,hB,hz,q⟩:=h;cases rx;obtain⟨u,rfl,ru⟩:=rv.one;cases ru;obtain⟨z,its,n,r,hl,e⟩:=I.lstM hH;obtain⟨its2,r2,⟨⟨cl,dd,dt,sl⟩,n2,e2,hc,hd,hs⟩,z2⟩:=I.list hB;simp only at hc hd hs;subst hc hd hs;have hl2:=r2.length
 have hsz:its.toArray.size+its2.toArray.size<=sizeLine:=by rw[Qc,Qc];lia
 have hlong:¬ (!its.toArray.isEmpty&&XO (its.toArray.size+its2.toArray.size))=true:=by
  rw[notLongL hsz,Bool.and_false];exact Xf
 refine call_meets PySem.F.slot_list_extend ⟨_,e,rfl⟩ PySem.F.entry_list_extend (PySem.F.args_list_extend_2 _ _)
  (ext_meets l its.toArray n b its2.toArray n2 sl hlong (by rw[Qc];lia) (by lia)) ⟨e,e2,?_⟩
 refine⟨.non,_,I.lset (its':=its++its2) hH e (by simp) (r.append r2) ?_,rfl,q⟩;rw[K9];lia
theorem oc_of{f:List D->Prop}{g:List (List D)->Prop}{o:Option Sl}(w:ocD f g o):(∃ds,o=some (.ow ds)/\f ds)\/∃rows,o=some (.ot rows)/\g rows:=by
 match o,w with
 |some (.ow ds),w=>exact .inl ⟨ds,rfl,w⟩
 |some (.ot rows),w=>exact .inr ⟨rows,rfl,w⟩
theorem own_of{f:List D->Prop}{o:Option Sl}(w:uF f o):∃ds,o=some (.ow ds)/\f ds:=by
 match o,w with
 |some (.ow ds),w=>exact⟨ds,rfl,w⟩
theorem isL_of{f:List D->Prop}{d:D}(w:isL f d):∃xs,d=.lst xs/\f xs:=by
 cases d<;>first|exact w.elim|exact⟨_,rfl,w⟩
theorem forU_turns{c:Ex}{i j m0:Nat}{a:Addr}{vs:List V}{Dd:Ends}{τ:L2.St}{H:Hp}{σ:Sto}{O:List Addr}{ds:List D}(hij:i≠j)(g:Good O₀ H₀ O H)(R:RepS O₀ X.K O H σ τ)(gs:getS σ j=some (.ow ds))(ea:τ[j]?=some (some (.ref a)))(h1:H a=some (.lst vs))(is:Iss X.K (je H O) ds vs)
 (w:zI (fun σ Q=>wpE C c σ Q) i m0 (zE X.K O₀ H₀ ex Dd O H) ds σ) :
 ∃W:Nat->Nat->L2.St->Hp->Prop,(∃m,W 0 m τ H)/\∀l m τ H,W l m τ H->((Itl X.K a).stop l H/\Dd.nx τ H)\/((Itl X.K a).go l H/\∃N:L2.St->Hp->Prop,(∀τ' H',N τ' H'->∃m',m'<m/\W (l+1) m' τ' H') /\
  ∀x H',(Itl X.K a).yld l H x H'->k7 i x τ H' fun τ2 H2=>vS (tD X.K C c) (k7 m0) { Dd with nx:=N,ct:=N,bk:=Dd.nx } τ2 H2):=by
 have hl:=is.length
 refine⟨fun l m τ' H'=>m=ds.length-l/\l<=ds.length/\jf H H'/\∃σ',RepS O₀ X.K O H' σ' τ'/\zI (fun σ Q=>wpE C c σ Q) i m0 (zE X.K O₀ H₀ ex Dd O H) (ds.drop l) σ',
  ⟨_,rfl,XB _,jf.refl _,σ,R,by simpa using w⟩,?_⟩
 rintro l m τ' H' ⟨rfl,hlt,sm,σ',R',w⟩
 have sq:∀ {H2:Hp},jf H H2->SqL X.K H2 a vs:=fun s2=>SqL.of (s2 _ _ h1)
 by_cases hl2:l<ds.length
 ·refine .inr ⟨⟨vs,vs[l],sq sm,KU (by lia)⟩,fun τ2 H2=>l+1<=ds.length/\jf H H2/\∃σ',RepS O₀ X.K O H2 σ' τ2/\zI (fun σ Q=>wpE C c σ Q) i m0 (zE X.K O₀ H₀ ex Dd O H) (ds.drop (l+1)) σ',
   fun τ2 H2 q=>⟨ds.length-(l+1),by lia,rfl,q.1,q.2.1,q.2.2⟩,fun x H2 y=>?_⟩
  obtain⟨e2,y⟩:=y;subst e2;obtain⟨z,e3,e4⟩:=is.get (KU hl2);have:=y vs (sq sm);rw[e3]at this;cases this;rw[QS hl2]at w;have R2:=R'.set (i:=i) (Is.mono (jd sm) _ e4);exact⟨_,O,R2.toReps,ja c (fun d wb v H3 s3 i3=>⟨hl2,sm.trans s3,_,(R2.mono s3).set i3,wb⟩) w⟩
 ·have e:l=ds.length:=by lia
  subst e;refine .inl ⟨⟨vs,sq sm,by lia⟩,?_⟩;rw[List.drop_length]at w;exact w τ' H' O (g.mono sm) (jd sm) R'
theorem Rws.nol{K:KN}{O O':List Addr}{H:Hp}(h:∀b∈O',b ∉ O->∃vs,H b=some (.lst vs)):∀ {rows:List (List D)} {as:List Addr},Rws K O H rows as->rows.all nols=true->Rws K O' H rows as
 |[],as,r,_=>r
 |q::rows,as,r,n=>by
  obtain⟨b,bs,vs,rfl,h1,h2,h3⟩:=r;simp only[List.all_cons,KM]at n;exact⟨b,bs,vs,rfl,h1,vF h q n.1 h2,Rws.nol h h3 n.2⟩
theorem rowsD_inj{r s:List (List D)}(h:qh r=qh s):r=s:=by
 unfold qh at h;injection h with h
 induction r generalizing s with
 |nil=>cases s<;>simp at h;rfl
 |cons a r ih =>
  cases s with
  |nil=>simp at h
  |cons b s =>
   simp only[K1,Qj]at h;injection h.1 with e;rw[e,ih h.2]
theorem shr_tS{K:KN}{C:Cfg}{O₀:List Addr}{H₀:Hp}{ex:XD->Prop}{a b:Sm}{D:Ends}{τ:L2.St}{H:Hp}(hs:zu a=true)(w:tS K C O₀ H₀ ex (.seq a b) D τ H):tS K C O₀ H₀ ex b D τ H:=by
 obtain⟨i,e⟩:=isShr_ hs;obtain⟨σ,O,g,R,w⟩:=w;rcases e with rfl|rfl|rfl
 rotate_left
 ·obtain⟨rows,gs,w⟩:=tab_of w;obtain⟨a,as,e1,t,dj⟩:=R.tt.1 i rows gs;have m:=R.mineT i rows a as gs e1 t.top;exact⟨_,_,g.shareT (fun b hb=>(KS.mp hb).elim (fun z=>by rw[z];exact m.1) (m.2 b)),R.shareT gs e1 t dj,jq b (kM (jC fun x hx=>(jN.mp hx).1)) w⟩
 ·rcases oc_of w with⟨ds,_,w⟩|⟨rows,gs,w⟩
  ·exact⟨_,_,g,R,w⟩
  obtain⟨a,as,e1,t,dj⟩:=R.tt.1 i rows gs;have m:=R.mineT i rows a as gs e1 t.top;exact⟨_,_,g.shareT m.2,R.halfT gs e1 t dj,jq b (kM (jC fun x hx=>(jN.mp hx).1)) w⟩
 rw[wS_seq,wS_shr]at w
 cases gs:getS σ i with
 |none=>rw[gs]at w;exact w.elim
 |some u =>
  rw[gs]at w
  cases u with
  |sh d=>exact w.elim
  |ot _=>exact w.elim
  |ow ds =>
   obtain⟨a,vs,e1,e2,e3,e4⟩:=R.ow i ds gs;exact⟨_,_,g.share (R.mine i ds a gs e1),R.share gs e1 e3 e4,jq b (kM (jC fun x hx=>(jX.mp hx).1)) w⟩
mutual
theorem sS(ok:OkS X k C):∀(s:Sm) (st:Stmt),xh k s st=true->PS X st (tS X.K C O₀ H₀ ex s)
 |.nop,st,h=>nomatch (show false=true from h)
 |.seq a b,st,h=>nomatch (show false=true from h)
 |.set i e,st,h=>by
  replace h:=jb h;obtain⟨⟨ts,v⟩,ha,h⟩:=h;obtain⟨pos,rfl⟩:=xN ha;replace h:=jb h;obtain⟨t,ht,h⟩:=h;have et:=zx ht;simp only at et;subst et;replace h:=jb h;obtain⟨x,hx,h⟩:=h;obtain⟨p,rfl⟩:=jn hx
  ·rw[KM]at h;obtain⟨h1,h2,h3,h4⟩:=ok.vis h.1
   have plain:Y5 v (some (.Name x p)) pos.line X.env=pure false->PS X (.Assign [.Name x p] v pos) (tS X.K C O₀ H₀ ex (.set i e)):=fun hsw=>by
    refine PS.imp (fun D τ H w=>?_) (yh ok.nd h1 h2 (sB ok.toOk e v h.2).1 hsw (.inl (ok.fn _)));obtain⟨σ,O,g,R,w⟩:=w;exact⟨σ,O,R.toReps,ja e (fun d wd v H1 s1 i1=>wd _ H1 O (g.mono s1) (jd s1) ((R.mono s1).set i1)) w⟩
   cases hq:zR v with
   |false=>exact plain (u7 h.2 hq _ _ _)
   |true =>
    obtain⟨y,py,iter,elt,ifs,sc,ps,wi,tt,te,rfl,hck,hpi,hfo,hel,hco⟩:=comp_parts ok.toOk e v h.2 hq;obtain⟨b,hb⟩:=uT (elt:=elt) (gs:=[⟨.Name y py,iter,ifs,0⟩]) (sc:=sc) (pos:=ps) (py:=p) (y:=x) pos.line X.env
    cases b with
    |false=>exact plain hb
    |true =>
     intro pins s τ H D I w;obtain⟨cl,co⟩:=ok.toOk.comp hck I.ok;refine ps_comp ok.calm ok.nd (ok.toOk.comp_nE hck) co hpi (hel cl co).1 (hel cl co).2 hfo hb h1 h2 (.inl (ok.fn _)) pins s τ H D I (hco τ H _ ?_);obtain⟨σ,O,g,R,w⟩:=w
     exact⟨σ,O,R.toReps,ja e (fun d wd v H1 s1 i1=>wd _ H1 O (g.mono s1) (jd s1) ((R.mono s1).set i1)) w⟩
 |.unp is e,st,h=>by
  replace h:=jb h;obtain⟨⟨ts,v⟩,ha,h⟩:=h;obtain⟨pos,rfl⟩:=xN ha;replace h:=jb h;obtain⟨t,ht,h⟩:=h;have et:=zx ht;simp only at et;subst et;replace h:=jb h;obtain⟨es,hx,h⟩:=h;obtain⟨j,p,rfl⟩:=KE hx
  ·simp only[KM]at h;obtain⟨⟨h1,h2⟩,h3⟩:=h;obtain⟨pg,hl,hf⟩:=Jr ok is es h1
   have hsw:swappedStores [.Tuple es j p] v X.env=pure none:=by
    cases v<;>first|rfl|exact KZ h2
   refine PS.imp (fun D τ H w=>?_) (Ks (sB ok.toOk e v h3).1 (pg_sq ok.calm pg hl hf) (by unfold swapsWithSole;exact swaps_tup _ _ _) hsw rfl);obtain⟨σ,O,g,R,w⟩:=w;refine⟨σ,O,R.toReps,ja e (fun d wd v H1 s1 i1=>?_) w⟩
   cases d with
   |tup ds =>
    obtain⟨σ',e1,q⟩:=wd;obtain⟨a,vs,rfl,h4,h5⟩:=kx i1
    exact .inl ⟨a,vs,rfl,(kK (jg _ _) h4),by rw[h5.length,yZ is e1],ug is (R.mono s1) h5 e1 fun τ' R'=>q τ' H1 O (g.mono s1) (jd s1) R'⟩
   |lst ds =>
    obtain⟨σ',e1,q⟩:=wd;obtain⟨a,vs,rfl,h4,h5⟩:=jF i1
    exact .inr ⟨a,vs,rfl,(jg _ _).seq h4,by rw[h5.length,yZ is e1],ug is (R.mono s1) h5 e1 fun τ' R'=>q τ' H1 O (g.mono s1) (jd s1) R'⟩
   |_=>exact wd.elim
 |.ret e,st,h=>by
  replace h:=jb h;obtain⟨ov,ho,h⟩:=h;replace h:=jb h;obtain⟨v,hv,h⟩:=h;subst hv;obtain⟨pos,rfl⟩:=ut ho
  ·refine PS.imp (fun D τ H w=>?_) (qY (sB ok.toOk e v h).1);obtain⟨σ,O,g,R,w⟩:=w
   exact⟨σ,O,R.toReps,ja e (fun d wd v H1 s1 i1=>wd v H1 (g.same.trans s1) (Is.mono (jC g.sub) d i1)) w⟩
 |.ite c a b,st,h=>by
  replace h:=jb h;obtain⟨⟨t,x,y⟩,hz,h⟩:=h;obtain⟨pos,rfl⟩:=asIfS_ hz;simp only[KM]at h;refine PS.imp (fun D τ H w=>?_) (ps_if (sB ok.toOk c t h.1.1).2 (sK ok a x h.1.2) (sK ok b y h.2));obtain⟨σ,O,g,R,w⟩:=w;refine⟨σ,O,R.toReps,ja c (fun d=>jZ fun t wt H1 s1=>?_) w⟩
  cases t with
  |true=>exact⟨σ,O,g.mono s1,R.mono s1,jq a (kM (jd s1)) wt⟩
  |false=>exact⟨σ,O,g.mono s1,R.mono s1,jq b (kM (jd s1)) wt⟩
 |.whl c b,st,h=>by
  replace h:=jb h;obtain⟨⟨t,x,oe⟩,hz,h⟩:=h;obtain⟨pos,rfl⟩:=asWhl_ hz;simp only[KM,Xd]at h;obtain⟨⟨he,h1⟩,h2⟩:=h;subst he
  ·have h:chkE k c t=true/\x0 k b x=true:=⟨h1,h2⟩
   refine PS.imp (fun D τ H w=>?_) (ps_while (by rw[ok.xe];exact Yn) (sB ok.toOk c t h.1).2 (sK ok b x h.2));obtain⟨σ,O,g,R,w⟩:=w;obtain⟨W,⟨m,w0⟩,turn⟩:=w;refine⟨fun m τ' H'=>∃σ' O',Good O₀ H₀ O' H'/\jf (je H O) (je H' O')/\RepS O₀ X.K O' H' σ' τ'/\W m σ',⟨m,σ,O,g,jf.refl _,R,w0⟩,?_⟩;rintro m τ1 H1 ⟨σ1,O1,g1,s1,R1,w1⟩;refine⟨σ1,O1,R1.toReps,ja c (fun d=>jZ fun t wt H2 s2=>?_) (turn m σ1 w1)⟩;have s12:jf (je H O) (je H2 O1):=s1.trans (jd s2)
   cases t with
   |true =>
    refine⟨fun τ' H'=>∃m',m'<m/\∃σ' O',Good O₀ H₀ O' H'/\jf (je H O) (je H' O')/\RepS O₀ X.K O' H' σ' τ'/\W m' σ',fun τ' H' q=>q,σ1,O1,g1.mono s2,R1.mono s2,jq b ?_ wt⟩
    exact⟨fun σ' ⟨m',l,q⟩ τ' H' O' g' s' r'=>⟨m',l,σ',O',g',s12.trans s',r',q⟩,fun _ q=>q,fun σ' q τ' H' O' g' s' r'=>q τ' H' O' g' (s12.trans s') r',fun σ' ⟨m',l,q⟩ τ' H' O' g' s' r'=>⟨m',l,σ',O',g',s12.trans s',r',q⟩,fun _ q=>q,fun _ q=>q,fun _ q=>q⟩
   |false=>exact wt τ1 H2 O1 (g1.mono s2) s12 (R1.mono s2)
 |.forR i es b,st,h=>by
  replace h:=jb h;obtain⟨⟨tg,it,body,oe⟩,hz,h⟩:=h;obtain⟨pos,rfl⟩:=vI hz;replace h:=jb h;obtain⟨x,hxn,h⟩:=h;obtain⟨p,e1⟩:=jn hxn;clear hxn;simp only at e1;subst e1;replace h:=jb h;obtain⟨⟨f,args,p2⟩,hc,h⟩:=h;obtain⟨q,e2⟩:=jL hc;simp only at e2;subst e2;simp only[KM,decide_eq_true_eq,Xd]at h;obtain⟨⟨⟨⟨⟨⟨he,hx⟩,hf⟩,hg⟩,hne⟩,ha⟩,hb⟩:=h;subst he hf
  ·skip
   obtain⟨h1,h2,h3,h4⟩:=ok.vis hx;obtain⟨g1,_,_⟩:=ok.gl hg
   cases args with
   |nil=>simp at hne
   |cons y ys =>
    have hs:Qa (y::ys) X.env=(false,eval y X.env)::Qa ys X.env/\(backTo p2 (Qa ys X.env)).any (·.1)=false:=by
     cases es with
     |nil=>have:=j0 ha;cases this
     |cons z zs =>
      obtain⟨y',ys',e',h5,h6⟩:=jR ha;cases e';exact⟨jz h5 _ _,ko h6 _ _⟩
    refine PS.imp (fun D τ H w=>?_) (z9 (by rw[ok.xe];exact Yn) ok.calm (pi_rg g1 (ok.blt _ (by decide)) (sA ok.toOk es _ ha) hs.1 hs.2) (xY ok.nd h1 h2 (.inl (ok.fn _))) (sK ok b body hb) (fun _=>rfl));obtain⟨σ,O,g,R,w⟩:=w;refine⟨σ,O,R.toReps,jw es (fun ds wd vs H1 s1 i1=>?_) w⟩;obtain⟨lo,hi,st,e,c,wd⟩:=v8 i1 wd;refine⟨lo,hi,st,e,c,?_⟩;refine Jv (S:=H1) (g.mono s1) (R.mono s1) (xs:=jP lo st (if lo<hi then (hi-lo-1) / st+1 else 0).toNat) ?_ ?_ ?_ (kS (body:=fun K σ=>wpS C b K σ) (fun K K' σ h w=>jq b h w) (kM (jd s1)) _ wd)
    ·intro j H O _ hj;rw[jv]at hj;exact hj
    ·intro j H O _ hj;rw[jv]at hj;exact hj
    ·intro j H O v H' d _ y hd;obtain⟨e1,e2⟩:=y
     have hj:j<(if lo<hi then (hi-lo-1) / st+1 else 0).toNat:=by
      rcases Qd j (if lo<hi then (hi-lo-1) / st+1 else 0).toNat with z|z
      ·exact z
      ·rw[KT (by rw[jv];exact z)]at hd;cases hd
     rw[qr _ _ _ _ hj]at hd;cases hd
     exact⟨e1,by rw[e2];exact jH _⟩
 |.forE i e b,st,h=>by
  replace h:=jb h;obtain⟨⟨tg,it,body,oe⟩,hz,h⟩:=h;obtain⟨pos,rfl⟩:=vI hz;replace h:=jb h;obtain⟨x,hxn,h⟩:=h;obtain⟨p,e1⟩:=jn hxn;clear hxn;simp only at e1;subst e1;simp only[KM,Ql,Xd]at h;obtain⟨⟨⟨⟨he0,hx⟩,hn⟩,he⟩,hb⟩:=h;subst he0
  ·skip
   obtain⟨h1,h2,h3,h4⟩:=ok.vis hx;have pe:=(sB ok.toOk e it he).1;refine PS.imp (fun D τ H w=>?_) (z9 (by rw[ok.xe];exact Yn) ok.calm (xR pe) (xY ok.nd h1 h2 (.inl (ok.fn _))) (sK ok b body hb) (qq hn _));obtain⟨σ,O,g,R,w⟩:=w;refine⟨σ,O,R.toReps,ja e (fun d wd v H1 s1 i1=>?_) w⟩;obtain⟨xs,e1,wd⟩:=wd;have wd':=kS (body:=fun K σ=>wpS C b K σ) (fun K K' σ h w=>jq b h w) (kM (K:=X.K) (O₀:=O₀) (H₀:=H₀) (ex:=ex) (D:=D) (jd (O:=O) s1)) _ wd;obtain⟨J,hw,g1,g2,g3⟩:=walk_of e1 i1
   exact⟨J,hw,Jv (S:=H1) (g.mono s1) (R.mono s1) g1 g2 g3 wd'⟩
 |.brk,st,h=>by
  obtain⟨pos,rfl⟩:=isBrk_ h;refine PS.imp (fun D τ H w=>?_) ps_break;obtain⟨σ,O,g,R,w⟩:=w
  exact w τ H O g (jf.refl _) R
 |.cnt,st,h=>by
  obtain⟨pos,rfl⟩:=isCnt_ h;refine PS.imp (fun D τ H w=>?_) ps_continue;obtain⟨σ,O,g,R,w⟩:=w
  exact w τ H O g (jf.refl _) R
 |.never,st,h=>by
  refine PS.imp (fun D τ H w=>?_) ps_never;obtain⟨σ,O,g,R,w⟩:=w
  exact w
 |.new i,st,h=>by
  replace h:=jb h;obtain⟨⟨ts,v⟩,ha,h⟩:=h;obtain⟨pos,rfl⟩:=xN ha;replace h:=jb h;obtain⟨t,ht,h⟩:=h;have et:=zx ht;simp only at et;subst et;replace h:=jb h;obtain⟨x,hx,h⟩:=h;obtain⟨p,rfl⟩:=jn hx;rw[KM]at h;obtain⟨h1,h2,h3,h4⟩:=ok.vis h.1;obtain⟨es,he,h5⟩:=jb h.2
  have hes:es=[]:=by simpa using h5
  subst hes;obtain⟨lp,e2⟩:=yi he;simp only at e2;subst e2;refine PS.imp (fun D τ H w=>?_) (yh ok.nd h1 h2 (vo jU) rfl (.inl (ok.fn _)));obtain⟨σ,O,g,R,w⟩:=w;rw[wS_new]at w;refine⟨by decide,fun l hl=>?_⟩;have hi:i<τ.length\/τ.length<=i:=Qd ..;have s1:jf H (upd H l (.lst [])):=jB hl _;rcases hi with hi|hi
  ·exact w _ _ (l::O) (g.fresh s1 hl) (ki s1 hl) (R.fresh g.sub s1 hl (jm ..) (by unfold Iss;rfl) hi)
  ·have e1:setS σ i (some (.ow []))=σ:=setS_out _ (by rw[R.len];exact hi);have e2:τ.set i (some (.ref l))=τ:=List.set_eq_of_length_le hi;rw[e1]at w;show D.nx (τ.set i (some (.ref l))) _;rw[e2]
   exact w _ _ O (g.mono s1) (jd s1) (R.mono s1)
 |.app i e,st,h=>by
  replace h:=jb h;obtain⟨z,hz,h⟩:=h;obtain⟨pos,rfl⟩:=JV hz;replace h:=jb h;obtain⟨⟨fe,xs,ks,cp⟩,hc,h⟩:=h;have ee:=xt hc;subst ee;simp only[KM,decide_eq_true_eq,Xd]at h;obtain⟨⟨⟨hk,hl1⟩,hat⟩,he⟩:=h;replace hat:=jb hat;obtain⟨⟨ob,at',ap⟩,hy,hat⟩:=hat;have ee:=xq hy;subst ee;simp only[KM,decide_eq_true_eq]at hat;obtain⟨⟨ha1,ha2⟩,ha3⟩:=hat;subst ha1 hk;replace ha2:=jb ha2;obtain⟨x,hx,hloc⟩:=ha2;obtain⟨q,rfl⟩:=jn hx;obtain⟨y,rfl⟩:=kJ hl1;have he:chkE k e y=true:=he;obtain⟨h1,h2,h3,h4⟩:=ok.vis hloc;refine PS.imp (fun D τ H w=>?_) (zO (pe_bm X0 Zk PySem.F.type_list_append uh (j9 h1 (qd h2) h3 h4) (js (sB ok.toOk e y he).1 jU (jz he _ _)) rfl (by rw[jz he];rfl) ha3 (jz he _ _) rfl));obtain⟨σ,O,g,R,w⟩:=w;rw[wS_app]at w
  cases gs:getS σ i with
  |none=>rw[gs]at w;exact w.elim
  |some u =>
   rw[gs]at w
   cases u with
   |sh d=>exact w.elim
   |ot _=>exact w.elim
   |ow ds =>
    obtain⟨a,vs,e1,e2,e3,e4⟩:=R.ow i ds gs;refine⟨.ref a,e1,.inl ⟨rfl,vs,SqL.of e3⟩,σ,O,R.toReps,ja e (fun d wd v H1 s1 i1=>?_) w.2⟩;have hl:=e4.length;have hlim:=w.1;refine⟨a,vs,v,rfl,rfl,s1 _ _ e3,by rw[Xv];unfold lim at hlim;lia,?_⟩;have i2:Iss X.K (je H1 O) (ds ++ [d]) (vs ++ [v]):=(Iss.mono (jd s1) ds e4).append (by unfold Iss;exact⟨v,[],rfl,i1,by unfold Iss;rfl⟩);refine wd τ _ O ((g.mono s1).write e2 (R.mine i ds a gs e1)) ?_ ((R.mono s1).write (vs:=vs) gs e1 e2 i2);rw[jM e2]
    exact jd s1
 |.sto i e v,st,h=>by
  replace h:=jb h;obtain⟨⟨ts,vE⟩,ha,h⟩:=h;obtain⟨pos,rfl⟩:=xN ha;replace h:=jb h;obtain⟨t,ht,h⟩:=h;have et:=zx ht;simp only at et;subst et;replace h:=jb h;obtain⟨⟨ob,ix⟩,hx,h⟩:=h;obtain⟨p,rfl⟩:=yl hx;simp only[KM,Ql]at h;obtain⟨⟨⟨hsl,hloc⟩,he⟩,hv⟩:=h;replace hloc:=jb hloc;obtain⟨x,hn,hloc⟩:=hloc;obtain⟨q,rfl⟩:=jn hn;obtain⟨h1,h2,h3,h4⟩:=ok.vis hloc
  have hasg:∀u,assign (.Subscript (.Name x q) ix p) X.env u=(do
   let ov <- Zo [u] (eval (.Name x q) X.env)
   let iv <- Zo [u,ov] (eval ix X.env)
   standAt p
   Zo [u,ov,iv] (setItem ov iv u)
   release [u,ov,iv] []):=by
   intro u
   cases ix<;>first|rfl|exact KZ hsl
  refine PS.imp (fun D τ H w=>?_) (Ks (sB ok.toOk v vE hv).1 (pg_sub (j9 h1 (qd h2) h3 h4) (sB ok.toOk e ix he).1 set_list hasg) (by unfold swapsWithSole;exact swaps_sub _ _ _ _ _) (by cases vE<;>rfl) rfl);obtain⟨σ,O,g,R,w⟩:=w;rw[wS_sto]at w
  cases gs:getS σ i with
  |none=>rw[gs]at w;exact w.elim
  |some u =>
   rw[gs]at w
   cases u with
   |sh d=>exact w.elim
   |ot _=>exact w.elim
   |ow ds =>
    obtain⟨a,vs,e1,e2,e3,e4⟩:=R.ow i ds gs;refine⟨σ,O,R.toReps,ja v (fun d wd vv H1 s1 i1=>⟨.ref a,e1,σ,O,(R.mono s1).toReps,ja e (fun y wy yv H2 s2 i2=>?_) wd⟩) w⟩
    cases y with
    |int n =>
     cases jl i2;obtain⟨⟨n0,n1⟩,q⟩:=wy;have s12:=s1.trans s2;have hl:=e4.length;refine⟨a,vs,n,n.toNat,rfl,rfl,s12 _ _ e3,by unfold ixN;rw[if_pos n0,if_pos (by lia)],?_⟩;have i3:Iss X.K (je H2 O) (ds.set n.toNat d) (vs.set n.toNat vv):=(Iss.mono (jd s12) ds e4).set (Is.mono (jd s2) d i1);refine q τ _ O ((g.mono s12).write e2 (R.mine i ds a gs e1)) ?_ ((R.mono s12).write (vs:=vs) gs e1 e2 i3);rw[jM e2]
     exact jd s12
    |_=>exact wy.elim
 |.retO i,st,h=>by
  replace h:=jb h;obtain⟨ov,ho,h⟩:=h;replace h:=jb h;obtain⟨v,hv,h⟩:=h;subst hv;obtain⟨pos,rfl⟩:=ut ho;replace h:=jb h;obtain⟨x,hx,h⟩:=h;obtain⟨q,rfl⟩:=jn hx;obtain⟨h1,h2,h3,h4⟩:=ok.vis h;refine PS.imp (fun D τ H w=>?_) (qY (j9 h1 (qd h2) h3 h4));obtain⟨σ,O,g,R,w⟩:=w;rw[Kf]at w
  cases gs:getS σ i with
  |none=>rw[gs]at w;exact w.elim
  |some u =>
   rw[gs]at w
   cases u with
   |sh d=>exact w.elim
   |ot _=>exact w.elim
   |ow ds =>
    obtain⟨a,vs,e1,e2,e3,e4⟩:=R.ow i ds gs;have hn:=R.mine i ds a gs e1;refine⟨.ref a,e1,w a H vs g.same ((g.new a e2).resolve_left hn) e3 (Iss.mono (jC fun b hb=>?_) ds e4)⟩;rcases KS.mp hb with rfl|hb
    ·exact e2
    ·exact g.sub b hb
 |.shr _,_,h=>nomatch (show false=true from h)
 |.raiseA _ _,_,h=>nomatch (show false=true from h)
 |.retY _ _,_,h=>nomatch (show false=true from h)
 |.ext i e,st,h=>by
  replace h:=jb h;obtain⟨z,hz,h⟩:=h;obtain⟨pos,rfl⟩:=JV hz;replace h:=jb h;obtain⟨⟨fe,xs,ks,cp⟩,hc,h⟩:=h;have ee:=xt hc;subst ee;simp only[KM,decide_eq_true_eq,Xd]at h;obtain⟨⟨⟨hk,hl1⟩,hat⟩,he⟩:=h;replace hat:=jb hat;obtain⟨⟨ob,at',ap⟩,hy,hat⟩:=hat;have ee:=xq hy;subst ee;simp only[KM,decide_eq_true_eq]at hat;obtain⟨⟨ha1,ha2⟩,ha3⟩:=hat;subst ha1 hk;replace ha2:=jb ha2;obtain⟨x,hx,hloc⟩:=ha2;obtain⟨q,rfl⟩:=jn hx;obtain⟨y,rfl⟩:=kJ hl1;have he:chkE k e y=true:=he;obtain⟨h1,h2,h3,h4⟩:=ok.vis hloc;refine PS.imp (fun D τ H w=>?_) (zO (pe_bm X0 PySem.F.slot_list_extend PySem.F.type_list_extend mt_extS (j9 h1 (qd h2) h3 h4) (js (sB ok.toOk e y he).1 jU (jz he _ _)) rfl (by rw[jz he];rfl) ha3 (jz he _ _) rfl));obtain⟨σ,O,g,R,w⟩:=w;rw[wS_ext]at w
  cases gs:getS σ i with
  |none=>rw[gs]at w;exact w.elim
  |some u =>
   rw[gs]at w
   cases u with
   |sh d=>exact w.elim
   |ot _=>exact w.elim
   |ow ds =>
    obtain⟨a,vs,e1,e2,e3,e4⟩:=R.ow i ds gs;refine⟨.ref a,e1,.inl ⟨rfl,vs,SqL.of e3⟩,σ,O,R.toReps,ja e (fun d wd v H1 s1 i1=>?_) w⟩
    cases d with
    |lst zs =>
     obtain⟨hlim,wd⟩:=wd;obtain⟨b,ws,rfl,h5,h6⟩:=jF i1;have hl:=e4.length;have hl2:=h6.length;refine⟨a,b,vs,ws,rfl,rfl,s1 _ _ e3,(jg _ _).seq h5,by rw[Xv];unfold lim at hlim;lia,?_⟩;have i2:Iss X.K (je H1 O) (ds++zs) (vs++ws):=(Iss.mono (jd s1) ds e4).append h6;refine wd τ _ O ((g.mono s1).write e2 (R.mine i ds a gs e1)) ?_ ((R.mono s1).write (vs:=vs) gs e1 e2 i2);rw[jM e2]
     exact jd s1
    |_=>exact wd.elim
 |.forN i e b,st,h=>by
  replace h:=jb h;obtain⟨⟨tg,it,body,oe⟩,hz,h⟩:=h;obtain⟨pos,rfl⟩:=vI hz;replace h:=jb h;obtain⟨x,hxn,h⟩:=h;obtain⟨p,e1⟩:=jn hxn;clear hxn;simp only at e1;subst e1;replace h:=jb h;obtain⟨⟨f,args,p2⟩,hc,h⟩:=h;obtain⟨q,e2⟩:=jL hc;simp only at e2;subst e2;simp only[KM,decide_eq_true_eq,Xd]at h;obtain⟨⟨⟨⟨⟨⟨he,hx⟩,hf⟩,hg⟩,hne⟩,ha⟩,hb⟩:=h;subst he hf;obtain⟨y,rfl⟩:=kJ hne;have ha:chkE k e y=true:=ha;obtain⟨h1,h2,h3,h4⟩:=ok.vis hx;obtain⟨g1,_,_⟩:=ok.gl hg;refine PS.imp (fun D τ H w=>?_) (z9 (by rw[ok.xe];exact Yn) ok.calm (pi_enum g1 (ok.blt _ (by decide)) (sA ok.toOk [e] [y] (by simp[qm,ha])) (jz ha _ _) rfl) (xY ok.nd h1 h2 (.inl (ok.fn _))) (sK ok b body hb) (fun _=>rfl));obtain⟨σ,O,g,R,w⟩:=w;refine⟨σ,O,R.toReps,?_⟩;simp only[wpEs];refine ja e (fun d wd us H1 s1 i1=>?_) w;obtain⟨ys,rfl,wd⟩:=isL_of wd;obtain⟨v,rfl,j1⟩:=zN i1;have wd':=kS (body:=fun K σ=>wpS C b K σ) (fun K K' σ h w=>jq b h w) (kM (K:=X.K) (O₀:=O₀) (H₀:=H₀) (ex:=ex) (D:=D) (jd (O:=O) s1)) _ wd;obtain⟨a,vs,rfl,h5,h6⟩:=jF j1;have hl:=h6.length
  have ln:(enmD ys).length=ys.length:=by unfold enmD;simp
  have sq:∀ {H:Hp} {O':List Addr},jf (je H1 O) (je H O')->SqL X.K H a vs:=fun sm=>(jg _ _).seq (sm.seq h5)
  refine⟨a,rfl,⟨vs,(jg _ _).seq h5⟩,for_turnsG (S:=H1) (g.mono s1) (R.mono s1) ?_ ?_ ?_ wd'⟩
  ·intro j H O' sm hj;rw[ln]at hj;exact⟨vs,vs[j]'(by lia),sq sm,KU _⟩
  ·intro j H O' sm hj;rw[ln]at hj;exact⟨vs,sq sm,by lia⟩
  ·intro j H O' v H' d ho sm y hd;obtain⟨T,x,rfl,hT,hx',rfl⟩:=y;have hz:(enmD ys)[j]?=some d:=hd;unfold enmD at hz;rw[Qg,List.getElem?_zipIdx]at hz
   cases hzz:ys[j]? with
   |none=>rw[hzz]at hz;cases hz
   |some a1 =>
    rw[hzz]at hz;simp only[Z7,Q8,Nat.zero_add]at hz;subst hz;obtain⟨u1,g2,k1⟩:=h6.get hzz;rw[hx' vs (sq sm)]at g2;cases g2;have s':=jB hT (.tup [.int j,x]);refine⟨s',Km (xL ho hT) ?_⟩
    ·have sm2:=sm.trans (jd (O:=O') s');unfold Iss;refine⟨.int j,[x],rfl,jH _,?_⟩;unfold Iss
     exact⟨x,[],rfl,Is.mono sm2 a1 k1,by unfold Iss;rfl⟩
 |.forU i j m e,st,h=>by
  replace h:=jb h;obtain⟨⟨tg,it,body,oe⟩,hz,h⟩:=h;obtain⟨pos,rfl⟩:=vI hz;replace h:=jb h;obtain⟨x,hxn,h⟩:=h;obtain⟨p,e1⟩:=jn hxn;clear hxn;simp only at e1;subst e1;replace h:=jb h;obtain⟨y,hyn,h⟩:=h;obtain⟨q,e1⟩:=jn hyn;clear hyn;simp only at e1;subst e1;simp only[KM,decide_eq_true_eq,Xd]at h;obtain⟨⟨⟨⟨⟨he,hx⟩,hy⟩,hij⟩,hmj⟩,hb⟩:=h;subst he;replace hb:=jb hb;obtain⟨b,hb1,hb⟩:=hb;have e2:=sole1_ hb1
  try simp only at e2
  subst e2;replace hb:=jb hb;obtain⟨⟨ts,v⟩,ha,hb⟩:=hb;obtain⟨ap,rfl⟩:=xN ha;replace hb:=jb hb;obtain⟨t,ht,hb⟩:=hb;have e3:=zx ht
  try simp only at e3
  subst e3;replace hb:=jb hb;obtain⟨u,hu,hb⟩:=hb;obtain⟨up,rfl⟩:=jn hu;simp only[KM,Ql]at hb;obtain⟨⟨hm,hc⟩,hb⟩:=hb;obtain⟨h1,h2,h3,h4⟩:=ok.vis hx;obtain⟨h5,h6,h7,h8⟩:=ok.vis hy;obtain⟨m1,m2,m3,m4⟩:=ok.vis hm;refine PS.imp (fun D τ H w=>?_) (z9 (by rw[ok.xe];exact Yn) ok.calm (xR (j9 h5 (qd h6) h7 h8)) (xY ok.nd h1 h2 (.inl (ok.fn _))) (pss_one (yh ok.nd m1 m2 (sB ok.toOk e v hb).1 (u7 hb hc _ _ _) (.inl (ok.fn _)))) (fun _=>rfl));obtain⟨σ,O,g,R,w⟩:=w;obtain⟨ds,gs,w⟩:=own_of w;obtain⟨a,vs,e1,e2,e3,e4⟩:=R.ow j ds gs
  exact⟨.ref a,e1,_,.inl ⟨a,rfl,.inl ⟨⟨vs,SqL.of e3⟩,rfl⟩⟩,forU_turns hij g R gs e1 e3 e4 w⟩
 |.retF e,st,h=>by
  replace h:=jb h;obtain⟨ov,ho,h⟩:=h;replace h:=jb h;obtain⟨v,hv,h⟩:=h;subst hv;obtain⟨pos,rfl⟩:=ut ho;rw[KM]at h;refine PS.imp (fun D τ H w=>?_) (qY (sL ok.toOk e v h.1 h.2));obtain⟨σ,O,g,R,w⟩:=w;refine⟨σ,O,R.toReps,ja e (fun d=>qj fun xs nx ys a H1 us e' s1 h0 hl is=>?_) w⟩;cases e'
  have h0':H₀ a=none:=by
   cases q:H₀ a with
   |none=>rfl
   |some o=>rw[g.same a o q]at h0;cases h0
  exact nx a H1 us (g.same.trans s1) h0' hl (Iss.mono (jC fun b hb=>by
   rcases KS.mp hb with rfl|hb
   ·exact K0 ..
   ·exact KR _ (g.sub b hb)) xs is)
 |.ownG i e,st,h=>by
  replace h:=jb h;obtain⟨⟨ts,v⟩,ha,h⟩:=h;obtain⟨pos,rfl⟩:=xN ha;replace h:=jb h;obtain⟨t,ht,h⟩:=h;have et:=zx ht;simp only at et;subst et;replace h:=jb h;obtain⟨x,hx,h⟩:=h;obtain⟨p,rfl⟩:=jn hx;simp only[KM]at h;obtain⟨⟨h0,hfr⟩,he⟩:=h;obtain⟨h1,h2,h3,h4⟩:=ok.vis h0
  have key:∀(D:Ends) (τ:L2.St) (H:Hp),tS X.K C O₀ H₀ ex (.ownG i e) D τ H->tDG X.K C e τ H fun u H'=>D.nx (τ.set i (some u)) H':=fun D τ H w=>by
   obtain⟨σ,O,g,R,w⟩:=w;refine⟨σ,O,R.toReps,wpG_mono (fun rows nx rows' a as H1 e' s1 h0 t=>?_) w.2⟩;have e':=rowsD_inj e';subst e';exact put_newT g R s1 h0 t w.1 nx
  obtain⟨y,py,iter,elt,sc,ps,wi,b',rfl,hck,hpi,hfo,hel,hco⟩:=gcomp ok.toOk e v hfr he;obtain⟨b,hb⟩:=uT (elt:=elt) (gs:=[⟨.Name y py,iter,[],0⟩]) (sc:=sc) (pos:=ps) (py:=p) (y:=x) pos.line X.env
  cases b with
  |false=>exact PS.imp key (yh ok.nd h1 h2 (sG ok.toOk e _ hfr he) hb (.inl (ok.fn _)))
  |true =>
   intro pins s τ H D I w;obtain⟨cl,co⟩:=ok.toOk.comp hck I.ok
   exact ps_comp ok.calm ok.nd (ok.toOk.comp_nE hck) co hpi (fun _ _ _ _=>qz) (hel cl co) hfo hb h1 h2 (.inl (ok.fn _)) pins s τ H D I (hco τ H _ (key D τ H w))
 |.forT j i ss,st,h=>by
  replace h:=jb h;obtain⟨⟨tg,it,body,oe⟩,hz,h⟩:=h;obtain⟨pos,rfl⟩:=vI hz;replace h:=jb h;obtain⟨x,hxn,h⟩:=h;obtain⟨p,e1⟩:=jn hxn;clear hxn;simp only at e1;subst e1;replace h:=jb h;obtain⟨y,hyn,h⟩:=h;obtain⟨q,e1⟩:=jn hyn;clear hyn;simp only at e1;subst e1;simp only[KM,decide_eq_true_eq,Xd]at h;obtain⟨⟨⟨⟨he,hx⟩,hy⟩,hij⟩,hb⟩:=h;subst he;obtain⟨h1,h2,h3,h4⟩:=ok.vis hx;obtain⟨h5,h6,h7,h8⟩:=ok.vis hy;intro pins s τ H D I w;refine z9 (by rw[ok.xe];exact Yn) ok.calm (xR (j9 h5 (qd h6) h7 h8)) (xY ok.nd h1 h2 (.inl (ok.fn _))) (sRs (O₀:=O₀) (H₀:=H₀) (i:=i) (j:=j) ok ss body hb) (fun _=>rfl) pins s τ H D I ?_;obtain⟨σ,O,g,R,w⟩:=w;obtain⟨rows,gs,w⟩:=tab_of w;obtain⟨a,as,e1,t,_⟩:=R.tt.1 i rows gs
  have hjl:j<σ.length:=by
   rw[R.len,I.len];exact(Q4.mp h1).1
  exact⟨.ref a,e1,_,.inl ⟨a,rfl,.inl ⟨⟨_,SqL.of t.top⟩,rfl⟩⟩,forT_turns hij hjl g R gs e1 t w⟩
 |.shrT _,_,h=>nomatch (show false=true from h)
 |.hlfT _,_,h=>nomatch (show false=true from h)
theorem sK(ok:OkS X k C):∀(s:Sm) (st:List Stmt),x0 k s st=true->PSs X st (tS X.K C O₀ H₀ ex s)
 |.nop,st,h=>by
  have e:st=[]:=by rw[x0]at h;simpa using h
  subst e;refine PSs.imp (fun D τ H w=>?_) j7;obtain⟨σ,O,g,R,w⟩:=w
  exact w τ H O g (jf.refl _) R
 |.seq a b,st,h=>by
  by_cases hs:zu a=true
  ·exact PSs.imp (fun D τ H w=>shr_tS hs w) (sK ok b st (chkB_shr hs h))
  ·have hs:zu a=false:=by simpa using hs
   obtain⟨s,r,rfl,h1,h2⟩:=chkB_cons hs h;refine PSs.imp (fun D τ H w=>?_) (jr (sS ok a s h1) (sK ok b r h2));obtain⟨σ,O,g,R,w⟩:=w;refine⟨σ,O,g,R,jq a ?_ w⟩
   exact⟨fun σ' q τ' H' O' g' s' r'=>⟨σ',O',g',r',jq b (kM s') q⟩,fun _ q=>q,fun _ q=>q,fun _ q=>q,fun _ q=>q,fun _ q=>q,fun _ q=>q⟩
 |.set _ _,_,h=>nomatch (show false=true from h)
 |.unp _ _,_,h=>nomatch (show false=true from h)
 |.ret _,_,h=>nomatch (show false=true from h)
 |.ite _ _ _,_,h=>nomatch (show false=true from h)
 |.whl _ _,_,h=>nomatch (show false=true from h)
 |.forR _ _ _,_,h=>nomatch (show false=true from h)
 |.forE _ _ _,_,h=>nomatch (show false=true from h)
 |.brk,_,h=>nomatch (show false=true from h)
 |.cnt,_,h=>nomatch (show false=true from h)
 |.never,_,h=>nomatch (show false=true from h)
 |.new _,_,h=>nomatch (show false=true from h)
 |.app _ _,_,h=>nomatch (show false=true from h)
 |.sto _ _ _,_,h=>nomatch (show false=true from h)
 |.shr _,_,h=>nomatch (show false=true from h)
 |.retO _,_,h=>nomatch (show false=true from h)
 |.raiseA _ _,_,h=>nomatch (show false=true from h)
 |.retY _ _,_,h=>nomatch (show false=true from h)
 |.ownG _ _,_,h=>nomatch (show false=true from h)
 |.forT _ _ _,_,h=>nomatch (show false=true from h)
 |.shrT _,_,h=>nomatch (show false=true from h)
 |.hlfT _,_,h=>nomatch (show false=true from h)
 |.ext _ _,_,h=>nomatch (show false=true from h)
 |.forN _ _ _,_,h=>nomatch (show false=true from h)
 |.forU _ _ _ _,_,h=>nomatch (show false=true from h)
 |.retF _,_,h=>nomatch (show false=true from h)
end
end
end Z
namespace Z
open PySem PySem.Spec PySem.Calls PyProof.Rows PySem.W L2
theorem tg_entry:entryFor table "type.__getattribute__"=some XY.«type.__getattribute__»:=entryFor_of_tree (by kernel_rfl)
theorem tg_bind(self:KO):bindSpecial (.builtin "type.__getattribute__") self=pure (.builtin "type.__getattribute__",[self]):=by rfl
theorem Kr{K:Frag}{M:Model}{h:QG}{n:Str}{r:Option KO}(X:K.In h)(e:fastLookup "wrapper_descriptor" n=some r):Looks M h (specialOf (.builtin "type.__init__") n) r:=looks_specialIn X (show specialIn K (.builtin "type.__init__") n=some r from e)
section
variable {prog:Qp} {w:World} {A:QH} {E:KO->Shared->Prop} {h:QG} {g:Array Yp} {d:Drawn} {t:Nat} {os:OsState} {K:Frag} {T:Addr} {ddT:Option Addr} {cdT:ClassData} {slT:Array (Option KO)}
theorem cls_init{expr:Bool}{Q:KO->Shared->Prop}(X:K.In h)(tt:h.get? T=some ⟨.type "type",ddT,.cls cdT,slT⟩)(op:nsIn K cStatics "thirdparty.any"=some none)(fi:findIn K (.ref T) "__init__"=some (some (.builtin "ValueError.__init__")))
 (hq:Q (.builtin "ValueError.__init__") ⟨h,g,d,t+1,os⟩):wpAny (model prog w) A (getAttr (.ref T) "__init__" expr) Q E ⟨h,g,d,t,os⟩:=by
 have L0:Looks (model prog w) h (typeOf (.ref T)) (.type "type"):=(Looks.ld tt).andThen .now;have L1:=Y7 (M:=model prog w) X (show findIn K (.type "type") "__getattribute__"=some (some (.builtin "type.__getattribute__")) from by show fastLookup "type" "__getattribute__"=_;decide +kernel);have L2:=looks_opaque (M:=model prog w) (C:=T) X op;have L3:=Y7 (M:=model prog w) X (show findIn K (.type "type") "__init__"=some (some (.builtin "type.__init__")) from by show fastLookup "type" "__init__"=_;decide +kernel);have L4:=Kr (M:=model prog w) (n:="__get__") (r:=some (.builtin "wrapper_descriptor.__get__")) X (by decide +kernel);have L5:=Kr (M:=model prog w) (n:="__set__") (r:=none) X (by decide +kernel);have L6:=Kr (M:=model prog w) (n:="__delete__") (r:=none) X (by decide +kernel);have L7:=Y7 (M:=model prog w) X fi
 have y0:(expr&&onTheHeap (YR "type.__getattribute__"))=false:=by cases expr<;>rfl
 unfold getAttr getAttrBy;refine KL (wpAny_mkText (QB (KL (L0.at (KL (L1.at ?_))))));show wpAny _ _ (Ua _ _ _ _ _ _) _ _ _;unfold Ua hookBefore;refine KL (KW (KL (YQ (QB ?_))));unfold callGetattribute;rw[if_neg (by rw[y0];decide)];unfold boundAndCalled;refine KL (XH (tg_bind _) ?_);refine Zt (XC (by decide +kernel) tg_entry ?_)
 have hk:builtinKind "type.__getattribute__"=some .slot:=by decide +kernel
 have hsp:splitId "type.__getattribute__"=some ("type","__getattribute__"):=by decide +kernel
 simp only[Y6,hk,hsp];refine KL ?_;unfold ZR;refine KL (L0.at ?_);refine XH (show isSubtype (.type "type") (.type "type")=pure true from by rfl) ?_;rw[if_neg (by decide)];refine XH (show _=pure () from (show argsOk "type.__getattribute__" ⟨[.ref T,.str "__init__" t],[]⟩ from rfl)) ?_;unfold XY.«type.__getattribute__»;refine KL (XH (show asStr? (.str "__init__" t)=pure (some ("__init__":Str)) from rfl) ?_);show wpAny _ _ (do let x <- opaqueClassAbove (.ref T);_) _ _ _;refine KL (L2.at ?_);refine KL (L0.at (KL (L3.at (KL (L4.at (KL (L5.at ?_)))))));rw[if_neg (by decide)];refine KL (L6.at (KL (KW ?_)));show wpAny _ _ (do let z <- XE (.ref T) ("__init__":Str);_) _ _ _;refine KL (L7.at ?_);simp only[];rw[if_neg (by decide +kernel)];refine KL (XH (show typeOf (.builtin "ValueError.__init__")=pure (.type "wrapper_descriptor") from rfl) ?_);rw[if_pos (by decide +kernel)];refine KW ?_;refine XH (show handedOut (.builtin "ValueError.__init__")=pure (.builtin "ValueError.__init__") from rfl) ?_;exact hq
end
theorem ns_some{K:Frag}{h:QG}{N:Addr}{m:Str->Option KO}{n:Str}{v:KO}(X:K.In h)(G:h.Ns N m)(e:nsIn K N n=some (some v)):m n=some v:=by
 obtain⟨o,es,ep,ho,hd,_,hf⟩:=G;unfold nsIn at e;split at e
 ·next cls dict es1 epoch slots heq =>
  have this:=X _ _ heq;rw[ho]at this;cases this;cases hd;split at e
  ·next e1 h1 =>
   cases e;rw[<- hf n];unfold nsFind findBy;rw[<- Array.find?_toList,h1];rfl
  ·split at e<;>cases e
 ·cases e
structure InitF (K:Frag) (mg:Str->Option KO) (C T f:Addr) (n:Str):Prop where
 lk:∃nm q N bs sn sub ab col dd k0 k1 k2 k3 k5,K.lookup C=some (Xn nm q C N bs (.ref T::bmV) true sn sub ab col dd k0 k1 k2 k3 k5 newV)/\nsOkIn K N=true/\nsIn K N "__init__"=some (some (.ref f))/\∀x ∈ [("__getattribute__":Str),"__getattr__","__setattr__",n],nsIn K N x=some none
 lt:∃dd cd sl,K.lookup T=some ⟨.type "type",dd,.cls cd,sl⟩/\nsOkIn K cd.ns=true/\∀x∈n::("__setattr__":Str)::ZS,nsIn K cd.ns x=some none
 op:nsIn K cStatics "thirdparty.any"=some none
 fi:findIn K (.ref T) "__init__"=some (some (.builtin "ValueError.__init__"))
 te:mg "TrueError"=some (.ref T)
 fn:isFn K (.ref f)=true
 kp:keepIn K (.ref C)=true
 bl:XE (.type "ValueError") n=pure none
structure InitH (h:QG) (C T f N:Addr) (n:Str) (o:Obj) (mN:Str->Option KO):Prop where
 hC:h.get? C=some o
 hn:h.Ns N mN
 hi:mN "__init__"=some (.ref f)
 no:∀x ∈ [("__getattribute__":Str),"__getattr__","__setattr__",n],mN x=none
 tl:OwnTail h bmV (.ref T::bmV)
 tq:OwnTailQ h bmV (.ref T::bmV)
 tn:∀x∈n::("__setattr__":Str)::ZS,TailN x h bmV (.ref T::bmV)
 hf:∃oI,h.get? f=some oI/\oI.cls=.type "function"
theorem InitF.heap{K:Frag}{mg:Str->Option KO}{C T f:Addr}{n:Str}{h:QG}(F:InitF K mg C T f n)(X:K.In h) :
 ∃nm q N bs sn sub ab col dd k0 k1 k2 k3 k5 mN,InitH h C T f N n (Xn nm q C N bs (.ref T::bmV) true sn sub ab col dd k0 k1 k2 k3 k5 newV) mN:=by
 obtain⟨nm,q,N,bs,sn,sub,ab,col,dd,k0,k1,k2,k3,k5,l1,l2,l3,l4⟩:=F.lk;obtain⟨ddT,cd,sl,t1,t2,t3⟩:=F.lt;have nT:=Heap.Ns.of_isNs (isNs_of_in X t2);have nN:=Heap.Ns.of_isNs (isNs_of_in X l2)
 have mT:∀x∈n::("__setattr__":Str)::ZS,h.nsMap cd.ns x=none:=fun x hx=>nsMap_none_of_in X t2 (t3 x hx)
 refine⟨nm,q,N,bs,sn,sub,ab,col,dd,k0,k1,k2,k3,k5,h.nsMap N,X _ _ l1,nN,ns_some X nN l3,fun x hx=>nsMap_none_of_in X l2 (l4 x hx),.own (X _ _ t1) nT (mT _ (by simp[ZS])) .base,.own (X _ _ t1) nT (fun x hx=>mT x (KR _ (KR _ hx))) .base,fun x hx=>.own (X _ _ t1) nT (mT x hx) .base,?_⟩;have:=F.fn;unfold isFn typeIn at this;simp only at this
 cases q:K.lookup f with
 |none=>rw[q]at this;cases this
 |some oI =>
  rw[q]at this;exact⟨oI,X _ _ q,by simpa using this⟩
noncomputable def excO(C t:Addr)(dct:Option Addr):Obj:={ cls:=.ref C,dict:=dct,data:=.fields #[.ref t,.none,.none,.none,.bool false,.none] }
abbrev xo(e C:Addr)(dct:Option Addr):HO:=.ext fun h=>∃t,h.get? e=some (excO C t dct)
theorem xo_ok{P:Qp}{w:World}{H:Hp}{h:QG}{e C t:Addr}{dct:Option Addr}(he:h.get? e=some (excO C t dct)):qF P w H h e (xo e C dct):=⟨⟨t,he⟩,⟨_,he⟩,fun h1 h2 ⟨t,q⟩ k=>⟨t,k _ q⟩⟩
theorem upd_id{H:Hp}{a:Addr}{o:HO}(h:H a=some o):upd H a o=H:=by
 funext b;unfold upd;split
 ·next e=>rw[e,h]
 ·rfl
theorem cls_meth{prog:Qp}{w:World}{A:QH}{E:KO->Shared->Prop}{s:Shared}{K:Frag}{T:Addr}{ddT:Option Addr}{cdT:ClassData}{slT:Array (Option KO)}{pl:Sem Bool}{Q:KO×List KO->Shared->Prop}(X:K.In s.heap)(tt:s.heap.get? T=some ⟨.type "type",ddT,.cls cdT,slT⟩)(op:nsIn K cStatics "thirdparty.any"=some none)(fi:findIn K (.ref T) "__init__"=some (some (.builtin "ValueError.__init__")))
 (hq:Q (.builtin "ValueError.__init__",[]) { s with toks:=s.toks+1 }):wpAny (model prog w) A (getMethod (.ref T) "__init__" pl) Q E s:=by
 obtain⟨h,g,d,t,os⟩:=s;have L0:Looks (model prog w) h (typeOf (.ref T)) (.type "type"):=(Looks.ld tt).andThen .now;have L1:=Y7 (M:=model prog w) X (show findIn K (.type "type") "__getattribute__"=some (some (.builtin "type.__getattribute__")) from by show fastLookup "type" "__getattribute__"=_;decide +kernel);unfold getMethod specialOf;refine KL (KL (L0.at (L1.at ?_)));simp only[];rw[if_pos (by decide +kernel)];exact KL (cls_init X tt op fi (KW hq))
section
variable {X:Cx} {C T f:Addr} {n:Str}
theorem ps_super{tp sp xp ap cp pos:Pos}{i j:Nat}{x y:Str}(gl:Gl X "TrueError")(hT:X.mg "TrueError"=some (.ref T))(hi:X.N[i]?=some x)(hj:X.N[j]?=some y)(vx:Vis X.env.scope x)(vy:Vis X.env.scope y)
 (dx:(x == ("__debug__":Str))=false/\(x == ("__classdict__":Str))=false) (dy:(y == ("__debug__":Str))=false/\(y == ("__classdict__":Str))=false) (F:InitF X.K X.mg C T f n) (hline:(ap.endLine == cp.line)=true) :
 PS X (.Expr (.Call (.Attribute (.Name "TrueError" tp) "__init__" ap) [.Name x sp,.Name y xp] [] cp) pos) (fun D σ H=>∃e v,σ[i]?=some (some (.ref e))/\σ[j]?=some (some v)/\H e=some (xo e C none)/\D.nx σ H):=by
 refine Z.PS.imp (fun D σ H w=>?_) (zO (te:=fun σ H Q=>∃e v,σ[i]?=some (some (.ref e))/\σ[j]?=some (some v)/\H e=some (xo e C none)/\Q .non H) ?_)
 ·exact w
 intro pins s σ H Q I w;obtain⟨e,v,e1,e2,he,q⟩:=w;obtain⟨ddT,cd,sl,t1,t2,t3⟩:=F.lt
 have hfew:methodCallForm ([Expr.Name x sp,.Name y xp].length+([]:List Keyword).length) (backTo cp (Qa [Expr.Name x sp,.Name y xp] X.env)) (backToKw cp (keywordEach [] X.env))=true:=by rfl
 rw[arm_eval_Call,show Zg (.Name "TrueError" tp) "__init__" X.env (eval (.Name "TrueError" tp) X.env)=eval (.Name "TrueError" tp) X.env from rfl];refine KL (yE I gl hT ?_ (by decide));refine KL (YO ?_);unfold methodCall methodCallPos;rw[hfew,hline];refine KL (QB ?_);show wpAny _ _ (getMethod (.ref T) "__init__" _) _ _ _;refine cls_meth I.kIn (I.kIn _ _ t1) F.op F.fi ?_;refine KL (KW ?_);have pa:PA X [.Name x sp,.Name y xp] _:=js (j9 hi vx dx.1 dx.2) (js (j9 hj vy dy.1 dy.2) jU);refine ZO (thn (pa cp pins _ σ H (fun vs H1=>vs=[.ref e,v]/\H1=H) (I.tok _) ⟨_,e1,_,e2,rfl,rfl⟩) fun us s1 ⟨vs,H1,I1,r1,q1,q2⟩=>?_);subst q1 q2;obtain⟨nm,qn,N,bs,sn,sub,ab,col,dd,k0,k1,k2,k3,k5,mN,hh⟩:=F.heap I1.kIn
 cases r1 with
 |cons r2 r3 =>
  obtain rfl:_=Xa e:=r2
  cases r3 with
  |cons r4 r5 =>
   cases r5;obtain⟨⟨t0,he1⟩,_⟩:=I1.hok e _ he;obtain⟨hp,g,d,tk,os⟩:=s1
   refine init_base Y2 hh.tl hh.hC he1 (by show 1<=sizeLine;decide) fun h' kp g1 g2=>?_
   refine⟨.non,H1,?_,rfl,q⟩;have:=I1.write (x:=e) (e:=e) (o:=xo e C none) (t':=tk) (h':=h') (by rw[he];trivial) (.inl rfl) kp ⟨_,g1⟩ (xo_ok g1);rw[upd_id he]at this;exact this
theorem ps_fldx{value:Expr}{tv:TE}{sp ap pos:Pos}{i:Nat}{x:Str}(hi:X.N[i]?=some x)(vx:Vis X.env.scope x)(dx:(x == ("__debug__":Str))=false/\(x == ("__classdict__":Str))=false)(hv:PE X value tv)(F:InitF X.K X.mg C T f n)(hs:Y5 value (some (.Attribute (.Name x sp) n ap)) pos.line X.env=pure false) :
 PS X (.Assign [.Attribute (.Name x sp) n ap] value pos) (fun D σ H=>tv σ H fun y H1=>∃e,σ[i]?=some (some (.ref e))/\H1 e=some (xo e C none)/\∀dA,H1 dA=none->dA≠e->D.nx σ (upd (upd H1 dA (.xd [(n,y)])) e (xo e C (some dA)))):=by
 intro pins s σ H D I w;refine plainObj_wpAny_Assign_Attribute (thn (hv pins s σ H _ I w) fun u s1 ⟨y,H1,I1,ry,e,e1,he,q⟩=>thn (j9 hi vx dx.1 dx.2 pins s1 σ H1 (fun v H2=>v=.ref e/\H2=H1) I1 ⟨_,e1,rfl,rfl⟩) fun ov s2 ⟨v,H2,I2,rx,q1,q2⟩=>?_) hs;subst q1 q2;obtain rfl:ov=Xa e:=rx;obtain⟨nm,qn,N,bs,sn,sub,ab,col,dd,k0,k1,k2,k3,k5,mN,hh⟩:=F.heap I2.kIn;obtain⟨⟨t0,he1⟩,_⟩:=I2.hok e _ he;obtain⟨hp,g,d,tk,os⟩:=s2
 refine fld_setattr PySem.F.store_ValueError hh.hC hh.hn (hh.no _ (by simp)) (hh.tn _ (by simp)) (hh.no _ (by simp)) (hh.tn _ (by simp)) F.bl he1 rfl rfl rfl fun h' tk' g1 g2 g3=>?_
 have ne:hp.objs.size≠e:=YE (K2 he1);have fr:H2 hp.objs.size=none:=I2.hok.fresh (K6 _);refine⟨σ,_,?_,q hp.objs.size fr ne⟩;have I3:=I2.write (x:=e) (e:=e) (o:=xo e C (some hp.objs.size)) (t':=tk') (h':=h') (by rw[he];trivial) (.inl rfl) g3 ⟨_,g1⟩ (xo_ok g1)
 have sz:∀ {b:Addr} {o:Obj},hp.get? b=some o->b≠hp.objs.size:=fun {b o} q=>Q0 (K2 q)
 have I4:=zY (v:=.xd [(n,y)]) I3 (a:=hp.objs.size) (YV I2.sz) (by rw[jh ne];exact fr) (fun H'=>⟨_,g2,fun z=>?_⟩) (YE I2.lt) (fun z c qc=>by obtain⟨v,o,ho,_⟩:=I2.cell z c qc;exact sz ho) (fun p hp=>sz (I2.pin p hp).1)
 ·have e3:upd (upd H2 e (xo e C (some hp.objs.size))) hp.objs.size (.xd [(n,y)])=upd (upd H2 hp.objs.size (.xd [(n,y)])) e (xo e C (some hp.objs.size)):=by
   funext b;by_cases hb:b=e
   ·subst hb;rw[jh ne.symm,jm,jm]
   ·rw[jh hb];by_cases hb2:b=hp.objs.size
    ·subst hb2;rw[jm,jm]
    ·rw[jh hb2,jh hb2,jh hb]
  rw[e3]at I4;exact I4
 ·by_cases hz:z=n
  ·subst hz;simp only[QW,beq_self_eq_true,if_true];exact ry
  ·have hb:(z == n)=false:=by simpa using hz
   simp only[QW,hb,List.lookup_nil,if_neg hz];trivial
end
noncomputable def KA(s:Stmt):Bool:=(asExp s).any fun z=>(xz z).any fun c=>c.2.2.1.isEmpty&&decide (c.2.1.length=2)&&decide (jo (c.2.1.getD 0 z)=some ("self":Str))&&decide (jo (c.2.1.getD 1 z)=some ("text":Str))&&(xy c.1).any fun y=>decide (y.2.1=("__init__":Str))&&decide (jo y.1=some ("TrueError":Str))&&(y.2.2.endLine == c.2.2.2.line)
theorem superOk_{s:Stmt}(h:KA s=true):∃tp ap sp xp cp pos,s=.Expr (.Call (.Attribute (.Name "TrueError" tp) "__init__" ap) [.Name "self" sp,.Name "text" xp] [] cp) pos/\(ap.endLine == cp.line)=true:=by
 unfold KA at h;replace h:=jb h;obtain⟨z,h1,h⟩:=h;obtain⟨pos,rfl⟩:=JV h1;replace h:=jb h;obtain⟨⟨f,xs,ks,cp⟩,h2,h⟩:=h;have e2:=xt h2;subst e2;simp only[KM,decide_eq_true_eq]at h;obtain⟨⟨⟨⟨h3,h4⟩,h5⟩,h6⟩,h⟩:=h;obtain⟨a,b,rfl⟩:=qb h4;obtain⟨sp,rfl⟩:=jn (show jo a=_ from h5);obtain⟨xp,rfl⟩:=jn (show jo b=_ from h6);replace h:=jb h;obtain⟨⟨o,n,ap⟩,h7,h⟩:=h;have e7:=xq h7;subst e7;simp only[KM,decide_eq_true_eq]at h;obtain⟨⟨rfl,h8⟩,h9⟩:=h;obtain⟨tp,rfl⟩:=jn h8
 have e3:ks=[]:=by simpa using h3
 subst e3;exact⟨_,_,_,_,_,_,rfl,h9⟩
noncomputable def fldSt(n p:Str)(l:Bool)(s:Stmt):Bool:=(yo s).any fun z=>(uG z.1).any fun t=>(xy t).any fun y=>decide (jo y.1=some ("self":Str))&&decide (y.2.1=n) &&
 if l=true then (asIf z.2).any fun f=>((asCmp f.1).any fun q=>decide (jo q.1=some p)&&decide (q.2.1=[.Is])&&decide (q.2.2.length=1)&&zw (q.2.2.getD 0 t))&&(Jf f.2.1).any (·.isEmpty)&&(kc f.2.2).any fun c=>decide (c.1=("list":Str))&&decide (c.2.1.length=1)&&decide (jo (c.2.1.getD 0 t)=some p) else decide (jo z.2=some p)
theorem fldSt_{n p:Str}{l:Bool}{s:Stmt}(h:fldSt n p l s=true):(l=false/\∃sp ap pp pos,s=.Assign [.Attribute (.Name "self" sp) n ap] (.Name p pp) pos) \/
 (l=true/\∃sp ap cp j kp mp lp gp qp dp ip pos,s=.Assign [.Attribute (.Name "self" sp) n ap] (.IfExp (.Compare (.Name p cp) [.Is] [.Constant .none j kp] mp) (.List [] lp) (.Call (.Name "list" gp) [.Name p qp] [] dp) ip) pos):=by
 unfold fldSt at h;replace h:=jb h;obtain⟨⟨ts,v⟩,h1,h⟩:=h;obtain⟨pos,rfl⟩:=xN h1;replace h:=jb h;obtain⟨t,h2,h⟩:=h;have e2:=zx h2;simp only at e2;subst e2;replace h:=jb h;obtain⟨⟨o,n',ap⟩,h3,h⟩:=h;have e3:=xq h3;subst e3;simp only[KM,decide_eq_true_eq]at h;obtain⟨⟨h4,rfl⟩,h⟩:=h;obtain⟨sp,rfl⟩:=jn h4
 cases l with
 |false =>
  rw[if_neg (by decide)]at h;obtain⟨pp,rfl⟩:=jn (of_decide_eq_true h)
  exact .inl ⟨rfl,_,_,_,_,rfl⟩
 |true =>
  rw[if_pos rfl]at h;replace h:=jb h;obtain⟨⟨c,a,b⟩,h5,h⟩:=h;obtain⟨ip,rfl⟩:=asIf_ h5;simp only[KM]at h;obtain⟨⟨h6,h7⟩,h8⟩:=h;replace h6:=jb h6;obtain⟨⟨x,ops,xs⟩,h9,h6⟩:=h6;obtain⟨mp,rfl⟩:=JT h9;simp only[KM,decide_eq_true_eq]at h6;obtain⟨⟨⟨h10,rfl⟩,h11⟩,h12⟩:=h6;obtain⟨cp,rfl⟩:=jn h10;obtain⟨k,rfl⟩:=kJ h11
  obtain⟨j,kp,rfl⟩:∃j kp,k=.Constant .none j kp:=by
   have h12:zw k=true:=h12;unfold zw at h12;split at h12
   ·exact⟨_,_,rfl⟩
   ·cases h12
  replace h7:=jb h7;obtain⟨ys,h13,h7⟩:=h7;obtain⟨lp,rfl⟩:=yi h13
  have e7:ys=[]:=by simpa using h7
  subst e7;replace h8:=jb h8;obtain⟨⟨g,zs,dp⟩,h14,h8⟩:=h8;obtain⟨gp,rfl⟩:=jL h14;simp only[KM,decide_eq_true_eq]at h8;obtain⟨⟨rfl,h15⟩,h16⟩:=h8;obtain⟨q,rfl⟩:=kJ h15;obtain⟨qp,rfl⟩:=jn (show jo q=_ from h16);exact .inr ⟨rfl,_,_,_,_,_,_,_,_,_,_,_,_,rfl⟩
noncomputable def u8(n p:Str)(l:Bool):List Stmt->Bool
 |[a,b]=>KA a&&fldSt n p l b
 |_=>false
noncomputable def spI(K:Frag)(C:Addr)(n:Str)(l:Bool):Sp:=fun vs H Q _=>∃e tx v,vs=[.ref e,tx,v]/\H e=some (xo e C none) /\
 (if l=true then ∃a ys,v=.ref a/\SqL K H a ys/\∀q dA,H q=none->H dA=none->q≠dA->Q .non (upd (upd (upd H q (.lst ys)) dA (.xd [(n,.ref q)])) e (xo e C (some dA)))
  else ∀dA,H dA=none->Q .non (upd (upd H dA (.xd [(n,v)])) e (xo e C (some dA))))
theorem init_ok{P:Qp}{w:World}{K:Frag}{mg:Str->Option KO}{base:QG}{CX:CXT}{C T f:Addr}{n p:Str}{l:Bool}{st:Stmt}{x q:Str}{dV oc kV doc pm cdv ct:KO}{od an:Option Addr}{osl:Array (Option KO)}
 (lk:K.lookup f=some ⟨oc,od,.func (fnOf x q (qN st) (jT st) (ji st) dV kV doc pm an cdv ct),osl⟩) (hcd:codeIn K cdv q=true) (S:FnScope ["self","text",p] ["self","text",p] (ji st)) (F:InitF K mg C T f n)
 (dp:(p == ("__debug__":Str))=false/\(p == ("__classdict__":Str))=false) (gl:(ji st).names.lookup ("TrueError":Str)=some .globalImplicit) (gl2:l=true->(ji st).names.lookup ("list":Str)=some .globalImplicit) (ml:mg "list"=none) (hb:u8 n p l (jT st)=true) :
 FnOk P w K mg base CX 1 f (fnOf x q (qN st) (jT st) (ji st) dV kV doc pm an cdv ct) ["self","text",p] (spI K C n l):=by
 refine fn_of (k:=0) lk hcd S (fun vs H Q E h=>by obtain⟨e,tx,v,rfl,_⟩:=h;rfl) fun A outer s H vs Q E hr h=>?_
 obtain⟨e,tx,v,rfl,he,h⟩:=h;generalize hX:uk CX P w K mg base ["self","text",p] q (ji st) f cdv A outer s H E=X
 have vis:∀c ∈ [("self":Str),"text",p],Vis X.env.scope c:=fun c hc=>by subst hX;exact(S.par c hc).elim .inl fun z=>.inr (.inl z)
 have hN:X.N=[("self":Str),"text",p]:=by subst hX;rfl
 have hK:X.K=K:=by subst hX;rfl
 have hm:X.mg=mg:=by subst hX;rfl
 have hcx:X.env.scope=ji st:=by subst hX;rfl
 have FX:InitF X.K X.mg C T f n:=by rw[hK,hm];exact F
 match hd:jT st,hb with
 |[a,b],hb =>
  unfold u8 at hb;rw[KM]at hb;obtain⟨tp,ap,sp,xp,cp,pos,rfl,hline⟩:=superOk_ hb.1;have p1:=ps_super (X:=X) (tp:=tp) (sp:=sp) (xp:=xp) (ap:=ap) (cp:=cp) (pos:=pos) (i:=0) (j:=1) (x:="self") (y:="text") (show X.env.scope.names.lookup _=_ by rw[hcx];exact gl) (by rw[hm];exact F.te) (by rw[hN];rfl) (by rw[hN];rfl) (vis _ (by simp)) (vis _ (by simp)) ⟨by decide,by decide⟩ ⟨by decide,by decide⟩ FX hline
  have pv:∀pp,PE X (.Name p pp) (tVar 2):=fun pp=>j9 (by rw[hN];rfl) (vis _ (by simp)) dp.1 dp.2
  rcases fldSt_ hb.2 with⟨rfl,sp2,ap2,pp,pos2,rfl⟩|⟨rfl,sp2,ap2,cp2,j,kp,mp,lp,gp,qp,dp2,ip,pos2,rfl⟩
  ·rw[if_neg (by decide)]at h;have p2:=ps_fldx (X:=X) (i:=0) (x:="self") (sp:=sp2) (ap:=ap2) (pos:=pos2) (by rw[hN];rfl) (vis _ (by simp)) ⟨by decide,by decide⟩ (pv pp) FX rfl;exact⟨_,jr p1 (jr p2 j7),e,tx,rfl,rfl,he,v,rfl,e,rfl,he,fun dA h1 _=>h dA h1⟩
  ·rw[if_pos rfl]at h;obtain⟨aw,ys,rfl,sq,h⟩:=h;have pl:PE X (.Call (.Name "list" gp) [.Name p qp] [] dp2) _:=kR (T:="list") kX (show X.env.scope.names.lookup _=_ by rw[hcx];exact gl2 rfl) (by rw[hm];exact ml) X6 (js (pv qp) jU);have pi:PE X (.IfExp (.Compare (.Name p cp2) [.Is] [.Constant .none j kp] mp) (.List [] lp) (.Call (.Name "list" gp) [.Name p qp] [] dp2) ip) _:=pe_ifExp (pt_cmp (pc_isN (pv cp2))) (vo jU) pl;have p2:=ps_fldx (X:=X) (i:=0) (x:="self") (sp:=sp2) (ap:=ap2) (pos:=pos2) (by rw[hN];rfl) (vis _ (by simp)) ⟨by decide,by decide⟩ pi FX rfl;refine⟨_,jr p1 (jr p2 j7),e,tx,rfl,rfl,he,⟨_,rfl,false,rfl,?_⟩⟩;refine⟨_,rfl,aw,ys,rfl,.inl (by rw[hK];exact sq),fun q hq=>⟨e,rfl,?_,fun dA h1 h2=>?_⟩⟩
   ·have ne:e≠q:=fun z=>by rw[<- z,he]at hq;cases hq
    rw[jh ne];exact he
   ·have n1:dA≠q:=fun z=>by rw[z,jm]at h1;cases h1
    rw[jh n1]at h1;exact h q dA hq h1 n1.symm
structure InitX (X:Cx) (C T f:Addr) (n:Str) (l:Bool):Prop where
 F:InitF X.K X.mg C T f n
 fn:∃fd p,FnOk X.prog X.w X.K X.mg X.base (CXz X.prog X.w X.mg) 1 f fd ["self","text",p] (spI X.K C n l)/\yP X.K fd ["self","text",p] []
 rm:Room 2 X.A
section
variable {X:Cx} {C T f:Addr} {n x:Str} {l:Bool} {e1 e2:Expr} {np pos cp:Pos} {t:TA}
theorem made_inv{pins:List (Addr×Obj)}{σ:L2.St}{H:Hp}{s:Shared}{h':QG}{e:Addr}{args:List KO}(I:Inv X pins σ H s)(w:Own X)(m:Y0 s.heap h' e (.ref C) args):H e=none/\X.s₀.heap.get? e=none/\Inv X pins σ (upd H e (xo e C none)) { s with heap:=h' }:=by
 have hH:H e=none:=by
  cases q:H e with
  |none=>rfl
  |some u =>
   obtain⟨o,z⟩:=Kw (I.hok e u q);rw[m.new]at z;cases z
 have old:∀ {b:Addr} {o:Obj},s.heap.get? b=some o->b≠e:=fun {b o} z y=>by rw[y,m.new]at z;cases z
 have h0:X.s₀.heap.get? e=none:=by
  cases q:X.s₀.heap.get? e with
  |none=>rfl
  |some o =>
   obtain⟨o',z⟩:=I.base.there e o q (by rw[w.ex];simp);exact absurd rfl (old z)
 have I1:Inv X pins σ H { s with heap:=h' }:=I.un (t':=s.toks) (Un.kept m.keeps) (I.hok.kept m.keeps);obtain⟨t0,g1,_⟩:=m.there;exact⟨hH,h0,zY I1 h0 hH (fun _=>xo_ok g1) (fun z=>by obtain⟨m',⟨o,_,_,ho',_⟩,_⟩:=I.loc;exact old ho' z.symm) (fun y cc q=>by obtain⟨v,o,ho',_⟩:=I.cell y cc q;exact old ho') (fun p hp=>old (I.pin p hp).1)⟩
theorem pe_exc(w:Own X)(ix:InitX X C T f n l)(hg:Gl X x)(hm:X.mg x=some (.ref C))(ha:PA X [e1,e2] t)(hdb:(x == ("__debug__":Str))=false)(he:Qa [e1,e2] X.env=(false,eval e1 X.env)::Qa [e2] X.env)(hpl:(backTo cp (Qa [e2] X.env)).any (·.1)=false) :
 PE X (.Call (.Name x np) [e1,e2] [] cp) (fun σ H Q=>t σ H fun vs H1=>vs.length=2/\∀e,H1 e=none->X.s₀.heap.get? e=none->spI X.K C n l (.ref e::vs) (upd H1 e (xo e C none)) (fun r H2=>r=.non/\Q (.ref e) H2) E0):=by
 intro pins s σ H Q I h;refine Zu (yE I hg hm ?_ hdb);refine PySem.W.callWith_K (h₀:=X.base) I.ok.mod.kin ix.F.kp (thn (ha cp pins s σ H _ I h) fun us s1 ⟨vs,H1,I1,r,hl,q⟩=>⟨I1.kIn,?_⟩) he hpl;obtain⟨fd,p,FO,hb⟩:=ix.fn;obtain⟨nm,qn,N,bs,sn,sub,ab,col,dd,k0,k1,k2,k3,k5,mN,hh⟩:=ix.F.heap I1.kIn;obtain⟨oI,hfI,hfc⟩:=hh.hf;obtain⟨hp,g,d,tk,os⟩:=s1
 have hu:us.length=2:=by rw[<- r.length];exact hl
 refine call_initU (Q:=EP X pins σ Q) Y2 (by decide +kernel) Y2 hh.tl hh.hC hh.hn hh.hi hfI hfc (fun h' e md=>?_) (by rw[show ([]:List KO)++us=us from rfl,hu];decide);obtain⟨hH,h0,I2⟩:=made_inv (C:=C) I1 w md;have r2:jG (V.ref e::vs) (Xa e::us):=.cons rfl r
 refine Zt (Uf (FO.run _ X.stack _ _ ⟨Xa e::us,[]⟩ (Xa e::us) _ _ E0 (ix.rm.make C us []) (I2.env0.make C us []) (by
  have:=hb ⟨h',g,d,tk,os⟩ (Xa e::us) I2.kIn (by simp[hu]);rw[Qu]at this
  exact this) r2 (q e hH h0)) fun rr s' hq'=>?_)
 cases rr with
 |error e=>exact(passZ (X:=X) pins σ _ _ e s' I2 hq')
 |ok fl =>
  cases fl with
  |ret u =>
   obtain⟨v,H',I3,rv,ev,q3⟩:=I2.after hq';subst ev
   exact⟨rv,⟨V.ref e,H',I3,rfl,q3⟩⟩
  |next=>exact XL hq'
  |brk=>exact XL hq'
  |cont=>exact XL hq'
theorem raise_x{pins:List (Addr×Obj)}{σ:L2.St}{H:Hp}{s:Shared}{y:Expr}{te:TE}{Q:Flow->Shared->Prop}(I:Inv X pins σ H s)(hh:X.A.handled=none)(F:InitF X.K X.mg C T f n)(hy:PE X y te)
 (h:te σ H fun v H1=>∃e dct,v=.ref e/\H1 e=some (xo e C dct)/\∀s1,Inv X pins σ H1 s1->X.xe (.ref e) s1):wpAny (model X.prog X.w) X.A (exec (.Raise (some y) none pos) X.env) Q X.xe s:=by
 rw[arm_exec_Raise];refine KL (YO ?_);obtain⟨nm,qn,N,bs,sn,sub,ab,col,dd,k0,k1,k2,k3,k5,l1,_⟩:=F.lk;show wpAny _ _ (raiseStmt X.env (some (do let v <- eval y X.env;standAt pos;pure v)) none) _ _ _;refine raise_dict (C:=C) (nm:=nm) (q:=qn) (N:=N) (bs:=bs) (bm:=.ref T::bmV) (hdct:=true) (sn:=sn) (sub:=sub) (ab:=ab) (col:=col) (dd:=dd) (k0:=k0) (k1:=k1) (k2:=k2) (k3:=k3) (k5:=k5) (newId:=newV) (by rfl) hh ?_;refine KL (thn (hy pins s σ H _ I h) fun u s1 ⟨v,H1,I1,r,e,dct,ev,he,q⟩=>KL (YO (KW ?_)));subst ev;obtain rfl:u=Xa e:=r;obtain⟨⟨t0,he1⟩,_⟩:=I1.hok e _ he;exact⟨e,t0,dct,rfl,I1.kIn _ _ l1,he1,q _ I1⟩
end
end Z
namespace Z
open PySem PySem.Spec PySem.Calls PyProof.Rows PySem.W L2
theorem alone_ok{P:Qp}{w:World}{K:Frag}{mg:Str->Option KO}{base:QG}{CX:CXT}{x:Str}{st:Stmt}{f:Addr}{fd:Ya}(F:Fun K x x st f fd)(S:FnScope ["_law_e","_law_flags"] ["_law_e"] (ji st))
 (l0:(ji st).names.lookup ("_law_e":Str)=some .local) (l1:(ji st).names.lookup ("_law_flags":Str)=some .local)
 (gl:∀c∈("isinstance":Str)::("TrueError":Str)::("ValueError":Str)::names12,(ji st).names.lookup c=some .globalImplicit) (hb:uK (jT st)=true):FnOk P w K mg base CX 1 f fd ["_law_e"] (spA K mg):=by
 obtain⟨oc,od,kV,doc,pm,an,cdv,ct,osl,rfl,lk,hcd⟩:=F.ex
 refine fn_of (k:=0) lk hcd S (fun vs H Q E h=>by obtain⟨y,D,ea,oe,u,_,rfl,_⟩:=h;rfl) fun A outer s H vs Q E hr h=>?_
 obtain⟨y,D,ea,oe,u,af,rfl,he,hc,q⟩:=h
 have ax:AX (uk CX P w K mg base ["_law_e","_law_flags"] x (ji st) f cdv A outer s H E):=⟨rfl,rfl,S.nd,l0,l1,fun c hc=>gl c hc,fun _=>rfl⟩
 exact⟨_,pss_alone (D:=D) (y:=y) ax af (show 1<2 by decide) hb,⟨ea,oe,u,rfl,he,hc⟩,rfl,q⟩
noncomputable def y9(w:Str)(v:Expr):Bool:=Xo w&&(uA v).any fun z=>(Jf z.1).any fun xs=>decide (xs.length=2)&&decide (kN (xs.getD 0 v)=some (.str w))&&decide (kN (xs.getD 1 v)=some (.str "other")) &&
 (kc z.2).any fun c=>decide (c.1=("int":Str))&&decide (c.2.1.length=1)&&(asUn (c.2.1.getD 0 v)).any fun n=>decide (n.1=.Not)&&(kc n.2).any fun f=>decide (f.1=("_law_alone":Str))&&decide (f.2.1.length=1)&&decide (jo (f.2.1.getD 0 v)=some ("_law_e":Str))
noncomputable def tellOk(w:Str):Option Str->Expr->Bool
 |none,v=>y9 w v
 |some n,v=>(asTup v).any fun xs=>decide (xs.length=2)&&y9 w (xs.getD 0 v)&&(xy (xs.getD 1 v)).any fun y=>decide (jo y.1=some ("_law_e":Str))&&decide (y.2.1=n)
noncomputable def J0(w:Str)(n:Option Str):List Stmt->Bool
 |[s]=>(vW s).any fun v=>v.any fun v=>tellOk w n v
 |_=>false
theorem wordOk_{w:Str}{v:Expr}(h:y9 w v=true):Xo w=true/\∃j1 p1 j2 p2 lp qi qf qe cp up ip sp,v=.Subscript (.List [.Constant (.str w) j1 p1,.Constant (.str "other") j2 p2] lp) (.Call (.Name "int" qi) [.UnaryOp .Not (.Call (.Name "_law_alone" qf) [.Name "_law_e" qe] [] cp) up] [] ip) sp:=by
 unfold y9 at h;rw[KM]at h;obtain⟨h0,h⟩:=h;refine⟨h0,?_⟩;replace h:=jb h;obtain⟨⟨a,b⟩,h2,h⟩:=h;obtain⟨sp,rfl⟩:=yl h2;replace h:=jb h;obtain⟨xs,h3,h⟩:=h;obtain⟨lp,e3⟩:=yi h3;simp only at e3;subst e3;simp only[KM,decide_eq_true_eq]at h;obtain⟨⟨⟨h4,h5⟩,h6⟩,h⟩:=h;obtain⟨x1,x2,rfl⟩:=qb h4;obtain⟨j1,p1,rfl⟩:=qU (show kN x1=_ from h5);obtain⟨j2,p2,rfl⟩:=qU (show kN x2=_ from h6);replace h:=jb h;obtain⟨⟨i,ys,ip⟩,h7,h⟩:=h;obtain⟨qi,e7⟩:=jL h7
 try simp only at e7
 subst e7;simp only[KM,decide_eq_true_eq]at h;obtain⟨⟨h8,h9⟩,h⟩:=h;subst h8;obtain⟨u,rfl⟩:=kJ h9;replace h:=jb h;obtain⟨⟨o,n⟩,h10,h⟩:=h;obtain⟨up,e10⟩:=asUn_ (show asUn u=_ from h10);subst e10;simp only[KM,decide_eq_true_eq]at h;obtain⟨h11,h⟩:=h;subst h11;replace h:=jb h;obtain⟨⟨f,zs,cp⟩,h12,h⟩:=h;obtain⟨qf,e12⟩:=jL h12
 try simp only at e12
 subst e12;simp only[KM,decide_eq_true_eq]at h;obtain⟨⟨h13,h14⟩,h15⟩:=h;subst h13;obtain⟨z,rfl⟩:=kJ h14;obtain⟨qe,rfl⟩:=jn (show jo z=_ from h15);exact⟨j1,p1,j2,p2,lp,qi,qf,qe,cp,up,ip,sp,rfl⟩
structure Alone (X:Cx):Prop where
 fn:∃f fd,FnOk X.prog X.w X.K X.mg X.base (CXz X.prog X.w X.mg) 1 f fd ["_law_e"] (spA X.K X.mg)/\X.mg "_law_alone"=some (.ref f)/\XS X.K (.ref f)=true/\yP X.K fd ["_law_e"] []
 rm:X.A.depth+3*1+5<Uo/\X.A.units+16*1+200<cLine
 int:X.mg "int"=none
section
variable {X:Cx} {D:Addr} {y:Str} {i:Nat}
noncomputable def J1(i:Nat)(D:Addr)(σ:L2.St)(H:Hp):Prop:=∃e oe u,σ[i]?=some (some (.ref e))/\H e=some (.frz oe u)/\oe.cls=.ref D
theorem pe_word{ea:Addr}(al:Alone X)(hi:X.N[i]?=some ("_law_e":Str))(hl:X.env.scope.names.lookup ("_law_e":Str)=some .local)(gi:Gl X "int")(ga:Gl X "_law_alone")(af:AloneF X.K X.mg y D){w:Str}{v:Expr}(h:y9 w v=true) :
 PE (mkX X ea) v (fun σ H Q=>J1 i D σ H/\∀H',jf H H'->Q (.str w) H')/\Xo w=true:=by
 obtain⟨h0,j1,p1,j2,p2,lp,qi,qf,qe,cp,up,ip,sp,rfl⟩:=wordOk_ h;refine⟨?_,h0⟩;obtain⟨f,fd,F,hm,hk,hb⟩:=al.fn
 have rm:Room 1 (mkX X ea).A:=⟨fun z=>absurd z (by decide),al.rm.1,al.rm.2⟩
 have pc:PE (mkX X ea) (.Call (.Name "_law_alone" qf) [.Name "_law_e" qe] [] cp) _:=zl (X:=mkX X ea) (CX:=CXz X.prog X.w X.mg) (E:=E0) (dvs:=[]) F rm ga hm hk hb .nil passZ (js (j9 hi (.inl hl)) jU);refine PE.imp (fun σ H Q z=>?_) (pe_ix ix_list (vo (js vd (js vd jU))) (kR (T:="int") zX gi al.int ZM (js (pe_not pc) jU)) (fun _ _=>rfl));obtain⟨⟨e,oe,u,e1,he,hc⟩,z⟩:=z;refine⟨by show 2<=sizeLine;decide,fun p hp=>?_⟩;have s1:=jB hp (.lst [.str w,.str "other"]);refine⟨.ref e,e1,y,D,e,oe,u,af,rfl,s1 _ _ he,hc,fun H' s2=>⟨true,rfl,.inr ⟨false,rfl,?_⟩⟩⟩;exact⟨p,_,_,.str w,rfl,rfl,SqL.of (s2 _ _ (jm ..)),rfl,z H' (s1.trans s2)⟩
theorem pe_xfld{ea T f:Addr}{n:Str}{p pos:Pos}(F:InitF X.K X.mg D T f n)(hi:X.N[i]?=some ("_law_e":Str))(hl:X.env.scope.names.lookup ("_law_e":Str)=some .local) :
 PE (mkX X ea) (.Attribute (.Name "_law_e" p) n pos) (fun σ H Q=>∃e oe u vs dA v,σ[i]?=some (some (.ref e))/\H e=some (.frz oe u)/\oe.cls=.ref D/\oe.data=.fields vs/\oe.dict=some dA/\H dA=some (.xd [(n,v)])/\Q v H):=by
 intro pins s σ H Q I h;obtain⟨e,oe,u,vs,dA,v,e1,he,hc,hd,hdc,hx,q⟩:=h;refine attr_of rfl (thn (j9 (X:=mkX X ea) hi (.inl hl) (by decide) (by decide) pins s σ H (fun v H2=>v=.ref e/\H2=H) I ⟨_,e1,rfl,rfl⟩) fun ov s1 ⟨v1,H1,I1,rx,q1,q2⟩=>?_);subst q1 q2;obtain rfl:ov=Xa e:=rx;obtain⟨nm,qn,N,bs,sn,sub,ab,col,dd,k0,k1,k2,k3,k5,mN,hh⟩:=F.heap I1.kIn;obtain⟨he1,_⟩:=I1.hok e _ he;obtain⟨mA,hns,hf⟩:=I1.hok dA _ hx;have hf:=hf n;simp only[QW,beq_self_eq_true,if_true]at hf;obtain⟨hp,g,d,tk,os⟩:=s1
 cases hv:mA n with
 |none=>rw[hv]at hf;exact hf.elim
 |some uv =>
  rw[hv]at hf;have rv:jV v uv:=hf;refine fld_attr PySem.F.attrBase_ValueError hh.hC hh.hn (hh.no _ (by simp)) (hh.no _ (by simp)) hh.tq (hh.tn _ (by simp[ZS])) (hh.tn _ (by simp[ZS])) (hh.tn _ (by simp)) F.bl (hh.no _ (by simp)) he1 hc hd hdc hns.ns hv ?_ ⟨v,H1,I1.tok _,rv,q⟩;intro id z;subst z
  cases v<;>first|exact nomatch rv|(obtain⟨_,z⟩:=rv;exact nomatch z)
noncomputable def TellE(i:Nat)(D:Addr)(w:Str):Option Str->Ends->L2.St->Hp->Prop
 |none,E,_,H=>∀H',jf H H'->E.rt (.str w) H'
 |some n,E,σ,H=>∃e oe u vs dA v,σ[i]?=some (some (.ref e))/\H e=some (.frz oe u)/\oe.cls=.ref D/\oe.data=.fields vs/\oe.dict=some dA/\H dA=some (.xd [(n,v)])/\∀t H',jf H H'->H t=none->H' t=some (.tup [.str w,v])->E.rt (.ref t) H'
theorem pss_suite{ea:Addr}(al:Alone X)(hi:X.N[i]?=some ("_law_e":Str))(hl:X.env.scope.names.lookup ("_law_e":Str)=some .local)(gi:Gl X "int")(ga:Gl X "_law_alone")(af:AloneF X.K X.mg y D){ss:List Stmt}{w:Str}{nf:Option Str}(hF:∀n,nf=some n->∃T f,InitF X.K X.mg D T f n)(h:J0 w nf ss=true) :
 PSs (mkX X ea) ss (fun E σ H=>J1 i D σ H/\TellE i D w nf E σ H)/\Xo w=true:=by
 unfold J0 at h;split at h
 ·next s =>
  replace h:=jb h;obtain⟨ov,h1,h⟩:=h;obtain⟨rp,rfl⟩:=ut h1;replace h:=jb h;obtain⟨v,rfl,h⟩:=h
  cases nf with
  |none =>
   obtain⟨p1,h0⟩:=pe_word (ea:=ea) al hi hl gi ga af h
   exact⟨PSs.imp (fun E σ H w=>w) (jr (qY p1) j7),h0⟩
  |some n =>
   obtain⟨T,f,F⟩:=hF n rfl;replace h:=jb h;obtain⟨xs,h2,h⟩:=h;obtain⟨j,tp,rfl⟩:=KE h2;simp only[KM,decide_eq_true_eq]at h;obtain⟨⟨h3,h4⟩,h5⟩:=h;obtain⟨v1,v2,rfl⟩:=qb h3;replace h5:=jb h5;obtain⟨⟨b,n',ap⟩,h6,h5⟩:=h5;have e6:=xq (show xy v2=_ from h6);subst e6;simp only[KM,decide_eq_true_eq]at h5;obtain⟨h7,rfl⟩:=h5;obtain⟨ep,rfl⟩:=jn h7;obtain⟨p1,h0⟩:=pe_word (ea:=ea) al hi hl gi ga af (show y9 w v1=true from h4)
   have st:∀ys env,Qa (v1::ys) env=(false,eval v1 env)::Qa ys env:=fun ys env=>by
    obtain⟨_,j1,p1,j2,p2,lp,qi,qf,qe,cp,up,ip,sp,rfl⟩:=wordOk_ (show y9 w v1=true from h4);rfl
   refine⟨PSs.imp (fun E σ H w=>?_) (jr (qY (Kz (js p1 (js (pe_xfld (ea:=ea) F hi hl) jU rfl) (st _ _)))) j7),h0⟩;obtain⟨c,e,oe,u,vs,dA,v,z1,z2,z3,z4,z5,z6,q⟩:=w;refine⟨c,fun H' s1=>⟨e,oe,u,vs,dA,v,z1,s1 _ _ z2,z3,z4,z5,s1 _ _ z6,by show 2<=sizeLine;decide,fun p hp=>?_⟩⟩;exact q p _ (s1.trans (jB hp _)) (s1.free hp) (jm ..)
 ·cases h
end
end Z
namespace Z
open PySem PySem.Spec PySem.Calls PyProof.Rows PySem.W L2
section
variable {X:Cx} {pins:List (Addr×Obj)} {σ:L2.St} {H:Hp} {s:Shared}
theorem kh{st:Stmt}{t:TS}(h:PS X.nox st t):PS X st t:=fun pins s σ H D I hw =>
 QY (h pins s σ H D (I.wish _) hw) (fun f s' z=>z.unwish) fun _ _ z=>z.elim
theorem pe_nox{e:Expr}{t:TE}(h:PE X.nox e t):PE X e t:=fun pins s σ H Q I hw =>
 QY (h pins s σ H Q (I.wish _) hw) (fun u s' ⟨v,H',J,r,q⟩=>⟨v,H',J.unwish,r,q⟩) fun _ _ z=>z.elim
theorem pa_nox{es:List Expr}{t:TA}(h:PA X.nox es t):PA X es t:=fun pos pins s σ H Q I hw =>
 QY (h pos pins s σ H Q (I.wish _) hw) (fun us s' ⟨vs,H',J,r,q⟩=>⟨vs,H',J.unwish,r,q⟩) fun _ _ z=>z.elim
theorem name_gone{M:Model}{A:QH}{E:KO->Shared->Prop}{Q:Unit->Shared->Prop}{n:Str}{pos:Pos}(I:Inv X pins σ H s)(w:Own X)(hl:X.env.scope.names.lookup n=some .local)
 (hq:∀s',Inv X pins (K5 X.N.length none) H s'->Q () s'):wpAny M A (do bindName X.env n .none;Z4 X.env n pos) Q E s:=by
 obtain⟨m,hn,_⟩:=I.loc
 refine wpAny_nameGoes hl hn (by rw[I.ok.kind];rfl) fun h' m' hn' sb=>hq _ ?_
 have old:∀ {b:Addr} {o:Obj},X.s₀.heap.get? b=some o->b≠X.env.locals:=fun {b o} e z=>by
  have:=K2 e;rw[z]at this;exact absurd this (Ur.mpr I.ok.above)
 have same:∀b,b≠X.env.locals->h'.get? b=s.heap.get? b:=fun b hb=>sb.2 b hb
 refine⟨I.ok,I.os,I.bare,⟨fun b o e n hb hx=>?_,fun b o e n hb hx=>?_,I.base.free,fun b o e hx=>?_,I.base.tups,I.base.frzs,I.base.tbls⟩,⟨m',hn',fun i x v _ h2 _=>?_⟩,fun x c e=>?_,I.free,I.freeC,fun p hp=>?_,fun b u e=>?_,by simp⟩
 ·exact(same b (old e)).trans (I.base.keep b o e n hb hx)
 ·obtain⟨sl,q⟩:=I.base.slot b o e n hb hx;exact⟨sl,(same b (old e)).trans q⟩
 ·obtain⟨o',q⟩:=I.base.there b o e hx;exact⟨o',(same b (old e)).trans q⟩
 ·rw[List.getElem?_replicate]at h2
  split at h2<;>cases h2
 ·obtain⟨v,o,q,d⟩:=I.cell x c e;exact⟨v,o,(same c (I.cne x c e)).trans q,d⟩
 ·obtain⟨g1,g2,g3,g4⟩:=I.pin p hp;exact⟨(same p.1 g3).trans g1,g2,g3,g4⟩
 ·refine(I.hok b u e).stay (fun c v hc q=>(same c fun z=>?_).trans q) (fun _ z=>z) fun _ _ z=>z
  have hf:=I.free;rcases hc with hc|hc
  ·rw[<- z,hc,e]at hf;cases hf
  ·rw[<- z,hc]at hf;cases hf
end
noncomputable def JP:Stmt->Option Expr
 |.Raise (some e) none _=>some e
 |_=>none
theorem asRaise_{s:Stmt}{e:Expr}(h:JP s=some e):∃p,s=.Raise (some e) none p:=by
 unfold JP at h;split at h
 ·cases h;exact⟨_,rfl⟩
 ·cases h
noncomputable def isStrC:Const->Bool
 |.str _=>true
 |_=>false
noncomputable def hasF(x:Str):Bool:=x == ("BadText":Str) ||x == ("Dependent":Str)
noncomputable def chkN(k:Ck)(f:Nat)(es:List Ex):List (Nat×List Ex)->Expr->Bool
 |[],v=>(kc v).any fun c=>decide (k.fns[f]?=some (c.1,c.2.1.length))&&k.gl c.1 && !c.2.1.isEmpty&&qm k es c.2.1
 |gr::rest,v=>(kc v).any fun c=>decide (k.fns[gr.1]?=some (c.1,c.2.1.length))&&k.gl c.1 && !c.2.1.isEmpty&&chkN k f es rest (c.2.1.getD 0 v)&&qm k gr.2 (c.2.1.drop 1)
mutual
noncomputable def chkX(k:Ck):Sm->Stmt->Bool
 |.ite c a b,s=>(asIfS s).any fun z=>chkE k c z.1&&zk k a z.2.1&&zk k b z.2.2
 |.raiseA x e,s=>k.rs&&decide (x∈k.cls)&&k.gl x&&hasF x&&(JP s).any fun y=>(kc y).any fun c=>decide (c.1=x)&&decide (c.2.1.length=2)&&(kN (c.2.1.getD 0 y)).any isStrC&&chkE k e (c.2.1.getD 1 y)
 |.nop,_=>false
 |.seq _ _,_=>false
 |.shr _,_=>false
 |.set i e,s=>xh k (.set i e) s
 |.unp i e,s=>xh k (.unp i e) s
 |.ret e,s=>xh k (.ret e) s
 |.whl c b,s=>xh k (.whl c b) s
 |.forR i e b,s=>xh k (.forR i e b) s
 |.forE i e b,s=>xh k (.forE i e b) s
 |.brk,s=>xh k .brk s
 |.cnt,s=>xh k .cnt s
 |.never,s=>xh k .never s
 |.new i,s=>xh k (.new i) s
 |.app i e,s=>xh k (.app i e) s
 |.ext i e,s=>xh k (.ext i e) s
 |.sto i e v,s=>xh k (.sto i e v) s
 |.retO i,s=>xh k (.retO i) s
 |.forN i e b,s=>xh k (.forN i e b) s
 |.forU i j m e,s=>xh k (.forU i j m e) s
 |.retF e,s=>xh k (.retF e) s
 |.retY f es,s=>(vW s).any fun v=>v.any fun v=>chkN k f es [] v
 |.ownG i e,s=>xh k (.ownG i e) s
 |.forT j i e,s=>xh k (.forT j i e) s
 |.shrT _,_=>false
 |.hlfT _,_=>false
noncomputable def zk(k:Ck):Sm->List Stmt->Bool
 |.nop,ss=>ss.isEmpty
 |.seq a b,ss=>if zu a then zk k b ss else !ss.isEmpty&&chkX k a (ss.getD 0 (.Pass ⟨0,0,0,0⟩))&&zk k b (ss.drop 1)
 |_,_=>false
end
structure ClsOk (K:Frag) (mg:Str->Option KO) (x:Str) (Ca:Addr) (al:Bool):Prop where
 cl:ExcCl K Ca
 pl:hasF x=false->excIn K Ca bmV newV=true
 ow:hasF x=true->∃T f,InitF K mg Ca T f (yB x)/\∀(P:Qp) (w:World) (base:QG),∃fd p,FnOk P w K mg base (CXz P w mg) 1 f fd ["self","text",p] (spI K Ca (yB x) (x == ("Dependent":Str)))/\yP K fd ["self","text",p] []
 al:al=true->AloneF K mg x Ca
structure OkX (X:Cx) (k:Ck) (C:Cfg) (O₀:List Addr) (H₀:Hp) (ex:XD->Prop):Prop where
 ok:OkS X.nox k C
 own:Own X
 o0:∀a∈O₀,H₀ a≠none
 thr:∀y Ca,ex y->X.mg y.t=some (.ref Ca)->∀pins σ H s H1 da e s',Inv X pins σ H s->jf H₀ H1->Fld X.K O₀ y H1 da->za X.prog X.w Ca X.stack H s H1 da e s'->X.xe e s'
 raz:k.rs=true->∀x Ca,ex ⟨0,x,[]⟩->X.mg x=some (.ref Ca)->∀pins σ H s h1 e args,Inv X pins σ H s->jf H₀ H->Y0 s.heap h1 e (.ref Ca) args->X.xe (.ref e) { s with heap:=h1 }
 rax:k.rs=true->Room 2 X.A/\∀y Ca,ex y->X.mg y.t=some (.ref Ca)->∀pins σ H s e da,Inv X pins σ H s->H e=some (xo e Ca da)->H₀ e=none->X.s₀.heap.get? e=none->jf H₀ (del H e)->Fld X.K O₀ y (del H e) da->X.xe (.ref e) s
 exc:∀x∈k.cls,∃Ca,X.mg x=some (.ref Ca)/\ClsOk X.K X.mg x Ca k.al
 al:k.al=true->Alone X
section
variable {k:Ck} {C:Cfg} {O₀:List Addr} {H₀:Hp}
noncomputable def XE0(K:Frag)(O₀:List Addr)(H₀:Hp)(ex:XD->Prop):XK:=fun v da H=>∃y:XD,v=.str y.t 0/\ex y/\jf H₀ H/\Fld K O₀ y H da
mutual
theorem sY{X:Cx}{k:Ck}{ex:XD->Prop}(ok:OkX X k C O₀ H₀ ex)(f:Nat)(es:List Ex)(v:Expr)(h:chkN k f es [] v=true):PE X v fun τ H Q=>∃σ O,jf H₀ H/\(∀a∈O₀,a∈O)/\Reps X.K O H σ τ/\wpEs C es σ fun ds=>C.fr f=true/\(C.ct f).wp ds (fun d=>WdF X.K O H Q d) ex:=by
 rw[chkN]at h;replace h:=jb h;obtain⟨⟨fx,xs,cp⟩,hc,h⟩:=h;obtain⟨q,rfl⟩:=jL hc;simp only[KM,decide_eq_true_eq]at h;obtain⟨⟨⟨k1,k2⟩,hne⟩,k4⟩:=h;obtain⟨y,ys,rfl⟩:=xA hne;obtain⟨g1,g2,g3⟩:=ok.ok.toOk.gl k2;obtain⟨fa,fd,ps,lv,F,hr,hm,hk,hb⟩:=ok.ok.toOk.fns f fx _ k1
 have hs:Qa (y::ys) X.env=(false,eval y X.env)::Qa ys X.env/\(backTo cp (Qa ys X.env)).any (·.1)=false:=by
  cases es with
  |nil=>have:=j0 k4;cases this
  |cons z zs =>
   obtain⟨y',ys',e',h5,h6⟩:=jR k4;cases e';exact⟨jz h5 _ _,ko h6 _ _⟩
 have pass:KJ (CXz X.prog X.w X.mg) X (XE0 X.K O₀ H₀ ex):=fun pins σ H s e s' I ⟨x,Ca,H1,da,⟨y,e1,hx,sm,fd⟩,hm,T⟩=>by
  cases e1;exact ok.thr y Ca hx hm pins σ H s H1 da e s' I sm fd T
 refine PE.imp (fun τ H Q w=>?_) (zl (CX:=CXz X.prog X.w X.mg) (E:=XE0 X.K O₀ H₀ ex) (dvs:=[]) F hr g1 hm hk hb .nil pass (pa_nox (sA ok.ok.toOk es _ k4)) g2 hs.1 hs.2);obtain⟨σ,O,sm,so,R,w⟩:=w;refine⟨σ,O,R,jw es (fun ds ⟨hl,wd⟩ vs H1 s1 i1=>?_) (xB es w)⟩;show spD X.K (y::ys).length (C.fr f) (C.f2 f) (C.ct f) (vs ++ []) H1 _ _;rw[Qu];refine⟨O,ds,by rw[hl,zW k4],(R.mono s1).own,i1,wd.2.1,fun d r=>?_,fun z hz H2 da s2 fd=>⟨z,rfl,wd.2.2.2 z hz,(sm.trans s1).trans s2,fd.less so⟩⟩;unfold Rw;rw[if_pos wd.1];exact(wd.2.2.1 d r).mono s1
theorem sX:∀ {X:Cx} {k:Ck} {ex:XD->Prop} (ok:OkX X k C O₀ H₀ ex) (s:Sm) (st:Stmt),chkX k s st=true->PS X st (tS X.K C O₀ H₀ ex s)
 |X,k,ex,ok,.ite c a b,st,h=>by
  replace h:=jb h;obtain⟨⟨t,x,y⟩,hz,h⟩:=h;obtain⟨pos,rfl⟩:=asIfS_ hz;simp only[KM]at h;refine PS.imp (fun D τ H w=>?_) (ps_if (sB ok.ok.toOk c t h.1.1).2.nox (sXB ok a x h.1.2) (sXB ok b y h.2));obtain⟨σ,O,g,R,w⟩:=w;refine⟨σ,O,R.toReps,ja c (fun d=>jZ fun t wt H1 s1=>?_) w⟩
  cases t with
  |true=>exact⟨σ,O,g.mono s1,R.mono s1,jq a (kM (jd s1)) wt⟩
  |false=>exact⟨σ,O,g.mono s1,R.mono s1,jq b (kM (jd s1)) wt⟩
 |X,k,ex,ok,.raiseA x e,st,h=>by
  replace h:(_&&_)=true:=h;simp only[KM,decide_eq_true_eq]at h;obtain⟨⟨⟨⟨hrs,hcl⟩,hgl⟩,hpl⟩,h⟩:=h;replace h:=jb h;obtain⟨y,he,h⟩:=h;obtain⟨pos,rfl⟩:=asRaise_ he;replace h:=jb h;obtain⟨⟨x',xs,cp⟩,hc,h⟩:=h;obtain⟨np,rfl⟩:=jL hc;simp only[KM,decide_eq_true_eq]at h;obtain⟨⟨⟨h1,h2⟩,h3⟩,h4⟩:=h;subst h1;obtain⟨z,z2,rfl⟩:=qb h2;replace h3:=jb h3;obtain⟨cc,hcc,h3⟩:=h3;obtain⟨j,zp,rfl⟩:=qU (show kN z=_ from hcc)
  obtain⟨tx,rfl⟩:∃tx,cc=.str tx:=by
   cases cc with
   |str tx=>exact⟨tx,rfl⟩
   |_=>cases h3
  obtain⟨Ca,hm,co⟩:=ok.exc x' hcl;obtain⟨T,f,F,fn⟩:=co.ow hpl;obtain⟨g1,g2,g3⟩:=ok.ok.toOk.gl hgl;obtain⟨rm,rax⟩:=ok.rax hrs;have h4:chkE k e z2=true:=h4;have pa:PA X [.Constant (.str tx) j zp,z2] _:=js vd (js (pe_nox (sB ok.ok.toOk e z2 h4).1) jU (jz h4 _ _));have px:=pe_exc (np:=np) (cp:=cp) ok.own ⟨F,fn X.prog X.w X.base,rm⟩ g1 hm pa g2 rfl (by rw[jz h4];rfl);intro pins s τ H D I w;obtain⟨σ,O,g,R,w⟩:=w;have hh:X.A.handled=none:=I.ok.hd ok.ok.calm;refine raise_x (te:=_) I hh F px ?_;refine⟨σ,O,R.toReps,ja e (fun d wd v H1 s1 i1=>⟨rfl,fun ea h0 h0'=>?_⟩) w⟩;have sm:jf H₀ H1:=g.same.trans s1;have fr0:H₀ ea=none:=sm.free h0
  have ne:∀ {b:Addr} {u:HO},H1 b=some u->b≠ea:=fun {b u} q z=>by rw[z,h0]at q;cases q
  refine⟨ea,.str tx,v,rfl,jm ..,?_⟩;obtain⟨fo,xn⟩:=wd;have xn:ex ⟨0,x',[d]⟩:=xn;split
  ·next hd =>
   obtain⟨xs,rfl⟩:=fo (by simpa using hd);obtain⟨a,vs,rfl,sq,iv⟩:=jF i1;refine⟨a,vs,rfl,?_,fun q dA hq hdA nq=>⟨rfl,ea,some dA,rfl,jm ..,fun s2 I2=>?_⟩⟩
   ·rcases(jg _ _).seq sq with(z|⟨o,z⟩)|z
    ·exact .inl (.inl (by rw[jh (ne z)];exact z))
    ·exact .inl (.inr ⟨o,by rw[jh (ne z)];exact z⟩)
    ·exact .inr z
   ·have nq':q≠ea:=fun z=>by rw[z,jm]at hq;cases hq
    have nd':dA≠ea:=fun z=>by rw[z,jm]at hdA;cases hdA
    have hq0:H1 q=none:=by rw[jh nq']at hq;exact hq
    have hd0:H1 dA=none:=by rw[jh nd']at hdA;exact hdA
    have sd:jf H1 (del (upd (upd (upd (upd H1 ea (xo ea Ca none)) q (.lst vs)) dA (.xd [(yB x',.ref q)])) ea (xo ea Ca (some dA))) ea):=fun b o z=>by
     have n1:=ne z
     have n2:b≠q:=fun y=>by rw[y,hq0]at z;cases z
     have n3:b≠dA:=fun y=>by rw[y,hd0]at z;cases z
     rw[kP n1,jh n1,jh n3,jh n2,jh n1];exact z
    have at1:del (upd (upd (upd (upd H1 ea (xo ea Ca none)) q (.lst vs)) dA (.xd [(yB x',.ref q)])) ea (xo ea Ca (some dA))) ea dA=some (.xd [(yB x',.ref q)]):=by rw[kP nd',jh nd',jm]
    have at2:del (upd (upd (upd (upd H1 ea (xo ea Ca none)) q (.lst vs)) dA (.xd [(yB x',.ref q)])) ea (xo ea Ca (some dA))) ea q=some (.lst vs):=by rw[kP nq',jh nq',jh nq,jm]
    refine rax ⟨0,x',[.lst xs]⟩ Ca xn hm pins τ _ s2 ea (some dA) I2 (jm ..) fr0 h0' (sm.trans sd) fun d hd=>?_
    rw[Qz.mp hd]
    have nO:q ∉ O₀:=fun z=>(R.mono s1).own q (g.sub q z) hq0
    refine⟨dA,.ref q,rfl,at1,qg (SqL.of ?_) (Iss.mono ((jC g.sub).trans (jd sd)) xs iv)⟩;rw[j5 nO];exact at2
  ·next hd =>
   intro dA hdA
   have nd':dA≠ea:=fun z=>by rw[z,jm]at hdA;cases hdA
   have hd0:H1 dA=none:=by rw[jh nd']at hdA;exact hdA
   have sd:jf H1 (del (upd (upd (upd H1 ea (xo ea Ca none)) dA (.xd [(yB x',v)])) ea (xo ea Ca (some dA))) ea):=fun b o z=>by
    have n1:=ne z
    have n3:b≠dA:=fun y=>by rw[y,hd0]at z;cases z
    rw[kP n1,jh n1,jh n3,jh n1];exact z
   have at1:del (upd (upd (upd H1 ea (xo ea Ca none)) dA (.xd [(yB x',v)])) ea (xo ea Ca (some dA))) ea dA=some (.xd [(yB x',v)]):=by rw[kP nd',jh nd',jm]
   refine⟨rfl,ea,some dA,rfl,jm ..,fun s2 I2=>?_⟩
   refine rax ⟨0,x',[d]⟩ Ca xn hm pins τ _ s2 ea (some dA) I2 (jm ..) fr0 h0' (sm.trans sd) fun d' hd=>?_
   rw[Qz.mp hd]
   exact⟨dA,v,rfl,at1,Is.mono ((jC g.sub).trans (jd sd)) d i1⟩
 |X,k,ex,ok,.nop,st,h=>nomatch (show false=true from h)
 |X,k,ex,ok,.seq a b,st,h=>nomatch (show false=true from h)
 |X,k,ex,ok,.shr i,st,h=>nomatch (show false=true from h)
 |X,k,ex,ok,.set i e,st,h=>by exact kh (sS ok.ok _ st h)
 |X,k,ex,ok,.unp i e,st,h=>by exact kh (sS ok.ok _ st h)
 |X,k,ex,ok,.ret e,st,h=>by exact kh (sS ok.ok _ st h)
 |X,k,ex,ok,.whl c b,st,h=>by exact kh (sS ok.ok _ st h)
 |X,k,ex,ok,.forR i e b,st,h=>by exact kh (sS ok.ok _ st h)
 |X,k,ex,ok,.forE i e b,st,h=>by exact kh (sS ok.ok _ st h)
 |X,k,ex,ok,.brk,st,h=>by exact kh (sS ok.ok _ st h)
 |X,k,ex,ok,.cnt,st,h=>by exact kh (sS ok.ok _ st h)
 |X,k,ex,ok,.never,st,h=>by exact kh (sS ok.ok _ st h)
 |X,k,ex,ok,.new i,st,h=>by exact kh (sS ok.ok _ st h)
 |X,k,ex,ok,.app i e,st,h=>by exact kh (sS ok.ok _ st h)
 |X,k,ex,ok,.ext i e,st,h=>by exact kh (sS ok.ok _ st h)
 |X,k,ex,ok,.sto i e v,st,h=>by exact kh (sS ok.ok _ st h)
 |X,k,ex,ok,.retO i,st,h=>by exact kh (sS ok.ok _ st h)
 |X,k,ex,ok,.forN i e b,st,h=>by exact kh (sS ok.ok _ st h)
 |X,k,ex,ok,.forU i j m e,st,h=>by exact kh (sS ok.ok _ st h)
 |X,k,ex,ok,.retF e,st,h=>by exact kh (sS ok.ok _ st h)
 |X,k,ex,ok,.retY f es,st,h=>by
  replace h:=jb h;obtain⟨ov,ho,h⟩:=h;replace h:=jb h;obtain⟨v,hv,h⟩:=h;subst hv;obtain⟨pos,rfl⟩:=ut ho;refine PS.imp (fun D τ H w=>?_) (qY (sY ok f es v h));obtain⟨σ,O,g,R,w⟩:=w;refine⟨σ,O,g.same,g.sub,R.toReps,jw es (fun ds wd=>⟨wd.1,wd.2.1,fun d r xs a H1 us e s1 h0 hl is=>?_,wd.2.2.2⟩) w⟩;obtain⟨ys,e',nx⟩:=isL_of (wd.2.2.1 d r);rw[e]at e';cases e';have h0':H₀ a=none:=g.same.free h0
  exact nx a H1 us (g.same.trans s1) h0' hl (Iss.mono (jC fun b hb=>by rcases KS.mp hb with z|z;exact KS.mpr (.inl z);exact KR _ (g.sub b z)) xs is)
 |X,k,ex,ok,.ownG i e,st,h=>by exact kh (sS ok.ok _ st h)
 |X,k,ex,ok,.forT j i e,st,h=>by exact kh (sS ok.ok _ st h)
 |X,k,ex,ok,.shrT i,st,h=>nomatch (show false=true from h)
 |X,k,ex,ok,.hlfT i,st,h=>nomatch (show false=true from h)
theorem sXB:∀ {X:Cx} {k:Ck} {ex:XD->Prop} (ok:OkX X k C O₀ H₀ ex) (s:Sm) (st:List Stmt),zk k s st=true->PSs X st (tS X.K C O₀ H₀ ex s)
 |X,k,ex,ok,.nop,st,h=>by
  have e:st=[]:=by rw[zk]at h;simpa using h
  subst e;refine PSs.imp (fun D τ H w=>?_) j7;obtain⟨σ,O,g,R,w⟩:=w
  exact w τ H O g (jf.refl _) R
 |X,k,ex,ok,.seq a b,st,h=>by
  by_cases hs:zu a=true
  ·rw[zk,if_pos hs]at h;exact PSs.imp (fun D τ H w=>shr_tS hs w) (sXB ok b st h)
  rw[zk,if_neg hs]at h
  cases st with
  |nil=>simp at h
  |cons s r =>
   simp only[KM,QL,QZ]at h;refine PSs.imp (fun D τ H w=>?_) (jr (sX ok a s h.1.2) (sXB ok b r h.2));obtain⟨σ,O,g,R,w⟩:=w;refine⟨σ,O,g,R,jq a ?_ w⟩
   exact⟨fun σ' q τ' H' O' g' s' r'=>⟨σ',O',g',r',jq b (kM s') q⟩,fun _ q=>q,fun _ q=>q,fun _ q=>q,fun _ q=>q,fun _ q=>q,fun _ q=>q⟩
 |X,k,ex,ok,.set _ _,_,h=>nomatch (show false=true from h)
 |X,k,ex,ok,.unp _ _,_,h=>nomatch (show false=true from h)
 |X,k,ex,ok,.ret _,_,h=>nomatch (show false=true from h)
 |X,k,ex,ok,.ite _ _ _,_,h=>nomatch (show false=true from h)
 |X,k,ex,ok,.whl _ _,_,h=>nomatch (show false=true from h)
 |X,k,ex,ok,.forR _ _ _,_,h=>nomatch (show false=true from h)
 |X,k,ex,ok,.forE _ _ _,_,h=>nomatch (show false=true from h)
 |X,k,ex,ok,.brk,_,h=>nomatch (show false=true from h)
 |X,k,ex,ok,.cnt,_,h=>nomatch (show false=true from h)
 |X,k,ex,ok,.never,_,h=>nomatch (show false=true from h)
 |X,k,ex,ok,.new _,_,h=>nomatch (show false=true from h)
 |X,k,ex,ok,.app _ _,_,h=>nomatch (show false=true from h)
 |X,k,ex,ok,.ext _ _,_,h=>nomatch (show false=true from h)
 |X,k,ex,ok,.sto _ _ _,_,h=>nomatch (show false=true from h)
 |X,k,ex,ok,.shr _,_,h=>nomatch (show false=true from h)
 |X,k,ex,ok,.retO _,_,h=>nomatch (show false=true from h)
 |X,k,ex,ok,.forN _ _ _,_,h=>nomatch (show false=true from h)
 |X,k,ex,ok,.forU _ _ _ _,_,h=>nomatch (show false=true from h)
 |X,k,ex,ok,.retF _,_,h=>nomatch (show false=true from h)
 |X,k,ex,ok,.retY _ _,_,h=>nomatch (show false=true from h)
 |X,k,ex,ok,.ownG _ _,_,h=>nomatch (show false=true from h)
 |X,k,ex,ok,.forT _ _ _,_,h=>nomatch (show false=true from h)
 |X,k,ex,ok,.shrT _,_,h=>nomatch (show false=true from h)
 |X,k,ex,ok,.hlfT _,_,h=>nomatch (show false=true from h)
 |X,k,ex,ok,.raiseA _ _,_,h=>nomatch (show false=true from h)
end
end
end Z
namespace Z
open PySem PySem.Spec PyProof.Rows L2
structure FnI where
 x:Str
 st:Stmt
 N:List Str
 ps:List Str
 b:Sm
 c:Ctr
 fr:Bool:=false
 rz:Bool:=false
 cls:List Str:=[]
 al:Bool:=true
 g:Bool:=false
noncomputable def FnI.Keep(i:FnI)(C:Cfg):Prop:=if i.rz=true then if i.fr=true then KeepsY C i.N.length i.b i.c else i.fr=false/\(if i.g=true then KeepsQ C i.N.length i.b i.c else KeepsX C i.N.length i.b i.c) else if i.fr=true then KeepsF C i.N.length i.b i.c else if i.g=true then KeepsG C i.N.length i.b i.c else jS C i.N.length i.b i.c
noncomputable def FnI.ck(i:FnI)(L:List FnI)(cns:List Str):Ck:={ N:=i.N,names:=(ji i.st).names,fns:=L.map fun j=>(j.x,j.ps.length),cns:=cns,cls:=i.cls,rz:=i.rz,rs:=i.rz,al:=i.al }
noncomputable def xr(i:FnI):Bool :=
 decide ((ji i.st).kind=.function) && !(ji i.st).isCoroutine && !(ji i.st).isGenerator&&decide i.N.Nodup&&decide (i.N.take i.ps.length=i.ps) &&
  i.ps.all (fun x=>decide ((ji i.st).names.lookup x=some .local) ||decide ((ji i.st).names.lookup x=some .cell))&&(ji i.st).names.all fun y=>decide (y.2 ≠ .free)
theorem zy{i:FnI}(h:xr i=true):FnScope i.N i.ps (ji i.st):=by
 unfold xr at h;simp only[KM,decide_eq_true_eq,Ql,XM,Yl]at h;obtain⟨⟨⟨⟨⟨⟨h1,h2⟩,h3⟩,h4⟩,h5⟩,h6⟩,h7⟩:=h;exact⟨h1,h2,h3,h4,h5,h6,h7⟩
noncomputable def chkFn(i:FnI)(L:List FnI)(cns:List Str):Bool:=xr i&&if i.rz=true then zk (i.ck L cns) i.b (jT i.st) else x0 (i.ck L cns) i.b (jT i.st)
noncomputable def KB(L:List FnI)(cns:List Str):Bool:=(K3 L.length).all fun n=>match L[n]? with
 |some i=>chkFn i (L.take n) cns
 |none=>true
theorem chk_at{L:List FnI}{cns:List Str}(h:KB L cns=true){n:Nat}{i:FnI}(e:L[n]?=some i):chkFn i (L.take n) cns=true:=by
 unfold KB at h;rw[XM]at h
 have hn:n<L.length:=by
  rcases Qd n L.length with z|z
  ·exact z
  ·rw[KT z]at e;cases e
 have:=h n (Xh.mpr hn);rw[e]at this;exact this
structure FnAt (K:KN) (mg:Str->Option KO) (i:FnI) (f:Addr) (fd:Ya):Prop where
 fn:Fun K i.x i.x i.st f fd
 mg:mg i.x=some (.ref f)
 bd:∀us:List KO,us.length=i.ps.length->bindArgs fd ⟨us,[]⟩=pure (i.ps.zip us)
noncomputable def yS(K:KN)(mg:Str->Option KO)(i:FnI):Prop:=∃f fd,FnAt K mg i f fd
section
variable {α:Type} {P:List α->Prop}
theorem len0(k:P []):∀us,us.length=0->P us
 |[],_=>k
theorem len1(k:∀a,P [a]):∀us,us.length=1->P us
 |[a],_=>k a
theorem len2(k:∀a b,P [a,b]):∀us,us.length=2->P us
 |[a,b],_=>k a b
theorem len3(k:∀a b c,P [a,b,c]):∀us,us.length=3->P us
 |[a,b,c],_=>k a b c
theorem len4(k:∀a b c d,P [a,b,c,d]):∀us,us.length=4->P us
 |[a,b,c,d],_=>k a b c d
end
theorem fact_mk{K:KN}{h:QG}{mg:Str->Option KO}{i:FnI}{f:Addr}{od an:Option Addr}{sl:Array (Option KO)}{oc kV dc pm cd ct:KO}(X:K.In h)(G:h.Ns Q7 mg)
 (b:∀(kV doc pm:KO) (an:Option Addr) (cdv ct:KO) (us:List KO),us.length=i.ps.length->bindArgs (Yr i.x i.x (qN i.st) (jT i.st) (ji i.st) .none kV doc pm an cdv ct) ⟨us,[]⟩=pure (i.ps.zip us))
 (a:QT K Q7 i.x=some (some (.ref f))) (l:K.lookup f=some ⟨oc,od,.func (Yr i.x i.x (qN i.st) (jT i.st) (ji i.st) .none kV dc pm an cd ct),sl⟩) (c:ZB K cd i.x=true) (k:XS K (.ref f)=true):yS K mg i :=
 ⟨f,_,fun_mk l c k,Zh X G a,fun us h=>b kV dc pm an cd ct us h⟩
theorem FnAt.one{K:KN}{mg:Str->Option KO}{i:FnI}{f f':Addr}{fd fd':Ya}(a:FnAt K mg i f fd)(b:FnAt K mg i f' fd'):f=f'/\fd=fd':=by
 have e:=a.mg.symm.trans b.mg;cases e;obtain⟨oc,od,kV,doc,pm,an,cdv,ct,osl,e1,e2,_⟩:=a.fn.ex;obtain⟨oc',od',kV',doc',pm',an',cdv',ct',osl',e1',e2',_⟩:=b.fn.ex;rw[e2]at e2';injection e2' with e3;injection e3 with _ _ e4 _;injection e4 with e5;exact⟨rfl,e5⟩
section
variable {P:Qp} {w:World} {K:KN} {mg:Str->Option KO} {base:QG} {C:Cfg} {cns:List Str}
theorem zV:∀(ds:List D) (j m:Nat) (rs:List (List D)),getS (startS m ds) j≠some (.ot rs):=by
 intro ds j m rs;unfold startS;generalize m-ds.length=r
 induction ds generalizing j with
 |nil =>
  have:∀(m j:Nat),getS (K5 m none) j=none:=by
   intro m
   induction m with
   |zero=>intro j;rfl
   |succ m ih=>intro j;cases j with|zero=>rfl|succ j=>exact ih j
  simp only[QP,Qo]
  rw[this];exact fun z=>nomatch z
 |cons e es ih =>
  cases j with
  |zero=>simp only[K1,Qb,getS];exact fun z=>nomatch z
  |succ j=>simp only[K1,Qb,getS];exact ih j
theorem vk{H:Hp}{O:List Addr}{n:Nat}{ds:List D}{vs:List V}{N:List Str}(hn:N.length=n)(ho:∀a∈O,H a≠none)(i:Iss K (je H O) ds vs):Reps K O H (startS n ds) (L2.start N vs) where
 len:=by
  unfold startS L2.start;rw[K9,K9,KP,KP,ZL,ZL,i.length,hn]
 own:=ho
 sh:=fun j d g=>by
  have aux:∀(ds:List D) (vs:List V) (j:Nat) (d:D) (m m':Nat),Iss K (je H O) ds vs->getS (ds.map (fun d=>some (Sl.sh d))++K5 m none) j=some (.sh d)->∃v,(vs.map some++K5 m' none)[j]?=some (some v)/\Is K (je H O) d v:=by
   intro ds
   induction ds with
   |nil =>
    intro vs j d m m' i g
    have:∀(m j:Nat),getS (K5 m none) j=none:=by
     intro m
     induction m with
     |zero=>intro j;rfl
     |succ m ih=>intro j;cases j with|zero=>rfl|succ j=>exact ih j
    simp only[QP,Qo]at g
    rw[this]at g;cases g
   |cons e es ih =>
    intro vs j d m m' i g;unfold Iss at i;obtain⟨v,r,rfl,i1,i2⟩:=i
    cases j with
    |zero =>
     simp only[K1,Qb,getS]at g;cases g
     exact⟨v,rfl,i1⟩
    |succ j =>
     simp only[K1,Qb,getS]at g;obtain⟨u,e1,e2⟩:=ih r j d m m' i2 g;exact⟨u,by simpa using e1,e2⟩
  exact aux ds vs j d _ _ i g
 ow:=fun j es g=>by
  exfalso
  have aux:∀(ds:List D) (j:Nat) (m:Nat),getS (ds.map (fun d=>some (Sl.sh d))++K5 m none) j≠some (.ow es):=by
   intro ds
   induction ds with
   |nil =>
    intro j m
    have:∀(m j:Nat),getS (K5 m none) j=none:=by
     intro m
     induction m with
     |zero=>intro j;rfl
     |succ m ih=>intro j;cases j with|zero=>rfl|succ j=>exact ih j
    simp only[QP,Qo]
    rw[this];exact fun z=>nomatch z
   |cons e es ih =>
    intro j m
    cases j with
    |zero=>simp only[K1,Qb,getS];exact fun z=>nomatch z
    |succ j=>simp only[K1,Qb,getS];exact ih j m
  exact aux ds j _ g
 dj:=fun j l es fs hjl g1 g2=>by
  exfalso
  have aux:∀(ds:List D) (j:Nat) (m:Nat),getS (ds.map (fun d=>some (Sl.sh d))++K5 m none) j≠some (.ow es):=by
   intro ds
   induction ds with
   |nil =>
    intro j m
    have:∀(m j:Nat),getS (K5 m none) j=none:=by
     intro m
     induction m with
     |zero=>intro j;rfl
     |succ m ih=>intro j;cases j with|zero=>rfl|succ j=>exact ih j
    simp only[QP,Qo]
    rw[this];exact fun z=>nomatch z
   |cons e es ih =>
    intro j m
    cases j with
    |zero=>simp only[K1,Qb,getS];exact fun z=>nomatch z
    |succ j=>simp only[K1,Qb,getS];exact ih j m
  exact aux ds j _ g1
 tt:=⟨fun j rows g=>absurd g (zV ds j _ rows),fun j l rs qs g1 _=>absurd g1 (zV ds j _ rs)⟩
theorem start_no:∀(ds:List D) (j m:Nat) (es:List D),getS (startS m ds) j≠some (.ow es):=by
 intro ds j m es;unfold startS;generalize m-ds.length=r
 induction ds generalizing j with
 |nil =>
  have:∀(m j:Nat),getS (K5 m none) j=none:=by
   intro m
   induction m with
   |zero=>intro j;rfl
   |succ m ih=>intro j;cases j with|zero=>rfl|succ j=>exact ih j
  simp only[QP,Qo]
  rw[this];exact fun z=>nomatch z
 |cons e es ih =>
  cases j with
  |zero=>simp only[K1,Qb,getS];exact fun z=>nomatch z
  |succ j=>simp only[K1,Qb,getS];exact ih j
theorem fun_okz{CX:CXT}{x qual:Str}{st:Stmt}{f:Addr}{fd:Ya}{N ps:List Str}{k:Nat}{sp:Sp}(F:Fun K x qual st f fd)(S:FnScope N ps (ji st))(len:∀vs H Q E,sp vs H Q E->vs.length=ps.length)
 (hb:∀(cdv:KO) (A:QH) (outer:List Env) (s:Shared) (H:Hp) (vs:List V) (Q:VK) (E:XK),Room k (A.deeper (envOfC qual (ji st) s.heap.objs.size f cdv))->sp vs H Q E ->
  ∃t,PSs (uk CX P w K mg base N qual (ji st) f cdv A outer s H E) (jT st) t/\t { nx:=fun _ H'=>Q .non H',rt:=Q } (L2.start N vs) H):FnOk P w K mg base CX (k+1) f fd ps sp:=by
 obtain⟨oc,od,kV,doc,pm,an,cdv,ct,osl,rfl,lk,hcd⟩:=F.ex
 exact fn_of lk hcd S len fun A outer s H vs Q E hr hsp=>hb cdv A outer s H vs Q E hr hsp
noncomputable def JJ(i:FnI):Bool:=xr i&&decide (i.x=("_law_alone":Str))&&decide (i.ps=[("_law_e":Str)])&&decide (i.N=[("_law_e":Str),("_law_flags":Str)])&&decide ((ji i.st).names.lookup ("_law_e":Str)=some .local)&&decide ((ji i.st).names.lookup ("_law_flags":Str)=some .local) &&
 ((("isinstance":Str)::("TrueError":Str)::("ValueError":Str)::names12).all fun c=>decide ((ji i.st).names.lookup c=some .globalImplicit))&&uK (jT i.st)
structure ExcOk (K:KN) (mg:Str->Option KO) (cls:List Str) (b:Bool):Prop where
 al:b=true->∃i,yS K mg i/\JJ i=true
 exc:∀x∈cls,∃Ca,mg x=some (.ref Ca)/\ClsOk K mg x Ca b
theorem ExcOk.fn{cls:List Str}{b:Bool}(e:ExcOk K mg cls b)(hb:b=true):∃f fd,FnOk P w K mg base (CXz P w mg) 1 f fd ["_law_e"] (spA K mg)/\mg "_law_alone"=some (.ref f)/\XS K (.ref f)=true/\yP K fd ["_law_e"] []:=by
 obtain⟨i,⟨f,fd,A⟩,h⟩:=e.al hb;unfold JJ at h;simp only[KM,decide_eq_true_eq,XM]at h;obtain⟨⟨⟨⟨⟨⟨⟨h1,h2⟩,h3⟩,h4⟩,h5⟩,h6⟩,h7⟩,h8⟩:=h;have S:=zy h1;have b:=A.bd;have m:=A.mg;rw[h3]at b;rw[h2]at m;rw[h3,h4]at S;exact⟨f,fd,alone_ok A.fn S h5 h6 h7 h8,m,A.fn.kp,.all b⟩
theorem fn_sound{i:FnI}{L:List FnI}{lv:Nat}{f:Addr}{fd:Ya}(h2:2<=lv)(F:FnAt K mg i f fd)(hc:chkFn i L cns=true)(hk:i.Keep C)
 (fns:∀n j,L[n]?=some j->∃f fd,FnOk P w K mg base (CXz P w mg) lv f fd j.ps (spD K j.ps.length (C.fr n) (C.f2 n) (C.ct n))/\FnAt K mg j f fd)
 (hcn:∀n x,cns[n]?=some x->∃u v,mg x=some u/\jV v u/\∀S,Is K S (C.cn n) v) (hb:∀x∈blts,mg x=none) (hE:∀x,¬ C.E x) (hz:i.rz=true->ExcOk K mg i.cls i.al) :
 FnOk P w K mg base (CXz P w mg) (lv+1) f fd i.ps (spD K i.ps.length i.fr i.g i.c):=by
 unfold chkFn at hc;rw[KM]at hc;have S:=zy hc.1;refine fun_okz F.fn S (fun vs H Q E h=>?_) (fun cdv A outer s H vs Q E hr h=>?_)
 ·obtain⟨O,ds,hl,_,is,_⟩:=h;rw[is.length,hl]
 obtain⟨O,ds,hl,ho,is,hp,hq,hx⟩:=h
 have hun:(A.deeper (envOfC i.x (ji i.st) s.heap.objs.size f cdv)).units+100<cLine:=by have:=hr.un;lia
 have hdp:=hr.dp
 have hcalm:A.handled.isNone=true:=by
  have e:A.handled=none:=hr.hd h2;rw[e];rfl
 have ok:OkS (uk (CXz P w mg) P w K mg base i.N i.x (ji i.st) f cdv A outer s H E).nox (i.ck L cns) C:=by
  refine⟨⟨rfl,S.nd,rfl,S.kind,hcalm,rfl,hun,?_,hcn,hb,hE⟩,fun _=>rfl⟩;intro n x m e;have e':(L.map fun j=>(j.x,j.ps.length))[n]?=some (x,m):=e;rw[Qg]at e'
  cases q:L[n]? with
  |none=>rw[q]at e';cases e'
  |some j =>
   rw[q]at e';cases e';obtain⟨f',fd',F',A'⟩:=fns n j q;exact⟨f',fd',j.ps,lv,F',hr,A'.mg,A'.fn.kp,.all A'.bd⟩
 have st:=vk (K:=K) (N:=i.N) rfl ho is
 have mine:∀j es a,getS (startS i.N.length ds) j=some (.ow es)->(L2.start i.N vs)[j]?=some (some (.ref a))->a ∉ O:=fun j es a g=>(start_no ds j _ es g).elim
 have mineT:MT O H (startS i.N.length ds) (L2.start i.N vs):=fun j rs a as g=>(zV ds j _ rs g).elim
 unfold FnI.Keep at hk;by_cases hrz:i.rz=true
 ·rw[if_pos hrz]at hk;rw[if_pos hrz]at hc;have eo:=hz hrz
  have own:Own (uk (CXz P w mg) P w K mg base i.N i.x (ji i.st) f cdv A outer s H E):=⟨rfl,rfl,rfl⟩
  have okx:OkX (uk (CXz P w mg) P w K mg base i.N i.x (ji i.st) f cdv A outer s H E) (i.ck L cns) C O H (i.c.exn ds):=by
   refine⟨ok,own,ho,?_,?_,fun _=>⟨hr.mono h2,?_⟩,eo.exc,fun q=>⟨eo.fn q,⟨?_,?_⟩,hb _ (by decide)⟩⟩
   ·intro y Ca hex hm pins σ H' s' H1 da e s2 I sm fd T
    exact thrown_on I own sm T fun s3 T3=>⟨y.t,Ca,H1,da,hx y hex H1 da sm fd,hm,T3⟩
   ·intro _ x Ca hex hm pins σ H' s' h1 e args I sm M
    exact thrown_made I own sm M fun s3 T3=>⟨x,Ca,H',none,hx ⟨0,x,[]⟩ hex H' none sm (fun d hd=>nomatch hd),hm,T3⟩
   ·intro y Ca hex hm pins σ H' s' e da I he h0 h0' sm fd;obtain⟨⟨t0,he1⟩,_⟩:=I.hok e _ he
    exact thrown_own (inv_del I he h0) own sm he1 rfl rfl rfl rfl rfl del_same h0' fun s3 T3=>⟨y.t,Ca,_,da,hx y hex _ da sm fd,hm,T3⟩
   ·show (A.deeper (envOfC i.x (ji i.st) s.heap.objs.size f cdv)).depth+3*1+5<Uo;lia
   ·have:=hr.un;show (A.deeper (envOfC i.x (ji i.st) s.heap.objs.size f cdv)).units+16*1+200<cLine;lia
  by_cases hfr:i.fr=true
  ·rw[if_pos hfr]at hk;unfold Rw at hq;simp only[hfr,if_true]at hq;refine⟨_,sXB (O₀:=O) okx i.b _ hc.2,startS i.N.length ds,O,⟨jf.refl _,fun _ z=>z,fun _ z=>.inl z⟩,⟨st,mine,mineT⟩,jq i.b ?_ (hk ds hp)⟩;exact⟨fun _ z=>z.elim,fun _ z=>z.elim,fun _ z=>z.elim,fun _ z=>z.elim,fun xs q a H' us s' h0 hl' is'=>hq _ q xs a H' us rfl s' h0 hl' is',fun _ z=>z,fun _ z=>z.elim⟩
  rw[if_neg hfr]at hk;obtain⟨hf,hk⟩:=hk;unfold Rw at hq;simp only[hf,Qk,if_false]at hq;by_cases hg:i.g=true
  ·rw[if_pos hg]at hk;simp only[hg,if_true]at hq;refine⟨_,sXB (O₀:=O) okx i.b _ hc.2,startS i.N.length ds,O,⟨jf.refl _,fun _ z=>z,fun _ z=>.inl z⟩,⟨st,mine,mineT⟩,jq i.b ?_ (hk ds hp)⟩;exact⟨fun _ z=>z.elim,fun d q v H' s' i'=>(hq d q.2).2 q.1 v H' s' i',fun _ z=>z.elim,fun _ z=>z.elim,fun _ z=>z.elim,fun _ z=>z,fun rows q a as H' s' h0 t=>(hq _ q).1 rows a as H' rfl s' h0 t⟩
  rw[if_neg hg]at hk;simp only[hg,Qk,if_false]at hq;refine⟨_,sXB (O₀:=O) okx i.b _ hc.2,startS i.N.length ds,O,⟨jf.refl _,fun _ z=>z,fun _ z=>.inl z⟩,⟨st,mine,mineT⟩,jq i.b ?_ (hk ds hp)⟩;exact⟨fun σ' q τ' H' O' g' s' r'=>hq _ q _ _ g'.same uY,fun d q v H' s' i'=>hq d q v H' s' i',fun _ z=>z.elim,fun _ z=>z.elim,fun _ z=>z.elim,fun _ z=>z,fun _ z=>z.elim⟩
 rw[if_neg hrz]at hk;rw[if_neg hrz]at hc;refine⟨tS K C O H (fun _=>False) i.b,PSs.nox (sK ok i.b _ hc.2),?_⟩;unfold Rw at hq;by_cases hf:i.fr=true
 ·rw[if_pos hf]at hk;simp only[hf,if_true]at hq;refine⟨startS i.N.length ds,O,⟨jf.refl _,fun _ z=>z,fun _ z=>.inl z⟩,⟨st,mine,mineT⟩,jq i.b ?_ (hk ds hp)⟩;exact⟨fun _ z=>z.elim,fun _ z=>z.elim,fun _ z=>z.elim,fun _ z=>z.elim,fun xs q a H' us s' h0 hl' is'=>hq _ q xs a H' us rfl s' h0 hl' is',fun _ z=>z,fun _ z=>z.elim⟩
 rw[if_neg hf]at hk;by_cases hg:i.g=true
 ·rw[if_pos hg]at hk;simp only[hf,hg,Qk,if_false,if_true]at hq;refine⟨startS i.N.length ds,O,⟨jf.refl _,fun _ z=>z,fun _ z=>.inl z⟩,⟨st,mine,mineT⟩,jq i.b ?_ (hk ds hp)⟩;exact⟨fun _ z=>z.elim,fun _ z=>z.elim,fun _ z=>z.elim,fun _ z=>z.elim,fun _ z=>z.elim,fun _ z=>z,fun rows q a as H' s' h0 t=>(hq _ q).1 rows a as H' rfl s' h0 t⟩
 ·rw[if_neg hg]at hk;simp only[hf,hg,Qk,if_false]at hq;refine⟨startS i.N.length ds,O,⟨jf.refl _,fun _ z=>z,fun _ z=>.inl z⟩,⟨st,mine,mineT⟩,jq i.b ?_ (hk ds hp)⟩;exact⟨fun σ' q τ' H' O' g' s' r'=>hq _ q _ _ g'.same uY,fun d q v H' s' i'=>hq d q v H' s' i',fun _ z=>z.elim,fun _ z=>z.elim,fun _ z=>z.elim,fun _ z=>z,fun _ z=>z.elim⟩
theorem all_sound{L:List FnI}(F:∀i∈L,yS K mg i)(hc:KB L cns=true)(hk:∀i∈L,i.Keep C)(ct:∀n i,L[n]?=some i->C.ct n=i.c/\C.fr n=i.fr/\C.f2 n=i.g)
 (hcn:∀n x,cns[n]?=some x->∃u v,mg x=some u/\jV v u/\∀S,Is K S (C.cn n) v) (hb:∀x∈blts,mg x=none) (hE:∀x,¬ C.E x) (hz:∀i∈L,i.rz=true->ExcOk K mg i.cls i.al) :
 ∀(n:Nat) (i:FnI) (f:Addr) (fd:Ya),L[n]?=some i->FnAt K mg i f fd->FnOk P w K mg base (CXz P w mg) (n+3) f fd i.ps (spD K i.ps.length i.fr i.g i.c):=by
 intro n
 induction n using Nat.strongRecOn with
 |ind n ih =>
  intro i f fd e A;refine fn_sound (L:=L.take n) (lv:=n+2) (by lia) A (chk_at hc e) (hk i (QD e)) (fun m j q=>?_) hcn hb hE (hz i (QD e))
  have hm:m<n:=by
   rcases Qd m n with z|z
   ·exact z
   ·rw[KT (by rw[Q6];lia)]at q;cases q
  rw[Yv hm]at q;obtain⟨f',fd',A'⟩:=F j (QD q);rw[(ct m j q).1,(ct m j q).2.1,(ct m j q).2.2];exact⟨f',fd',(ih m hm j f' fd' q A').mono (by lia),A'⟩
end
section
variable {K:KN} {h:QG} {mg:Str->Option KO}
theorem kit_of{Ca D:Addr}{b:Bool}(t:PySem.W.typeIn K (.ref Ca)=some (.type "type"))(m:Zm K Ca (.type "object")=some true)(s:Uy K (.ref D) (.ref Ca)=some b)(hd:decide (D=Ca)=true->b=true):Y1 K (.ref D) (.ref Ca)=some b:=by
 have hs:(PySem.W.clsIn K Ca).isSome=true:=by
  unfold Zm at m
  cases q:PySem.W.clsIn K Ca with
  |none=>rw[q]at m;cases m
  |some c=>rfl
 unfold Y1;split
 ·next e =>
  have e':D=Ca:=Xa.inj (beq_iff_eq.mp e);rw[hd (by simpa using e')]
 ·unfold PySem.W.kitCls;simp only[hs,t,beq_self_eq_true,Bool.and_self,if_true,s]
theorem kit_cl(X:K.In h)(G:h.Ns Q7 mg){c y:Str}{Ca D:Addr}{b:Bool}(a:QT K Q7 c=some (some (.ref Ca)))(t:PySem.W.typeIn K (.ref Ca)=some (.type "type"))(m:Zm K Ca (.type "object")=some true)
 (s:Uy K (.ref D) (.ref Ca)=some b) (hb:b=decide (c=y)) (hd:decide (D=Ca)=true->b=true):∃Ca,mg c=some (.ref Ca)/\Y1 K (.ref D) (.ref Ca)=some (decide (c=y)) :=
 ⟨Ca,Zh X G a,by rw[<- hb];exact kit_of t m s hd⟩
theorem alone_mk(X:K.In h)(G:h.Ns Q7 mg){x:Str}{D T:Addr}
 (e1:Uu K (.ref D) "__getattribute__"=some (some (.builtin "BaseException.__getattribute__"))) (e2:Uu K (.ref D) "__getattr__"=some none) (e3:Uu K (.ref D) "__class__"=some (some (.builtin "object.__class__")))
 (e4:PySem.W.specialIn K (.builtin "object.__class__") "__get__"=some (some (.builtin "getset_descriptor.__get__"))) (e5:PySem.W.takesIn K (.builtin "object.__class__")=some true) (e6:Zm K D (.type "object")=some true) (e7:Zm K D (.type "BaseException")=some true)
 (t1:QT K Q7 "TrueError"=some (some (.ref T))) (t2:PySem.W.typeIn K (.ref T)=some (.type "type")) (t3:Zm K T (.type "object")=some true) (t4:Uy K (.ref D) (.ref T)=some true)
 (v1:Uy K (.ref D) (.type "ValueError")=some true) (v2:QT K Q7 "ValueError"=some none) (v3:QT K Q7 "isinstance"=some none) (mem:x∈names12)
 (cl:∀c∈names12,∃Ca,mg c=some (.ref Ca)/\Y1 K (.ref D) (.ref Ca)=some (decide (c=x))):AloneF K mg x D:=by
 refine⟨⟨e1,e2,e3,e4,e5,e6,e7⟩,cl,⟨T,Zh X G t1,kit_of t2 t3 t4 fun _=>rfl⟩,?_,Zw X G v2,Zw X G v3,mem⟩;unfold Y1;rw[if_neg (by intro z;cases beq_iff_eq.mp z)];unfold PySem.W.kitCls
 have km:PySem.W.kitMeta "ValueError"=true:=by decide +kernel
 simp only[km,if_true,v1]
end
theorem exc_ok{K:KN}{h:QG}{mg:Str->Option KO}{cls:List Str}{i:FnI}(_:K.In h)(al:yS K mg i)(st:JJ i=true)(ex:∀x∈cls,∃Ca,mg x=some (.ref Ca)/\ClsOk K mg x Ca true):ExcOk K mg cls true:=⟨fun _=>⟨i,al,st⟩,ex⟩
theorem bl_at:XE (.type "ValueError") "at"=pure none:=by kernel_rfl
theorem bl_w:XE (.type "ValueError") "weights"=pure none:=by kernel_rfl
theorem bl_f(x:Str):XE (.type "ValueError") (yB x)=pure none:=by
 unfold yB;split
 ·exact bl_w
 ·exact bl_at
def clsDef:Stmt->Stmt
 |.ClassDef _ _ _ b ..=>b.getD 0 (.Pass ⟨0,0,0,0⟩)
 |s=>s
noncomputable def strKey(e:DictEntry):Bool:=match e.key with
 |.str ..=>true
 |_=>false
theorem nsOk_of{K:KN}{N:Addr}{c:KO}{d:Option Addr}{es:Array DictEntry}{ep:Nat}{sl:Array (Option KO)}(l:K.lookup N=some ⟨c,d,.dict es ep,sl⟩)(a:es.toList.all strKey=true):PySem.W.nsOkIn K N=true:=by
 unfold PySem.W.nsOkIn;rw[l];simp only;rw[<- Array.all_toList];exact a
noncomputable def iniSt(x:Str)(i:FnI):Bool:=xr i&&match i.ps with
 |[a,b,p]=>decide (i.N=i.ps)&&decide (a=("self":Str))&&decide (b=("text":Str)) && !(p == ("__debug__":Str)) && !(p == ("__classdict__":Str))&&decide ((ji i.st).names.lookup ("TrueError":Str)=some .globalImplicit)&&(!(x == ("Dependent":Str)) ||decide ((ji i.st).names.lookup ("list":Str)=some .globalImplicit))&&u8 (yB x) p (x == ("Dependent":Str)) (jT i.st)
 |_=>false
theorem exc_mkO{K:KN}{h:QG}{mg:Str->Option KO}{x:Str}{bb:Bool}{i:FnI}(X:K.In h)(G:h.Ns Q7 mg){C T f N:Addr}{nm qn q:Str}{bs:List KO}{sn:List Str}{sub:List KO}{ab:Bool}{col:Option Bool}{dd ddT d1 d2 od an dD:Option Addr}{k0 k1 k2 k3 k5:Option KO}{cdT:ClassData}{slT sl1 sl2 osl slD:Array (Option KO)}{c1 c2 oc d0 cD kV doc pm cdv ct:KO}{Td:Addr}{nD:Nat}{es1 es2:Array DictEntry}{ep1 ep2:Nat}
 (hs:iniSt x i=true) (hf:hasF x=true)
 (b:∀(kV doc pm:KO) (an:Option Addr) (cdv ct d0 u1 u2 u3:KO) (Td:Addr),∃k,bindArgs (Yr "__init__" q (qN i.st) (jT i.st) (ji i.st) (.ref Td) kV doc pm an cdv ct) ⟨[u1,u2,u3],[]⟩=seqItems? (.ref Td) >>= k/\k (some #[d0])=pure (i.ps.zip [u1,u2,u3]))
 (a:QT K Q7 x=some (some (.ref C))) (te:QT K Q7 "TrueError"=some (some (.ref T))) (ml:QT K Q7 "list"=some none)
 (l:K.lookup C=some (Xn nm qn C N bs (.ref T::bmV) true sn sub ab col dd k0 k1 k2 k3 k5 newV)) (lN:K.lookup N=some ⟨c1,d1,.dict es1 ep1,sl1⟩) (aN:es1.toList.all strKey=true)
 (lT:K.lookup T=some ⟨.type "type",ddT,.cls cdT,slT⟩) (lM:K.lookup cdT.ns=some ⟨c2,d2,.dict es2 ep2,sl2⟩) (aM:es2.toList.all strKey=true)
 (ii:QT K N "__init__"=some (some (.ref f))) (n1:QT K N "__getattribute__"=some none) (n2:QT K N "__getattr__"=some none) (n3:QT K N "__setattr__"=some none) (n4:QT K N (yB x)=some none)
 (m1:QT K cdT.ns (yB x)=some none) (m2:QT K cdT.ns "__setattr__"=some none) (m3:QT K cdT.ns "__init__"=some none) (m4:QT K cdT.ns "__getattribute__"=some none) (m5:QT K cdT.ns "__getattr__"=some none) (m6:QT K cdT.ns "args"=some none)
 (op:QT K cStatics "thirdparty.any"=some none) (fi:Uu K (.ref T) "__init__"=some (some (.builtin "ValueError.__init__"))) (fn:PySem.W.isFn K (.ref f)=true) (kp:XS K (.ref C)=true)
 (lf:K.lookup f=some ⟨oc,od,.func (Yr "__init__" q (qN i.st) (jT i.st) (ji i.st) (.ref Td) kV doc pm an cdv ct),osl⟩) (lD:K.lookup Td=some ⟨cD,dD,.seq #[d0] nD,slD⟩) (hcd:ZB K cdv q=true) (al:bb=true->AloneF K mg x C):∃Ca,mg x=some (.ref Ca)/\ClsOk K mg x Ca bb:=by
 have F:InitF K mg C T f (yB x):=by
  refine⟨⟨nm,qn,N,bs,sn,sub,ab,col,dd,k0,k1,k2,k3,k5,l,nsOk_of lN aN,ii,fun y hy=>?_⟩,⟨ddT,cdT,slT,lT,nsOk_of lM aM,fun y hy=>?_⟩,op,fi,Zh X G te,fn,kp,bl_f x⟩
  ·simp only[KS,K4,or_false]at hy
   rcases hy with rfl|rfl|rfl|rfl<;>assumption
  ·simp only[ZS,KS,K4,or_false]at hy
   rcases hy with rfl|rfl|rfl|rfl|rfl|rfl<;>assumption
 unfold iniSt at hs;rw[KM]at hs;obtain⟨hsc,hs⟩:=hs;have S:=zy hsc;split at hs
 ·next a' b' p hps =>
  simp only[KM,decide_eq_true_eq,Ql,Yl]at hs;obtain⟨⟨⟨⟨⟨⟨⟨hN,rfl⟩,rfl⟩,hp1⟩,hp2⟩,hg1⟩,hg2⟩,hb⟩:=hs;rw[hN,hps]at S;rw[hps]at b;refine⟨C,Zh X G a,?_,(fun z=>by rw[hf]at z;cases z),fun _=>⟨T,f,F,fun P w base=>⟨_,p,init_ok lf hcd S F ⟨hp1,hp2⟩ hg1 (fun z=>?_) (Zw X G ml) hb,fun s us Xs hl=>?_⟩⟩,al⟩
  ·intro h' X';obtain⟨_,_,_,_,_,_,_,_,_,_,_,_,_,_,_,hh⟩:=F.heap X';exact⟨_,_,_,_,_,_,_,_,_,_,_,_,_,_,_,_,hh.hC,hh.tl⟩
  ·rcases hg2 with q|q
   ·rw[z]at q;cases q
   ·exact q
  ·rw[Qu]at hl ⊢;obtain⟨u1,r,rfl⟩:=xA (xs:=us) (by cases us<;>first|rfl|cases hl);obtain⟨u2,u3,rfl⟩:=qb (xs:=r) (by simpa using hl);obtain⟨k,e1,e2⟩:=b kV doc pm an cdv ct d0 u1 u2 u3 Td;exact BindsTo.of_defaults rfl (Xs _ _ lD) rfl e1 e2
 ·cases hs
theorem law_sp{K:KN}{H:Hp}{a:Addr}{ns:List Int}(hl:ns.length<=63)(h:SqL K H a (ns.map V.int)):spD K 1 false false zB [.ref a] H (fun v _=>v=.bl true) fun _ _ _=>False:=by
 have is:∀ns:List Int,Iss K (je H []) (ns.map D.int) (ns.map V.int):=by
  intro ns
  induction ns with
  |nil=>unfold Iss;rfl
  |cons n r ih =>
   simp only[K1];unfold Iss;exact⟨_,_,rfl,jH n,ih⟩
 refine⟨[],[.lst (ns.map .int)],rfl,(fun _ z=>nomatch z),?_,⟨ns,rfl,hl⟩,fun d e v H' s i=>?_,fun _ z=>z.elim⟩
 ·unfold Iss;refine⟨_,_,rfl,qg ?_ (is ns),?_⟩
  ·have e:je H []=H:=by
    funext b;exact j5 (by simp)
   rw[e];exact h
  ·unfold Iss;rfl
 ·have e':d=.bl true:=e;subst e';exact kq i
end Z
namespace Z
open PySem
noncomputable def qv:Sm :=
 (.seq (.set 2 (.bi .abs [(.var 0)]))
 (.seq (.set 3 (.bi .abs [(.var 1)]))
 (.seq (.whl (.cmp .gt (.var 3) (.cst (.int 0))) (.seq (.set 4 (.bin .mod (.var 2) (.var 3)))
  (.seq (.set 2 (.var 3))
  (.seq (.set 3 (.var 4))
  .nop))))
 (.seq (.ret (.var 2))
 .nop))))
noncomputable def JZ(i_common_divisor:Nat):Sm :=
 (.seq (.ite (.cmp .eq (.var 1) (.cst (.int 0))) (.seq .never
  .nop) .nop)
 (.seq (.set 2 (.call i_common_divisor [(.var 0),(.var 1)]))
 (.seq (.ite (.cmp .lt (.var 1) (.cst (.int 0))) (.seq (.set 2 (.neg (.var 2)))
  .nop) .nop)
 (.seq (.ret (.tup [(.bin .fdiv (.var 0) (.var 2)),(.bin .fdiv (.var 1) (.var 2))]))
 .nop))))
noncomputable def rq(r:Rat):D:=.tup [.int r.num,.int r.den]
noncomputable def szr(n:Nat)(r:Rat):Prop:=bits r.num<=n/\bits (r.den:Int)<=n
theorem divInt_sz(t:Int){u:Int}(h:u≠0):bits (Xl t u).num<=bits t/\bits ((Xl t u).den:Int)<=bits u:=by
 rw[Rat.num_divInt,Rat.den_divInt,if_neg h];have hg:0<u.gcd t:=YU _ h;constructor
 ·refine Qx (yI (by lia)) (kl ?_);rw[XF];rw[Int.natAbs_sign_of_ne_zero h,Nat.one_mul];exact K6 _
 ·refine kl ?_;rw[YF];exact Nat.div_le_self u.natAbs (u.gcd t)
theorem rat_eq(r:Rat):r=Xl r.num r.den:=(Rat.num_divInt_den r).symm
theorem eq_rq(a b:Rat):eqD (rq a) (rq b)=decide (a=b):=by
 simp only[rq,vC,eqs_cc,eqs_nn,uW,Bool.and_true];by_cases h:a=b
 ·subst h;simp
 ·rw[decide_eq_false h,Bool.and_eq_false_iff];by_cases hn:a.num=b.num
  ·right
   have:¬ (a.den:Int)=b.den:=fun z=>h (Rat.ext hn (by lia))
   simpa using this
  ·left;simpa using hn
theorem dep_rq(a:Rat):kD (rq a)=1:=by simp[rq,Kc,vm,uX,JR]
theorem ix_rq0{a:Rat}{Q:D->Prop}:ixD (rq a) (.int 0) Q=Q (.int a.num):=by
 simp only[rq,ix_tup,atD_0,Q8,exists_eq_left']
theorem ix_rq1{a:Rat}{Q:D->Prop}:ixD (rq a) (.int 1) Q=Q (.int a.den):=by
 simp only[rq,ix_tup,atD_1,Q8,exists_eq_left']
theorem tup01:D.tup [.int 0,.int 1]=rq 0:=rfl
noncomputable def jK:Ctr where
 pre ds:=match ds with|[.int _,.int _]=>True|_=>False
 res ds d:=match ds with|[.int a,.int b]=>d=.int (Xb a b)|_=>False
theorem zZ{C:Cfg}:jS C 5 qv jK:=by
 rintro ds h;simp only[jK]at h;split at h
 case h_2=>exact h.elim
 next a b =>
 simp_all_arith! only[qv,jK,abs_eq]
 refine vB (fun σ=>∃(x y:Nat) (o:Option Sl),Nat.gcd x y=Xb a b/\σ=[some (.sh (.int a)),some (.sh (.int b)),some (.sh (.int x)),some (.sh (.int y)),o]) (fun σ=>(Jc σ 3).toNat) ?_ ?_
 ·exact⟨_,_,_,rfl,rfl⟩
 ·rintro σ ⟨x,y,o,hg,rfl⟩
  simp_all_arith! only[Jc]
  by_cases h0:0<(y:Int)
  ·rw[if_pos h0,jA (by lia)];have hm:x%y<y:=Nat.mod_lt _ (by lia);refine⟨by lia,by lia,y,x%y,some (.sh (.int ((x:Int)%y))),?_,by simp⟩;rw[Uh,<- Nat.gcd_rec,Uh];exact hg
  ·rw[if_neg h0]
   have:y=0:=by lia
   subst this;simp only[Nat.gcd_zero_right]at hg;rw[hg]
noncomputable def xl:Ctr where
 pre ds:=match ds with|[.int _,.int u]=>u≠0/\bits u<=9000|_=>False
 res ds d:=match ds with|[.int t,.int u]=>d=rq (Xl t u)|_=>False
theorem k_ratio{C:Cfg}{i:Nat}(h1:C.ct i=jK):jS C 3 (JZ i) xl:=by
 rintro ds h;simp only[xl]at h;split at h
 case h_2=>exact h.elim
 next t u =>
 obtain⟨hu,hb⟩:=h;have hg:0<Xb t u:=Int.gcd_pos_of_ne_zero_right _ hu
 have hgb:bits (Xb t u:Int)<=9000:=by
  refine Qx (kl ?_) hb;have:=Nat.le_of_dvd (by lia) (Int.gcd_dvd_natAbs_right t u);lia
 have dt:((Xb t u:Nat):Int) ∣ t:=Int.gcd_dvd_left ..;have du:((Xb t u:Nat):Int) ∣ u:=Int.gcd_dvd_right ..;have en:=Rat.num_divInt t u;have ed:=Rat.den_divInt t u;rw[if_neg hu]at ed;rw[Int.gcd_comm]at en ed
 simp_all_arith! only[JZ,xl,h1,jK]
 rw[if_neg hu];generalize Xb t u=g at *;obtain⟨t',rfl⟩:=dt;obtain⟨u',rfl⟩:=du
 have g0:(g:Int)≠0:=by lia
 by_cases hs:(g:Int)*u'<0
 ·rw[if_pos hs];refine⟨⟨by lia,by rw[xC];exact hgb⟩,⟨by lia,by rw[xC];exact hgb⟩,?_⟩
  have hu':u'<0:=by
   rcases Ul u' 0 with z|z
   ·exact z
   ·have:=Int.mul_nonneg (show (0:Int)<=g by lia) z;lia
  have e1:((g:Int)*t').fdiv (-g)=-t':=by
   rw[show (g:Int)*t'=-t' * -g by rw[Int.neg_mul_neg,X5]];exact X3 _ (by lia)
  have e2:((g:Int)*u').fdiv (-g)=-u':=by
   rw[show (g:Int)*u'=-u' * -g by rw[Int.neg_mul_neg,X5]];exact X3 _ (by lia)
  rw[e1,e2];unfold rq;rw[en,ed,Int.sign_eq_neg_one_of_neg hs]
  have e3:-1*((g:Int)*t') / g=-t':=by
   rw[show -1*((g:Int)*t')=g * -t' by grind,Zn _ g0]
  have e4:((g:Int)*u').natAbs / g=u'.natAbs:=by
   rw[XF,YF,Nat.mul_div_cancel_left _ hg]
  rw[e3,e4]
  have:((u'.natAbs:Nat):Int)=-u':=by lia
  rw[this]
 ·rw[if_neg hs];refine⟨⟨by lia,hgb⟩,⟨by lia,hgb⟩,?_⟩
  have hu':0<u':=by
   have:u'≠0:=fun z=>by subst z;simp at hu
   rcases Ul u' 0 with z|z
   ·have:=Int.mul_neg_of_pos_of_neg (show (0:Int)<g by lia) z;lia
   ·lia
  have hp:0<(g:Int)*u':=Int.mul_pos (by lia) hu'
  have e1:((g:Int)*t').fdiv g=t':=by
   rw[X5];exact X3 _ (by lia)
  have e2:((g:Int)*u').fdiv g=u':=by
   rw[X5];exact X3 _ (by lia)
  rw[e1,e2];unfold rq;rw[en,ed,Int.sign_eq_one_of_pos hp,Z0,Zn _ g0]
  have e4:((g:Int)*u').natAbs / g=u'.natAbs:=by
   rw[XF,YF,Nat.mul_div_cancel_left _ hg]
  rw[e4]
  have:((u'.natAbs:Nat):Int)=u':=by lia
  rw[this]
section
variable {C:Cfg} {i:Nat} (h1:C.ct i=xl)
include h1
end
end Z
namespace Z
open PySem
noncomputable def v2(n:Nat):Nat:=if h:n=0 then 0 else if n%2=1 then 0 else v2 (n / 2)+1
 termination_by n
 decreasing_by lia
theorem v2_odd{n:Nat}(h:n%2=1):v2 n=0:=by
 unfold v2
 have:n≠0:=by lia
 simp[this,h]
theorem v2_even{n:Nat}(h0:n≠0)(h:n%2=0):v2 n=v2 (n / 2)+1:=by
 rw[v2]
 have:¬ n%2=1:=by lia
 simp[h0,this]
theorem v2_mul{m:Nat}(h:m%2=1):∀v:Nat,v2 (2^v*m)=v
 |0=>by simpa using v2_odd h
 |v+1=>by
  have e:2^(v+1)*m=2*(2^v*m):=by rw[XQ];grind
  have hp:0<2^v*m:=Nat.mul_pos (Xj v) (by lia);rw[e,v2_even (by lia) (by lia)]
  have:2*(2^v*m) / 2=2^v*m:=by lia
  rw[this,v2_mul h v]
noncomputable def jO(w p:Int):Int×Int:=if w=0 then (0,0) else (w / 2^v2 w.natAbs,p+v2 w.natAbs)
theorem xW(p:Int):jO 0 p=(0,0):=by simp[jO]
theorem ka{m:Int}(h:m%2=1)(v:Nat)(p:Int):jO (m*2^v) p=(m,p+v):=by
 have hm:m≠0:=by lia
 have hp:=two_pow_pos v;have h0:m*2^v≠0:=Zq hm (by lia)
 have e:(m*2^v).natAbs=2^v*m.natAbs:=by rw[XF,Yy,Nat.mul_comm];rfl
 unfold jO;rw[if_neg h0,e,v2_mul (by lia),Int.mul_ediv_cancel _ (by lia)]
theorem yH{w:Int}(h:w≠0):∃(m:Int) (v:Nat),w=m*2^v/\m%2=1:=by
 obtain⟨v,m,e,ho,_⟩:=JY h;exact⟨m,v,e,ho⟩
theorem Bare.eq{w p w' p':Int}(b:Bare w p w' p'):(w',p')=jO w p:=by
 by_cases h:w=0
 ·obtain⟨rfl,rfl⟩:=b.nought h;subst h;exact(xW p).symm
 ·obtain⟨v,e,ep,ho⟩:=b.same h;rw[e,ka ho,ep]
theorem qu(w p:Int):Bare w p (jO w p).1 (jO w p).2:=by
 by_cases h:w=0
 ·subst h;exact⟨fun _=>by simp[jO],fun z=>absurd rfl z⟩
 ·obtain⟨m,v,rfl,ho⟩:=yH h;rw[ka ho];exact⟨fun z=>absurd z h,fun _=>⟨v,rfl,rfl,ho⟩⟩
theorem bareF_two(w p:Int):jO (w*2) p=jO w (p+1):=by
 by_cases h:w=0
 ·subst h;simp[jO]
 ·obtain⟨m,v,rfl,ho⟩:=yH h
  have e:m*2^v*2=m*2^(v+1):=by rw[XR,Int.mul_assoc]
  rw[e,ka ho,ka ho];congr 1;lia
theorem bareF_neg(w p:Int):jO (-w) p=(-(jO w p).1,(jO w p).2):=by
 by_cases h:w=0
 ·subst h;simp[jO]
 ·obtain⟨m,v,rfl,ho⟩:=yH h
  have e:-(m*2^v)=-m*2^v:=by rw[Int.neg_mul]
  rw[e,ka ho,ka (by lia)]
noncomputable def nq(x:Int×Int):D:=.tup [.int x.1,.int x.2]
noncomputable def Sc(t p:Int):Int:=t*2^(-p).toNat
noncomputable def Vc(u p:Int):Int:=u*2^p.toNat
theorem Ke{u p:Int}(h:0<u):0<Vc u p:=Int.mul_pos h (two_pow_pos _)
theorem sc_step(t u p:Int):(Sc t (p+1)=Sc t p/\Vc u (p+1)=2*Vc u p)\/(Sc t p=2*Sc t (p+1)/\Vc u (p+1)=Vc u p):=by
 unfold Sc Vc;by_cases h:0<=p
 ·left
  have e1:(-(p+1)).toNat=(-p).toNat:=by lia
  have e2:(p+1).toNat=p.toNat+1:=by lia
  rw[e1,e2,XR];exact⟨rfl,by grind⟩
 ·right
  have e1:(-p).toNat=(-(p+1)).toNat+1:=by lia
  have e2:(p+1).toNat=p.toNat:=by lia
  rw[e1,e2,XR];exact⟨by grind,rfl⟩
structure Cut (n:Nat) (t u w p:Int):Prop where
 lo:2^(n-1)<=w
 hi:w<2^n
 le:w*Vc u p<=Sc t p
 lt:Sc t p<(w+1)*Vc u p
noncomputable def kv(n:Nat)(t u:Int):Int:=let p:=(bits t:Int)-bits u-n;if 2^n<=Sc t p / Vc u p then p+1 else p
noncomputable def cutW(n:Nat)(t u:Int):Int:=Sc t (kv n t u) / Vc u (kv n t u)
theorem yr{t:Int}(h:0<t):(2:Int)^(bits t-1)<=t/\t<2^bits t:=by
 have h1:=yJ t;have h2:=bits_pos_le (show t≠0 by lia)
 have c1:((2^bits t:Nat):Int)=2^bits t:=by simp
 have c2:((2^(bits t-1):Nat):Int)=2^(bits t-1):=by simp
 lia
theorem guess{n:Nat}{t u:Int}(hn:1<=n)(ht:0<t)(hu:0<u)(p:Int)(hp:p=(bits t:Int)-bits u-n):2^(n-1)*Vc u p<=Sc t p/\Sc t p<2^(n+1)*Vc u p:=by
 obtain⟨t1,t2⟩:=yr ht;obtain⟨u1,u2⟩:=yr hu;have bt:=uS (show t≠0 by lia);have bu:=uS (show u≠0 by lia);generalize ha:bits t=a at *;generalize hb:bits u=b at *;unfold Sc Vc;have k1:(0:Int)<=2^(-p).toNat:=ZC (two_pow_pos _);have k2:(0:Int)<=2^p.toNat:=ZC (two_pow_pos _);have kn:(0:Int)<=2^(n-1):=ZC (two_pow_pos _);have kn1:(0:Int)<=2^(n+1):=ZC (two_pow_pos _);constructor
 ·have s1:2^(n-1)*(u*2^p.toNat)<=2^(n-1)*(2^b*2^p.toNat):=YB (Xq (by lia) k2) kn;have s2:(2:Int)^(a-1)*2^(-p).toNat<=t*2^(-p).toNat:=Xq t1 k1
  have s3:(2:Int)^(n-1)*(2^b*2^p.toNat)=2^(a-1)*2^(-p).toNat:=by
   rw[<- XT,<- XT,<- XT];congr 1;lia
  lia
 ·have s1:2^(n+1)*(2^(b-1)*2^p.toNat)<=2^(n+1)*(u*2^p.toNat):=YB (Xq (by lia) k2) kn1;have s2:t*2^(-p).toNat<2^a*2^(-p).toNat:=Int.mul_lt_mul_of_pos_right t2 (two_pow_pos _)
  have s3:(2:Int)^(n+1)*(2^(b-1)*2^p.toNat)=2^a*2^(-p).toNat:=by
   rw[<- XT,<- XT,<- XT];congr 1;lia
  lia
theorem vw(s:Int){v:Int}(hv:0<v):s / v*v<=s/\s<(s / v+1)*v:=⟨Int.ediv_mul_le s (by lia),Int.lt_ediv_add_one_mul_self s hv⟩
theorem cut_spec{n:Nat}{t u:Int}(hn:1<=n)(ht:0<t)(hu:0<u):Cut n t u (cutW n t u) (kv n t u):=by
 have g:=guess hn ht hu _ rfl
 have e2:(2:Int)^n=2*2^(n-1):=by
  conv=>lhs;rw[show n=(n-1)+1 by lia,XR]
  lia
 have e3:(2:Int)^(n+1)=2*2^n:=by rw[XR];lia
 have kn:=two_pow_pos n;unfold cutW kv;simp only[];generalize hp:(bits t:Int)-bits u-n=p at *;have hv:=Ke (p:=p) hu;by_cases c:2^n<=Sc t p / Vc u p
 ·rw[if_pos c];have hv1:=Ke (p:=p+1) hu;have f:=vw (Sc t (p+1)) hv1;have c':=Int.mul_le_of_le_ediv hv c;rcases sc_step t u p with⟨s1,s2⟩|⟨s1,s2⟩
  ·refine⟨?_,?_,f.1,f.2⟩
   ·refine YS hv1 ?_;rw[s1,s2]
    have:(2:Int)^(n-1)*(2*Vc u p)=2^n*Vc u p:=by rw[e2];grind
    lia
   ·refine Int.ediv_lt_of_lt_mul hv1 ?_;rw[s1,s2]
    have:(2:Int)^n*(2*Vc u p)=2^(n+1)*Vc u p:=by rw[e3];grind
    lia
  ·refine⟨?_,?_,f.1,f.2⟩
   ·refine YS hv1 ?_;rw[s2]
    have:(2:Int)^n*Vc u p=2*(2^(n-1)*Vc u p):=by rw[e2];grind
    lia
   ·refine Int.ediv_lt_of_lt_mul hv1 ?_;rw[s2]
    have:(2:Int)^(n+1)*Vc u p=2*(2^n*Vc u p):=by rw[e3];grind
    lia
 ·rw[if_neg c];have f:=vw (Sc t p) hv;exact⟨YS hv g.1,by lia,f.1,f.2⟩
end Z
namespace Z
open PySem
noncomputable def zg:Sm :=
 (.seq (.whl (.cmp .eq (.bin .mod (.var 0) (.cst (.int 2))) (.cst (.int 0))) (.seq (.set 0 (.bin .fdiv (.var 0) (.cst (.int 2))))
  (.seq (.set 1 (.bin .add (.var 1) (.cst (.int 1))))
  .nop)))
 (.seq (.ret (.tup [(.var 0),(.var 1)]))
 .nop))
noncomputable def qx:Ctr where
 pre ds:=match ds with|[.int w,.int _]=>w≠0|_=>False
 res ds d:=match ds with|[.int w,.int p]=>d=nq (jO w p)|_=>False
theorem k_odd_form{C:Cfg}:jS C 2 zg qx:=by
 rintro ds h;simp only[qx]at h;split at h
 case h_2=>exact h.elim
 next w p =>
 simp_arith! only[zg,qx]
 refine jW (fun σ=>σ=[some (.sh (.int (jO w p).1)),some (.sh (.int (jO w p).2))]) ?_ ?_
 ·refine vB (fun σ=>∃w' p':Int,w'≠0/\jO w' p'=jO w p/\σ=[some (.sh (.int w')),some (.sh (.int p'))]) (fun σ=>(Jc σ 0).natAbs) ⟨w,p,h,rfl,rfl⟩ ?_;rintro σ ⟨w',p',h0,e,rfl⟩
  simp_all_arith! only[Jc]
  rw[jA (by decide),kg (by decide)];by_cases c:w'%2=0
  ·rw[if_pos c];refine⟨by decide,by lia,w' / 2,p'+1,by lia,?_,rfl⟩;rw[<- e,<- bareF_two];congr 1;lia
  ·rw[if_neg c]
   have:jO w' p'=(w',p'):=by simpa using ka (m:=w') (by lia) 0 p'
   rw[<- e,this]
 ·rintro σ rfl
  simp_all_arith! only[]
  rfl
noncomputable def cls(r v:Int):Int:=if r=0 then 0 else if 2*r=v then 2 else if 2*r<v then 1 else 3
noncomputable def cutR(n:Nat)(t u:Int):Int:=Sc t (kv n t u)-cutW n t u*Vc u (kv n t u)
noncomputable def nearW(n:Nat)(t u:Int):Int:=if 2*cutR n t u > Vc u (kv n t u)\/(2*cutR n t u=Vc u (kv n t u)/\cutW n t u%2=1) then cutW n t u+1 else cutW n t u
noncomputable def Jt(n:Nat)(t u:Int):Int×Int:=if t=0 then (0,0) else if t<0 then jO (-nearW n (-t) u) (kv n (-t) u) else jO (nearW n t u) (kv n t u)
noncomputable def qI(x:Int×Int):Int×Int:=(-x.1,x.2)
end Z
namespace Z
open PySem
abbrev tw(p:Int):Rat:=(2:Rat)^p
theorem two_ne:(2:Rat)≠0:=by decide
theorem zD(p:Int):tw (p+1)=2*tw p:=by rw[tw,Rat.zpow_add_one two_ne,Zb]
theorem tw_zero:tw 0=1:=by decide
theorem tw_nat(n:Nat):tw n=((2^n:Int):Rat):=by
 induction n with
 |zero=>decide
 |succ n ih=>rw[show ((n+1:Nat):Int)=(n:Int)+1 by lia,zD,ih,XR];grind
theorem kj(p:Int)(k:Nat):tw (p+k)=tw p*((2^k:Int):Rat):=by
 induction k with
 |zero=>simp
 |succ k ih=>rw[show p+((k+1:Nat):Int)=p+k+1 by lia,zD,ih,XR];grind
theorem um(a b:Rat):a<b\/b<=a:=by grind
theorem kf(p:Int):0<tw p:=by
 have pos:∀n:Nat,0<tw n:=fun n=>by rw[tw_nat];have:=two_pow_pos n;exact_mod_cast this
 rcases Int.le_total 0 p with h|h
 ·obtain⟨n,rfl⟩:∃n:Nat,p=n:=⟨p.toNat,by lia⟩
  exact pos n
 ·obtain⟨n,rfl⟩:∃n:Nat,p=-(n:Int):=⟨(-p).toNat,by lia⟩
  have e:=kj (-(n:Int)) n;rw[show -(n:Int)+n=0 by lia,tw_zero]at e
  have h2:(0:Rat)<((2^n:Int):Rat):=by have:=two_pow_pos n;exact_mod_cast this
  generalize ha:tw (-(n:Int))=a at *;generalize hb:((2^n:Int):Rat)=b at *;rcases um 0 a with z|z
  ·exact z
  ·have:=Rat.mul_nonneg (a:=-a) (b:=b) (by grind) (by grind)
   grind
theorem qH{a b c:Rat}(h:a<=b)(hc:0<c):a*c<=b*c:=by
 have:=Rat.mul_nonneg (a:=b-a) (b:=c) (by grind) (by grind)
 grind
theorem mul_lt{a b c:Rat}(h:a<b)(hc:0<c):a*c<b*c:=by
 have:=Rat.mul_pos (a:=b-a) (b:=c) (by grind) (by grind)
 grind
theorem vU{a b c:Rat}(hc:0<c):a*c<=b*c ↔ a<=b :=
 ⟨fun h=>by
  rcases um b a with y|y
  ·have:=mul_lt y hc;grind
  ·exact y,fun h=>qH h hc⟩
theorem yn{a b c:Rat}(hc:0<c):a*c<b*c ↔ a<b :=
 ⟨fun h=>by
  rcases um a b with z|z
  ·exact z
  ·have:=qH z hc;grind,fun h=>mul_lt h hc⟩
theorem eq_mul{a b c:Rat}(hc:0<c):a*c=b*c ↔ a=b :=
 ⟨fun h=>by
  have h1:=(vU (a:=a) (b:=b) hc).mp (by grind);have h2:=(vU (a:=b) (b:=a) hc).mp (by grind)
  grind,fun h=>by rw[h]⟩
noncomputable def vr(x:Int×Int):Rat:=(x.1:Rat)*tw x.2
theorem vr_mul(m:Int)(v:Nat)(p:Int):vr (m*2^v,p)=vr (m,p+v):=by
 unfold vr;simp only[];rw[kj,QR];grind
theorem q0(w p:Int):vr (jO w p)=w*tw p:=by
 by_cases h:w=0
 ·subst h;simp[jO,vr]
 ·obtain⟨m,v,rfl,ho⟩:=yH h;rw[ka ho,<- vr_mul];rfl
theorem yu(x:Int×Int):vr (qI x)=-vr x:=by
 unfold vr qI;simp only[YN];grind
structure CutR (n:Nat) (r:Rat) (w p:Int):Prop where
 lo:2^(n-1)<=w
 hi:w<2^n
 le:w*tw p<=r
 lt:r<(w+1)*tw p
theorem tw_toNat(p:Int):((2^(-p).toNat:Int):Rat)*tw p=((2^p.toNat:Int):Rat):=by
 rcases Int.le_total 0 p with h|h
 ·obtain⟨n,rfl⟩:∃n:Nat,p=n:=⟨p.toNat,by lia⟩
  rw[tw_nat,show (-(n:Int)).toNat=0 by lia,Qm];simp
 ·obtain⟨n,rfl⟩:∃n:Nat,p=-(n:Int):=⟨(-p).toNat,by lia⟩
  have e:=kj (-(n:Int)) n;rw[show -(n:Int)+n=0 by lia,tw_zero]at e;rw[show (- -(n:Int)).toNat=n by lia,show (-(n:Int)).toNat=0 by lia,Zb,<- e];simp
theorem Ku{t u:Int}(hu:0<u):Xl t u*u=t:=by
 have hu':(u:Rat)≠0:=by
  intro z
  have:u=0:=by exact_mod_cast z
  lia
 rw[Rat.divInt_eq_div,Rat.div_mul_cancel hu']
theorem sc_rat{t u:Int}(hu:0<u)(p:Int):(Sc t p:Rat)*tw p=Xl t u*(Vc u p:Int):=by
 have e:=Ku (t:=t) hu;unfold Sc Vc;rw[QR,QR,Rat.mul_assoc,tw_toNat,<- Rat.mul_assoc,e]
theorem cut_rat{n:Nat}{t u w p:Int}(hu:0<u):Cut n t u w p ↔ CutR n (Xl t u) w p:=by
 have hV:(0:Rat)<(Vc u p:Int):=by have:=Ke (p:=p) hu;exact_mod_cast this
 have ht:=kf p;have e:=sc_rat (t:=t) hu p
 have a1:w*Vc u p<=Sc t p ↔ w*tw p<=Xl t u:=by
  rw[<- vU hV,<- e,<- Rat.intCast_le_intCast,<- vU ht,QR]
  grind
 have a2:Sc t p<(w+1)*Vc u p ↔ Xl t u<(w+1)*tw p:=by
  rw[<- yn hV,<- e,<- YH,<- yn ht,QR,Rat.intCast_add]
  grind
 exact⟨fun c=>⟨c.lo,c.hi,a1.mp c.le,a2.mp c.lt⟩,fun c=>⟨c.lo,c.hi,a1.mpr c.le,a2.mpr c.lt⟩⟩
theorem Je{p q:Int}(h:p<=q):tw p<=tw q:=by
 obtain⟨k,rfl⟩:∃k:Nat,q=p+k:=⟨(q-p).toNat,by lia⟩
 have hp:=kf p
 have h1:(1:Rat)<=((2^k:Int):Rat):=by have:=two_pow_pos k;exact_mod_cast (show (1:Int)<=2^k by lia)
 have:=qH h1 hp;rw[kj];grind
theorem yx{a b:Int}(h:a<=b):(a:Rat)<=b:=by exact_mod_cast h
theorem pow_n{n:Nat}(hn:1<=n):(2:Int)^n=2*2^(n-1):=by
 conv=>lhs;rw[show n=(n-1)+1 by lia,XR]
 lia
theorem CutR.mono{n:Nat}{r s:Rat}{w p w' p':Int}(hn:1<=n)(c:CutR n r w p)(c':CutR n s w' p')(h:r<=s):p<p'\/(p=p'/\w<=w'):=by
 rcases ZI p p' with z|z|z
 ·exact .inl z
 ·subst z;refine .inr ⟨rfl,?_⟩;have hp:=kf p;have h1:=c.le;have h2:=c'.lt
  have:(w:Rat)*tw p<(w'+1)*tw p:=by grind
  rw[yn hp]at this
  have:w<w'+1:=by exact_mod_cast this
  lia
 ·exfalso;have h1:=c.le;have h2:=c'.lt;have hp:=kf p;have hp':=kf p';have l1:=qH (yx c.lo) hp;have l2:=qH (yx (show w'+1<=2^n by have:=c'.hi;lia)) hp';have l3:tw (p'+1)<=tw p:=Je (by lia);rw[zD]at l3
  have e:((2^n:Int):Rat)=2*((2^(n-1):Int):Rat):=by rw[pow_n hn];grind
  have hq:(0:Rat)<((2^(n-1):Int):Rat):=by have:=two_pow_pos (n-1);exact_mod_cast this
  have l4:=qH l3 hq
  have l5:((w'+1:Int):Rat)=(w':Rat)+1:=by grind
  rw[e,l5]at l2;generalize ((2^(n-1):Int):Rat)=m at *;generalize tw p=a at *;generalize tw p'=b at *
  grind
theorem CutR.unique{n:Nat}{r:Rat}{w p w' p':Int}(hn:1<=n)(c:CutR n r w p)(c':CutR n r w' p'):w=w'/\p=p':=by
 have h1:=c.mono hn c' Rat.le_refl;have h2:=c'.mono hn c Rat.le_refl;lia
structure NearR (n:Nat) (r:Rat) (W p:Int):Prop where
 ex:∃w,CutR n r w p/\((W=w/\(2*(r-w*tw p)<tw p\/(2*(r-w*tw p)=tw p/\w%2=0)))\/(W=w+1/\(tw p<2*(r-w*tw p)\/(2*(r-w*tw p)=tw p/\w%2=1))))
theorem NearR.unique{n:Nat}{r:Rat}{w p w' p':Int}(hn:1<=n)(c:NearR n r w p)(c':NearR n r w' p'):w=w'/\p=p':=by
 obtain⟨v,c,h⟩:=c.ex;obtain⟨v',c',h'⟩:=c'.ex;obtain⟨rfl,rfl⟩:=c.unique hn c';refine⟨?_,rfl⟩
 rcases h with⟨e,h⟩|⟨e,h⟩<;>rcases h' with⟨e',h'⟩|⟨e',h'⟩<;>grind
theorem NearR.bound{n:Nat}{r:Rat}{W p:Int}(c:NearR n r W p):2^(n-1)<=W/\W<=2^n:=by
 obtain⟨v,c,h⟩:=c.ex;have:=c.lo;have:=c.hi
 rcases h with⟨e,h⟩|⟨e,h⟩<;>lia
theorem NearR.mono{n:Nat}{r s:Rat}{W p W' p':Int}(hn:1<=n)(c:NearR n r W p)(c':NearR n s W' p')(h:r<=s):W*tw p<=W'*tw p':=by
 have b:=c.bound;have b':=c'.bound;obtain⟨v,c,k⟩:=c.ex;obtain⟨v',c',k'⟩:=c'.ex;have hp:=kf p;have hp':=kf p';rcases c.mono hn c' h with z|⟨rfl,z⟩
 ·have l1:=qH (yx b.2) hp;have l2:=qH (yx b'.1) hp';have l3:tw (p+1)<=tw p':=Je (by lia);rw[zD]at l3
  have e:((2^n:Int):Rat)=2*((2^(n-1):Int):Rat):=by rw[pow_n hn];grind
  have hq:(0:Rat)<((2^(n-1):Int):Rat):=by have:=two_pow_pos (n-1);exact_mod_cast this
  have l4:=qH l3 hq;rw[e]at l1;generalize ((2^(n-1):Int):Rat)=m at *;generalize tw p=a at *;generalize tw p'=b at *
  grind
 ·refine qH (yx ?_) hp;rcases Int.lt_or_eq_of_le z with z|z
  ·rcases k with⟨e,k⟩|⟨e,k⟩<;>rcases k' with⟨e',k'⟩|⟨e',k'⟩<;>lia
  ·subst z
   rcases k with⟨e,k⟩|⟨e,k⟩<;>rcases k' with⟨e',k'⟩|⟨e',k'⟩
   ·lia
   ·lia
   ·exfalso;grind
   ·lia
theorem near_rat{n:Nat}{t u:Int}(hn:1<=n)(ht:0<t)(hu:0<u):NearR n (Xl t u) (nearW n t u) (kv n t u):=by
 have c:=cut_spec hn ht hu;refine⟨cutW n t u,(cut_rat hu).mp c,?_⟩;have e:=sc_rat (t:=t) hu (kv n t u)
 have hV:(0:Rat)<(Vc u (kv n t u):Int):=by have:=Ke (p:=kv n t u) hu;exact_mod_cast this
 have hp:=kf (kv n t u);unfold nearW;generalize hw:cutW n t u=w at *;generalize hq:kv n t u=p at *
 have er:cutR n t u=Sc t p-w*Vc u p:=by unfold cutR;rw[hw,hq]
 rw[er]
 have k:(((2*(Sc t p-w*Vc u p):Int):Rat))*tw p=2*(Xl t u-w*tw p)*(Vc u p:Int):=by
  have:((2*(Sc t p-w*Vc u p):Int):Rat)=2*((Sc t p:Rat)-w*(Vc u p:Int)):=by grind
  rw[this];grind
 have a1:2*(Sc t p-w*Vc u p) > Vc u p ↔ tw p<2*(Xl t u-w*tw p):=by
  rw[<- yn hV,<- k,gt_iff_lt,<- YH,<- yn hp,Zb (tw p)]
 have a2:2*(Sc t p-w*Vc u p)=Vc u p ↔ 2*(Xl t u-w*tw p)=tw p:=by
  rw[<- eq_mul hV,<- k,<- Rat.intCast_inj,<- eq_mul hp,Zb (tw p)]
 have a3:2*(Sc t p-w*Vc u p)<Vc u p ↔ 2*(Xl t u-w*tw p)<tw p:=by
  rw[<- yn hV,<- k,<- YH,<- yn hp,Zb (tw p)]
 rw[<- a1,<- a2,<- a3]
 split<;>lia
noncomputable def jY(n:Nat)(r:Rat):Int×Int:=Jt n r.num r.den
theorem den_pos(r:Rat):(0:Int)<r.den:=by have:=r.den_nz;lia
theorem num_pos{r:Rat}:0<r.num ↔ 0<r:=by rw[Rat.lt_iff];simp
theorem vA(w p:Int):jO (-w) p=qI (jO w p):=by rw[bareF_neg];rfl
theorem Jh(x:Int×Int):qI (qI x)=x:=by unfold qI;simp
theorem nearF_neg(n:Nat)(t u:Int):Jt n (-t) u=qI (Jt n t u):=by
 unfold Jt;rcases ZI t 0 with h|h|h
 ·rw[if_neg (by lia),if_neg (by lia),if_neg (by lia),if_pos h,vA,Jh]
 ·subst h;simp[qI]
 ·rw[if_neg (by lia),if_pos (by lia),if_neg (by lia),if_neg (by lia),Int.neg_neg,vA]
theorem qR(n:Nat)(r:Rat):jY n (-r)=qI (jY n r):=by
 unfold jY;rw[Rat.neg_num,Rat.neg_den,nearF_neg]
theorem qZ(n:Nat):jY n 0=(0,0):=by unfold jY Jt;simp
theorem qS{n:Nat}{r:Rat}(hn:1<=n)(h:0<r):∃W p,NearR n r W p/\jY n r=jO W p:=by
 have h1:0<r.num:=num_pos.mpr h;refine⟨nearW n r.num r.den,kv n r.num r.den,?_,?_⟩
 ·have:=near_rat hn h1 (den_pos r);rw[<- rat_eq]at this;exact this
 ·unfold jY Jt;rw[if_neg (by lia),if_neg (by lia)]
theorem nearQ_is{n:Nat}{r:Rat}{W p:Int}(hn:1<=n)(h:0<r)(k:NearR n r W p):jY n r=jO W p:=by
 obtain⟨W',p',k',e⟩:=qS hn h;obtain⟨rfl,rfl⟩:=k.unique hn k';exact e
theorem ye{n:Nat}{r s:Rat}(hn:1<=n)(h0:0<r)(h:r<=s):vr (jY n r)<=vr (jY n s):=by
 obtain⟨W,p,k,e⟩:=qS hn h0;obtain⟨W',p',k',e'⟩:=qS (r:=s) hn (by grind);rw[e,e',q0,q0];exact k.mono hn k' h
theorem uy{n:Nat}{r:Rat}(hn:1<=n)(h:0<r):0<vr (jY n r):=by
 obtain⟨W,p,k,e⟩:=qS hn h;have b:=k.bound;have:=two_pow_pos (n-1);rw[e,q0];exact Rat.mul_pos (by exact_mod_cast (show 0<W by lia)) (kf p)
theorem nearQ_mono{n:Nat}{r s:Rat}(hn:1<=n)(h:r<=s):vr (jY n r)<=vr (jY n s):=by
 rcases um 0 r with z|z
 ·exact ye hn z h
 ·rcases um s 0 with y|y
  ·have:=ye (n:=n) (r:=-s) (s:=-r) hn (by grind) (by grind);rw[qR,qR,yu,yu]at this
   grind
  ·have h1:vr (jY n r)<=0:=by
    by_cases e:r=0
    ·subst e;rw[qZ];simp[vr]
    ·have:=uy (n:=n) (r:=-r) hn (by grind);rw[qR,yu]at this
     grind
   have h2:0<=vr (jY n s):=by
    by_cases e:s=0
    ·subst e;rw[qZ];simp[vr]
    ·have:=uy (n:=n) (r:=s) hn (by grind)
     grind
   grind
theorem z7{n:Nat}{x:Int×Int}(hn:1<=n)(h:Num n x.1 x.2):jY n (vr x)=x:=by
 have pos:∀m p:Int,0<m->m%2=1->m.natAbs<2^n->jY n (vr (m,p))=(m,p):=by
  intro m p hm ho hs;obtain⟨m1,m2⟩:=yr hm;have bm:=uS (show m≠0 by lia);have bn:bits m<=n:=jk.mpr hs
  obtain⟨k,hk⟩:∃k:Nat,bits m+k=n:=⟨n-bits m,by lia⟩
  have hkp:=two_pow_pos k
  have e:vr (m,p)=((m*2^k:Int):Rat)*tw (p-k):=by
   have h1:=kj (p-k) k;rw[show p-(k:Int)+k=p by lia]at h1;unfold vr;simp only[];rw[h1,QR];grind
  have tp:=kf (p-k)
  have c:NearR n (vr (m,p)) (m*2^k) (p-k):=by
   refine⟨m*2^k,⟨?_,?_,?_,?_⟩,.inl ⟨rfl,.inl ?_⟩⟩
   ·rw[show n-1=(bits m-1)+k by lia,XT];exact Xq m1 (by lia)
   ·rw[<- hk,XT];exact Int.mul_lt_mul_of_pos_right m2 hkp
   ·rw[e];exact Rat.le_refl
   ·rw[e];grind
   ·rw[e];grind
  have hv:0<vr (m,p):=Rat.mul_pos (by exact_mod_cast hm) (kf p);rw[nearQ_is hn hv c,ka ho];simp only[ZU,true_and];lia
 obtain⟨m,p⟩:=x;obtain⟨ho,hs⟩:=h;simp only[]at ho hs;rcases ho with ho|⟨rfl,rfl⟩
 ·rcases ZI m 0 with z|z|z
  ·have:=pos (-m) p (by lia) (by lia) (by lia);have e:vr (-m,p)=-vr (m,p):=yu (m,p);rw[e,qR]at this;rw[<- Jh (jY n (vr (m,p))),this];simp[qI]
  ·lia
  ·exact pos m p z ho hs
 ·have:vr (0,0)=0:=by simp[vr]
  rw[this,qZ]
theorem bareF_num{n:Nat}{W p:Int}(h1:0<=W)(h2:W<=2^n)(hn:1<=n):Num n (jO W p).1 (jO W p).2:=by
 by_cases h0:W=0
 ·subst h0;rw[xW];exact⟨.inr ⟨rfl,rfl⟩,Xj n⟩
 ·rcases Int.lt_or_eq_of_le h2 with z|z
  ·have hw:W.natAbs<2^n:=by
    have:((2^n:Nat):Int)=2^n:=by simp
    lia
   exact(qu W p).num hw
  ·have e:W=1*2^n:=by lia
   rw[e,ka (by decide)];exact⟨.inl (by show (1:Int)%2=1;decide),by have:=Nat.pow_lt_pow_right (a:=2) (by decide) (show 0<n by lia);simpa using this⟩
structure OkN (n:Nat) (M:Int) (x:Int×Int):Prop where
 num:Num n x.1 x.2
 lo:-M<=x.2
 hi:x.2<=M
theorem OkN.neg{n:Nat}{M:Int}{x:Int×Int}(h:OkN n M x):OkN n M (qI x):=by
 obtain⟨⟨ho,hs⟩,h1,h2⟩:=h;exact⟨⟨by unfold qI;simp only[];lia,by unfold qI;simp only[];lia⟩,h1,h2⟩
theorem gcd_odd{w:Int}{n:Nat}(h:w%2=1):Xb w (2^n)=1:=by
 have:Nat.Coprime w.natAbs (2^n):=Nat.Coprime.pow_right n (by
  have:w.natAbs%2=1:=by lia
  unfold Nat.Coprime
  rw[Uh,Nat.gcd_rec,this];rfl)
 show Nat.gcd w.natAbs (2^n:Int).natAbs=1;rw[Yy];exact this
theorem rq_of{a b:Int}(hb:0<b)(hg:Xb a b=1):.tup [.int a,.int b]=rq (Xl a b):=by
 unfold rq;rw[Rat.num_divInt,Rat.den_divInt,if_neg (by lia),Int.sign_eq_one_of_pos hb,Z0,Int.gcd_comm,hg];simp;lia
theorem value_rq{n:Nat}{x:Int×Int}(h:Num n x.1 x.2):.tup [.int (if x.2<0 then x.1 else x.1*2^x.2.toNat),.int (if x.2<0 then 2^(-x.2).toNat else 1)]=rq (vr x):=by
 obtain⟨w,p⟩:=x;simp only[]at h ⊢;by_cases hp:p<0
 ·simp only[hp,if_true]
  have ho:w%2=1:=by rcases h.odd with z|z<;>lia
  rw[rq_of (two_pow_pos _) (gcd_odd ho)];congr 1;have hq:=two_pow_pos (-p).toNat
  have hQ:(0:Rat)<((2^(-p).toNat:Int):Rat):=by exact_mod_cast hq
  refine(eq_mul hQ).mp ?_;rw[Ku hq];have e:=tw_toNat p;rw[show p.toNat=0 by lia]at e;unfold vr;simp only[];rw[Rat.mul_assoc,Zb (tw p),e];simp
 ·simp only[hp,if_false];rw[rq_of (by decide) (by simp)];congr 1
  obtain⟨k,rfl⟩:∃k:Nat,p=k:=⟨p.toNat,by lia⟩
  unfold vr;simp only[];rw[tw_nat,Qm,<- QR];have h:=Ku (t:=w*2^k) (u:=1) (by decide);rw[<- h];have e1:((1:Int):Rat)=1:=rfl;rw[e1,Rat.mul_one]
theorem dep_nq(x:Int×Int):kD (nq x)=1:=by simp[nq,Kc,vm,uX,JR]
theorem wp_ratio{t u:Int}{Q:D->Prop}{E:XD->Prop}(h:u≠0)(hb:bits u<=9000):xl.wp [.int t,.int u] Q E ↔ Q (rq (Xl t u)):=by
 unfold Ctr.wp xl;simp only[];exact⟨fun w=>w.2.1 _ rfl,fun q=>⟨⟨h,hb⟩,fun d e=>by rw[e];exact q,fun x z=>z.elim⟩⟩
end Z
namespace Z
open PySem
theorem tw_add(p q:Int):tw (p+q)=tw p*tw q:=by unfold tw;exact Rat.zpow_add two_ne ..
noncomputable def OddP(x:Int×Int):Prop:=x.1%2=1\/(x.1=0/\x.2=0)
theorem OddP.num{x:Int×Int}(h:OddP x):∃n,1<=n/\∀m,n<=m->Num m x.1 x.2:=by
 refine⟨bits x.1+1,by lia,fun m hm=>⟨h,?_⟩⟩;exact jk.mp (by lia)
theorem odd_unique{x y:Int×Int}(hx:OddP x)(hy:OddP y)(e:vr x=vr y):x=y:=by
 obtain⟨n,n1,h1⟩:=hx.num;obtain⟨m,m1,h2⟩:=hy.num;have f1:=z7 (n:=n+m) (by lia) (h1 _ (by lia));have f2:=z7 (n:=n+m) (by lia) (h2 _ (by lia));rw[<- f1,<- f2,e]
theorem uo(w p:Int):OddP (jO w p):=by
 have b:=qu w p;by_cases h:w=0
 ·exact .inr (b.nought h)
 ·obtain⟨v,_,_,ho⟩:=b.same h;exact .inl ho
noncomputable def dq(v:Rat):Int×Int:=jO v.num (-(v2 v.den:Int))
theorem dq_of{x:Int×Int}(h:OddP x):dq (vr x)=x:=by
 obtain⟨n,_,hn⟩:=h.num;have e:=value_rq (hn n (K6 _));unfold rq at e;simp only[D.tup.injEq,Qj,D.int.injEq,and_true]at e;obtain⟨e1,e2⟩:=e;obtain⟨w,p⟩:=x;simp only[]at e1 e2;unfold dq;rw[<- e1];by_cases hp:p<0
 ·rw[if_pos hp]at e2 ⊢
  have ho:w%2=1:=by
   rcases h with h|h
   ·exact h
   ·simp only[]at h;lia
  have e3:(vr (w,p)).den=2^(-p).toNat*1:=by
   have:(((vr (w,p)).den:Nat):Int)=((2^(-p).toNat:Nat):Int):=by rw[<- e2];simp
   lia
  rw[e3,v2_mul (by decide)];have:=ka ho 0 (-(((-p).toNat:Nat):Int));rw[Int.pow_zero,Int.mul_one]at this;rw[this];simp only[ZU,true_and];lia
 ·rw[if_neg hp]at e2 ⊢
  have e3:(vr (w,p)).den=1:=by lia
  rw[e3,v2_odd (by decide)];rcases h with h|h
  ·simp only[]at h;rw[ka h];simp only[ZU,true_and];lia
  ·simp only[]at h;rw[h.1,h.2];simp[jO]
theorem zM(w p:Int):jO w p=dq (w*tw p):=by
 rw[<- q0,dq_of (uo w p)]
theorem near_num{n:Nat}{r:Rat}(hn:1<=n):Num n (jY n r).1 (jY n r).2:=by
 have pos:∀r:Rat,0<r->Num n (jY n r).1 (jY n r).2:=fun r h=>by
  obtain⟨W,p,k,e⟩:=qS hn h;rw[e];have:=two_pow_pos (n-1);exact bareF_num (by have:=k.bound;lia) k.bound.2 hn
 rcases um 0 r with y|y
 ·exact pos r y
 ·by_cases h0:r=0
  ·subst h0;rw[qZ];exact⟨.inr ⟨rfl,rfl⟩,Xj n⟩
  ·have:=pos (-r) (by grind);rw[qR]at this;obtain⟨ho,hs⟩:=this;unfold qI at ho hs;simp only[]at ho hs;exact⟨by lia,by lia⟩
theorem rabs_le{a b:Rat}(h1:-b<=a)(h2:a<=b):a.abs<=b:=by
 unfold Rat.abs;split<;>grind
theorem rabs_neg(a:Rat):(-a).abs=a.abs:=by unfold Rat.abs;split<;>split<;>grind
theorem zi{a:Rat}(h:0<=a):a.abs=a:=by unfold Rat.abs;rw[if_pos h]
theorem NearR.half{n:Nat}{r:Rat}{W p:Int}(c:NearR n r W p):2*(r-W*tw p).abs<=tw p:=by
 obtain⟨w,c,h⟩:=c.ex;have h1:=c.le;have h2:=c.lt;have tp:=kf p;rcases h with⟨e,h⟩|⟨e,h⟩
 ·subst e;rw[zi (by grind)]
  grind
 ·subst e
  have e1:((w+1:Int):Rat)=w+1:=by grind
  rw[<- rabs_neg,zi (by rw[e1];grind),e1]
  grind
theorem xU{k:Int}{m:Int}{d:Nat}:((k*2^d:Int):Rat)*tw m=k*tw (m+d):=by
 rw[kj,QR];grind
theorem tw_cmp{a b:Int}{m:Int}:(a:Rat)*tw m<b*tw m ↔ a<b:=by rw[yn (kf m)];exact YH
theorem kA{a b:Int}{m:Int}:(a:Rat)*tw m<=b*tw m ↔ a<=b:=by rw[vU (kf m)];exact Rat.intCast_le_intCast
theorem uB(j m:Int):((j:Rat)*tw m).abs=((j.natAbs:Int):Rat)*tw m:=by
 have tp:=kf m;rcases Int.le_total 0 j with h|h
 ·have e:(j.natAbs:Int)=j:=by lia
  have:(0:Rat)<=j:=by exact_mod_cast h
  rw[zi,e];have:=qH this tp
  grind
 ·have e:(j.natAbs:Int)=-j:=by lia
  have:(j:Rat)<=0:=by exact_mod_cast h
  have:=qH this tp;rw[<- rabs_neg,zi (by grind),e,YN];grind
theorem rest_of{n N:Nat}{k m:Int}(hn:1<=n)(hk:k.natAbs<2^N):∃j:Int,(k:Rat)*tw m-vr (jY n (k*tw m))=j*tw m/\2*j.natAbs*2^n<=2^N:=by
 have pos:∀k:Int,0<k->k.natAbs<2^N->∃j:Int,(k:Rat)*tw m-vr (jY n (k*tw m))=j*tw m/\2*j.natAbs*2^n<=2^N:=by
  intro k h0 hk;have tm:=kf m;have hv:(0:Rat)<k*tw m:=Rat.mul_pos (by exact_mod_cast h0) tm;obtain⟨W,p,kk,e⟩:=qS hn hv;have hh:=kk.half;have bd:=kk.bound;obtain⟨w,c,alt⟩:=kk.ex;have c1:=c.le;have c2:=c.lt;rw[e,q0];rcases Int.le_total p m with hp|hp
  ·obtain⟨d,rfl⟩:∃d:Nat,m=p+d:=⟨(m-p).toNat,by lia⟩
   rw[<- xU]at *;have l1:=kA.mp c1
   have e3:((w:Rat)+1)=((w+1:Int):Rat):=by grind
   rw[e3]at c2;have l2:=tw_cmp.mp c2
   have ew:k*2^d=w:=by lia
   rw[ew]at alt ⊢;have tp:=kf p;refine⟨0,?_,by simp⟩;rcases alt with⟨rfl,alt⟩|⟨rfl,alt⟩
   ·have:((0:Int):Rat)=0:=rfl;rw[this];grind
   ·exfalso
    rcases alt with z|⟨z,_⟩<;>grind
  ·obtain⟨d,rfl⟩:∃d:Nat,p=m+d:=⟨(p-m).toNat,by lia⟩
   have e1:(W:Rat)*tw (m+d)=((W*2^d:Int):Rat)*tw m:=xU.symm
   have e2:(k:Rat)*tw m-W*tw (m+d)=((k-W*2^d:Int):Rat)*tw m:=by rw[e1,Rat.intCast_sub];grind
   refine⟨k-W*2^d,e2,?_⟩;rw[e2,uB]at hh
   have e4:tw (m+d)=((2^d:Int):Rat)*tw m:=by rw[kj];grind
   rw[e4]at hh
   have e5:2*((((k-W*2^d).natAbs:Int):Rat)*tw m)=((2*((k-W*2^d).natAbs:Int):Int):Rat)*tw m:=by rw[QR];grind
   rw[e5]at hh;have l1:=kA.mp hh;have e6:(w:Rat)*tw (m+d)=((w*2^d:Int):Rat)*tw m:=xU.symm;rw[e6]at c1;have l2:=kA.mp c1;have l3:=c.lo;have k1:(2:Int)^(n-1)*2^d<=w*2^d:=Xq l3 (ZC (two_pow_pos d))
   have k2:(2:Int)^(n-1+d)<2^N:=by
    rw[XT]
    have:((k.natAbs:Nat):Int)<((2^N:Nat):Int):=by exact_mod_cast hk
    have e7:((2^N:Nat):Int)=2^N:=by simp
    lia
   have k3:n-1+d<N:=by
    have:(2:Nat)^(n-1+d)<2^N:=by exact_mod_cast k2
    exact(Nat.pow_lt_pow_iff_right (by decide)).mp this
   have k4:2*(k-W*2^d).natAbs<=2^d:=by
    have e7:((2^d:Nat):Int)=2^d:=by simp
    lia
   calc 2*(k-W*2^d).natAbs*2^n<=2^d*2^n:=YX _ k4
    _=2^(d+n):=(Nat.pow_add ..).symm
    _<=2^N:=XA (by decide) (by lia)
 rcases ZI k 0 with h|h|h
 ·obtain⟨j,e,hj⟩:=pos (-k) (by lia) (by lia);refine⟨-j,?_,by rw[Int.natAbs_neg];exact hj⟩
  have e1:((-k:Int):Rat)*tw m=-(k*tw m):=by rw[YN];grind
  rw[e1,qR,yu]at e;rw[YN];grind
 ·subst h;refine⟨0,?_,by simp⟩
  have e0:((0:Int):Rat)*tw m=0:=by grind
  rw[e0,qZ]
  have:vr (0,0)=0:=by simp[vr]
  rw[this];grind
 ·exact pos k h hk
end Z
namespace Z
open PySem
end Z
set_option exponentiation.threshold 3000
namespace Z
open PySem
noncomputable def yT(i_odd_form:Nat):Sm :=
 (.seq (.ite (.cmp .eq (.ix (.var 0) (.cst (.int 0))) (.cst (.int 0))) (.seq (.ret (.tup [(.cst (.int 0)),(.cst (.int 0))]))
  .nop) .nop)
 (.seq (.ret (.call i_odd_form [(.ix (.var 0) (.cst (.int 0))),(.ix (.var 0) (.cst (.int 1)))]))
 .nop))
theorem vg{x y:Int×Int}(h:nq x=nq y):x=y:=by
 obtain⟨a,b⟩:=x;obtain⟨c,d⟩:=y;simp only[nq,D.tup.injEq,Qj,D.int.injEq,and_true]at h;rw[h.1,h.2]
theorem yz(x:Int×Int){Q:D->Prop}:ixD (nq x) (.int 0) Q=Q (.int x.1):=by
 unfold nq;rw[ix_tup];simp[atD_0]
theorem xS(x:Int×Int){Q:D->Prop}:ixD (nq x) (.int 1) Q=Q (.int x.2):=by
 unfold nq;rw[ix_tup];simp[atD_1]
theorem mk_nq(a b:Int):D.tup [.int a,.int b]=nq (a,b):=rfl
noncomputable def cP0(ok:Int×Int->Prop)(f:Int×Int->D):Ctr where
 pre ds:=∃x,ds=[nq x]/\ok x
 res ds d:=∀x,ds=[nq x]->d=f x
section
variable {x y:Int×Int} {n:Int} {d:D} {Q:D->Prop} {E:XD->Prop}
theorem res_P0{ok f}:(cP0 ok f).res [nq x] d ↔ d=f x:=by
 refine⟨fun h=>h x rfl,fun h x' e=>?_⟩;simp only[Qj,and_true]at e;cases vg e;exact h
theorem wp_P0{ok f}:(cP0 ok f).wp [nq x] Q E ↔ ok x/\Q (f x):=by
 unfold Ctr.wp;simp only[res_P0,forall_eq];refine⟨fun⟨⟨x',e,h⟩,q,_⟩=>⟨?_,q⟩,fun⟨h,q⟩=>⟨⟨x,rfl,h⟩,q,fun _ z=>z.elim⟩⟩;simp only[Qj,and_true]at e;cases vg e;exact h
end
noncomputable def wOk(n:Int):Prop:=8<=n/\n<=64
noncomputable def farOk(x:Int×Int):Prop:=(-100000<=x.2/\x.2<=100000)/\bits x.1<=100000
noncomputable def q5:Ctr:=cP0 (fun _=>True) fun x=>nq (dq (vr x))
theorem k_one_form{C:Cfg}{i:Nat}(h1:C.ct i=qx):jS C 1 (yT i) q5:=by
 rintro ds ⟨x,rfl,_⟩
 simp_all_arith! only[yT,yz,xS,h1,qx,q5,res_P0]
 have e:dq (vr x)=jO x.1 x.2:=(zM x.1 x.2).symm;rw[e];by_cases h:x.1=0
 ·rw[if_pos h,h,xW];rfl
 ·rw[if_neg h];exact⟨h,rfl⟩
noncomputable def mulOkP(x y:Int×Int)(n:Int):Prop:=wOk n/\((-20000<=x.2/\x.2<=20000)/\(-20000<=y.2/\y.2<=20000))/\bits x.1<=2200/\bits y.1<=2200
theorem mulOkP.bits{x y:Int×Int}{n:Int}(h:mulOkP x y n):bits (x.1*y.1)<=4400:=by
 have:=k9 x.1 y.1;have:=h.2.2;lia
end Z
set_option exponentiation.threshold 3000
namespace Z
open PySem
theorem jJ{α:Type}{f:D->(D->Prop)->Prop}{g h:α->D}:∀ {l:List α} {Q:List D->Prop},(∀a∈l,∀Q,f (g a) Q ↔ Q (h a))->(kI f (l.map g) Q ↔ Q (l.map h))
 |[],Q,_=>by simp[kI]
 |a::l,Q,k=>by
  rw[K1,kI,k a (K0 ..),jJ fun b hb=>k b (KR _ hb)];rfl
theorem pick_le(a b:Int):yj false a b<=a/\yj false a b<=b/\(yj false a b=a\/yj false a b=b):=by
 unfold yj;simp only[Qk,if_false];split<;>lia
theorem fold_le:∀(ns:List Int) (m:Int),ns.foldl (yj false) m<=m/\(∀x∈ns,ns.foldl (yj false) m<=x)/\(ns.foldl (yj false) m=m\/ns.foldl (yj false) m∈ns)
 |[],m=>by simp
 |n::ns,m=>by
  have p:=pick_le m n;obtain⟨h1,h2,h3⟩:=fold_le ns (yj false m n);rw[YL];refine⟨by lia,fun x hx=>?_,?_⟩
  ·rcases KS.mp hx with rfl|hx
   ·lia
   ·exact h2 x hx
  ·rcases h3 with z|z
   ·rcases p.2.2 with q|q
    ·left;lia
    ·right;rw[z,q];exact K0 ..
   ·right;exact KR _ z
theorem uR{d:Int}{ns:List Int}:(∀x∈ns,mmF false d ns<=x)/\(mmF false d ns∈ns\/(ns=[]/\mmF false d ns=d)):=by
 cases ns with
 |nil=>exact⟨fun x hx=>absurd hx (by simp),Or.inr ⟨rfl,rfl⟩⟩
 |cons n ns =>
  obtain⟨h1,h2,h3⟩:=fold_le ns n;refine⟨fun x hx=>?_,Or.inl ?_⟩
  ·rcases KS.mp hx with rfl|hx
   ·exact h1
   ·exact h2 x hx
  ·rcases h3 with z|z
   ·show ns.foldl (yj false) n∈_;rw[z];exact K0 ..
   ·exact KR _ z
theorem uQ{xs ys:List (Int×Int)}(h:[D.lst (xs.map nq)]=[D.lst (ys.map nq)]):xs=ys:=by
 simp only[Qj,D.lst.injEq,and_true]at h;exact kB (fun a b h=>vg h) h
end Z
set_option exponentiation.threshold 3000
namespace Z
open PySem
theorem guard{C:Cfg}{c:Ex}{a b:Sm}{K:DE}{σ:Sto}(hc:wpE C c σ fun d=>d=.bl false)(h:wpS C b K σ):wpS C (.seq (.ite c a .nop) b) K σ:=by
 rw[jI,kF];refine ja c (fun d e=>?_) hc;subst e;rw[isB_bl,if_neg (by decide),qK];exact h
section
variable {Q:D->Prop} {E:XD->Prop}
theorem Kg{w p:Int}(h:bits w<=9000):q9.wp [.int w,.int p] Q E ↔ Q (nq (dq (w*tw p))):=by
 unfold Ctr.wp q9;simp only[];constructor
 ·intro ⟨_,q,_⟩;rw[<- zM];exact q _ ⟨_,_,rfl,qu w p⟩
 ·intro q;refine⟨h,?_,fun _ z=>z.elim⟩;rintro d ⟨w',p',rfl,hb⟩;rw[mk_nq,hb.eq,zM];exact q
end
theorem bits_shl{w:Int}{k:Nat}:bits (w*2^k)<=bits w+k:=by
 by_cases h:w=0
 ·subst h
  have:bits 0=0:=by decide
  rw[Int.zero_mul];lia
 ·rw[jk,XF,Yy,Nat.pow_add];exact Nat.mul_lt_mul_of_pos_right (jk.mp (K6 _)) (Xj k)
theorem OkN.bits{n:Nat}{M:Int}{x:Int×Int}(h:OkN n M x):bits x.1<=n:=jk.mpr h.num.sz
theorem eqD_refl:∀d:D,eqD d d=true:=by
 intro d;refine D.rec (motive_1:=fun d=>eqD d d=true) (motive_2:=fun ds=>qO ds ds=true) ?_ ?_ ?_ ?_ ?_ ?_ ?_ ?_ d
 ·simp[eqD]
 ·intro b;simp[eqD]
 ·intro i;simp[eqD]
 ·intro x;simp[eqD]
 ·intro xs h;simpa[eqD]using h
 ·intro xs h;simpa[eqD]using h
 ·simp[qO]
 ·intro h t a b;simp[qO,a,b]
theorem OkN.far{n:Nat}{M:Int}{x:Int×Int}(h:OkN n M x)(hn:n<=64)(hM:M<=100000):farOk x:=by
 have:=h.bits;have:=h.lo;have:=h.hi;exact⟨⟨by lia,by lia⟩,by lia⟩
theorem rest_pow{z:Int×Int}{j m:Int}(hz:OddP z)(e:vr z=j*tw m):m<=z.2\/z=(0,0):=by
 have h:z=jO j m:=odd_unique hz (uo _ _) (by rw[q0,e]);rw[h];have b:=qu j m;by_cases h0:j=0
 ·right;subst h0;exact xW m
 ·obtain⟨v,_,ep,_⟩:=b.same h0;left;lia
section
variable {Q:D->Prop} {E:XD->Prop}
theorem wp_width{ns:List Int}{k:Int}(hl:ns.length<=63)(hk:0<=k):zn.wp [.lst (ns.map .int),.int k] Q E ↔ ∀n:Nat,8<=n->n<=64->Q (.int n):=by
 unfold Ctr.wp zn;constructor
 ·intro w n h1 h2;exact w.2.1 _ ⟨n,rfl,by lia,by lia⟩
 ·intro q;refine⟨⟨ns,k,rfl,hl,hk⟩,?_,fun _ z=>z.elim⟩;rintro d ⟨i,rfl,h1,h2⟩
  obtain⟨n,rfl⟩:∃m:Nat,i=m:=⟨i.toNat,by lia⟩
  exact q n (by lia) (by lia)
theorem Kx{ns:List Int}{k:Int}(hl:ns.length<=63)(hk:0<=k):xV.wp [.lst (ns.map .int),.int k] Q E ↔ ∀c:Int,Q (.int c):=by
 unfold Ctr.wp xV;constructor
 ·intro w c;exact w.2.1 _ ⟨c,rfl⟩
 ·intro q;refine⟨⟨ns,k,rfl,hl,hk⟩,?_,fun _ z=>z.elim⟩;rintro d ⟨c,rfl⟩;exact q c
theorem zL{c k:Int}:kE.wp [.int c,.int k] Q E ↔ ∀m:Int,0<=m->m<340282366920938463463374607431768211297->Q (.int m):=by
 unfold Ctr.wp kE;simp only[];constructor
 ·intro w m h1 h2;exact w.2.1 _ ⟨m,rfl,h1,h2⟩
 ·intro q;refine⟨trivial,?_,fun _ z=>z.elim⟩;rintro d ⟨m,rfl,h1,h2⟩;exact q m h1 h2
theorem wp_number{c k far:Int}{n:Nat}(h1:8<=n)(h2:n<=64)(f1:1<=far)(f2:far<=5000):qV.wp [.int c,.int k,.int n,.int far] Q E ↔ ∀x:Int×Int,OkN n (far+63) x->-far<=x.2->Q (nq x):=by
 unfold Ctr.wp qV;simp only[Qm];constructor
 ·intro w x hx hf;exact w.2.1 _ ⟨x.1,x.2,rfl,hx.num,hf,by have:=hx.hi;lia⟩
 ·intro q;refine⟨⟨by lia,f1,f2⟩,?_,fun _ z=>z.elim⟩;rintro d ⟨x,p,rfl,hx,p1,p2⟩;exact q (x,p) ⟨hx,by simp only[];lia,by simp only[];lia⟩ p1
end
end Z
set_option exponentiation.threshold 3000
namespace Z
open PySem
end Z
set_option exponentiation.threshold 3000
namespace Z
open PySem
noncomputable def Rep(n:Nat)(v:Rat):Prop:=∃z:Int×Int,Num n z.1 z.2/\vr z=v
noncomputable def rn(n:Nat)(v:Rat):Rat:=vr (jY n v)
section
variable {n:Nat} {u v x y:Rat}
theorem Rep.neg(h:Rep n v):Rep n (-v):=by
 obtain⟨z,⟨ho,hs⟩,e⟩:=h;exact⟨qI z,⟨by unfold qI;simp only[];lia,by unfold qI;simp only[];lia⟩,by rw[yu,e]⟩
theorem rn_fix(hn:1<=n)(h:Rep n v):rn n v=v:=by
 obtain⟨z,hz,e⟩:=h;unfold rn;rw[<- e,z7 hn hz]
theorem rn_mono(hn:1<=n)(h:u<=v):rn n u<=rn n v:=nearQ_mono hn h
theorem rn_le(hn:1<=n)(h:u<=v)(r:Rep n v):rn n u<=v:=by have:=rn_mono hn h;rwa [rn_fix hn r]at this
theorem le_rn(hn:1<=n)(h:u<=v)(r:Rep n u):u<=rn n v:=by have:=rn_mono hn h;rwa [rn_fix hn r]at this
end
theorem tw_lt{p q:Int}(h:tw p<=tw q):p<=q:=by
 rcases Ul q p with z|z
 ·have:=Je (show q+1<=p by lia);rw[zD]at this;have:=kf q;exfalso;grind
 ·exact z
theorem rep_tw{n:Nat}(hn:1<=n)(p:Int):Rep n (tw p):=⟨(1,p),⟨.inl (show (1:Int)%2=1 by decide),by
 have:2^1<=2^n:=XA (by decide) hn
 simp only[];lia⟩,by unfold vr;simp⟩
structure Box (n:Nat) (M H:Int) (x:Int×Int):Prop where
 ok:OkN n M x
 lo:-tw H<=vr x
 hi:vr x<=tw H
theorem Box.neg{n:Nat}{M H:Int}{x:Int×Int}(h:Box n M H x):Box n M H (qI x):=⟨h.ok.neg,by rw[yu];have:=h.hi;grind,by rw[yu];have:=h.lo;grind⟩
theorem okn_box{n:Nat}{M H:Int}{x:Int×Int}(h:OkN n M x)(hH:M+n<=H):Box n M H x:=by
 have hs:=h.num.sz;have hp:=h.hi;have tp:=kf x.2
 have e:tw (x.2+n)=((2^n:Int):Rat)*tw x.2:=by rw[kj];grind
 have l1:=Je (show x.2+n<=H by lia)
 have pn:((2^n:Nat):Int)=2^n:=by simp
 have l2:(x.1:Rat)*tw x.2<=((2^n:Int):Rat)*tw x.2:=kA.mpr (by lia);have l3:((-2^n:Int):Rat)*tw x.2<=(x.1:Rat)*tw x.2:=kA.mpr (by lia)
 have e2:((-2^n:Int):Rat)*tw x.2=-(((2^n:Int):Rat)*tw x.2):=by rw[YN];grind
 exact⟨h,by unfold vr;grind,by unfold vr;grind⟩
end Z
set_option exponentiation.threshold 3000
namespace Z
open PySem
noncomputable def xx(i_law_number i_law_drawn i_law_bare:Nat):Sm :=
 (.seq (.set 3 (.ix (.call i_law_number [(.var 0),(.var 1),(.var 2),(.cst (.int 9))]) (.cst (.int 0))))
 (.seq (.set 4 (.bin .sub (.bin .mod (.call i_law_drawn [(.var 0),(.bin .add (.var 1) (.cst (.int 977)))]) (.cst (.int 120))) (.cst (.int 60))))
 (.seq (.ite (.cmp .eq (.var 3) (.cst (.int 0))) (.seq (.ret (.tup [(.cst (.int 0)),(.cst (.int 0))]))
  .nop) .nop)
 (.seq (.ite (.and (.cmp .eq (.var 4) (.cst (.int 59))) (.cmp .eq (.bi .abs [(.var 3)]) (.cst (.int 1)))) (.seq (.ret (.tup [(.var 3),(.cst (.int 60))]))
  .nop) .nop)
 (.seq (.ret (.call i_law_bare [(.var 3),(.bin .add (.bin .sub (.var 4) (.meth .bitlen (.var 3))) (.cst (.int 1)))]))
 .nop)))))
noncomputable def ud(i_law_cell i_law_drawn i_law_measure i_law_bare:Nat):Sm :=
 (.seq (.new 4)
 (.seq (.forR 5 [(.var 2)] (.seq (.set 6 (.call i_law_cell [(.var 0),(.bin .add (.var 1) (.var 5))]))
  (.seq (.set 7 (.call i_law_drawn [(.var 6),(.bin .add (.bin .add (.var 1) (.var 5)) (.cst (.int 5000)))]))
  (.seq (.set 8 (.call i_law_measure [(.var 6),(.bin .add (.var 1) (.var 5)),(.var 3)]))
  (.seq (.ite (.and (.cmp .gt (.var 5) (.cst (.int 0))) (.cmp .lt (.bin .mod (.var 7) (.cst (.int 5))) (.cst (.int 2)))) (.seq (.set 9 (.oix 4 (.bin .mod (.bin .fdiv (.var 7) (.cst (.int 5))) (.var 5))))
   (.seq (.ite (.cmp .eq (.bin .mod (.var 7) (.cst (.int 5))) (.cst (.int 0))) (.seq (.set 8 (.ix (.lst [(.tup [(.bin .sub (.cst (.int 0)) (.ix (.var 9) (.cst (.int 0)))),(.ix (.var 9) (.cst (.int 1)))]),(.var 9)]) (.bin .mod (.bin .fdiv (.var 7) (.cst (.int 400))) (.cst (.int 2)))))
    .nop) (.seq (.ite (.and (.cmp .ne (.ix (.var 9) (.cst (.int 0))) (.cst (.int 0))) (.cmp .ne (.ix (.var 8) (.cst (.int 0))) (.cst (.int 0)))) (.seq (.set 10 (.bi .max [(.neg (.cst (.int 60))),(.bi .min [(.cst (.int 59)),(.bin .sub (.bin .add (.meth .bitlen (.ix (.var 9) (.cst (.int 0)))) (.ix (.var 9) (.cst (.int 1)))) (.cst (.int 1)))])]))
     (.seq (.set 8 (.call i_law_bare [(.ix (.var 8) (.cst (.int 0))),(.bin .add (.bin .sub (.var 10) (.meth .bitlen (.ix (.var 8) (.cst (.int 0))))) (.cst (.int 1)))]))
     .nop)) .nop)
    .nop))
   .nop)) .nop)
  (.seq (.app 4 (.var 8))
  .nop))))))
 (.seq (.shr 4)
 (.seq (.ret (.var 4))
 .nop))))
structure Meas (n:Nat) (x:Int×Int):Prop where
 num:Num n x.1 x.2
 at_:(x.1=0/\x.2=0)\/(-60<=x.2+bits x.1-1/\x.2+bits x.1<=61)
theorem Meas.ok{n:Nat}{x:Int×Int}(h:Meas n x)(hn:n<=64):OkN n 130 x:=by
 have:=jk.mpr h.num.sz;exact⟨h.num,by rcases h.at_ with z|z<;>lia,by rcases h.at_ with z|z<;>lia⟩
theorem Meas.neg{n:Nat}{x:Int×Int}(h:Meas n x):Meas n (qI x):=by
 obtain⟨⟨ho,hs⟩,ha⟩:=h;refine⟨⟨by unfold qI;simp only[];lia,by unfold qI;simp only[];lia⟩,?_⟩;unfold qI;simp only[xC];lia
theorem meas_at{n:Nat}{w q:Int}(ho:w%2=1)(hs:w.natAbs<2^n)(q1:-60<=q)(q2:q<=59):Meas n (dq (w*tw (q-bits w+1))):=by
 have e:dq (w*tw (q-bits w+1))=(w,q-bits w+1):=by
  have:=dq_of (x:=(w,q-bits w+1)) (.inl ho);exact this
 rw[e];exact⟨⟨.inl ho,hs⟩,.inr ⟨by simp only[];lia,by simp only[];lia⟩⟩
noncomputable def qQ:Ctr where
 pre ds:=∃c k n:Int,ds=[.int c,.int k,.int n]/\wOk n
 res ds d:=∀c k n:Int,ds=[.int c,.int k,.int n]->∃x,d=nq x/\Meas n.toNat x
theorem wp_measure{c k:Int}{n:Nat}{Q:D->Prop}{E:XD->Prop}(h1:8<=n)(h2:n<=64):qQ.wp [.int c,.int k,.int n] Q E ↔ ∀x,Meas n x->Q (nq x):=by
 unfold Ctr.wp qQ;constructor
 ·intro w x hx
  refine w.2.1 _ fun c' k' n' e=>?_
  simp only[Qj,D.int.injEq,and_true]at e;obtain⟨_,_,rfl⟩:=e;exact⟨x,rfl,hx⟩
 ·intro q;refine⟨⟨c,k,n,rfl,by lia,by lia⟩,fun d hd=>?_,fun _ z=>z.elim⟩;obtain⟨x,rfl,hx⟩:=hd c k n rfl;exact q x hx
theorem yC{c k:Int}{n:Nat}{x:Int×Int}(h:Meas n x):qQ.res [.int c,.int k,.int n] (nq x):=by
 intro c' k' n' e;simp only[Qj,D.int.injEq,and_true]at e;obtain⟨_,_,rfl⟩:=e;exact⟨x,rfl,h⟩
theorem meas0(n:Nat):Meas n (0,0):=⟨⟨.inr ⟨rfl,rfl⟩,Xj n⟩,.inl ⟨rfl,rfl⟩⟩
theorem k_measure{C:Cfg}{i1 i2 i3:Nat}(h1:C.ct i1=qV)(h2:C.ct i2=kE)(h3:C.ct i3=q9):jS C 5 (xx i1 i2 i3) qQ:=by
 rintro ds ⟨c,k,n,rfl,w1,w2⟩
 obtain⟨n,rfl⟩:∃m:Nat,n=m:=⟨n.toNat,by lia⟩
 have n1:8<=n:=by lia
 have n2:n<=64:=by lia
 have q1:(1:Int)<=9:=by decide
 have q2:(9:Int)<=5000:=by decide
 rw[xx];simp_all! only[h1,wp_number n1 n2 q1 q2,yz,h2,zL];intro x hx _ m m0 m1;rw[jA (by decide)]
 obtain⟨q,hq,p1,p2⟩:∃q:Int,m%120-60=q /\ -60<=q/\q<=59:=⟨_,rfl,by lia,by lia⟩
 rw[hq];have bx:=hx.bits;refine jW (fun σ=>x.1≠0/\σ=[some (.sh (.int c)),some (.sh (.int k)),some (.sh (.int n)),some (.sh (.int x.1)),some (.sh (.int q))]) ?_ ?_
 ·simp_all_arith! only[]
  by_cases h0:x.1=0
  ·rw[if_pos h0];exact yC (meas0 n)
  ·rw[if_neg h0]
   first|exact⟨h0,rfl⟩|exact h0
 rintro σ ⟨h0,rfl⟩
 have ho:x.1%2=1:=by have:=hx.num.odd;lia
 refine jW (fun σ=>σ=[some (.sh (.int c)),some (.sh (.int k)),some (.sh (.int n)),some (.sh (.int x.1)),some (.sh (.int q))]) ?_ ?_
 ·simp_all_arith! only[abs_eq]
  by_cases h1:q=59
  ·rw[if_pos h1];by_cases h2:(x.1.natAbs:Int)=1
   ·rw[if_pos h2];refine yC (x:=(x.1,60)) ⟨⟨.inl ho,hx.num.sz⟩,.inr ?_⟩
    have b1:bits x.1=1:=by
     have:x.1=1\/x.1=-1:=by lia
     rcases this with e|e<;>rw[e]<;>decide
    exact⟨by simp only[];lia,by simp only[];lia⟩
   ·rw[if_neg h2];trivial
  ·rw[if_neg h1];trivial
 rintro σ rfl
 have b9:bits x.1<=9000:=by lia
 simp_all! only[h3,Kg b9];exact yC (meas_at ho hx.num.sz p1 p2)
noncomputable def c_row:Ctr where
 pre ds:=∃(ns:List Int) (s m n:Int),ds=[.lst (ns.map .int),.int s,.int m,.int n]/\ns.length<=63/\0<=s/\(m<=1000)/\(-1000<=m)/\wOk n
 res ds d:=∀(ns:List Int) (s m n:Int),ds=[.lst (ns.map .int),.int s,.int m,.int n]->∃xs:List (Int×Int),d=.lst (xs.map nq)/\xs.length=m.toNat/\∀x∈xs,Meas n.toNat x
theorem wp_row{ns:List Int}{s m:Int}{n:Nat}{Q:D->Prop}{E:XD->Prop}(hl:ns.length<=63)(hs:0<=s)(m1:m<=1000)(m2:-1000<=m)(h1:8<=n)(h2:n<=64) :
 c_row.wp [.lst (ns.map .int),.int s,.int m,.int n] Q E ↔ ∀xs:List (Int×Int),xs.length=m.toNat->(∀x∈xs,Meas n x)->Q (.lst (xs.map nq)):=by
 unfold Ctr.wp c_row;constructor
 ·intro w xs l hx
  refine w.2.1 _ fun ns' s' m' n' e=>?_
  simp only[Qj,D.int.injEq,and_true]at e;obtain⟨_,_,rfl,rfl⟩:=e;exact⟨xs,rfl,l,hx⟩
 ·intro q;refine⟨⟨ns,s,m,n,rfl,hl,hs,m1,m2,by lia,by lia⟩,fun d hd=>?_,fun _ z=>z.elim⟩;obtain⟨xs,rfl,l,hx⟩:=hd ns s m n rfl;exact q xs l hx
theorem nq_get{xs:List (Int×Int)}{i:Int}(h0:0<=i)(h:i<xs.length):∃x∈xs,atD (xs.map nq) i=some (nq x):=by
 have hl:i.toNat<xs.length:=by lia
 refine⟨xs[i.toNat],QJ hl,?_⟩;unfold atD;rw[if_pos h0,Qg,KU hl];rfl
theorem k_row{C:Cfg}{i1 i2 i3 i4:Nat}(h1:C.ct i1=xV)(h2:C.ct i2=kE)(h3:C.ct i3=qQ)(h4:C.ct i4=q9):jS C 11 (ud i1 i2 i3 i4) c_row:=by
 rintro ds ⟨ns,s,m,n,rfl,hl,hs,m1,m2,w1,w2⟩
 obtain⟨n,rfl⟩:∃m:Nat,n=m:=⟨n.toNat,by lia⟩
 have n1:8<=n:=by lia
 have n2:n<=64:=by lia
 rw[ud];simp_all! only[]
 let P:List D->Sto->Prop:=fun ds σ=>∃(xs:List (Int×Int)) (a b c d e f:Option Sl),(xs.length<=m.toNat/\ds=jP xs.length 1 (m.toNat-xs.length)/\∀x∈xs,Meas n x) /\
  σ=[some (.sh (.lst (ns.map .int))),some (.sh (.int s)),some (.sh (.int m)),some (.sh (.int n)),some (.ow (xs.map nq)),a,b,c,d,e,f]
 refine jW (P []) ?_ ?_
 ·rw[uI]
  simp_arith only[]
  refine⟨by unfold kQ;lia,qP P ⟨[],_,_,_,_,_,_,⟨by simp,by simp,by simp⟩,rfl⟩ ?_ fun σ h=>h⟩;rintro d ds σ ⟨xs,a,b,c,dd,e,f,⟨hx,hd,hm⟩,rfl⟩
  have hlt:xs.length<m.toNat:=by
   rcases Qd xs.length m.toNat with z|z
   ·exact z
   ·rw[show m.toNat-xs.length=0 by lia]at hd;cases hd
  rw[show m.toNat-xs.length=(m.toNat-(xs.length+1))+1 by lia,jP]at hd;simp only[Qj]at hd;obtain⟨rfl,rfl⟩:=hd
  have hk:(0:Int)<=s+xs.length:=by lia
  simp_all! only[h1,Kx hl hk,h2,zL,h3,wp_measure n1 n2];intro cc r r0 _ x hx';refine jW (fun σ=>∃(y:Int×Int) (a b:Option Sl),Meas n y/\σ=[some (.sh (.lst (ns.map .int))),some (.sh (.int s)),some (.sh (.int m)),some (.sh (.int n)),some (.ow (xs.map nq)),some (.sh (.int xs.length)),some (.sh (.int cc)),some (.sh (.int r)),some (.sh (nq y)),a,b]) ?_ ?_
  ·rw[kF];dsimp! only[];have f5:r.fmod 5=r%5:=jA (by decide);rw[f5];by_cases c1:0<(xs.length:Int)
   ·rw[if_pos c1];by_cases c2:r%5<2
    ·rw[if_pos (by simpa using c2)];have e1:r.fdiv 5=r / 5:=kg (by decide);have e2:(r / 5).fmod xs.length=(r / 5)%xs.length:=jA (by lia);have e3:r.fdiv 400=r / 400:=kg (by decide);have e4:(r / 400).fmod 2=r / 400%2:=jA (by decide)
     have b5:bits 5<=9000:=by decide
     have b4:bits 400<=9000:=by decide
     have u0:=Xy (r / 5) (show (xs.length:Int)≠0 by lia);have u1:=Xg (r / 5) c1;obtain⟨y,hy,ey⟩:=nq_get u0 u1;have hy':=hm y hy;simp_all! only[e1,e2,b5,ey];refine⟨by lia,?_⟩;rw[jI,kF];dsimp! only[f5];by_cases c3:r%5=0
     ·rw[if_pos c3];simp_all! only[e3,e4,b4,yz,xS,mk_nq];obtain⟨d,e,hd⟩:=zq (xs:=[nq (0-y.1,y.2),nq y]) (i:=r / 400%2) (by lia) (by simp;lia);refine⟨d,e,?_⟩;simp only[KS,K4,or_false]at hd;rcases hd with rfl|rfl
      ·have ng:(0-y.1,y.2)=qI y:=by unfold qI;rw[Int.zero_sub]
       rw[ng];exact⟨qI y,_,_,hy'.neg,rfl⟩
      ·exact⟨y,_,_,hy',rfl⟩
     ·rw[if_neg c3];rw[jI,kF];dsimp! only[yz,xS];by_cases c4:y.1=0
      ·rw[if_neg (by simpa using c4)];simp only[Qk,if_false,qK];exact⟨x,_,_,hx',rfl⟩
      ·rw[if_pos (by simpa using c4)];by_cases c5:x.1=0
       ·rw[if_neg (by simpa using c5)];simp only[qK];exact⟨x,_,_,hx',rfl⟩
       ·rw[if_pos (by simpa using c5)];have bx:=(hx'.ok n2).bits
        have b9:bits x.1<=9000:=by lia
        have ho:x.1%2=1:=by have:=hx'.num.odd;lia
        simp_all! only[yz,xS,h4,Kg b9];refine⟨_,_,_,meas_at ho hx'.num.sz ?_ ?_,rfl⟩
        ·split<;>split<;>lia
        ·split<;>split<;>lia
    ·rw[if_neg (by simpa using c2),qK];exact⟨x,_,_,hx',rfl⟩
   ·rw[if_neg c1]
    first|(rw[qK];exact⟨x,_,_,hx',rfl⟩)|(simp only[Qk,if_false,qK];exact⟨x,_,_,hx',rfl⟩)
  rintro σ ⟨y,a,b,hy,rfl⟩;simp_all! only[KP];refine⟨by unfold lim;lia,xs ++ [y],_,_,_,_,_,_,⟨by simp;lia,?_,?_⟩,by rw[Qw];rfl⟩
  ·simp
  ·intro z hz;rcases QA.mp hz with q|q
   ·exact hm z q
   ·simp only[KS,K4,or_false]at q;subst q;exact hy
 rintro σ ⟨xs,a,b,c,dd,e,f,⟨hx,hd,hm⟩,rfl⟩
 have hlen:xs.length=m.toNat:=by
  rcases Qd xs.length m.toNat with z|z
  ·rw[show m.toNat-xs.length=(m.toNat-(xs.length+1))+1 by lia,jP]at hd;cases hd
  ·lia
 simp_all! only[];intro ns' s' m' n' e';simp only[Qj,D.int.injEq,and_true]at e';obtain⟨_,_,rfl,rfl⟩:=e';exact⟨xs,rfl,hlen,hm⟩
end Z
set_option exponentiation.threshold 3000
namespace Z
open PySem
theorem vt(xs:List (Int×Int)):qB (xs.map nq)<=1:=by
 induction xs with
 |nil=>simp[uX]
 |cons x xs ih=>rw[K1,vm,dep_nq];lia
theorem rows_inj{xs ys:List (Int×Int)}(h:D.lst (xs.map nq)=D.lst (ys.map nq)):xs=ys:=by
 injection h with h;exact kB (fun a b h=>vg h) h
theorem Box.up{n:Nat}{M H:Int}{x:Int×Int}(K:Int)(h:Box n M H x)(hk:H<=K):Box n M K x:=by
 have:=Je hk;exact⟨h.ok,by have:=h.lo;grind,by have:=h.hi;grind⟩
end Z
set_option exponentiation.threshold 3000
namespace Z
open PySem
noncomputable def absF(x:Int×Int):Int×Int:=((x.1.natAbs:Int),x.2)
theorem vr_absF(x:Int×Int):vr (absF x)=(vr x).abs:=by
 unfold vr absF;rw[uB]
theorem Box.abs{n:Nat}{M H:Int}{x:Int×Int}(h:Box n M H x):Box n M H (absF x):=by
 have e:=vr_absF x;refine⟨⟨⟨?_,?_⟩,h.ok.lo,h.ok.hi⟩,?_,?_⟩
 ·have:=h.ok.num.odd;unfold absF;simp only[];lia
 ·have:=h.ok.num.sz;unfold absF;simp only[];lia
 ·rw[e];have:=h.lo;have:=h.hi
  unfold Rat.abs;split<;>grind
 ·rw[e];exact rabs_le h.lo h.hi
structure RowOk (n:Nat) (xs:List (Int×Int)):Prop where
 n1:8<=n
 n2:n<=64
 len:xs.length<=200
 row:∀x∈xs,Box n 1000 300 x
theorem RowOk.abs{n:Nat}{xs:List (Int×Int)}(h:RowOk n xs):RowOk n (xs.map absF):=by
 refine⟨h.n1,h.n2,by rw[KP];exact h.len,fun x hx=>?_⟩;obtain⟨y,hy,rfl⟩:=K7.mp hx;exact(h.row y hy).abs
end Z
set_option exponentiation.threshold 3000
namespace Z
open PySem
theorem near_box_k{n:Nat}{M H k m:Int}(hn:1<=n)(hm:-M<=m)(lo:-tw H<=(k:Rat)*tw m)(hi:(k:Rat)*tw m<=tw H)(hM:H<=M)(h0:0<=M):Box n M H (jY n (k*tw m)):=by
 have num:=near_num (n:=n) (r:=(k:Rat)*tw m) hn;have r2:=rep_tw hn H;have hi:vr (jY n (k*tw m))<=tw H:=rn_le hn hi r2;have lo:-tw H<=vr (jY n (k*tw m)):=le_rn hn lo r2.neg;refine⟨⟨num,?_,?_⟩,lo,hi⟩
 ·obtain⟨j,ej,_⟩:=rest_of (n:=n) (N:=bits k) (k:=k) (m:=m) hn (jk.mp (K6 _))
  have e3:vr (jY n (k*tw m))=((k-j:Int):Rat)*tw m:=by
   rw[Rat.intCast_sub];grind
  rcases rest_pow num.odd e3 with z|z
  ·lia
  ·rw[z];simp only[];lia
 ·generalize hz:jY n (k*tw m)=z at *;rcases num.odd with ho|ho
  ·have tp:=kf z.2
   have:tw z.2<=tw H:=by
    rcases Ul 0 z.1 with q|q
    ·have l1:((1:Int):Rat)*tw z.2<=(z.1:Rat)*tw z.2:=kA.mpr (by lia);have:((1:Int):Rat)=1:=rfl;unfold vr at hi
     grind
    ·have l1:(z.1:Rat)*tw z.2<=((-1:Int):Rat)*tw z.2:=kA.mpr (by lia);have:((-1:Int):Rat)=-1:=rfl;unfold vr at lo
     grind
   have:=tw_lt this;lia
  ·lia
theorem abs_bits(w p:Int):-tw (p+bits w)<=(w:Rat)*tw p/\(w:Rat)*tw p<=tw (p+bits w):=by
 have hs:=jk.mp (K6 (bits w))
 have e:tw (p+bits w)=((2^bits w:Int):Rat)*tw p:=by rw[kj];grind
 have pn:((2^bits w:Nat):Int)=2^bits w:=by simp
 have l2:(w:Rat)*tw p<=((2^bits w:Int):Rat)*tw p:=kA.mpr (by lia);have l3:((-2^bits w:Int):Rat)*tw p<=(w:Rat)*tw p:=kA.mpr (by lia)
 have e2:((-2^bits w:Int):Rat)*tw p=-(((2^bits w:Int):Rat)*tw p):=by rw[YN];grind
 constructor<;>grind
theorem near_box_b{n:Nat}{M H k m:Int}(hn:1<=n)(hm:-M<=m)(hk:m+bits k<=H)(hM:H<=M)(h0:0<=M):Box n M H (jY n (k*tw m)):=by
 have a:=abs_bits k m;have:=Je hk;exact near_box_k hn hm (by grind) (by grind) hM h0
theorem Meas.row{n:Nat}{x:Int×Int}(h:Meas n x)(hn:n<=64):Box n 1000 300 x:=by
 have o:=h.ok hn;have b:=okn_box o (H:=300) (by lia);exact⟨⟨o.num,by have:=o.lo;lia,by have:=o.hi;lia⟩,b.lo,b.hi⟩
noncomputable def prodF(n:Nat)(xs ys:List (Int×Int)):List (Int×Int):=(xs.zip ys).map fun p=>jY n (vr p.1*vr p.2)
theorem Meas.top{n:Nat}{x:Int×Int}(h:Meas n x):x.2+bits x.1<=61:=by
 rcases h.at_ with⟨z,e⟩|z
 ·rw[z,e];decide
 ·exact z.2
theorem vr_prod(x y:Int×Int):vr x*vr y=((x.1*y.1:Int):Rat)*tw (x.2+y.2):=by
 unfold vr;rw[QR,tw_add];grind
theorem Meas.prod{n:Nat}{x y:Int×Int}(hx:Meas n x)(hy:Meas n y)(n1:8<=n)(n2:n<=64):Box n 1000 300 (jY n (vr x*vr y)):=by
 rw[vr_prod];have a:=(hx.ok n2).lo;have b:=(hy.ok n2).lo;have c:=hx.top;have d:=hy.top;have e:=k9 x.1 y.1;exact near_box_b (by lia) (by lia) (by lia) (by lia) (by lia)
structure DotOk (n:Nat) (xs ys:List (Int×Int)):Prop where
 n1:8<=n
 n2:n<=64
 len:xs.length<=200
 same:ys.length=xs.length
 x:∀x∈xs,Meas n x
 y:∀y∈ys,Meas n y
theorem prod_len{n:Nat}{xs ys:List (Int×Int)}(h:ys.length=xs.length):(prodF n xs ys).length=xs.length:=by
 unfold prodF;rw[KP,List.length_zip,h,Nat.min_self]
theorem DotOk.rows{n:Nat}{xs ys:List (Int×Int)}(h:DotOk n xs ys):RowOk n (prodF n xs ys):=by
 refine⟨h.n1,h.n2,by rw[prod_len h.same];exact h.len,fun p hp=>?_⟩;obtain⟨⟨a,b⟩,hq,rfl⟩:=K7.mp hp;have:=Yk hq;exact(h.x a this.1).prod (h.y b this.2) h.n1 h.n2
theorem xf:∀(m:Nat) (lo:Int),jP lo 1 m=(K3 m).map fun(i:Nat)=>D.int (lo+i)
 |0,lo=>rfl
 |m+1,lo=>by
  rw[jP,xf m (lo+1),List.range_succ_eq_map,K1,Qr];congr 1
  ·simp
  ·refine QK fun i _=>?_
   simp only[Function.comp,D.int.injEq,Nat.succ_eq_add_one];lia
theorem qC{f:D->(D->Prop)->Prop}{h:Nat->D}{m:Nat}{Q:List D->Prop}(k:∀i,i<m->∀Q,f (.int i) Q ↔ Q (h i)):kI f (jP 0 1 m) Q ↔ Q ((K3 m).map h):=by
 rw[xf]
 refine jJ fun i hi Q=>?_
 have:=k i (Xh.mp hi) Q
 rwa [Int.zero_add]
end Z
set_option exponentiation.threshold 3000
namespace Z
open PySem
noncomputable def c1(ok:List (Int×Int)->Prop)(f:List (Int×Int)->D):Ctr where
 pre ds:=∃xs,ds=[.lst (xs.map nq)]/\ok xs
 res ds d:=∀xs,ds=[.lst (xs.map nq)]->d=f xs
theorem res_1{ok f}{xs:List (Int×Int)}{d:D}:(c1 ok f).res [.lst (xs.map nq)] d ↔ d=f xs:=by
 refine⟨fun h=>h xs rfl,fun h xs' e=>?_⟩;cases uQ e;exact h
theorem wp_1{ok f}{xs:List (Int×Int)}{Q:D->Prop}{E:XD->Prop}:(c1 ok f).wp [.lst (xs.map nq)] Q E ↔ ok xs/\Q (f xs):=by
 unfold Ctr.wp;simp only[res_1,forall_eq];refine⟨fun⟨⟨xs',e,h⟩,w,_⟩=>⟨?_,w⟩,fun⟨h,w⟩=>⟨⟨xs,rfl,h⟩,w,fun _ z=>z.elim⟩⟩;cases uQ e;exact h
theorem wp_value2{x:Int×Int}{Q:D->Prop}{E:XD->Prop}(h:OddP x)(hb:bits x.1<=1000000)(h1:-1000000<=x.2)(h2:x.2<=1000000):xO.wp [nq x] Q E ↔ Q (rq (vr x)):=by
 obtain⟨n,_,hn⟩:=h.num;have e:=value_rq (hn n (K6 _));unfold Ctr.wp xO nq;simp only[];rw[e];exact⟨fun w=>w.2.1 _ rfl,fun q=>⟨⟨⟨by lia,by lia⟩,by lia⟩,fun d e=>by rw[e];exact q,fun x z=>z.elim⟩⟩
structure SmallP (x:Int×Int):Prop where
 b:bits x.1<=64
 lo:-130<=x.2
 hi:x.2<=130
structure Smalls (xs:List (Int×Int)):Prop where
 len:xs.length<=200
 all:∀x∈xs,SmallP x
theorem Meas.small{n:Nat}{x:Int×Int}(h:Meas n x)(hn:n<=64):SmallP x:=⟨by have:=(h.ok hn).bits;lia,(h.ok hn).lo,(h.ok hn).hi⟩
theorem bits_sum{B:Nat}:∀ {l:List Int},(∀x∈l,bits x<=B)->bits l.sum<=B+l.length
 |[],_=>by
  have:bits 0=0:=by decide
  simp only[YI,XG];lia
 |x::l,h=>by
  have ih:=bits_sum (l:=l) fun y hy=>h y (KR _ hy)
  have h1:=h x (K0 ..);have:=bits_add x l.sum;simp only[X7,Xc];omega
end Z
set_option exponentiation.threshold 3000
namespace Z.K42
open PySem Z
noncomputable def b_one_by_one:Sm :=
 (.seq (.new 1)
 (.seq (.forE 2 (.var 0) (.seq (.ext 1 (.var 2))
  .nop))
 (.seq (.shr 1)
 (.seq (.ret (.var 1))
 .nop))))
noncomputable def b_least_power:Sm :=
 (.seq (.ret (.bi .min [(.compE (.var 0) (.ix (.var 1) (.cst (.int 1))))]))
 .nop)
noncomputable def b_in_steps(i_two_to:Nat):Sm :=
 (.seq (.ret (.compE (.var 0) (.bin .mul (.ix (.var 2) (.cst (.int 0))) (.call i_two_to [(.bin .sub (.ix (.var 2) (.cst (.int 1))) (.var 1))]))))
 .nop)
noncomputable def tabD(rows:List (List (Int×Int))):D:=.lst (rows.map fun r=>.lst (r.map nq))
theorem uJ(n d k:Nat):sIx n d (some (k:Int))=min k n:=by
 show (if (k:Int)<0 then ((k:Int)+(n:Int)).toNat else min (k:Int).toNat n)=min k n;rw[if_neg (by lia),Qm]
theorem cut_row{xs:List (Int×Int)}{i A N:Nat}(h:xs.length=N*A)(hi:i<N):ui (xs.map nq) (some ((i:Int)*A)) (some (((i:Int)+1)*A))=((xs.drop (i*A)).take A).map nq:=by
 have e1:(i:Int)*A=((i*A:Nat):Int):=by push_cast;rfl
 have e2:((i:Int)+1)*A=(((i+1)*A:Nat):Int):=by push_cast;rfl
 have le:(i+1)*A<=N*A:=YX A hi;have ex:(i+1)*A=i*A+A:=Nat.succ_mul i A;unfold ui;rw[e1,e2,KP,h,uJ,uJ,Ub (by lia),Ub (by lia),List.map_take,Uz];congr 1;lia
noncomputable def c_one_by_one:Ctr where
 pre ds:=∃rows,ds=[tabD rows]/\rows.flatten.length<=200
 res ds d:=∀rows,ds=[tabD rows]->d=.lst (rows.flatten.map nq)
theorem xT{r r':List (List (Int×Int))}(h:[tabD r]=[tabD r']):r=r':=by
 unfold tabD at h;simp only[Qj,D.lst.injEq,and_true]at h;exact kB (fun a b e=>rows_inj e) h
theorem k_one_by_one{C:Cfg}:jS C 3 b_one_by_one c_one_by_one:=by
 rintro ds ⟨rows,rfl,hl⟩;rw[b_one_by_one,tabD];simp_all! only[]
 let P:List D->Sto->Prop:=fun ds σ=>∃(pre post:List (List (Int×Int))) (a:Option Sl),(pre++post=rows/\ds=post.map fun r=>.lst (r.map nq))/\σ=[some (.sh (.lst (rows.map fun r=>.lst (r.map nq)))),some (.ow (pre.flatten.map nq)),a]
 refine jW (P []) ?_ ?_
 ·rw[uN]
  simp_arith only[]
  refine qP P ⟨[],rows,none,⟨rfl,rfl⟩,rfl⟩ ?_ fun σ h=>h
  rintro d ds σ ⟨pre,post,a,⟨hp,hd⟩,rfl⟩
  cases post with
  |nil=>cases hd
  |cons r post =>
   simp only[K1,Qj]at hd;obtain⟨rfl,rfl⟩:=hd
   have e:(pre ++ [r]).flatten=pre.flatten++r:=by simp
   have ll:pre.flatten.length+r.length<=200:=by
    rw[<- hp]at hl;simp only[List.flatten_append,Xw,K9]at hl;lia
   simp_all! only[extD,KP]
   have es:pre.flatten.map nq++r.map nq=(pre ++ [r]).flatten.map nq:=by rw[e,Qw]
   refine⟨by rw[KP,KP];unfold lim;lia,?_⟩;rw[es];exact⟨pre ++ [r],post,_,⟨by rw[<- hp];simp,rfl⟩,rfl⟩
 rintro σ ⟨pre,post,a,⟨hp,hd⟩,rfl⟩
 have:post=[]:=by simpa using hd.symm
 subst this;rw[Qu]at hp;subst hp;simp_all! only[];intro rows' e;rw[xT e]
theorem wp_obo{rows:List (List (Int×Int))}{Q:D->Prop}{E:XD->Prop}(h:rows.flatten.length<=200):c_one_by_one.wp [tabD rows] Q E ↔ Q (.lst (rows.flatten.map nq)) :=
 ⟨fun w=>w.2.1 _ fun r e=>by rw[xT e],fun q=>⟨⟨rows,rfl,h⟩,fun d hd=>by rw[hd rows rfl];exact q,fun _ z=>z.elim⟩⟩
noncomputable def c_least_power:Ctr:=c1 (fun xs=>xs ≠ []/\xs.length<=200) fun xs=>.int (mmF false 0 (xs.map (·.2)))
theorem k_least_power{C:Cfg}:jS C 1 b_least_power c_least_power:=by
 rintro ds ⟨xs,rfl,h0,hl⟩;rw[b_least_power];simp_all! only[KP];refine⟨by unfold lim;lia,?_⟩;rw[jJ (g:=nq) (h:=fun x:Int×Int=>D.int x.2) (fun x _ Q=>by rw[xS]),show (xs.map fun x=>D.int x.2)=(xs.map (·.2)).map .int by rw[Qr];rfl,J2];refine⟨by simpa using h0,?_⟩;rw[c_least_power,res_1]
noncomputable def atW(low:Int)(x:Int×Int):Int:=x.1*2^(x.2-low).toNat
noncomputable def c_in_steps:Ctr where
 pre ds:=∃(xs:List (Int×Int)) (p:Int),ds=[.lst (xs.map nq),.int p]/\Smalls xs /\ -200<=p/\∀x∈xs,p<=x.2
 res ds d:=∀(xs:List (Int×Int)) (p:Int),ds=[.lst (xs.map nq),.int p]->d=.lst (xs.map fun x=>.int (atW p x))
theorem injp{xs xs':List (Int×Int)}{p p':Int}(e:[D.lst (xs.map nq),.int p]=[D.lst (xs'.map nq),.int p']):xs=xs'/\p=p':=by
 simp only[Qj,D.int.injEq,and_true]at e;exact⟨rows_inj e.1,e.2⟩
theorem wp_two_to{k:Int}{Q:D->Prop}{E:XD->Prop}(h:0<=k/\k<=1000000):qG.wp [.int k] Q E ↔ Q (.int (2^k.toNat)) :=
 ⟨fun q=>q.2.1 _ rfl,fun q=>⟨h,fun d e=>by rw[e];exact q,fun _ z=>z.elim⟩⟩
theorem k_in_steps{C:Cfg}{i:Nat}(h1:C.ct i=qG):jS C 2 (b_in_steps i) c_in_steps:=by
 rintro ds ⟨xs,p,rfl,g,hp,hx⟩;have hl:=g.len;rw[b_in_steps];simp_all! only[KP];refine⟨by unfold lim;lia,?_⟩
 rw[jJ (g:=nq) (h:=fun x:Int×Int=>D.int (atW p x)) (fun x hx' Q=>by
  have h2:=hx x hx';have h3:=(g.all x hx').hi;have h4:=(g.all x hx').b
  have w:=fun Q E=>wp_two_to (k:=x.2-p) (Q:=Q) (E:=E) ⟨by lia,by lia⟩
  have b:bits ((2:Int)^(x.2-p).toNat)<=400:=by rw[ky];lia
  have mo:kH x.1 (2^(x.2-p).toNat):=jE (by lia);dsimp! only[yz,xS,h1,w,mo]
  rfl)]
 intro xs' p' e;obtain⟨rfl,rfl⟩:=injp e;rfl
theorem ux{xs:List (Int×Int)}{p:Int}{Q:D->Prop}{E:XD->Prop}(g:Smalls xs)(hp:-200<=p)(hx:∀x∈xs,p<=x.2):c_in_steps.wp [.lst (xs.map nq),.int p] Q E ↔ Q (.lst (xs.map fun x=>.int (atW p x))):=by
 constructor
 ·intro w
  refine w.2.1 _ fun xs' p' e=>?_
  obtain⟨rfl,rfl⟩:=injp e;rfl
 ·intro q;exact⟨⟨xs,p,rfl,g,hp,hx⟩,fun d h=>by rw[h xs p rfl];exact q,fun _ z=>z.elim⟩
end Z.K42
set_option exponentiation.threshold 3000
namespace Z.K40
open PySem Z Z.K42
theorem getD_at{α:Type}{r:List α}{p:Nat}{z:α}(h:p<r.length):r.getD p z=r[p]:=by simp[Um,KU h]
theorem at_row{rows:List (List (Int×Int))}{i:Nat}(h:i<rows.length):atD (rows.map fun r=>D.lst (r.map nq)) (i:Int)=some (.lst ((rows.getD i []).map nq)):=by
 unfold atD;rw[if_pos (by lia),Qm,Qg,KU h,getD_at h];rfl
theorem vp{α:Type}{f:D->(List D->Prop)->Prop}{g:α->D}{h:α->List D}:∀ {l:List α} {Q:List (List D)->Prop},(∀a∈l,∀Q,f (g a) Q ↔ Q (h a))->(qL f (l.map g) Q ↔ Q (l.map h))
 |[],Q,_=>Iff.rfl
 |a::l,Q,k=>by
  rw[K1,K1,qL,k a (K0 ..),vp fun b hb=>k b (KR _ hb)]
theorem zF{f:D->(List D->Prop)->Prop}{h:Nat->List D}{m:Nat}{Q:List (List D)->Prop}(k:∀i,i<m->∀Q,f (.int i) Q ↔ Q (h i)):qL f (jP 0 1 m) Q ↔ Q ((K3 m).map h):=by
 rw[xf,vp (h:=h) (fun i hi Q=>by rw[Int.zero_add];exact k i (Xh.mp hi) Q)]
theorem dep_tab(T:List (List (Int×Int))):kD (K42.tabD T)<=3:=by
 unfold K42.tabD;rw[KD]
 have:qB (T.map fun r=>D.lst (r.map nq))<=2:=by
  induction T with
  |nil=>simp[uX]
  |cons r rs ih=>rw[K1,vm,KD];have:=vt r;lia
 lia
end Z.K40
set_option exponentiation.threshold 3000
namespace Z.J51
open PySem Z Z.K42 Z.K40
noncomputable def b_rows_in_steps(i_in_steps:Nat):Sm :=
 (.seq (.ret (.compE (.var 0) (.call i_in_steps [(.var 2),(.var 1)])))
 .nop)
noncomputable def wD(M:List (List Int)):D:=.lst (M.map fun r=>.lst (r.map .int))
noncomputable def c_rows_in_steps:Ctr where
 pre ds:=∃(rows:List (List (Int×Int))) (p:Int),ds=[tabD rows,.int p]/\rows.length<=200/\(∀r∈rows,Smalls r) /\ -200<=p/\∀r∈rows,∀x∈r,p<=x.2
 res ds d:=∀(rows:List (List (Int×Int))) (p:Int),ds=[tabD rows,.int p]->d=wD (rows.map fun r=>r.map (atW p))
theorem injs{r r':List (List (Int×Int))}{p p':Int}(h:[tabD r,D.int p]=[tabD r',D.int p']):r=r'/\p=p':=by
 simp only[Qj,D.int.injEq,and_true]at h;exact⟨xT (by rw[h.1]),h.2⟩
theorem k_rows_in_steps{C:Cfg}{i:Nat}(h1:C.ct i=c_in_steps):jS C 2 (b_rows_in_steps i) c_rows_in_steps:=by
 rintro ds ⟨rows,p,rfl,hl,g,hp,hx⟩;rw[b_rows_in_steps,tabD];simp_all! only[KP];refine⟨by unfold lim;lia,?_⟩
 rw[jJ (g:=fun r:List (Int×Int)=>D.lst (r.map nq)) (h:=fun r=>D.lst ((r.map (atW p)).map .int)) (fun r hr Q=>by
  have w:=fun Q E=>ux (Q:=Q) (E:=E) (g r hr) hp (hx r hr)
  dsimp! only[h1,w,Qr]
  rfl)]
 intro rows' p' e;obtain⟨rfl,rfl⟩:=injs (r:=rows) e;unfold wD;rw[Qr];rfl
theorem wp_ris{rows:List (List (Int×Int))}{p:Int}{Q:D->Prop}{E:XD->Prop}(hl:rows.length<=200)(g:∀r∈rows,Smalls r)(hp:-200<=p)(hx:∀r∈rows,∀x∈r,p<=x.2):c_rows_in_steps.wp [tabD rows,.int p] Q E ↔ Q (wD (rows.map fun r=>r.map (atW p))) :=
 ⟨fun w=>w.2.1 _ fun r p' e=>by obtain⟨rfl,rfl⟩:=injs e;rfl,fun q=>⟨⟨rows,p,rfl,hl,g,hp,hx⟩,fun d h=>by rw[h rows p rfl];exact q,fun _ z=>z.elim⟩⟩
noncomputable def fitR(ps:List Nat)(t:Nat)(r:List (Int×Int)):List (Int×Int):=((1,0)::ps.map fun p=>r.getD p (0,0)) ++ [r.getD t (0,0)]
structure FitOk (T:List (List (Int×Int))) (ps:List Nat) (t:Nat):Prop where
 n0:T ≠ []
 few:T.length<=20
 pl:ps.length<=4
 row:∀r∈T,Smalls r/\t<r.length/\∀p∈ps,p<r.length
theorem small_at{r:List (Int×Int)}{p:Nat}(g:Smalls r)(h:p<r.length):SmallP (r.getD p (0,0)):=by
 rw[K40.getD_at h];exact g.all _ (QJ h)
theorem small_one:SmallP ((1,0):Int×Int):=⟨by decide,by decide,by decide⟩
theorem FitOk.sm{T:List (List (Int×Int))}{ps:List Nat}{t:Nat}(g:FitOk T ps t):∀r∈T,Smalls (fitR ps t r):=by
 intro r hr;obtain⟨s,ht,hp⟩:=g.row r hr;refine⟨by have:=g.pl;unfold fitR;simp;lia,fun x hx=>?_⟩;unfold fitR at hx;rcases QA.mp hx with z|z
 ·rcases KS.mp z with rfl|z
  ·exact small_one
  ·obtain⟨p,hp',rfl⟩:=K7.mp z;exact small_at s (hp p hp')
 ·simp only[KS,K4,or_false]at z;subst z;exact small_at s ht
theorem ints_inj{as bs:List Int}(h:D.lst (as.map .int)=D.lst (bs.map .int)):as=bs:=by
 injection h with h;exact kB (fun a b e=>by injection e) h
theorem zip_ints(as bs:List Int):yU (as.map .int) (bs.map .int)=(as.zip bs).map fun p=>.tup [.int p.1,.int p.2]:=by
 unfold yU;rw[List.zip_map,Qr];rfl
theorem zU(r:Rat):(0:Int)<r.den:=by have:=r.den_nz;lia
theorem lcm_step{u d:Int}(hu:0<u)(hd:0<d):∃v,(u*d).fdiv (Xb u d)=v/\0<v/\u ∣ v/\d ∣ v/\bits v<=bits u+bits d:=by
 have g0:0<Xb u d:=YU _ (by lia);obtain⟨a,ea⟩:((Xb u d:Nat):Int) ∣ u:=Int.gcd_dvd_left ..;obtain⟨b,eb⟩:((Xb u d:Nat):Int) ∣ d:=Int.gcd_dvd_right ..
 have e1:u*d=(u*b)*(Xb u d:Int):=by
  rw[Int.mul_assoc,X5 b,<- eb]
 have e2:u*b=d*a:=by
  generalize (Xb u d:Int)=g at *;rw[ea,eb];grind
 have b0:0<b:=by
  rcases Ul 0 b with z|z
  ·exact z
  ·have:=Int.mul_nonpos_of_nonneg_of_nonpos (show (0:Int)<=(Xb u d:Int) by lia) z;rw[<- eb]at this;lia
 refine⟨u*b,?_,Int.mul_pos hu b0,⟨b,rfl⟩,⟨a,e2⟩,?_⟩
 ·rw[e1];exact X3 _ (by lia)
 ·have:=k9 u b
  have:bits b<=bits d:=kl (by
   have:b*1<=b*(Xb u d:Int):=YB (by lia) (by lia);rw[X5 b (Xb u d:Int),<- eb]at this
   lia)
  lia
noncomputable def yY(u:Int)(q:Rat):Int:=q.num*u.fdiv q.den
theorem q_den(q:Rat):q*((q.den:Int):Rat)=(q.num:Rat):=by
 have:=Rat.num_divInt_den q;rw[Rat.divInt_eq_div]at this
 conv=>lhs;lhs;rw[<- this]
 exact Rat.div_mul_cancel (by have:=zU q;intro z;have:((q.den:Int):Rat)=((0:Int):Rat):=z;have:=Rat.intCast_inj.mp this;lia)
theorem topI_rat{u:Int}{q:Rat}(h:(q.den:Int) ∣ u):((yY u q:Int):Rat)=q*u:=by
 obtain⟨k,rfl⟩:=h;have d:=zU q
 have f:((q.den:Int)*k).fdiv q.den=k:=by rw[X5];exact X3 _ (by lia)
 unfold yY;rw[f,QR,QR];have:=q_den q
 grind
theorem Js{M N:List (List Int)}(h:wD M=wD N):M=N:=by
 unfold wD at h;injection h with h;exact kB (fun a b e=>ints_inj e) h
theorem zK{low:Int}{x:Int×Int}(h:SmallP x)(l:-130<=low):bits (atW low x)<=330:=by
 have:=bits_shl (w:=x.1) (k:=(x.2-low).toNat);have:=h.b;have:=h.hi;unfold atW;omega
end Z.J51
set_option exponentiation.threshold 3000
namespace Z.J45
open PySem Z Z.K42 Z.K40 Z.J51
noncomputable def b_without:Sm :=
 (.seq (.ret (.compE (.var 0) (.bin .add (.slc (.var 2) (.cst .non) (.var 1)) (.slc (.var 2) (.bin .add (.var 1) (.cst (.int 1))) (.cst .non)))))
 .nop)
noncomputable def b_whole_determinant1:Sm :=
 (.seq (.ite (.cmp .eq (.bi .len [(.var 0)]) (.cst (.int 1))) (.seq (.ret (.ix (.ix (.var 0) (.cst (.int 0))) (.cst (.int 0))))
  .nop) .nop)
 (.seq (.set 1 (.cst (.int 0)))
 (.seq (.set 2 (.cst (.int 1)))
 (.seq .never
 (.seq (.ret (.var 1))
 .nop)))))
noncomputable def b_whole_determinant2(i_whole_determinant1 i_without:Nat):Sm :=
 (.seq (.ite (.cmp .eq (.bi .len [(.var 0)]) (.cst (.int 1))) (.seq (.ret (.ix (.ix (.var 0) (.cst (.int 0))) (.cst (.int 0))))
  .nop) .nop)
 (.seq (.set 1 (.cst (.int 0)))
 (.seq (.set 2 (.cst (.int 1)))
 (.seq (.forN 3 (.ix (.var 0) (.cst (.int 0))) (.seq (.set 1 (.bin .add (.var 1) (.bin .mul (.bin .mul (.var 2) (.ix (.var 3) (.cst (.int 1)))) (.call i_whole_determinant1 [(.call i_without [(.slc (.var 0) (.cst (.int 1)) (.cst .non)),(.ix (.var 3) (.cst (.int 0)))])]))))
  (.seq (.set 2 (.neg (.var 2)))
  .nop)))
 (.seq (.ret (.var 1))
 .nop)))))
noncomputable def b_whole_determinant3(i_whole_determinant2 i_without:Nat):Sm :=
 (.seq (.ite (.cmp .eq (.bi .len [(.var 0)]) (.cst (.int 1))) (.seq (.ret (.ix (.ix (.var 0) (.cst (.int 0))) (.cst (.int 0))))
  .nop) .nop)
 (.seq (.set 1 (.cst (.int 0)))
 (.seq (.set 2 (.cst (.int 1)))
 (.seq (.forN 3 (.ix (.var 0) (.cst (.int 0))) (.seq (.set 1 (.bin .add (.var 1) (.bin .mul (.bin .mul (.var 2) (.ix (.var 3) (.cst (.int 1)))) (.call i_whole_determinant2 [(.call i_without [(.slc (.var 0) (.cst (.int 1)) (.cst .non)),(.ix (.var 3) (.cst (.int 0)))])]))))
  (.seq (.set 2 (.neg (.var 2)))
  .nop)))
 (.seq (.ret (.var 1))
 .nop)))))
noncomputable def b_whole_determinant4(i_whole_determinant3 i_without:Nat):Sm :=
 (.seq (.ite (.cmp .eq (.bi .len [(.var 0)]) (.cst (.int 1))) (.seq (.ret (.ix (.ix (.var 0) (.cst (.int 0))) (.cst (.int 0))))
  .nop) .nop)
 (.seq (.set 1 (.cst (.int 0)))
 (.seq (.set 2 (.cst (.int 1)))
 (.seq (.forN 3 (.ix (.var 0) (.cst (.int 0))) (.seq (.set 1 (.bin .add (.var 1) (.bin .mul (.bin .mul (.var 2) (.ix (.var 3) (.cst (.int 1)))) (.call i_whole_determinant3 [(.call i_without [(.slc (.var 0) (.cst (.int 1)) (.cst .non)),(.ix (.var 3) (.cst (.int 0)))])]))))
  (.seq (.set 2 (.neg (.var 2)))
  .nop)))
 (.seq (.ret (.var 1))
 .nop)))))
noncomputable def b_determinant(i_least_power i_one_by_one i_whole_determinant4 i_rows_in_steps i_value i_one_form:Nat):Sm :=
 (.seq (.set 1 (.call i_least_power [(.call i_one_by_one [(.var 0)])]))
 (.seq (.set 2 (.call i_whole_determinant4 [(.call i_rows_in_steps [(.var 0),(.var 1)])]))
 (.seq (.ret (.call i_value [(.call i_one_form [(.tup [(.var 2),(.bin .mul (.bi .len [(.var 0)]) (.var 1))])])]))
 .nop)))
noncomputable def wo(M:List (List Int))(j:Nat):List (List Int):=M.map fun r=>r.take j++r.drop (j+1)
noncomputable def sgn(j:Nat):Int:=1-2*((j%2:Nat):Int)
theorem sgn_succ(j:Nat):sgn (j+1)=-sgn j:=by unfold sgn;omega
theorem sgn_bits(j:Nat):bits (sgn j)<=1:=by
 have:sgn j=1\/sgn j=-1:=by unfold sgn;omega
 rcases this with e|e<;>rw[e]<;>decide
noncomputable def jD:Nat->List (List Int)->Int
 |0,M=>(M.getD 0 []).getD 0 0
 |n+1,M=>((K3 (n+2)).map fun j=>sgn j*(M.getD 0 []).getD j 0*jD n (wo (M.drop 1) j)).sum
structure Rect (m n B:Nat) (M:List (List Int)):Prop where
 len:M.length=m
 row:∀r∈M,r.length=n
 b:∀r∈M,∀x∈r,bits x<=B
theorem Rect.wo{m n B:Nat}{M:List (List Int)}(h:Rect m (n+1) B M){j:Nat}(hj:j<n+1):Rect m n B (wo M j):=by
 refine⟨by unfold J45.wo;rw[KP];exact h.len,fun r hr=>?_,fun r hr x hx=>?_⟩
 ·obtain⟨q,hq,rfl⟩:=K7.mp hr;have:=h.row q hq;rw[K9,Q6,Xz];lia
 ·obtain⟨q,hq,rfl⟩:=K7.mp hr;rcases QA.mp hx with z|z
  ·exact h.b q hq x (XV z)
  ·exact h.b q hq x (QV z)
theorem Rect.tail{m n B:Nat}{M:List (List Int)}(h:Rect (m+1) n B M):Rect m n B (M.drop 1) :=
 ⟨by rw[Xz,h.len];lia,fun r hr=>h.row r (QV hr),fun r hr=>h.b r (QV hr)⟩
theorem xH{α:Type}{M:List α}{d:α}(h:0<M.length):M.getD 0 d∈M:=by rw[K40.getD_at h];exact QJ h
theorem uu{B:Nat}{r:List Int}(h:∀x∈r,bits x<=B)(j:Nat):bits (r.getD j 0)<=B:=by
 rcases Qd j r.length with z|z
 ·rw[K40.getD_at z];exact h _ (QJ z)
 ·rw[Um,KT z];exact XB _
noncomputable def dB(B:Nat):Nat->Nat
 |0=>B
 |n+1=>B+dB B n+1+(n+2)
theorem zo{B:Nat}:∀(n:Nat) {M:List (List Int)},Rect (n+1) (n+1) B M->bits (jD n M)<=dB B n
 |0,M,h=>by
  have h0:0<M.length:=by rw[h.len];decide
  exact uu (h.b _ (xH h0)) 0
 |n+1,M,h=>by
  have h0:0<M.length:=by rw[h.len];lia
  unfold jD
  have:=bits_sum (B:=B+dB B n+1) (l:=(K3 (n+2)).map fun j=>sgn j*(M.getD 0 []).getD j 0*jD n (wo (M.drop 1) j)) fun x hx=>by
   obtain⟨j,hj,rfl⟩:=K7.mp hx;have hj:=Xh.mp hj;have a:=zo n (h.tail.wo hj);have b:=uu (h.b _ (xH (d:=[]) h0)) j;have c:=sgn_bits j;have d:=k9 (sgn j) ((M.getD 0 []).getD j 0);have e:=k9 (sgn j*(M.getD 0 []).getD j 0) (jD n (wo (M.drop 1) j));lia
  rw[KP,ZJ]at this;unfold dB;lia
noncomputable def qk(k:Nat):Ctr where
 pre ds:=∃n M,ds=[wD M]/\Rect (n+1) (n+1) 400 M/\n+1<=k/\k<=4
 res ds d:=∀n M,ds=[wD M]->M.length=n+1->d=.int (jD n M)
theorem w1{M N:List (List Int)}(h:[wD M]=[wD N]):M=N:=Js (UA h).1
theorem wp_det{k n:Nat}{M:List (List Int)}{Q:D->Prop}{E:XD->Prop}(h:Rect (n+1) (n+1) 400 M)(hk:n+1<=k)(k4:k<=4):(qk k).wp [wD M] Q E ↔ Q (.int (jD n M)) :=
 ⟨fun w=>w.2.1 _ fun n' M' e l=>by
  have e:=w1 e;subst e
  have:n=n':=by have:=h.len;lia
  subst this
  rfl,fun q=>⟨⟨n,M,rfl,h,hk,k4⟩,fun d hd=>by rw[hd n M rfl h.len];exact q,fun _ z=>z.elim⟩⟩
theorem at_w{M:List (List Int)}{i:Nat}(h:i<M.length):atD (M.map fun r=>D.lst (r.map .int)) (i:Int)=some (.lst ((M.getD i []).map .int)):=by
 unfold atD;rw[if_pos (by lia),Qm,Qg,KU h,K40.getD_at h];rfl
theorem Jb{r:List Int}{i:Nat}(h:i<r.length):atD (r.map .int) (i:Int)=some (.int (r.getD i 0)):=by
 unfold atD;rw[if_pos (by lia),Qm,Qg,KU h,K40.getD_at h];rfl
theorem cut_to{α:Type}{f:α->D}{r:List α}{j:Nat}(h:j<=r.length):ui (r.map f) none (some (j:Int))=(r.take j).map f:=by
 unfold ui;have e1:sIx (r.map f).length 0 none=0:=rfl;rw[e1,KP,uJ,Ub h,QZ,Nat.sub_zero,List.map_take]
theorem zv{α:Type}{f:α->D}{r:List α}{j:Nat}(h:j<=r.length):ui (r.map f) (some (j:Int)) none=(r.drop j).map f:=by
 unfold ui;have e1:sIx (r.map f).length (r.map f).length none=(r.map f).length:=rfl;rw[e1,KP,uJ,Ub h,List.take_of_length_le (by rw[Xz,KP];exact K6 _),Uz]
noncomputable def c_without:Ctr where
 pre ds:=∃(M:List (List Int)) (j:Nat),ds=[wD M,.int j]/\M.length<=200/\∀r∈M,j<r.length/\r.length<=200
 res ds d:=∀(M:List (List Int)) (j:Nat),ds=[wD M,.int j]->d=wD (wo M j)
theorem wo_row{r:List Int}{j:Nat}{Q:D->Prop}(hj:j<r.length)(hl:r.length<=200):xI .add (.lst (ui (r.map .int) none (some (j:Int)))) (.lst (ui (r.map .int) (some ((j:Int)+1)) none)) Q ↔ Q (.lst ((r.take j++r.drop (j+1)).map .int)):=by
 rw[cut_to (by lia),show ((j:Int)+1)=((j+1:Nat):Int) by push_cast;rfl,zv (by lia),bin_addl,Qw];refine and_iff_right ?_;rw[KP,KP,Q6,Xz];unfold lim;lia
theorem k_without{C:Cfg}:jS C 2 b_without c_without:=by
 rintro ds ⟨M,j,rfl,hl,g⟩;rw[b_without,wD];simp_all! only[KP];refine⟨by unfold lim;lia,?_⟩
 rw[jJ (g:=fun r:List Int=>D.lst (r.map .int)) (h:=fun r=>D.lst ((r.take j++r.drop (j+1)).map .int)) (fun r hr Q=>by
  obtain⟨a,b⟩:=g r hr
  have w:=fun Q=>wo_row (Q:=Q) a b
  simp only[wE_bin,wE_slc,wE_var,wE_cst,getS,prt,kY,Ka,slD,bin_add,Option.bind]
  dsimp! only[prt,kY,Ka,slD,yg,w])]
 intro M' j' e;simp only[Qj,D.int.injEq,and_true]at e;have e1:=Js e.1
 have e2:j=j':=by lia
 subst e1 e2;unfold wD wo;rw[Qr];rfl
theorem wp_without{M:List (List Int)}{j:Nat}{Q:D->Prop}{E:XD->Prop}(hl:M.length<=200)(g:∀r∈M,j<r.length/\r.length<=200):c_without.wp [wD M,.int j] Q E ↔ Q (wD (wo M j)) :=
 ⟨fun w=>w.2.1 _ fun M' j' e=>by
  simp only[Qj,D.int.injEq,and_true]at e;have e1:=Js e.1
  have e2:j=j':=by lia
  subst e1 e2
  rfl,fun q=>⟨⟨M,j,rfl,hl,g⟩,fun d h=>by rw[h M j rfl];exact q,fun _ z=>z.elim⟩⟩
noncomputable def trm(n:Nat)(M:List (List Int))(j:Nat):Int:=sgn j*(M.getD 0 []).getD j 0*jD n (wo (M.drop 1) j)
theorem det_succ(n:Nat)(M:List (List Int)):jD (n+1) M=((K3 (n+2)).map (trm n M)).sum:=rfl
theorem xg(f:Nat->Int)(j:Nat):((K3 (j+1)).map f).sum=((K3 j).map f).sum+f j:=by
 rw[Yo,Qw,XI];simp
theorem enm_ints(l:List Int):enmD (l.map .int)=(Zy 0 l.length).map fun j=>.tup [.int (j:Nat),.int (l.getD j 0)]:=by
 unfold enmD
 refine List.ext_getElem (by simp) fun i h1 h2=>?_
 simp only[KP,List.length_zipIdx]at h1;rw[XN,XN,List.getElem_zipIdx,List.getElem_range',XN,K40.getD_at (by lia)];simp
structure Step (k n:Nat) (M:List (List Int)):Prop where
 r:Rect (n+2) (n+2) 400 M
 k1:n+1<=k
 k4:k<=3
theorem Step.h0{k n:Nat}{M:List (List Int)}(g:Step k n M):0<M.length:=by rw[g.r.len];lia
theorem dB_le{n:Nat}(h:n<=3):dB 400 n<=1700:=by
 have:n=0\/n=1\/n=2\/n=3:=by omega
 rcases this with rfl|rfl|rfl|rfl<;>decide
theorem Step.bx{k n:Nat}{M:List (List Int)}(g:Step k n M)(j:Nat):bits ((M.getD 0 []).getD j 0)<=400:=uu (g.r.b _ (xH (d:=[]) g.h0)) j
theorem Step.bd{k n:Nat}{M:List (List Int)}(g:Step k n M){j:Nat}(hj:j<n+2):bits (jD n (wo (M.drop 1) j))<=1700:=by
 have:=zo n (g.r.tail.wo hj);have:=dB_le (n:=n) (by have:=g.k1;have:=g.k4;lia);lia
theorem Step.len0{k n:Nat}{M:List (List Int)}(g:Step k n M):(M.getD 0 []).length=n+2:=g.r.row _ (xH (d:=[]) g.h0)
theorem Step.at0{k n:Nat}{M:List (List Int)}(g:Step k n M):atD (M.map fun r=>D.lst (r.map .int)) 0=some (.lst ((M.getD 0 []).map .int)):=at_w (i:=0) g.h0
theorem Step.cut{k n:Nat}{M:List (List Int)}(g:Step k n M):D.lst (ui (M.map fun r=>D.lst (r.map .int)) (some 1) none)=wD (M.drop 1):=by
 have:=zv (f:=fun r:List Int=>D.lst (r.map .int)) (r:=M) (j:=1) (by have:=g.h0;lia);rw[show (some (1:Int))=some ((1:Nat):Int) from rfl,this];rfl
theorem Step.wo{k n:Nat}{M:List (List Int)}(g:Step k n M){j:Nat}(hj:j<n+2):(M.drop 1).length<=200/\∀r∈M.drop 1,j<r.length/\r.length<=200:=by
 have:=g.k1;have:=g.k4;refine⟨by rw[g.r.tail.len];lia,fun r hr=>?_⟩;rw[g.r.tail.row r hr];lia
theorem det_one{C:Cfg}{M:List (List Int)}{b:Sm}{K:DE}{l:Sto}(h:Rect 1 1 400 M)(q:K.rt (.int (jD 0 M))) :
 wpS C (.seq (.ite (.cmp .eq (.bi .len [(.var 0)]) (.cst (.int 1))) (.seq (.ret (.ix (.ix (.var 0) (.cst (.int 0))) (.cst (.int 0)))) .nop) .nop) b) K (some (.sh (wD M))::l):=by
 have h0:0<M.length:=by rw[h.len];decide
 have a0:atD (M.map fun r=>D.lst (r.map .int)) 0=some (.lst ((M.getD 0 []).map .int)):=at_w (i:=0) h0;have a1:atD ((M.getD 0 []).map .int) 0=some (.int ((M.getD 0 []).getD 0 0)):=Jb (i:=0) (by rw[h.row _ (xH (d:=[]) h0)];decide);have l1:=h.len;rw[jI,kF,wD];dsimp! only[KP,l1];simp_all! only[a0,a1];exact q
theorem det_more{C:Cfg}{n:Nat}{M:List (List Int)}{b:Sm}{K:DE}{l:Sto}(h:Rect (n+2) (n+2) 400 M)(q:wpS C b K (some (.sh (wD M))::l)) :
 wpS C (.seq (.ite (.cmp .eq (.bi .len [(.var 0)]) (.cst (.int 1))) (.seq (.ret (.ix (.ix (.var 0) (.cst (.int 0))) (.cst (.int 0)))) .nop) .nop) b) K (some (.sh (wD M))::l):=by
 refine guard ?_ q;have l1:=h.len
 have l2:¬ ((n+2:Nat):Int)=1:=by lia
 rw[wD];dsimp! only[KP,l1,l2];simp;lia
theorem k_det1{C:Cfg}:jS C 4 b_whole_determinant1 (qk 1):=by
 rintro ds ⟨n,M,rfl,h,k1,_⟩
 have:n=0:=by lia
 subst this;rw[b_whole_determinant1]
 refine det_one h fun n' M' e l=>?_
 have e:=w1 e;subst e
 have:n'=0:=by have:=h.len;lia
 subst this;rfl
theorem k_det{C:Cfg}{i1 i2 k:Nat}(h1:C.ct i1=qk k)(h2:C.ct i2=c_without)(k3:k<=3):jS C 4 (b_whole_determinant2 i1 i2) (qk (k+1)):=by
 rintro ds ⟨n,M,rfl,h,k1,_⟩
 have fin:∀d,d=.int (jD n M)->(qk (k+1)).res [wD M] d:=fun d hd n' M' e l=>by
  have e:=w1 e;subst e
  have:n'=n:=by have:=h.len;lia
  subst this;exact hd
 rw[b_whole_determinant2]
 cases n with
 |zero=>exact det_one h (fin _ rfl)
 |succ n =>
  have g:Step k n M:=⟨h,by lia,k3⟩
  refine det_more h ?_;simp_all! only[]
  let S (j:Nat) (a:Option Sl):Sto:=[some (.sh (wD M)),some (.sh (.int ((K3 j).map (trm n M)).sum)),some (.sh (.int (sgn j))),a]
  refine jW (fun σ=>∃a,σ=S (n+2) a) ?_ ?_
  ·rw[ws_forN];have a0:=g.at0;dsimp! only[wD,a0];rw[enm_ints,g.len0];refine qP (fun ds σ=>∃(j:Nat) (a:Option Sl),(j<=n+2/\ds=(Zy j (n+2-j)).map fun j=>.tup [.int (j:Nat),.int ((M.getD 0 []).getD j 0)])/\σ=S j a) ⟨0,none,⟨by lia,rfl⟩,rfl⟩ ?_ ?_
   ·rintro d ds σ ⟨j,a,⟨hj,hd⟩,rfl⟩
    have hlt:j<n+2:=by
     rcases Qd j (n+2) with z|z
     ·exact z
     ·rw[show n+2-j=0 by lia]at hd;cases hd
    rw[show n+2-j=(n+2-(j+1))+1 by lia,Y8,K1,Qj]at hd;obtain⟨rfl,rfl⟩:=hd;have bx:=g.bx j;have bd:=g.bd hlt;have bs:=sgn_bits j;have bm:=k9 (sgn j) ((M.getD 0 []).getD j 0);have m1:kH (sgn j) ((M.getD 0 []).getD j 0):=jE (by lia);have m2:kH (sgn j*(M.getD 0 []).getD j 0) (jD n (wo (M.drop 1) j)):=jE (by lia)
    have w1:=fun Q E=>wp_without (M:=M.drop 1) (j:=j) (Q:=Q) (E:=E) (g.wo hlt).1 (g.wo hlt).2
    have w2:=fun Q E=>wp_det (k:=k) (n:=n) (M:=wo (M.drop 1) j) (Q:=Q) (E:=E) (g.r.tail.wo hlt) g.k1 (by lia)
    have cu:=g.cut;simp only[S,wD];simp_all! only[prt,kY,Ka,slD,cu,h2,w1,h1,w2,m1,m2];rw[show ((K3 j).map (trm n M)).sum+sgn j*(M.getD 0 []).getD j 0*jD n (wo (M.drop 1) j)=((K3 (j+1)).map (trm n M)).sum from (xg (trm n M) j).symm,<- sgn_succ];exact⟨j+1,_,⟨by lia,rfl⟩,rfl⟩
   ·rintro σ ⟨j,a,⟨hj,hd⟩,rfl⟩
    have:j=n+2:=by
     rcases Qd j (n+2) with z|z
     ·rw[show n+2-j=(n+2-(j+1))+1 by lia,Y8]at hd;cases hd
     ·lia
    subst this;exact⟨a,rfl⟩
  rintro σ ⟨a,rfl⟩;simp only[S];simp_all! only[];exact fin _ rfl
theorem k_det2{C:Cfg}{i1 i2:Nat}(h1:C.ct i1=qk 1)(h2:C.ct i2=c_without):jS C 4 (b_whole_determinant2 i1 i2) (qk 2):=k_det h1 h2 (by decide)
theorem k_det3{C:Cfg}{i1 i2:Nat}(h1:C.ct i1=qk 2)(h2:C.ct i2=c_without):jS C 4 (b_whole_determinant3 i1 i2) (qk 3):=k_det h1 h2 (by decide)
theorem k_det4{C:Cfg}{i1 i2:Nat}(h1:C.ct i1=qk 3)(h2:C.ct i2=c_without):jS C 4 (b_whole_determinant4 i1 i2) (qk 4):=k_det h1 h2 (by decide)
structure SqT (n:Nat) (T:List (List (Int×Int))):Prop where
 n1:1<=n
 n4:n<=4
 len:T.length=n
 row:∀r∈T,r.length=n
 sm:∀r∈T,∀x∈r,SmallP x
structure IsMin (T:List (List (Int×Int))) (low:Int):Prop where
 le:∀r∈T,∀x∈r,low<=x.2
 at_:∃r∈T,∃x∈r,x.2=low
theorem IsMin.uni{T:List (List (Int×Int))}{a b:Int}(h:IsMin T a)(g:IsMin T b):a=b:=by
 obtain⟨r,hr,x,hx,e⟩:=h.at_;obtain⟨q,hq,y,hy,f⟩:=g.at_;have:=h.le q hq y hy;have:=g.le r hr x hx;lia
noncomputable def wh(low:Int)(T:List (List (Int×Int))):List (List Int):=T.map fun r=>r.map (atW low)
noncomputable def detQ(n:Nat)(low:Int)(T:List (List (Int×Int))):Rat:=vr (jD (n-1) (wh low T),n*low)
theorem SqT.ne{n:Nat}{T:List (List (Int×Int))}(g:SqT n T):T ≠ []:=by intro z;have:=g.len;rw[z]at this;have:=g.n1;simp at *;lia
theorem SqT.small{n:Nat}{T:List (List (Int×Int))}(g:SqT n T):∀r∈T,Smalls r:=fun r hr=>⟨by rw[g.row r hr];have:=g.n4;lia,g.sm r hr⟩
theorem SqT.rect{n:Nat}{T:List (List (Int×Int))}{low:Int}(g:SqT n T)(l:-130<=low):Rect n n 400 (wh low T):=by
 refine⟨by unfold wh;rw[KP];exact g.len,fun r hr=>?_,fun r hr x hx=>?_⟩
 ·obtain⟨q,hq,rfl⟩:=K7.mp hr;rw[KP];exact g.row q hq
 ·obtain⟨q,hq,rfl⟩:=K7.mp hr;obtain⟨y,hy,rfl⟩:=K7.mp hx;have:=zK (low:=low) (g.sm q hq y hy) l;lia
theorem IsMin.b{n:Nat}{T:List (List (Int×Int))}{low:Int}(h:IsMin T low)(g:SqT n T):-130<=low/\low<=130:=by
 obtain⟨r,hr,x,hx,e⟩:=h.at_;have s:=g.sm r hr x hx;have:=s.lo;have:=s.hi;lia
theorem KC:∀(T:List (List (Int×Int))) {n:Nat},(∀r∈T,r.length=n)->T.flatten.length=T.length*n
 |[],n,_=>by simp
 |r::T,n,h=>by rw[Xw,K9,KC T fun x hx=>h x (KR _ hx),h r (K0 ..),Xc,Nat.succ_mul];lia
noncomputable def c_determinant:Ctr where
 pre ds:=∃n T,ds=[tabD T]/\SqT n T
 res ds d:=∀n T,ds=[tabD T]->SqT n T->∃low,IsMin T low/\d=rq (detQ n low T)
theorem k_determinant{C:Cfg}{i1 i2 i3 i4 i5 i6:Nat}(h1:C.ct i1=c_least_power)(h2:C.ct i2=c_one_by_one)(h3:C.ct i3=qk 4)(h4:C.ct i4=c_rows_in_steps)(h5:C.ct i5=xO)(h6:C.ct i6=q5):jS C 3 (b_determinant i1 i2 i3 i4 i5 i6) c_determinant:=by
 rintro ds ⟨n,T,rfl,g⟩;have n1:=g.n1;have n4:=g.n4;have fl:=KC T g.row;rw[g.len]at fl;have f16:n*n<=4*4:=Y3 n4 n4;have f1:1*1<=n*n:=Y3 n1 n1
 have wo:=fun Q E=>wp_obo (rows:=T) (Q:=Q) (E:=E) (by lia)
 have ne:T.flatten ≠ []:=by intro z;rw[z]at fl;simp at fl;lia
 have few2:T.flatten.length<=200:=by lia
 rw[b_determinant];simp_all! only[h2,wo,h1,c_least_power,wp_1,ne,few2];obtain⟨p1,p2⟩:=uR (d:=0) (ns:=T.flatten.map (·.2));generalize mmF false 0 (T.flatten.map (·.2))=low at *
 have m:IsMin T low:=by
  refine⟨fun r hr x hx=>p1 _ (K7.mpr ⟨x,Y9.mpr ⟨r,hr,hx⟩,rfl⟩),?_⟩;rcases p2 with z|z
  ·obtain⟨x,hx,e⟩:=K7.mp z;obtain⟨r,hr,hx⟩:=Y9.mp hx;exact⟨r,hr,x,hx,e⟩
  ·exact absurd (Ze.mp z.1) ne
 obtain⟨l1,l2⟩:=m.b g
 have wr:=fun Q E=>wp_ris (rows:=T) (p:=low) (Q:=Q) (E:=E) (by rw[g.len];lia) g.small (by lia) m.le
 have rect:=g.rect l1
 have en:n-1+1=n:=by lia
 have wd:=fun Q E=>wp_det (k:=4) (n:=n-1) (M:=wh low T) (Q:=Q) (E:=E) (by rw[en];exact rect) (by lia) (by decide)
 have bd:=zo (n-1) (M:=wh low T) (by rw[en];exact rect);have bd2:=dB_le (n:=n-1) (by lia);simp_all! only[h4,wr,h3];rw[show (T.map fun r=>r.map (atW low))=wh low T from rfl,wd];have mo:kH (n:Int) low:=.inl (by have:=jk (i:=(n:Int)) (n:=10);have:=this.mpr (by omega);lia)
 have lenT:biD .len [tabD T]=fun Q=>Q (.int (n:Int)):=by
  funext Q;show Q (.int ((T.map fun r=>D.lst (r.map nq)).length:Int))=_;rw[KP,g.len]
 simp_all! only[lenT,mo,mk_nq]
 let t:Int×Int:=(jD (n-1) (wh low T),(n:Int)*low)
 have bt:bits t.1<=1700:=by show bits (jD (n-1) (wh low T))<=1700;lia
 have tp:-520<=t.2/\t.2<=520:=by
  show -520<=(n:Int)*low/\(n:Int)*low<=520
  have:n=1\/n=2\/n=3\/n=4:=by omega
  rcases this with rfl|rfl|rfl|rfl<;>omega
 have ed:dq (vr t)=jO t.1 t.2:=by rw[zM];rfl
 have bb:=qu t.1 t.2;have hn:=bb.num (jk.mp bt);have hp:=bb.pow (jk.mp bt)
 have v2:=fun Q E=>wp_value2 (Q:=Q) (E:=E) (x:=dq (vr t)) (by rw[ed];exact uo _ _) (by rw[ed];have:=jk.mpr hn.sz;lia) (by rw[ed];lia) (by rw[ed];lia)
 have ev:vr (dq (vr t))=vr t:=by rw[ed,q0];rfl
 rw[show ((jD (n-1) (wh low T),(n:Int)*low):Int×Int)=t from rfl];simp_all! only[h5,h6,q5,wp_P0,v2,ev];intro n' T' e g';have e:=xT (r:=T) e;subst e
 have:n'=n:=by have:=g.len;have:=g'.len;lia
 subst this;exact⟨low,m,rfl⟩
noncomputable def c_det1:Ctr:=qk 1
noncomputable def c_det2:Ctr:=qk 2
noncomputable def c_det3:Ctr:=qk 3
noncomputable def c_det4:Ctr:=qk 4
end Z.J45
set_option exponentiation.threshold 3000
namespace Z.L45
open PySem Z Z.K42 Z.K40 Z.J51 Z.J45
theorem l1{α:Type}{l:List α}(h:l.length=1):∃a,l=[a]:=by
 match l,h with
 |[a],_=>exact⟨a,rfl⟩
theorem l2{α:Type}{l:List α}(h:l.length=2):∃a b,l=[a,b]:=by
 match l,h with
 |[a,b],_=>exact⟨a,b,rfl⟩
theorem l3{α:Type}{l:List α}(h:l.length=3):∃a b c,l=[a,b,c]:=by
 match l,h with
 |[a,b,c],_=>exact⟨a,b,c,rfl⟩
theorem l4{α:Type}{l:List α}(h:l.length=4):∃a b c d,l=[a,b,c,d]:=by
 match l,h with
 |[a,b,c,d],_=>exact⟨a,b,c,d,rfl⟩
theorem sg0:sgn 0=1:=by decide
theorem sg1:sgn 1=-1:=by decide
theorem sg2:sgn 2=1:=by decide
theorem sg3:sgn 3=-1:=by decide
theorem rg2:K3 2=[0,1]:=rfl
theorem rg3:K3 3=[0,1,2]:=rfl
theorem rg4:K3 4=[0,1,2,3]:=rfl
theorem d1(a:Int):jD 0 [[a]]=a:=rfl
theorem d2(a b c d:Int):jD 1 [[a,b],[c,d]]=a*d-b*c:=by
 show ((K3 2).map _).sum=_;rw[rg2];simp only[K1,QP,X7,YI,sg0,sg1,wo,QL,QZ,Xk,Ye,Qo,Qb,List.drop_nil,d1,QM,QN]
 grind
theorem d3(a b c d e f g h i:Int):jD 2 [[a,b,c],[d,e,f],[g,h,i]]=a*(e*i-f*h)-b*(d*i-f*g)+c*(d*h-e*g):=by
 show ((K3 3).map _).sum=_;rw[rg3];simp only[K1,QP,X7,YI,sg0,sg1,sg2,wo,QL,QZ,Xk,Ye,Qo,Qb,List.drop_nil,d2,QM,QN]
 grind
noncomputable def D3(a b c d e f g h i:Int):Int:=a*(e*i-f*h)-b*(d*i-f*g)+c*(d*h-e*g)
theorem d4(a b c d e f g h i j k l m n o p:Int):jD 3 [[a,b,c,d],[e,f,g,h],[i,j,k,l],[m,n,o,p]]=a*D3 f g h j k l n o p-b*D3 e g h i k l m o p+c*D3 e f h i j l m n p-d*D3 e f g i j k m n o:=by
 show ((K3 4).map _).sum=_;rw[rg4];simp only[K1,QP,X7,YI,sg0,sg1,sg2,sg3,wo,QL,QZ,Xk,Ye,Qo,Qb,List.drop_nil,d3,QM,QN];unfold D3
 grind
end Z.L45
set_option exponentiation.threshold 3000
namespace Z.L46
open PySem Z Z.K42 Z.K40 Z.J51 Z.J45 Z.L45
theorem wo_at{r:List Int}{c k:Nat}(hc:c<r.length):(r.take c++r.drop (c+1)).getD k 0=if k<c then r.getD k 0 else r.getD (k+1) 0:=by
 simp only[KY];rcases Qd k c with h|h
 ·rw[if_pos h,Qt (by rw[Q6];omega),Yv h]
 ·rw[if_neg (by omega),Qs (by rw[Q6];omega),Q6,Uv];congr 2;omega
theorem sum_zero{l:List Int}(h:∀x∈l,x=0):l.sum=0:=by
 induction l with
 |nil=>rfl
 |cons a l ih=>rw[X7,h a (K0 ..),ih fun x hx=>h x (KR _ hx)];rfl
theorem head_of{M:List (List Int)}(h:0<M.length):M.getD 0 []∈M:=xH h
theorem det_nil:∀(n:Nat) {M:List (List Int)} {c:Nat},M.length=n+1->(∀r∈M,r.length=n+1)->c<n+1->(∀r∈M,r.getD c 0=0)->jD n M=0
 |0,M,c,hl,hr,hc,hz=>by
  have:c=0:=by omega
  subst this
  exact hz _ (head_of (by omega))
 |n+1,M,c,hl,hr,hc,hz=>by
  rw[det_succ]
  refine sum_zero fun x hx=>?_
  obtain⟨j,hj,rfl⟩:=K7.mp hx;have hj:=Xh.mp hj;unfold trm;by_cases e:j=c
  ·subst e;rw[hz _ (head_of (by omega)),ZK,Int.zero_mul]
  ·have:jD n (wo (M.drop 1) j)=0:=by
    refine det_nil n (c:=if c<j then c else c-1) (by unfold wo;simp;omega) (fun r h=>?_) (by split<;>omega) fun r h=>?_
    ·obtain⟨q,hq,rfl⟩:=K7.mp h;have:=hr q (QV hq);simp;omega
    ·obtain⟨q,hq,rfl⟩:=K7.mp h;have hq:=QV hq;rw[wo_at (by rw[hr q hq];omega)];by_cases h1:c<j
     ·rw[if_pos h1,if_pos h1];exact hz q hq
     ·rw[if_neg h1,if_neg (by omega),show c-1+1=c by omega];exact hz q hq
   rw[this,ZK]
theorem sum_one{f:Nat->Int}{m c:Nat}(hc:c<m)(h:∀j,j<m->j≠c->f j=0):((K3 m).map f).sum=f c:=by
 induction m with
 |zero=>omega
 |succ m ih =>
  rw[xg];by_cases e:c=m
  ·subst e
   rw[sum_zero (l:=(K3 c).map f) fun x hx=>by
    obtain⟨j,hj,rfl⟩:=K7.mp hx;have:=Xh.mp hj
    exact h j (by omega) (by omega)]
   omega
  ·rw[ih (by omega) fun j hj=>h j (by omega),h m (by omega) (Xm e)];omega
theorem det_col{n c:Nat}{r:List Int}{R:List (List Int)}(hl:R.length=n+1)(h0:r.length=n+2)(hr:∀s∈R,s.length=n+2)(hc:c<n+2)(hz:∀s∈R,s.getD c 0=0):jD (n+1) (r::R)=sgn c*r.getD c 0*jD n (wo R c):=by
 rw[det_succ,sum_one hc fun j hj hne=>?_]
 ·rfl
 ·unfold trm
  have:jD n (wo R j)=0:=by
   refine det_nil n (c:=if c<j then c else c-1) (by unfold wo;simp;omega) (fun r h=>?_) (by split<;>omega) fun r h=>?_
   ·obtain⟨q,hq,rfl⟩:=K7.mp h;have:=hr q hq;simp;omega
   ·obtain⟨q,hq,rfl⟩:=K7.mp h;rw[wo_at (by rw[hr q hq];omega)];by_cases h1:c<j
    ·rw[if_pos h1,if_pos h1];exact hz q hq
    ·rw[if_neg h1,if_neg (by omega),show c-1+1=c by omega];exact hz q hq
  rw[show (r::R).drop 1=R from rfl,this,ZK]
theorem sgn_ne(j:Nat):sgn j≠0:=by unfold sgn;omega
noncomputable def Piv(n:Nat):List (List Int)->Prop
 |[]=>True
 |r::R=>(∃c,c<n/\r.getD c 0≠0/\∀s∈R,s.getD c 0=0)/\Piv n R
theorem piv_wo{n c:Nat}(hc:c<n+1):∀ {R:List (List Int)},(∀s∈R,s.length=n+1)->(∀s∈R,s.getD c 0=0)->Piv (n+1) R->Piv n (wo R c)
 |[],_,_,_=>trivial
 |r::R,hr,hz,⟨⟨k,k1,k2,k3⟩,h⟩=>by
  refine⟨⟨if k<c then k else k-1,?_,?_,fun s hs=>?_⟩,piv_wo hc (fun s hs=>hr s (KR _ hs)) (fun s hs=>hz s (KR _ hs)) h⟩
  all_goals have ne:k≠c:=fun e=>k2 (e ▸ hz r (K0 ..))
  ·split<;>omega
  ·rw[wo_at (by rw[hr r (K0 ..)];exact hc)];by_cases h1:k<c
   ·rw[if_pos h1,if_pos h1];exact k2
   ·rw[if_neg h1,if_neg (by omega),show k-1+1=k by omega];exact k2
  ·obtain⟨q,hq,rfl⟩:=K7.mp hs;rw[wo_at (by rw[hr q (KR _ hq)];exact hc)];by_cases h1:k<c
   ·rw[if_pos h1,if_pos h1];exact k3 q hq
   ·rw[if_neg h1,if_neg (by omega),show k-1+1=k by omega];exact k3 q hq
theorem piv_det:∀(n:Nat) {M:List (List Int)},M.length=n+1->(∀r∈M,r.length=n+1)->Piv (n+1) M->jD n M≠0
 |0,[r],hl,hr,⟨⟨c,c1,c2,_⟩,_⟩=>by
  have:c=0:=by omega
  subst this
  exact c2
 |n+1,r::R,hl,hr,⟨⟨c,c1,c2,c3⟩,h⟩=>by
  have hl:R.length=n+1:=by simpa using hl
  have hR:∀s∈R,s.length=n+2:=fun s hs=>hr s (KR _ hs)
  rw[det_col hl (hr r (K0 ..)) hR c1 c3];refine Zq (Zq (sgn_ne c) c2) (piv_det n (by unfold wo;simp;omega) (fun s hs=>?_) (piv_wo c1 hR c3 h));obtain⟨q,hq,rfl⟩:=K7.mp hs;have:=hR q hq;simp;omega
noncomputable def yN(β:Int)(x:List Int)(t:Int)(u:List Int):List Int:=List.zipWith (fun a b=>β*a-t*b) x u
theorem det_clr{n j:Nat}{U S:List (List Int)}{x:List Int}(hn:n=U.length+1+S.length)(n4:n<=4)(hU:∀r∈U,r.length=n)(hS:∀r∈S,r.length=n)(hx:x.length=n)(hj:j<U.length)(β t:Int) :
 jD (n-1) (U++yN β x t (U.getD j [])::S)=β*jD (n-1) (U++x::S):=by
 have:(U.length=1/\S.length=0)\/(U.length=1/\S.length=1)\/(U.length=2/\S.length=0)\/(U.length=1/\S.length=2)\/(U.length=2/\S.length=1)\/(U.length=3/\S.length=0):=by lia
 rcases this with⟨u,v⟩|⟨u,v⟩|⟨u,v⟩|⟨u,v⟩|⟨u,v⟩|⟨u,v⟩
 ·have e:n=2:=by lia
  subst e;obtain⟨u0,rfl⟩:=l1 u;obtain rfl:=YC v;obtain⟨u0a,u0b,rfl⟩:=l2 (hU u0 (by simp));obtain⟨xa,xb,rfl⟩:=l2 hx
  have:j=0:=by have:=hj;simp at this;lia
  rcases this with rfl <;>
  ·simp only[yN,QO,Q2,QU,QM,QN,Qb,Qo,Nat.reduceSub,d2]
   grind
 ·have e:n=3:=by lia
  subst e;obtain⟨u0,rfl⟩:=l1 u;obtain⟨s0,rfl⟩:=l1 v;obtain⟨u0a,u0b,u0c,rfl⟩:=l3 (hU u0 (by simp));obtain⟨s0a,s0b,s0c,rfl⟩:=l3 (hS s0 (by simp));obtain⟨xa,xb,xc,rfl⟩:=l3 hx
  have:j=0:=by have:=hj;simp at this;lia
  rcases this with rfl <;>
  ·simp only[yN,QO,Q2,QU,QM,QN,Qb,Qo,Nat.reduceSub,d3]
   grind
 ·have e:n=3:=by lia
  subst e;obtain⟨u0,u1,rfl⟩:=l2 u;obtain rfl:=YC v;obtain⟨u0a,u0b,u0c,rfl⟩:=l3 (hU u0 (by simp));obtain⟨u1a,u1b,u1c,rfl⟩:=l3 (hU u1 (by simp));obtain⟨xa,xb,xc,rfl⟩:=l3 hx
  have:j=0\/j=1:=by have:=hj;simp at this;lia
  rcases this with rfl|rfl <;>
  ·simp only[yN,QO,Q2,QU,QM,QN,Qb,Qo,Nat.reduceSub,d3]
   grind
 ·have e:n=4:=by lia
  subst e;obtain⟨u0,rfl⟩:=l1 u;obtain⟨s0,s1,rfl⟩:=l2 v;obtain⟨u0a,u0b,u0c,u0d,rfl⟩:=l4 (hU u0 (by simp));obtain⟨s0a,s0b,s0c,s0d,rfl⟩:=l4 (hS s0 (by simp));obtain⟨s1a,s1b,s1c,s1d,rfl⟩:=l4 (hS s1 (by simp));obtain⟨xa,xb,xc,xd,rfl⟩:=l4 hx
  have:j=0:=by have:=hj;simp at this;lia
  rcases this with rfl <;>
  ·simp only[yN,QO,Q2,QU,QM,QN,Qb,Qo,Nat.reduceSub,d4,D3]
   grind
 ·have e:n=4:=by lia
  subst e;obtain⟨u0,u1,rfl⟩:=l2 u;obtain⟨s0,rfl⟩:=l1 v;obtain⟨u0a,u0b,u0c,u0d,rfl⟩:=l4 (hU u0 (by simp));obtain⟨u1a,u1b,u1c,u1d,rfl⟩:=l4 (hU u1 (by simp));obtain⟨s0a,s0b,s0c,s0d,rfl⟩:=l4 (hS s0 (by simp));obtain⟨xa,xb,xc,xd,rfl⟩:=l4 hx
  have:j=0\/j=1:=by have:=hj;simp at this;lia
  rcases this with rfl|rfl <;>
  ·simp only[yN,QO,Q2,QU,QM,QN,Qb,Qo,Nat.reduceSub,d4,D3]
   grind
 ·have e:n=4:=by lia
  subst e;obtain⟨u0,u1,u2,rfl⟩:=l3 u;obtain rfl:=YC v;obtain⟨u0a,u0b,u0c,u0d,rfl⟩:=l4 (hU u0 (by simp));obtain⟨u1a,u1b,u1c,u1d,rfl⟩:=l4 (hU u1 (by simp));obtain⟨u2a,u2b,u2c,u2d,rfl⟩:=l4 (hU u2 (by simp));obtain⟨xa,xb,xc,xd,rfl⟩:=l4 hx
  have:j=0\/j=1\/j=2:=by have:=hj;simp at this;lia
  rcases this with rfl|rfl|rfl <;>
  ·simp only[yN,QO,Q2,QU,QM,QN,Qb,Qo,Nat.reduceSub,d4,D3]
   grind
noncomputable def yD(A:List (List Int))(j:Nat)(b:List Int):List (List Int):=List.zipWith (fun r x=>r.take j++x::r.drop (j+1)) A b
theorem cramer{n i:Nat}{A:List (List Int)}{b:List Int}(n1:1<=n)(n4:n<=4)(hl:A.length=n)(hA:∀r∈A,r.length=n)(hb:b.length=n)(hi:i<n) :
 ((K3 n).map fun j=>(A.getD i []).getD j 0*jD (n-1) (yD A j b)).sum=b.getD i 0*jD (n-1) A:=by
 have:n=1\/n=2\/n=3\/n=4:=by lia
 rcases this with rfl|rfl|rfl|rfl
 ·obtain⟨r0,rfl⟩:=l1 hl;obtain⟨r0a,rfl⟩:=l1 (hA r0 (by simp));obtain⟨ba,rfl⟩:=l1 hb
  have:i=0:=by lia
  rcases this with rfl <;>
  ·simp only[yD,Yo,Uc,Qo,Qw,K1,QP,XI,X7,YI,QO,Q2,QU,Xk,Ye,QL,QZ,Qb,QM,QN,Nat.reduceSub,d1]
   grind
 ·obtain⟨r0,r1,rfl⟩:=l2 hl;obtain⟨r0a,r0b,rfl⟩:=l2 (hA r0 (by simp));obtain⟨r1a,r1b,rfl⟩:=l2 (hA r1 (by simp));obtain⟨ba,bb,rfl⟩:=l2 hb
  have:i=0\/i=1:=by lia
  rcases this with rfl|rfl <;>
  ·simp only[yD,rg2,Yo,Uc,Qo,Qw,K1,QP,XI,X7,YI,QO,Q2,QU,Xk,Ye,QL,QZ,Qb,QM,QN,Nat.reduceSub,d2]
   grind
 ·obtain⟨r0,r1,r2,rfl⟩:=l3 hl;obtain⟨r0a,r0b,r0c,rfl⟩:=l3 (hA r0 (by simp));obtain⟨r1a,r1b,r1c,rfl⟩:=l3 (hA r1 (by simp));obtain⟨r2a,r2b,r2c,rfl⟩:=l3 (hA r2 (by simp));obtain⟨ba,bb,bc,rfl⟩:=l3 hb
  have:i=0\/i=1\/i=2:=by lia
  rcases this with rfl|rfl|rfl <;>
  ·simp only[yD,rg3,Yo,Uc,Qo,Qw,K1,QP,XI,X7,YI,QO,Q2,QU,Xk,Ye,QL,QZ,Qb,QM,QN,Nat.reduceSub,d3]
   grind
 ·obtain⟨r0,r1,r2,r3,rfl⟩:=l4 hl;obtain⟨r0a,r0b,r0c,r0d,rfl⟩:=l4 (hA r0 (by simp));obtain⟨r1a,r1b,r1c,r1d,rfl⟩:=l4 (hA r1 (by simp));obtain⟨r2a,r2b,r2c,r2d,rfl⟩:=l4 (hA r2 (by simp));obtain⟨r3a,r3b,r3c,r3d,rfl⟩:=l4 (hA r3 (by simp));obtain⟨ba,bb,bc,bd,rfl⟩:=l4 hb
  have:i=0\/i=1\/i=2\/i=3:=by lia
  rcases this with rfl|rfl|rfl|rfl <;>
  ·simp only[yD,rg4,Yo,Uc,Qo,Qw,K1,QP,XI,X7,YI,QO,Q2,QU,Xk,Ye,QL,QZ,Qb,QM,QN,Nat.reduceSub,d4,D3]
   grind
noncomputable def fnn(l:List Int):Nat:=l.findIdx fun x=>x != 0
theorem vJ{l:List Int}(h:fnn l<l.length):l.getD (fnn l) 0≠0:=by
 have:=List.findIdx_getElem (p:=fun x:Int=>x != 0) (xs:=l) (w:=h);rw[K40.getD_at h];intro z;have t:(l[fnn l] != 0)=true:=this;rw[z]at t;cases t
theorem fnn_lt{l:List Int}{i:Nat}(h:i<fnn l):l.getD i 0=0:=by
 have hl:fnn l<=l.length:=List.findIdx_le_length;rw[K40.getD_at (by omega)];have:=List.not_of_lt_findIdx (p:=fun x:Int=>x != 0) (xs:=l) h;simpa using this
theorem fnn_of{l:List Int}{i:Nat}(h:l.getD i 0≠0):fnn l<=i:=by
 rcases Qd i (fnn l) with z|z
 ·exact absurd (fnn_lt z) h
 ·exact z
theorem fnn_in{l:List Int}{i:Nat}(h:l.getD i 0≠0):fnn l<l.length:=by
 have:=fnn_of h
 have:i<l.length:=by
  rcases Qd i l.length with z|z
  ·exact z
  ·rw[Um,KT z]at h;exact absurd rfl h
 omega
noncomputable def clr(x b:List Int):List Int:=yN (b.getD (fnn b) 0) x (x.getD (fnn b) 0) b
theorem yG{β t:Int}{x u:List Int}(h:x.length=u.length)(k:Nat):(yN β x t u).getD k 0=β*x.getD k 0-t*u.getD k 0:=by
 unfold yN;simp only[KY,List.getElem?_zipWith];rcases Qd k x.length with z|z
 ·rw[KU z,KU (by omega)];rfl
 ·rw[KT z,KT (by omega)];simp
theorem lin2_len{β t:Int}{x u:List Int}(h:x.length=u.length):(yN β x t u).length=x.length:=by unfold yN;rw[List.length_zipWith];omega
noncomputable def Cmb(n:Nat)(A:List (List Int))(x:List Int):Prop:=∀c,c<n->x.getD c 0=((K3 n).map fun i=>x.getD (n+i) 0*(A.getD i []).getD c 0).sum
theorem sum_lin(f g:Nat->Int)(a b:Int)(n:Nat):((K3 n).map fun i=>a*f i-b*g i).sum=a*((K3 n).map f).sum-b*((K3 n).map g).sum:=by
 induction n with
 |zero=>simp
 |succ n ih=>rw[xg,xg,xg,ih];grind
theorem Cmb.lin{n:Nat}{A:List (List Int)}{x u:List Int}{β t:Int}(hx:Cmb n A x)(hu:Cmb n A u)(h:x.length=u.length):Cmb n A (yN β x t u):=by
 intro c hc;rw[yG h,hx c hc,hu c hc,<- sum_lin];congr 1
 refine QK fun i _=>?_
 rw[yG h]
 grind
noncomputable def wgt(A:List (List Int))(k:Nat):List Int:=A.getD k []++(K3 A.length).map fun j=>if j=k then 1 else 0
theorem wgt_r{A:List (List Int)}{n k i:Nat}(hl:A.length=n)(hr:(A.getD k []).length=n)(hi:i<n):(wgt A k).getD (n+i) 0=if i=k then 1 else 0:=by
 unfold wgt;simp only[KY];rw[Qs (by simp[KY]at hr;omega)];simp only[KY]at hr;rw[hr,hl,Nat.add_sub_cancel_left,Qg,List.getElem?_range hi];rfl
theorem wgt_l{A:List (List Int)}{n k i:Nat}(hr:(A.getD k []).length=n)(hi:i<n):(wgt A k).getD i 0=(A.getD k []).getD i 0:=by
 unfold wgt;rw[KY,Qt (by omega),<- KY]
theorem wgt_cmb{A:List (List Int)}{n k:Nat}(hl:A.length=n)(hr:(A.getD k []).length=n)(hk:k<n):Cmb n A (wgt A k):=by
 intro c hc;rw[wgt_l hr hc,sum_one hk fun j hj hne=>by rw[wgt_r hl hr hj,if_neg hne,Int.zero_mul]];rw[wgt_r hl hr hk,if_pos rfl,Z0]
structure Bas (n:Nat) (A:List (List Int)) (B:List (List Int)):Prop where
 len:∀b∈B,b.length=2*n
 cmb:∀b∈B,Cmb n A b
 piv:∀b∈B,fnn b<n
 zer:B.Pairwise fun a b=>b.getD (fnn a) 0=0
 sup:∀b∈B,∀i,B.length<=i->i<n->b.getD (n+i) 0=0
 det:jD (n-1) (B.map (·.take n)++A.drop B.length)=0
 bit:∀i,i<B.length->∀j,bits ((B.getD i []).getD j 0)<=401*2^i-1
structure Row (n:Nat) (A B P:List (List Int)) (x:List Int):Prop where
 len:x.length=2*n
 cmb:Cmb n A x
 zer:∀a∈P,x.getD (fnn a) 0=0
 own:x.getD (n+B.length) 0≠0
 sup:∀i,B.length<i->i<n->x.getD (n+i) 0=0
 det:jD (n-1) (B.map (·.take n)++x.take n::A.drop (B.length+1))=0
 bit:∀j,bits (x.getD j 0)<=401*2^P.length-1
structure SqA (n:Nat) (A:List (List Int)):Prop where
 n1:1<=n
 n4:n<=4
 len:A.length=n
 row:∀r∈A,r.length=n
 bit:∀r∈A,∀x∈r,bits x<=400
theorem SqA.at_{n k:Nat}{A:List (List Int)}(g:SqA n A)(hk:k<n):A.getD k []∈A:=by
 have:=g.len;rw[K40.getD_at (by omega)];exact QJ _
theorem Row.start{n:Nat}{A B:List (List Int)}(g:SqA n A)(b:Bas n A B)(hk:B.length<n):Row n A B [] (wgt A B.length):=by
 have hl:=g.len;have hr:=g.row _ (g.at_ hk);refine⟨by unfold wgt;rw[K9,KP,ZJ,hr,hl];omega,wgt_cmb hl hr hk,fun _ z=>by simp at z,by rw[wgt_r hl hr hk,if_pos rfl];decide,fun i h1 h2=>by rw[wgt_r hl hr h2,if_neg (by omega)],?_,fun j=>?_⟩
 ·have e:(wgt A B.length).take n=A.getD B.length []:=by unfold wgt;rw[List.take_append_of_le_length (by omega),List.take_of_length_le (by omega)]
  have d:=b.det;rw[QS (by omega)]at d;rw[e,K40.getD_at (by omega)];exact d
 ·show _<=400;rcases Qd j n with z|z
  ·rw[wgt_l hr z];exact uu (g.bit _ (g.at_ hk)) j
  ·obtain⟨i,rfl⟩:∃i,j=n+i:=⟨j-n,by omega⟩
   rcases Qd i n with y|y
   ·rw[wgt_r hl hr y]
    split<;>decide
   ·rw[Um,KT (by unfold wgt;rw[K9,KP,ZJ,hr,hl];omega)];decide
theorem Row.step{n:Nat}{A B P R:List (List Int)}{x b:List Int}(g:SqA n A)(bs:Bas n A B)(hB:B=P++b::R)(r:Row n A B P x)(hk:B.length<n):Row n A B (P ++ [b]) (clr x b):=by
 have hb:b∈B:=by rw[hB];simp
 have hl:x.length=b.length:=by rw[r.len,bs.len b hb]
 have hp:=bs.piv b hb;have ne:b.getD (fnn b) 0≠0:=vJ (by rw[bs.len b hb];omega)
 have zz:∀a∈P,b.getD (fnn a) 0=0:=fun a ha=>by
  have:=bs.zer;rw[hB,List.pairwise_append]at this;exact this.2.2 a ha b (by simp)
 refine⟨by unfold clr;rw[lin2_len hl];exact r.len,r.cmb.lin (bs.cmb b hb) hl,fun a ha=>?_,?_,fun i h1 h2=>?_,?_,fun j=>?_⟩
 ·unfold clr;rw[yG hl];rcases QA.mp ha with z|z
  ·rw[r.zer a z,zz a z];omega
  ·rw[Qz.mp z];grind
 ·unfold clr;rw[yG hl,bs.sup b hb _ (K6 _) hk];have:=Zq ne r.own;omega
 ·unfold clr;rw[yG hl,bs.sup b hb _ (by omega) h2,r.sup i h1 h2];omega
 ·have e:(clr x b).take n=yN (b.getD (fnn b) 0) (x.take n) (x.getD (fnn b) 0) ((B.map (·.take n)).getD P.length []):=by
   have:(B.map (·.take n)).getD P.length []=b.take n:=by
    rw[hB,Qw,K1,KY,Qs (by rw[KP];omega),KP,Za];rfl
   rw[this];unfold clr yN;rw[List.take_zipWith]
  have hl2:=g.len
  have h1:∀q∈B.map (·.take n),q.length=n:=fun q hq=>by
   obtain⟨y,hy,rfl⟩:=K7.mp hq;rw[Q6,bs.len y hy];omega
  have h2:(x.take n).length=n:=by rw[Q6,r.len];omega
  rw[e,det_clr (by rw[KP,Xz];omega) g.n4 h1 (fun q hq=>g.row q (QV hq)) h2 (by rw[KP,hB];simp),r.det,ZK]
 ·unfold clr;rw[yG hl,K9,XJ]
  have eb:b=B.getD P.length []:=by rw[hB,KY,Qs (K6 _),Za];rfl
  have b1:=bs.bit P.length (by rw[hB];simp) (fnn b);have b2:=bs.bit P.length (by rw[hB];simp) j;rw[<- eb]at b1 b2;have c1:=r.bit j;have c2:=r.bit (fnn b);have m1:=k9 (b.getD (fnn b) 0) (x.getD j 0);have m2:=k9 (x.getD (fnn b) 0) (b.getD j 0)
  have pw:401*2^(P.length+1)=2*(401*2^P.length):=by rw[XQ];omega
  have p0:0<401*2^P.length:=Nat.mul_pos (by decide) (Nat.pow_pos (by decide));have sb:=bits_sub (b.getD (fnn b) 0*x.getD j 0) (x.getD (fnn b) 0*b.getD j 0);omega
theorem Bas.nil{n:Nat}{A:List (List Int)}(g:SqA n A)(h:jD (n-1) A=0):Bas n A []:=⟨fun _ z=>by simp at z,fun _ z=>by simp at z,fun _ z=>by simp at z,.nil,fun _ z=>by simp at z,h,fun i h=>by simp at h⟩
theorem Bas.grow{n:Nat}{A B:List (List Int)}{x:List Int}(g:SqA n A)(bs:Bas n A B)(r:Row n A B B x)(hk:B.length<n)(hp:fnn x<n):Bas n A (B ++ [x]):=by
 refine⟨fun b hb=>?_,fun b hb=>?_,fun b hb=>?_,?_,fun b hb i h1 h2=>?_,?_,fun i hi j=>?_⟩
 ·rcases QA.mp hb with z|z
  ·exact bs.len b z
  ·rw[Qz.mp z];exact r.len
 ·rcases QA.mp hb with z|z
  ·exact bs.cmb b z
  ·rw[Qz.mp z];exact r.cmb
 ·rcases QA.mp hb with z|z
  ·exact bs.piv b z
  ·rw[Qz.mp z];exact hp
 ·rw[List.pairwise_append];exact⟨bs.zer,List.pairwise_singleton ..,fun a ha b hb=>by rw[Qz.mp hb];exact r.zer a ha⟩
 ·rw[K9,XJ]at h1;rcases QA.mp hb with z|z
  ·exact bs.sup b z i (by omega) h2
  ·rw[Qz.mp z];exact r.sup i (by omega) h2
 ·rw[Qw,K9,Ys];exact r.det
 ·rw[K9,XJ]at hi;rcases Qd i B.length with z|z
  ·have e:(B ++ [x]).getD i []=B.getD i []:=by rw[KY,Qt z,<- KY]
   rw[e];exact bs.bit i z j
  ·have:i=B.length:=by omega
   subst this
   have e:(B ++ [x]).getD B.length []=x:=by rw[KY,Qs (K6 _),Za];rfl
   rw[e];exact r.bit j
theorem piv_of{n:Nat}:∀ {B:List (List Int)},(∀b∈B,b.length=2*n)->(∀b∈B,fnn b<n)->B.Pairwise (fun a b=>b.getD (fnn a) 0=0)->Piv n (B.map (·.take n))
 |[],_,_,_=>trivial
 |b::B,hl,hp,hz=>by
  have tk:∀ {y:List Int} {c:Nat},c<n->(y.take n).getD c 0=y.getD c 0:=fun {y c} hc=>by rw[KY,Yv hc,<- KY]
  have hb:=hp b (K0 ..);rw[List.pairwise_cons]at hz;refine⟨⟨fnn b,hb,?_,fun s hs=>?_⟩,piv_of (fun y hy=>hl y (KR _ hy)) (fun y hy=>hp y (KR _ hy)) hz.2⟩
  ·show (b.take n).getD (fnn b) 0≠0;rw[tk hb];exact vJ (by rw[hl b (K0 ..)];omega)
  ·obtain⟨y,hy,rfl⟩:=K7.mp hs;rw[tk hb];exact hz.1 y hy
theorem Bas.lt{n:Nat}{A B:List (List Int)}(g:SqA n A)(bs:Bas n A B):B.length≠n:=fun e=>by
 have d:=bs.det;have n1:=g.n1;have hl:=g.len;rw[e,ZE (by omega),Qu]at d
 obtain⟨m,rfl⟩:∃m,n=m+1:=⟨n-1,by omega⟩
 refine piv_det m (by rw[KP];exact e) (fun r hr=>?_) (piv_of bs.len bs.piv bs.zer) d;obtain⟨y,hy,rfl⟩:=K7.mp hr;rw[Q6,bs.len y hy];omega
theorem Row.found{n:Nat}{A B P:List (List Int)}{x:List Int}(g:SqA n A)(r:Row n A B P x)(hk:B.length<n)(hp:n<=fnn x) :
 (x.drop n).length=n/\(∃i,i<n/\(x.drop n).getD i 0≠0)/\∀c,c<n->((K3 n).map fun i=>(x.drop n).getD i 0*(A.getD i []).getD c 0).sum=0:=by
 have dr:∀i,(x.drop n).getD i 0=x.getD (n+i) 0:=fun i=>by rw[KY,Uv,<- KY]
 refine⟨by rw[Xz,r.len];omega,⟨B.length,hk,by rw[dr];exact r.own⟩,fun c hc=>?_⟩;have:=r.cmb c hc;rw[fnn_lt (by omega)]at this;simp only[dr];exact this.symm
end Z.L46
set_option exponentiation.threshold 3000
namespace Z.K45
open PySem Z Z.K42 Z.K40 Z.J51 Z.J45 Z.L45
noncomputable def b_law_square(i_law_row i_law_drawn i_law_cell i_law_bare:Nat):Sm :=
 (.seq (.set 4 (.call i_law_row [(.var 0),(.var 1),(.bin .mul (.var 2) (.var 2)),(.var 3)]))
 (.seq (.ownG 5 (.compR [(.var 2)] (.slc (.var 4) (.bin .mul (.var 10) (.var 2)) (.bin .mul (.bin .add (.var 10) (.cst (.int 1))) (.var 2)))))
 (.seq (.set 6 (.call i_law_drawn [(.call i_law_cell [(.var 0),(.var 1)]),(.cst (.int 104))]))
 (.seq (.ite (.cmp .eq (.bin .mod (.var 6) (.cst (.int 3))) (.cst (.int 0))) (.seq (.ownG 5 (.compR [(.var 2)] (.compR [(.var 2)] (.call i_law_bare [(.bin .sub (.bin .mod (.bin .fdiv (.bin .fdiv (.var 6) (.cst (.int 8))) (.bin .add (.bin .add (.bin .mul (.var 10) (.var 2)) (.var 11)) (.cst (.int 1)))) (.cst (.int 7))) (.cst (.int 3))),(.cst (.int 0))]))))
  .nop) .nop)
 (.seq (.ite (.and (.cmp .eq (.bin .mod (.var 6) (.cst (.int 4))) (.cst (.int 1))) (.cmp .gt (.var 2) (.cst (.int 1)))) (.seq (.set 7 (.bin .mod (.bin .fdiv (.var 6) (.cst (.int 16))) (.var 2)))
  (.seq (.hlfT 5)
  (.seq (.set 8 (.oix 5 (.bin .mod (.bin .add (.bin .add (.var 7) (.cst (.int 1))) (.bin .mod (.bin .fdiv (.var 6) (.cst (.int 64))) (.bin .sub (.var 2) (.cst (.int 1))))) (.var 2))))
  (.seq (.sto 5 (.var 7) (.compE (.var 8) (.tup [(.bin .mul (.ix (.var 10) (.cst (.int 0))) (.bin .sub (.cst (.int 1)) (.bin .mul (.cst (.int 2)) (.bin .mod (.bin .fdiv (.var 6) (.cst (.int 256))) (.cst (.int 2)))))),(.ix (.var 10) (.cst (.int 1)))])))
  .nop)))) .nop)
 (.seq (.ite (.and (.cmp .eq (.bin .mod (.var 6) (.cst (.int 4))) (.cst (.int 2))) (.cmp .gt (.var 2) (.cst (.int 1)))) (.seq (.set 9 (.bin .mod (.bin .fdiv (.var 6) (.cst (.int 16))) (.var 2)))
  (.seq (.forT 4 5 [(.sto none (.var 9) (.tup [(.cst (.int 0)),(.cst (.int 0))]))])
  .nop)) .nop)
 (.seq (.hlfT 5)
 (.seq (.retO 5)
 .nop))))))))
noncomputable def b_law_wholes:Sm :=
 (.seq (.set 1 (.bi .min [(.compE (.var 0) (.bi .min [(.compE (.var 2) (.ix (.var 3) (.cst (.int 1))))]))]))
 (.seq (.ret (.tup [(.compE (.var 0) (.compE (.var 2) (.bin .shl (.ix (.var 3) (.cst (.int 0))) (.bin .sub (.ix (.var 3) (.cst (.int 1))) (.var 1))))),(.var 1)]))
 .nop))
noncomputable def c_square:Ctr where
 pre ds:=∃(ns:List Int) (s:Int) (n w:Nat),ds=[.lst (ns.map .int),.int s,.int n,.int w]/\(ns.length<=63/\0<=s)/\(1<=n/\n<=4)/\8<=w/\w<=64
 res ds d:=∀(ns:List Int) (s:Int) (n w:Nat),ds=[.lst (ns.map .int),.int s,.int n,.int w]->∃T,SqT n T/\d=tabD T
theorem wp_square{ns:List Int}{s:Int}{n w:Nat}{Q:D->Prop}{E:XD->Prop}(hl:ns.length<=63)(hs:0<=s)(h:1<=n/\n<=4)(w1:8<=w)(w2:w<=64):c_square.wp [.lst (ns.map .int),.int s,.int n,.int w] Q E ↔ ∀T,SqT n T->Q (tabD T):=by
 constructor
 ·intro wp T g
  refine wp.2.1 _ fun ns' s' n' w' e=>?_
  simp only[Qj,D.int.injEq,and_true]at e;obtain⟨_,_,e1,_⟩:=e
  have e1:n=n':=by lia
  subst e1;exact⟨T,g,rfl⟩
 ·intro q;refine⟨⟨ns,s,n,w,rfl,⟨hl,hs⟩,h,w1,w2⟩,fun d hd=>?_,fun _ z=>z.elim⟩;obtain⟨T,g,rfl⟩:=hd ns s n w rfl;exact q T g
theorem set_sq{n i:Nat}{T:List (List (Int×Int))}{r:List (Int×Int)}(g:SqT n T)(h:r.length=n)(hx:∀x∈r,SmallP x):SqT n (T.set i r):=by
 refine⟨g.n1,g.n4,by rw[Xi];exact g.len,fun q hq=>?_,fun q hq=>?_⟩
 ·rcases Zc hq with z|z
  ·exact g.row q z
  ·rw[z];exact h
 ·rcases Zc hq with z|z
  ·exact g.sm q z
  ·rw[z];exact hx
theorem Jz{f:List D->(List D->Prop)->Prop}{F:List (Int×Int)->List (Int×Int)}:∀ {T:List (List (Int×Int))} {Q:List (List D)->Prop},(∀r∈T,∀Q,f (r.map nq) Q ↔ Q ((F r).map nq))->(zj f (T.map fun r=>r.map nq) Q ↔ Q ((T.map F).map fun r=>r.map nq))
 |[],Q,_=>Iff.rfl
 |r::T,Q,h=>by
  rw[K1,zj,h r (K0 ..),Jz fun x hx=>h x (KR _ hx)];rfl
theorem k_square{C:Cfg}{i1 i2 i3 i4:Nat}(h1:C.ct i1=c_row)(h2:C.ct i2=kE)(h3:C.ct i3=xV)(h4:C.ct i4=q9):KeepsF C 10 (b_law_square i1 i2 i3 i4) c_square:=by
 rintro ds ⟨ns,s,n,w,rfl,⟨hl,hs⟩,⟨n1,n4⟩,w1,w2⟩
 have eNA:(n:Int)*n=((n*n:Nat):Int):=by push_cast;rfl
 have n16:n*n<=4*4:=Y3 n4 n4;have bn:bits (n:Int)<=10:=jk.mpr (by omega)
 have mo:∀z:Int,bits z<=20->kH z n:=fun z hz=>jE (by lia)
 have moN:=mo n (by lia)
 have k3:(n:Int)*n<=1000:=by rw[eNA];lia
 have k4:-1000<=(n:Int)*n:=by rw[eNA];lia
 rw[b_law_square];simp_all! only[moN,h1,wp_row hl hs k3 k4 w1 w2];intro xs lx hx
 have lx:xs.length=n*n:=by rw[lx,eNA,Qm]
 simp_all! only[wpG];refine⟨rfl,rfl,by unfold kQ;lia,by rw[xf];simp;unfold lim;lia,?_⟩
 rw[Qm,zF (h:=fun i=>((xs.drop (i*n)).take n).map nq) (fun i hi Q=>by
  have m1:=mo i (jk.mpr (by omega));have m2:=mo ((i:Int)+1) (jk.mpr (by omega));have c:=cut_row lx hi
  dsimp! only[m1,m2,prt,kY,Ka,slD,yg,c])]
 rw[h2,h3,Kx hl hs];intro c;rw[zL];intro m m0 m1
 let S (z4:Option Sl) (z5:Sl) (x7 x8 x9:Option Sl):Sto:=[some (.sh (.lst (ns.map .int))),some (.sh (.int s)),some (.sh (.int n)),some (.sh (.int w)),z4,some z5,some (.sh (.int m)),x7,x8,x9]
 let OT (T:List (List (Int×Int))):Sl:=.ot (T.map fun r=>r.map nq)
 let OW (T:List (List (Int×Int))):Sl:=.ow (T.map fun r=>D.lst (r.map nq))
 have rl:∀(f:Nat->List (Int×Int)),(∀i,i<n->(f i).length=n)->(∀i,i<n->∀x∈f i,SmallP x)->SqT n ((K3 n).map f):=fun f h g=>by
  refine⟨n1,n4,by simp,fun r hr=>?_,fun r hr x hx=>?_⟩
  ·obtain⟨i,hi,rfl⟩:=K7.mp hr;exact h i (Xh.mp hi)
  ·obtain⟨i,hi,rfl⟩:=K7.mp hr;exact g i (Xh.mp hi) x hx
 have g0:SqT n ((K3 n).map fun i=>(xs.drop (i*n)).take n):=rl _ (fun i hi=>by
  have h1:(i+1)*n<=n*n:=YX n hi;have ex:(i+1)*n=i*n+n:=Nat.succ_mul i n;rw[Q6,Xz]
  lia) fun i hi x hx'=>(hx x (QV (XV hx'))).small w2
 have rg:kQ (n:Int):=by unfold kQ;lia
 have rgl:(jP 0 1 n).length<=lim:=by rw[xf];simp;unfold lim;lia
 refine jW (fun σ=>∃T,SqT n T/\σ=S (some (.sh (.lst (xs.map nq)))) (OT T) none none none) ?_ ?_
 ·rw[kF];dsimp! only[];by_cases c1:m.fmod 3=0
  ·rw[if_pos c1];simp_all! only[wpG,Qm,rg,rgl];refine⟨rfl,rfl,?_⟩
   let lf (i p:Nat):Int×Int:=dq ((((m / 8).fdiv ((i:Int)*n+p+1))%7-3:Int)*tw 0)
   rw[zF (h:=fun i=>((K3 n).map (lf i)).map nq) (fun i hi Q=>by
    dsimp! only[Qm,rg,rgl]
    rw[qC (h:=fun p=>nq (lf i p)) (fun p hp Q=>by
     have m1:=mo i (jk.mpr (by omega))
     have in1:(i:Int)*n=((i*n:Nat):Int):=by push_cast;rfl
     have in2:i*n<=4*4:=Y3 (by lia) n4
     have f1:¬ (i:Int)*n+p+1=0:=by rw[in1];lia
     have f2:bits ((i:Int)*n+p+1)<=9000:=Qx (jk (n:=10).mpr (by rw[in1];omega)) (by decide)
     have f8:bits (8:Int)<=9000:=by decide
     have e8:m.fdiv 8=m / 8:=kg (by decide)
     have e7:∀z:Int,z.fmod 7=z%7:=fun z=>jA (by decide)
     have wb:=fun Q E=>Kg (w:=((m / 8).fdiv ((i:Int)*n+p+1))%7-3) (p:=0) (Q:=Q) (E:=E) (Qx (jk (n:=4).mpr (by generalize (m / 8).fdiv ((i:Int)*n+p+1)=z;omega)) (by decide))
     dsimp! only[m1,f1,f2,f8,e8,e7,h4,wb]
     rfl),Qr]
    rfl)]
   rw[show ((K3 n).map fun i=>((K3 n).map (lf i)).map nq)=((K3 n).map fun i=>(K3 n).map (lf i)).map fun r=>r.map nq by rw[Qr];rfl];refine⟨(K3 n).map fun i=>(K3 n).map (lf i),rl _ (fun i hi=>by simp) (fun i hi x hx=>?_),rfl⟩;obtain⟨p,_,rfl⟩:=K7.mp hx;show SmallP (dq _);rw[<- zM];generalize (m / 8).fdiv ((i:Int)*n+p+1)=z
   have hz:(z%7-3).natAbs<2^12:=by omega
   have b:=qu (z%7-3) 0;have s:=(b.num hz).sz;have q:=b.pow hz
   refine⟨jk.mpr (by omega),?_,?_⟩<;>omega
  ·rw[if_neg c1,qK];refine⟨_,g0,?_⟩;simp only[S,OT,Qr];rfl
 rintro σ ⟨T,g,rfl⟩;refine jW (fun σ=>∃T z5 x7 x8,SqT n T/\(z5=OT T\/(m%4=1/\z5=OW T))/\σ=S (some (.sh (.lst (xs.map nq)))) z5 x7 x8 none) ?_ ?_
 ·rw[kF];have e4:m.fmod 4=m%4:=jA (by decide);simp only[S,OT];dsimp! only[e4];by_cases c1:m%4=1
  ·rw[if_pos c1];by_cases c2:(1:Int)<n
   ·simp_all! only[c2]
    obtain⟨a,ea,ha⟩:∃a:Nat,(m.fdiv 16).fmod n=(a:Int)/\a<n:=by
     rw[jA (by lia)];generalize m.fdiv 16=z;have:=Xy z (b:=n) (by lia);have:=Xg z (b:=n) (by lia);exact⟨(z%(n:Int)).toNat,by lia,by lia⟩
    obtain⟨o,eo,ho⟩:∃o:Nat,((m.fdiv 16).fmod n+1+(m.fdiv 64).fmod (n-1)).fmod n=(o:Int)/\o<n:=by
     rw[jA (b:=(n:Int)) (by lia)];generalize (m.fdiv 16).fmod n+1+(m.fdiv 64).fmod (n-1)=z;have:=Xy z (b:=n) (by lia);have:=Xg z (b:=n) (by lia);exact⟨(z%(n:Int)).toNat,by lia,by lia⟩
    obtain⟨sg,es,hs2⟩:∃sg:Int,1-2*(m.fdiv 256).fmod 2=sg/\(sg=1\/sg=-1):=by
     rw[jA (by decide)];generalize m.fdiv 256=z;exact⟨_,rfl,by omega⟩
    have lT:=g.len;have ao:=K40.at_row (rows:=T) (i:=o) (by lia);have go:=T.getD o []
    have om:T.getD o []∈T:=by rw[K40.getD_at (by lia)];exact QJ _
    rw[ea]at eo;rw[ea,eo,es,show (T.map fun r=>r.map nq).map D.lst=T.map fun r=>D.lst (r.map nq) by rw[Qr];rfl]
    have bsg:bits sg<=1:=by rcases hs2 with rfl|rfl<;>decide
    refine⟨by decide,by lia,by decide,by lia,by lia,_,ao,_,rfl,by rw[KP,g.row _ om];unfold lim;lia,?_⟩;have m2:kH 2 ((m.fdiv 256).fmod 2):=.inl (by decide)
    rw[jJ (g:=nq) (h:=fun x:Int×Int=>nq (x.1*sg,x.2)) (fun x hx' Q=>by
     have mx:kH x.1 sg:=jE (by have:=(g.sm _ om x hx').b;lia)
     have b256:bits (256:Int)<=9000:=by decide
     dsimp! only[yz,xS,b256,m2,mx]
     rfl)]
    rw[show (T.map fun r=>D.lst (r.map nq)).set (a:Int).toNat (D.lst ((T.getD o []).map fun x=>nq (x.1*sg,x.2)))=(T.set a ((T.getD o []).map fun x=>(x.1*sg,x.2))).map fun r=>D.lst (r.map nq) by rw[Qm,List.map_set,Qr];rfl];refine⟨⟨by lia,by rw[KP];lia⟩,T.set a ((T.getD o []).map fun x=>(x.1*sg,x.2)),_,_,_,set_sq g (by rw[KP];exact g.row _ om) (fun x hx'=>?_),.inr ⟨c1,rfl⟩,rfl⟩
    ·obtain⟨y,hy,rfl⟩:=K7.mp hx';have sy:=g.sm _ om y hy;refine⟨?_,sy.lo,sy.hi⟩;rcases hs2 with rfl|rfl
     ·simp only[Int.mul_one];exact sy.b
     ·simp only[Int.mul_neg,Int.mul_one,xC];exact sy.b
   ·simp only[c2,decide_false,Qk,if_false];rw[qK];exact⟨T,_,_,_,g,.inl rfl,rfl⟩
  ·rw[if_neg c1]
   try simp only[Qk,if_false]
   rw[qK];exact⟨T,_,_,_,g,.inl rfl,rfl⟩
 rintro σ ⟨T,z5,x7,x8,g,hz,rfl⟩;refine jW (fun σ=>∃T z4 z5 x7 x8 x9,SqT n T/\(z5=OT T\/z5=OW T)/\σ=S z4 z5 x7 x8 x9) ?_ ?_
 ·rw[kF];have e4:m.fmod 4=m%4:=jA (by decide);simp only[S];dsimp! only[e4]
  have idle:∀K:DE,K.nx (S (some (.sh (.lst (xs.map nq)))) z5 x7 x8 none)->wpS C .nop K (S (some (.sh (.lst (xs.map nq)))) z5 x7 x8 none):=fun K q=>by rw[qK];exact q
  by_cases c1:m%4=2
  ·rw[if_pos c1];by_cases c2:(1:Int)<n
   ·rcases hz with rfl|⟨z,_⟩
    ·simp only[OT];simp_all! only[c2]
     obtain⟨a,ea,ha⟩:∃a:Nat,(m.fdiv 16).fmod n=(a:Int)/\a<n:=by
      rw[jA (by lia)];generalize m.fdiv 16=z;have:=Xy z (b:=n) (by lia);have:=Xg z (b:=n) (by lia);exact⟨(z%(n:Int)).toNat,by lia,by lia⟩
     rw[ea];refine⟨by decide,by lia,?_⟩;rw[jI,ws_forT];simp_all! only[]
     rw[Jz (F:=fun r=>r.set a (0,0)) (fun r hr Q=>by
      have rn:=g.row r hr;simp only[wpR,wpR1];dsimp! only[stoR];rw[show D.tup [.int 0,.int 0]=nq (0,0) from rfl,Qm,KP,<- List.map_set]
      have:(0<=(a:Int)/\(a:Int)<r.length):=⟨by lia,by lia⟩
      simp only[this,true_and,and_true]
      exact⟨fun q=>q.2,fun q=>⟨rfl,q⟩⟩)]
     refine⟨T.map fun r=>r.set a (0,0),_,_,_,_,_,⟨n1,n4,by rw[KP];exact g.len,fun r hr=>?_,fun r hr x hx'=>?_⟩,.inl rfl,rfl⟩
     ·obtain⟨q,hq,rfl⟩:=K7.mp hr;rw[Xi];exact g.row q hq
     ·obtain⟨q,hq,rfl⟩:=K7.mp hr;rcases Zc hx' with z|z
      ·exact g.sm q hq x z
      ·subst z;exact⟨by decide,by decide,by decide⟩
    ·lia
   ·simp only[c2,decide_false,Qk,if_false];exact idle _ ⟨T,_,_,_,_,_,g,hz.imp id fun z=>z.2,rfl⟩
  ·rw[if_neg c1]
   try simp only[Qk,if_false]
   exact idle _ ⟨T,_,_,_,_,_,g,hz.imp id fun z=>z.2,rfl⟩
 rintro σ ⟨T,z4,z5,x7,x8,x9,g,hz,rfl⟩
 have fin:c_square.res [D.lst (ns.map .int),.int s,.int n,.int w] (.lst (T.map fun r=>D.lst (r.map nq))):=by
  intro ns' s' n' w' e;simp only[Qj,D.int.injEq,and_true]at e;obtain⟨_,_,e1,_⟩:=e
  have e1:n=n':=by lia
  subst e1;exact⟨T,g,rfl⟩
 rcases hz with rfl|rfl
 ·simp only[S,OT];simp_all! only[];rw[show (T.map fun r=>r.map nq).map D.lst=T.map fun r=>D.lst (r.map nq) by rw[Qr];rfl];exact fin
 ·simp only[S,OW];simp_all! only[];exact fin
end Z.K45
set_option exponentiation.threshold 3000
namespace Z.J46
open PySem Z Z.K42 Z.K40 Z.J51 Z.J45 Z.L45 Z.L46
noncomputable def b_first_not_nought:Sm :=
 (.seq (.set 1 (.cst (.int 0)))
 (.seq (.whl (.cmp .eq (.ix (.var 0) (.var 1)) (.cst (.int 0))) (.seq (.set 1 (.bin .add (.var 1) (.cst (.int 1))))
  .nop))
 (.seq (.ret (.var 1))
 .nop)))
noncomputable def b_cleared(i_first_not_nought:Nat):Sm :=
 (.seq (.set 2 (.call i_first_not_nought [(.var 1)]))
 (.seq (.ret (.compZ (.var 0) (.var 1) (.bin .sub (.bin .mul (.ix (.var 1) (.var 2)) (.ix (.var 3) (.cst (.int 0)))) (.bin .mul (.ix (.var 0) (.var 2)) (.ix (.var 3) (.cst (.int 1)))))))
 .nop))
noncomputable def b_in_lowest_terms(i_common_divisor i_first_not_nought:Nat):Sm :=
 (.seq (.set 1 (.cst (.int 0)))
 (.seq (.forE 2 (.var 0) (.seq (.set 1 (.call i_common_divisor [(.var 1),(.var 2)]))
  .nop))
 (.seq (.ite (.cmp .lt (.ix (.var 0) (.call i_first_not_nought [(.var 0)])) (.cst (.int 0))) (.seq (.set 1 (.neg (.var 1)))
  .nop) .nop)
 (.seq (.ret (.compE (.var 0) (.bin .fdiv (.var 3) (.var 1))))
 .nop))))
noncomputable def b_weighted:Sm :=
 (.seq (.ret (.bin .add (.ix (.var 0) (.var 1)) (.compR [(.bi .len [(.var 0)])] (.ife (.cmp .eq (.var 2) (.var 1)) (.cst (.int 1)) (.cst (.int 0))))))
 .nop)
noncomputable def b_put_in:Sm :=
 (.seq (.ret (.compZ (.var 0) (.var 2) (.bin .add (.bin .add (.slc (.ix (.var 3) (.cst (.int 0))) (.cst .non) (.var 1)) (.lst [(.ix (.var 3) (.cst (.int 1)))])) (.slc (.ix (.var 3) (.cst (.int 0))) (.bin .add (.var 1) (.cst (.int 1))) (.cst .non)))))
 .nop)
theorem rlen(lo st:Int):∀n:Nat,(jP lo st n).length=n
 |0=>rfl
 |n+1=>by
  show (jP (lo+st) st n).length+1=n+1;rw[rlen]
abbrev iD(l:List Int):D:=.lst (l.map .int)
theorem uZ{a b:List Int}(h:iD a=iD b):a=b:=by
 injection h with h;exact kB (fun x y e=>by injection e) h
noncomputable def c_fnn:Ctr where
 pre ds:=∃l:List Int,ds=[iD l]/\fnn l<l.length/\l.length<=200
 res ds d:=∀l:List Int,ds=[iD l]->d=.int (fnn l:Nat)
theorem k_fnn{C:Cfg}:jS C 2 b_first_not_nought c_fnn:=by
 rintro ds ⟨l,rfl,hf,hl⟩;rw[b_first_not_nought];simp_all! only[];refine jW (fun σ=>σ=[some (.sh (iD l)),some (.sh (.int (fnn l:Nat)))]) ?_ ?_
 ·refine vB (fun σ=>∃p:Nat,p<=fnn l/\σ=[some (.sh (iD l)),some (.sh (.int p))]) (fun σ=>300-(Jc σ 1).toNat) ⟨0,XB _,rfl⟩ ?_;rintro σ ⟨p,hp,rfl⟩;have a:=Jb (r:=l) (i:=p) (by lia);dsimp! only[a];by_cases hz:l.getD p 0=0
  ·rw[if_pos hz]
   have ne:p≠fnn l:=fun e=>vJ hf (by rw[<- e];exact hz)
   simp_all! only[];refine⟨?_,p+1,by lia,by simp⟩;simp only[Jc,getS];lia
  ·rw[if_neg hz];have:=fnn_of hz
   have:p=fnn l:=by lia
   subst this;rfl
 rintro σ rfl;simp_all! only[];intro l' e;rw[uZ (UA e).1]
theorem wp_fnn{l:List Int}{Q:D->Prop}{E:XD->Prop}(h:fnn l<l.length)(hl:l.length<=200):c_fnn.wp [iD l] Q E ↔ Q (.int (fnn l:Nat)) :=
 ⟨fun w=>w.2.1 _ fun l' e=>by rw[uZ (UA e).1],fun q=>⟨⟨l,rfl,h,hl⟩,fun d r=>by rw[r l rfl];exact q,fun _ z=>z.elim⟩⟩
theorem Kt{α β γ:Type}(f:α->β->γ):∀(a:List α) (b:List β),List.zipWith f a b=(a.zip b).map fun p=>f p.1 p.2
 |[],_=>rfl
 |_::_,[]=>rfl
 |x::a,y::b=>by rw[QO,Kt f a b];rfl
noncomputable def c_cleared:Ctr where
 pre ds:=∃x b:List Int,ds=[iD x,iD b]/\x.length=b.length/\fnn b<b.length/\b.length<=200/\(∀j,bits (x.getD j 0)<=4000)/\∀j,bits (b.getD j 0)<=4000
 res ds d:=∀x b:List Int,ds=[iD x,iD b]->d=iD (clr x b)
theorem injxb{x b x' b':List Int}(e:[iD x,iD b]=[iD x',iD b']):x=x'/\b=b':=by
 injection e with e1 e2;injection e2 with e2;exact⟨uZ e1,uZ e2⟩
theorem vO{l:List Int}{B:Nat}(h:∀j,bits (l.getD j 0)<=B):∀x∈l,bits x<=B:=fun x hx=>by
 obtain⟨i,hi,rfl⟩:=List.getElem_of_mem hx;rw[<- K40.getD_at (z:=0) hi];exact h i
theorem k_cleared{C:Cfg}{i:Nat}(h1:C.ct i=c_fnn):jS C 3 (b_cleared i) c_cleared:=by
 rintro ds ⟨x,b,rfl,hl,hf,h2,bx,bb⟩;rw[b_cleared]
 have w:=fun Q E=>wp_fnn (l:=b) (Q:=Q) (E:=E) hf h2
 simp_all! only[h1,w]
 have hz:(yU (x.map .int) (b.map .int)).length<=lim:=by
  rw[zip_ints,KP,List.length_zip];unfold lim;lia
 refine⟨_,_,⟨rfl,rfl⟩,hz,?_⟩;have a1:=Jb (r:=b) (i:=fnn b) hf;have a2:=Jb (r:=x) (i:=fnn b) (by lia)
 rw[zip_ints,jJ (h:=fun p:Int×Int=>D.int (b.getD (fnn b) 0*p.1-x.getD (fnn b) 0*p.2)) (fun p hp Q=>by
  have:=Yk hp;have m1:kH (b.getD (fnn b) 0) p.1:=jE (by have y:=vO bx _ this.1;have z:=bb (fnn b);lia);have m2:kH (x.getD (fnn b) 0) p.2:=jE (by have y:=vO bb _ this.2;have z:=bx (fnn b);lia)
  dsimp! only[a1,a2,m1,m2])]
 intro x' b' e;obtain⟨rfl,rfl⟩:=injxb e;unfold iD clr yN;rw[Kt,Qr];rfl
theorem wp_cleared{x b:List Int}{Q:D->Prop}{E:XD->Prop}(hl:x.length=b.length)(hf:fnn b<b.length)(h2:b.length<=200)(bx:∀j,bits (x.getD j 0)<=4000)(bb:∀j,bits (b.getD j 0)<=4000):c_cleared.wp [iD x,iD b] Q E ↔ Q (iD (clr x b)) :=
 ⟨fun w=>w.2.1 _ fun x' b' e=>by obtain⟨rfl,rfl⟩:=injxb e;rfl,fun q=>⟨⟨x,b,rfl,hl,hf,h2,bx,bb⟩,fun d r=>by rw[r x b rfl];exact q,fun _ z=>z.elim⟩⟩
noncomputable def c_weighted:Ctr where
 pre ds:=∃(n k:Nat) (A:List (List Int)),ds=[wD A,.int (k:Nat)]/\SqA n A/\k<n
 res ds d:=∀(k:Nat) (A:List (List Int)),ds=[wD A,.int (k:Nat)]->d=iD (wgt A k)
theorem injwk{A A':List (List Int)}{k k':Nat}(e:[wD A,D.int (k:Nat)]=[wD A',D.int (k':Nat)]):A=A'/\k=k':=by
 injection e with e1 e2;injection e2 with e2;injection e2 with e2;exact⟨Js e1,by lia⟩
theorem k_weighted{C:Cfg}:jS C 2 b_weighted c_weighted:=by
 rintro ds ⟨n,k,A,rfl,g,hk⟩;rw[b_weighted];have hl:=g.len;have n4:=g.n4;have hr:=g.row _ (g.at_ hk);have a:=at_w (M:=A) (i:=k) (by lia);simp_all! only[wD,a,KP];refine⟨by unfold kQ;lia,by rw[rlen];unfold lim;lia,?_⟩
 rw[Qm,qC (h:=fun j=>D.int (if j=k then 1 else 0)) (fun j hj Q=>by
  dsimp! only[];by_cases e:j=k
  ·subst e;simp
  ·have:¬ (j:Int)=k:=by lia
   simp[e,this])]
 dsimp! only[KP,ZJ];refine⟨by unfold lim;lia,?_⟩;intro k' A' e;obtain⟨rfl,rfl⟩:=injwk (A:=A) (k:=k) e;unfold iD wgt;rw[Qw,Qr];rfl
theorem wp_weighted{n k:Nat}{A:List (List Int)}{Q:D->Prop}{E:XD->Prop}(g:SqA n A)(hk:k<n):c_weighted.wp [wD A,.int (k:Nat)] Q E ↔ Q (iD (wgt A k)) :=
 ⟨fun w=>w.2.1 _ fun k' A' e=>by obtain⟨rfl,rfl⟩:=injwk e;rfl,fun q=>⟨⟨n,k,A,rfl,g,hk⟩,fun d r=>by rw[r k A rfl];exact q,fun _ z=>z.elim⟩⟩
noncomputable def c_put_in:Ctr where
 pre ds:=∃(n j:Nat) (A:List (List Int)) (b:List Int),ds=[wD A,.int (j:Nat),iD b]/\SqA n A/\b.length=n/\j<n
 res ds d:=∀(j:Nat) (A:List (List Int)) (b:List Int),ds=[wD A,.int (j:Nat),iD b]->d=wD (yD A j b)
theorem injp{A A':List (List Int)}{k k':Nat}{b b':List Int}(e:[wD A,D.int (k:Nat),iD b]=[wD A',D.int (k':Nat),iD b']):A=A'/\k=k'/\b=b':=by
 injection e with e1 e2;injection e2 with e2 e3;injection e2 with e2;injection e3 with e3;exact⟨Js e1,by lia,uZ e3⟩
theorem k_put_in{C:Cfg}:jS C 3 b_put_in c_put_in:=by
 rintro ds ⟨n,j,A,b,rfl,g,hb,hj⟩;rw[b_put_in];have hl:=g.len;have n4:=g.n4;simp_all! only[wD]
 have ez:yU (A.map fun r=>D.lst (r.map .int)) (b.map .int)=(A.zip b).map fun p=>.tup [iD p.1,.int p.2]:=by
  unfold yU;rw[List.zip_map,Qr];rfl
 refine⟨_,_,⟨rfl,rfl⟩,by rw[ez,KP,List.length_zip];unfold lim;lia,?_⟩
 rw[ez,jJ (h:=fun p:List Int×Int=>iD (p.1.take j++p.2::p.1.drop (j+1))) (fun p hp Q=>by
  have hm:=Yk hp;have hr:=g.row _ hm.1;have c1:=cut_to (f:=D.int) (r:=p.1) (j:=j) (by lia);have c2:=zv (f:=D.int) (r:=p.1) (j:=j+1) (by lia);rw[show ((j+1:Nat):Int)=(j:Int)+1 by lia]at c2;dsimp! only[kY,prt,Ka,slD,c1,c2,KP,K9,Q6,Xz]
  have l1:min j p.1.length+1<=lim:=by unfold lim;lia
  have l2:min j p.1.length+1+(p.1.length-(j+1))<=lim:=by unfold lim;lia
  rw[and_iff_right l1,and_iff_right l2,iD,Qw,K1,Ys,Qb,Qo])]
 intro j' A' b' e;obtain⟨rfl,rfl,rfl⟩:=injp (A:=A) (k:=j) (b:=b) e;unfold wD yD;rw[Kt,Qr];rfl
theorem wp_put_in{n j:Nat}{A:List (List Int)}{b:List Int}{Q:D->Prop}{E:XD->Prop}(g:SqA n A)(hb:b.length=n)(hj:j<n):c_put_in.wp [wD A,.int (j:Nat),iD b] Q E ↔ Q (wD (yD A j b)) :=
 ⟨fun w=>w.2.1 _ fun j' A' b' e=>by obtain⟨rfl,rfl,rfl⟩:=injp e;rfl,fun q=>⟨⟨n,j,A,b,rfl,g,hb,hj⟩,fun d r=>by rw[r j A b rfl];exact q,fun _ z=>z.elim⟩⟩
noncomputable def gL(l:List Int):Nat:=l.foldl (fun a x=>Xb a x) 0
theorem gL_fold(l:List Int)(g:Nat):l.foldl (fun a x=>Xb a x) g=Nat.gcd g (gL l):=by
 unfold gL
 induction l generalizing g with
 |nil=>simp
 |cons a l ih =>
  rw[YL,YL,ih,ih (Xb (0:Nat) a)]
  have e1:Xb (g:Nat) a=Nat.gcd g a.natAbs:=by unfold Xb;rw[YF]
  have e2:Xb ((0:Nat):Int) a=a.natAbs:=by unfold Xb;simp
  rw[e1,e2,Nat.gcd_assoc]
theorem Kn(a:Int)(l:List Int):gL (a::l)=Nat.gcd a.natAbs (gL l):=by
 show l.foldl _ (Xb (0:Nat) a)=_;rw[gL_fold];congr 1;unfold Xb;simp
theorem JM:∀ {l:List Int} {x:Int},x∈l->(gL l:Int) ∣ x
 |a::l,x,h=>by
  rw[Kn];rcases KS.mp h with rfl|h
  ·exact Int.ofNat_dvd_left.mpr (Nat.gcd_dvd_left ..)
  ·exact Int.dvd_trans (Int.natCast_dvd_natCast.mpr (Nat.gcd_dvd_right ..)) (JM h)
theorem gL_mul(k:Int):∀l:List Int,gL (l.map (k * ·))=k.natAbs*gL l
 |[]=>by simp[gL]
 |a::l=>by rw[K1,Kn,Kn,gL_mul k l,XF,Nat.gcd_mul_left]
theorem gL_pos{l:List Int}{x:Int}(h:x∈l)(hx:x≠0):0<gL l:=by
 rcases Uw (gL l) with z|z
 ·have:=JM h;rw[z]at this;exact absurd (Int.zero_dvd.mp this) hx
 ·exact z
structure Low (w u:List Int):Prop where
 len:u.length=w.length
 ex:∃s:Int,s≠0/\w=u.map (s * ·)
 one:gL u=1
 pos:0<u.getD (fnn u) 0
 bit:∀j,bits (u.getD j 0)<=4000
theorem fnn_mul{s:Int}(hs:s≠0)(u:List Int):fnn (u.map (s * ·))=fnn u:=by
 unfold fnn;rw[List.findIdx_map];congr 1;funext x;by_cases hx:x=0
 ·subst hx;simp
 ·have:=Zq hs hx;show (s*x != 0)=(x != 0);rw[bne_iff_ne.mpr this,bne_iff_ne.mpr hx]
theorem JY{w:List Int}(hf:fnn w<w.length)(hb:∀j,bits (w.getD j 0)<=4000){s:Int}(hs:s=if w.getD (fnn w) 0<0 then -(gL w:Int) else gL w):(s≠0/\∀x∈w,s ∣ x)/\Low w (w.map (· / s)):=by
 have ne:=vJ hf
 have mem:w.getD (fnn w) 0∈w:=by rw[K40.getD_at hf];exact QJ _
 have gp:=gL_pos mem ne
 have s0:s≠0:=by rw[hs];split<;>lia
 have sn:s.natAbs=gL w:=by rw[hs];split<;>simp
 have dv:∀x∈w,s ∣ x:=fun x hx=>Int.natAbs_dvd.mp (by rw[sn];exact JM hx)
 have e:w=(w.map (· / s)).map (s * ·):=by
  rw[Qr];refine(List.map_id' w).symm.trans (QK fun x hx=>?_);exact(Int.mul_ediv_cancel' (dv x hx)).symm
 refine⟨⟨s0,dv⟩,⟨by simp,⟨s,s0,e⟩,?_,?_,fun j=>?_⟩⟩
 ·have:=gL_mul s (w.map (· / s));rw[<- e,sn]at this
  have:gL w*1=gL w*gL (w.map (· / s)):=by lia
  exact(Nat.eq_of_mul_eq_mul_left gp this).symm
 ·have ef:=fnn_mul s0 (w.map (· / s));rw[<- e]at ef;rw[<- ef]
  have ga:(w.map (· / s)).getD (fnn w) 0=w.getD (fnn w) 0 / s:=by
   simp only[KY,Qg,KU hf];rfl
  rw[ga];obtain⟨k,hk⟩:=dv _ mem;rw[hk,Zn _ s0];rw[hk]at hs ne
  have k0:k≠0:=fun z=>ne (by rw[z,ZK])
  by_cases hn:s*k<0
  ·rw[if_pos hn]at hs
   have s1:s<0:=by lia
   rcases Int.lt_or_gt_of_ne k0 with z|z
   ·exact absurd (Int.mul_pos_of_neg_of_neg s1 z) (by lia)
   ·exact z
  ·rw[if_neg hn]at hs
   have s1:0<s:=by lia
   rcases Int.lt_or_gt_of_ne k0 with z|z
   ·exact absurd (Int.mul_neg_of_pos_of_neg s1 z) hn
   ·exact z
 ·rcases Qd j w.length with z|z
  ·have ga:(w.map (· / s)).getD j 0=w.getD j 0 / s:=by
    simp only[KY,Qg,KU z];rfl
   rw[ga];refine Qx (kl ?_) (hb j);exact Int.natAbs_ediv_le_natAbs ..
  ·rw[Um,KT (by simpa using z)];exact XB _
noncomputable def c_lowest:Ctr where
 pre ds:=∃w:List Int,ds=[iD w]/\fnn w<w.length/\w.length<=200/\∀j,bits (w.getD j 0)<=4000
 res ds d:=∀w:List Int,ds=[iD w]->∃u,d=iD u/\Low w u
theorem Kb(l:List Int)(x:Int):gL (l ++ [x])=Xb (gL l) x:=by unfold gL;rw[List.foldl_append];rfl
theorem gL_bits{w:List Int}(hf:fnn w<w.length)(hb:∀j,bits (w.getD j 0)<=4000):bits (gL w:Int)<=4000:=by
 refine Qx (kl ?_) (hb (fnn w))
 have mem:w.getD (fnn w) 0∈w:=by rw[K40.getD_at hf];exact QJ _
 have:=Int.natAbs_dvd_natAbs.mpr (JM mem);exact Nat.le_of_dvd (by have:=vJ hf;lia) this
theorem k_lowest{C:Cfg}{i j:Nat}(h1:C.ct i=jK)(h2:C.ct j=c_fnn):jS C 3 (b_in_lowest_terms i j) c_lowest:=by
 rintro ds ⟨w,rfl,hf,hl,hb⟩;rw[b_in_lowest_terms];simp_all! only[]
 let P:List D->Sto->Prop:=fun ds σ=>∃(zs ys:List Int) (a:Option Sl),(zs++ys=w/\ds=ys.map .int)/\σ=[some (.sh (iD w)),some (.sh (.int (gL zs:Nat))),a]
 refine jW (P []) ?_ ?_
 ·rw[uN]
  simp_arith only[]
  refine qP P ⟨[],w,_,⟨rfl,rfl⟩,rfl⟩ ?_ fun σ h=>h
  rintro _ ds σ ⟨zs,ys,a,⟨ha,hd⟩,rfl⟩
  cases ys with
  |nil=>simp at hd
  |cons y ys =>
   simp only[K1,Qj]at hd;obtain⟨rfl,rfl⟩:=hd
   simp_arith! only[h1,jK]
   exact⟨zs ++ [y],ys,_,⟨by rw[Ys];exact ha,rfl⟩,by rw[Kb]⟩
 rintro σ ⟨zs,ys,a,⟨ha,hd⟩,rfl⟩
 have:ys=[]:=by simpa using hd.symm
 subst this;rw[Qu]at ha;subst ha
 have wf:=fun Q E=>wp_fnn (l:=zs) (Q:=Q) (E:=E) hf hl
 have a1:=Jb (r:=zs) (i:=fnn zs) hf
 have fin:∀s:Int,(s=if zs.getD (fnn zs) 0<0 then -(gL zs:Int) else gL zs)->(zs.map D.int).length<=lim/\kI (fun d Q=>xI .fdiv d (.int s) Q) (zs.map .int) fun ys=>c_lowest.res [iD zs] (.lst ys):=fun s hs=>by
  obtain⟨⟨s0,dv⟩,lw⟩:=JY hf hb hs;have gb:=gL_bits hf hb
  have sb:bits s<=9000:=by
   have:bits s=bits (gL zs:Int):=by rw[hs];split;exact xC _;rfl
   lia
  refine⟨by rw[KP];unfold lim;lia,?_⟩;rw[jJ (h:=fun x:Int=>D.int (x.fdiv s)) (fun x hx Q=>by dsimp! only[s0,sb])];intro w' e;rw[<- uZ (UA e).1];refine⟨zs.map (· / s),?_,lw⟩;unfold iD;rw[Qr];congr 1
  exact QK fun x hx=>congrArg D.int (Int.fdiv_eq_ediv_of_dvd (dv x hx))
 rw[jI,kF];dsimp! only[h2,wf,a1];by_cases hn:zs.getD (fnn zs) 0<0
 ·rw[if_pos hn];simp_all! only[];exact fin _ (by rw[if_pos hn])
 ·rw[if_neg hn];simp_all! only[];exact fin _ (by rw[if_neg hn])
end Z.J46
set_option exponentiation.threshold 3000
namespace Z.J46
open PySem Z Z.K42 Z.K40 Z.J51 Z.J45 Z.L45 Z.L46
structure Wts (n:Nat) (A:List (List Int)) (u:List Int):Prop where
 len:u.length=n
 one:gL u=1
 pos:0<u.getD (fnn u) 0
 nil:∀c,c<n->((K3 n).map fun i=>u.getD i 0*(A.getD i []).getD c 0).sum=0
 bit:∀j,bits (u.getD j 0)<=4000
theorem vP(s:Int)(f:Nat->Int)(n:Nat):((K3 n).map fun i=>s*f i).sum=s*((K3 n).map f).sum:=by
 induction n with
 |zero=>simp
 |succ n ih=>rw[xg,xg,ih,Int.mul_add]
theorem wts_of{n:Nat}{A:List (List Int)}{w u:List Int}(hl:w.length=n)(hz:∀c,c<n->((K3 n).map fun i=>w.getD i 0*(A.getD i []).getD c 0).sum=0)(h:Low w u):Wts n A u:=by
 obtain⟨s,s0,e⟩:=h.ex;refine⟨by rw[h.len,hl],h.one,h.pos,fun c hc=>?_,h.bit⟩;have:=hz c hc
 have e2:((K3 n).map fun i=>w.getD i 0*(A.getD i []).getD c 0)=(K3 n).map fun i=>s*(u.getD i 0*(A.getD i []).getD c 0):=QK fun i hi=>by
  have:w.getD i 0=s*u.getD i 0:=by
   rw[e];simp only[KY,Qg]
   cases u[i]? <;> simp
  rw[this,Int.mul_assoc]
 rw[e2,vP]at this;rcases Int.mul_eq_zero.mp this with z|z
 ·exact absurd z s0
 ·exact z
noncomputable def c_weights:Ctr where
 pre ds:=∃n A,ds=[wD A]/\SqA n A/\jD (n-1) A=0
 res ds d:=∀n A,ds=[wD A]->SqA n A->∃u,d=iD u/\Wts n A u
noncomputable def b_weights_to_nought(i_weighted i_cleared i_first_not_nought i_in_lowest_terms:Nat):Sm :=
 (.seq (.new 1)
 (.seq (.forR 2 [(.bi .len [(.var 0)])] (.seq (.set 3 (.call i_weighted [(.var 0),(.var 2)]))
  (.seq (.forU 4 1 3 (.call i_cleared [(.var 3),(.var 4)]))
  (.seq (.ite (.cmp .ge (.call i_first_not_nought [(.var 3)]) (.bi .len [(.var 0)])) (.seq (.ret (.call i_in_lowest_terms [(.slc (.var 3) (.bi .len [(.var 0)]) (.cst .non))]))
   .nop) .nop)
  (.seq (.app 1 (.var 3))
  .nop)))))
 .nop))
theorem sq_rect{n:Nat}{A:List (List Int)}(g:SqA n A):Rect n n 400 A:=⟨g.len,g.row,g.bit⟩
theorem sq_uni{n m:Nat}{A:List (List Int)}(g:SqA n A)(h:SqA m A):n=m:=g.len.symm.trans h.len
theorem put_sq{n j:Nat}{A:List (List Int)}{b:List Int}(g:SqA n A)(hb:b.length=n)(hx:∀x∈b,bits x<=400)(hj:j<n):SqA n (yD A j b):=by
 have hl:=g.len;refine⟨g.n1,g.n4,by unfold yD;rw[List.length_zipWith];lia,fun r hr=>?_,fun r hr x hm=>?_⟩
 all_goals
  unfold yD at hr;rw[Kt]at hr;obtain⟨p,hp,rfl⟩:=K7.mp hr;have hm':=Yk hp;have hr':=g.row _ hm'.1
 ·simp;lia
 ·rcases QA.mp hm with z|z
  ·exact g.bit _ hm'.1 x (XV z)
  ·rcases KS.mp z with z|z
   ·rw[z];exact hx _ hm'.2
   ·exact g.bit _ hm'.1 x (QV z)
theorem det_b{n:Nat}{A:List (List Int)}(g:SqA n A):bits (jD (n-1) A)<=1700:=by
 have n1:=g.n1;have n4:=g.n4
 obtain⟨m,rfl⟩:∃m,n=m+1:=⟨n-1,by lia⟩
 exact Qx (zo m (sq_rect g)) (dB_le (by lia))
theorem wp_detA{n:Nat}{A:List (List Int)}{Q:D->Prop}{E:XD->Prop}(g:SqA n A):(qk 4).wp [wD A] Q E ↔ Q (.int (jD (n-1) A)):=by
 have n1:=g.n1;have n4:=g.n4
 obtain⟨m,rfl⟩:∃m,n=m+1:=⟨n-1,by lia⟩
 exact wp_det (sq_rect g) n4 (by decide)
noncomputable def yk(n:Nat)(A:List (List Int))(b:List Int):List Rat:=(K3 n).map fun j=>Xl (jD (n-1) (yD A j b)) (jD (n-1) A)
noncomputable def c_siw:Ctr where
 pre ds:=∃n A b,ds=[wD A,iD b]/\SqA n A/\b.length=n/\∀x∈b,bits x<=400
 res ds d:=∀n A b,ds=[wD A,iD b]->SqA n A->jD (n-1) A≠0/\d=.lst ((yk n A b).map rq)
 exn ds y:=∃n A b u,ds=[wD A,iD b]/\SqA n A/\jD (n-1) A=0/\y.t="Dependent" /\ y.f=[iD u]/\Wts n A u
theorem injAb{A A':List (List Int)}{b b':List Int}(e:[wD A,iD b]=[wD A',iD b']):A=A'/\b=b':=by
 injection e with e1 e2;injection e2 with e2;exact⟨Js e1,uZ e2⟩
noncomputable def b_siwY(i1 i2 i3 i4:Nat):Sm :=
 (.seq (.set 2 (.call i1 [(.var 0)]))
 (.seq (.ite (.cmp .eq (.var 2) (.cst (.int 0))) (.seq (.raiseA "Dependent" (.call i2 [(.var 0)]))
  .nop) .nop)
 (.seq (.retF (.compR [(.bi .len [(.var 0)])] (.call i3 [(.call i1 [(.call i4 [(.var 0),(.var 3),(.var 1)])]),(.var 2)])))
 .nop)))
theorem k_siw{C:Cfg}{i1 i2 i3 i4:Nat}(h1:C.ct i1=qk 4)(h2:C.ct i2=c_weights)(h3:C.ct i3=xl)(h4:C.ct i4=c_put_in)(hE:∀x,¬ C.E x):KeepsY C 3 (b_siwY i1 i2 i3 i4) c_siw:=by
 rintro ds ⟨n,A,b,rfl,g,hb,hx⟩;have n4:=g.n4;have hl:=g.len
 have wd:=fun Q E=>wp_detA (Q:=Q) (E:=E) g
 rw[b_siwY];simp_all! only[h1,wd];rw[jI,kF];dsimp! only[];by_cases hz:jD (n-1) A=0
 ·rw[if_pos hz,jI,ws_raiseA];dsimp! only[h2];refine⟨⟨n,A,rfl,g,hz⟩,fun d r=>?_,fun _ z=>z.elim⟩;obtain⟨u,rfl,hu⟩:=r n A rfl g;exact⟨fun _=>⟨_,rfl⟩,n,A,b,u,rfl,g,hz,rfl,rfl,hu⟩
 ·rw[if_neg hz];simp_all! only[wD,KP];refine⟨by unfold kQ;lia,by rw[rlen];unfold lim;lia,?_⟩
  rw[Qm,qC (h:=fun j=>rq (Xl (jD (n-1) (yD A j b)) (jD (n-1) A))) (fun j hj Q=>by
   have gp:=put_sq g hb hx (show j<n by lia)
   have w1:=fun Q E=>wp_put_in (Q:=Q) (E:=E) g hb (show j<n by lia)
   rw[wD,iD]at w1
   have w2:=fun Q E=>wp_detA (Q:=Q) (E:=E) gp
   have w3:=fun Q E=>wp_ratio (t:=jD (n-1) (yD A j b)) (u:=jD (n-1) A) (Q:=Q) (E:=E) hz (by have:=det_b g;lia)
   dsimp! only[h1,h3,h4,w1,w2,w3])]
  dsimp! only[];intro m A' b' e g';obtain⟨rfl,rfl⟩:=injAb (A:=A) (b:=b) e;obtain rfl:=sq_uni g g';refine⟨hz,?_⟩;unfold yk;rw[Qr,hl];rfl
theorem ua{l:List Int}{m:Nat}(hm:m<=3)(h:∀j,bits (l.getD j 0)<=401*2^m-1):∀j,bits (l.getD j 0)<=4000:=fun j=>by
 have:2^m<=2^3:=XA (by decide) hm;have:=h j;lia
theorem rng_nat:∀(m:Nat) (s:Nat),jP (s:Int) 1 m=(Zy s m).map fun k:Nat=>D.int k
 |0,s=>rfl
 |m+1,s=>by
  rw[Y8,K1,<- rng_nat m (s+1)];rfl
theorem k_weights{C:Cfg}{i1 i2 i3 i4:Nat}(h1:C.ct i1=c_weighted)(h2:C.ct i2=c_cleared)(h3:C.ct i3=c_fnn)(h4:C.ct i4=c_lowest):jS C 5 (b_weights_to_nought i1 i2 i3 i4) c_weights:=by
 rintro ds ⟨n,A,rfl,g,hz⟩;have n4:=g.n4;have hl:=g.len;rw[b_weights_to_nought];simp_all! only[]
 let P:List D->Sto->Prop:=fun ds σ=>∃(B:List (List Int)) (a b c:Option Sl),(Bas n A B/\B.length<=n/\ds=(Zy B.length (n-B.length)).map fun k:Nat=>D.int k)/\σ=[some (.sh (wD A)),some (.ow (B.map iD)),a,b,c]
 rw[jI,uI];dsimp! only[wD,KP];refine⟨by unfold kQ;lia,?_⟩;refine qP P ⟨[],_,_,_,⟨Bas.nil g hz,XB _,?_⟩,rfl⟩ ?_ ?_
 ·rw[Qm,hl];exact rng_nat n 0
 ·rintro _ ds σ ⟨B,a,b,c,⟨bs,hB,hd⟩,rfl⟩
  obtain⟨m,hm⟩:∃m,n-B.length=m+1:=⟨n-B.length-1,by
   rcases Uw (n-B.length) with z|z
   ·rw[z]at hd;simp at hd
   ·lia⟩
  have hk:B.length<n:=by lia
  rw[hm,Y8,K1]at hd;simp only[Qj]at hd;obtain⟨rfl,rfl⟩:=hd
  have ww:=fun Q E=>wp_weighted (Q:=Q) (E:=E) g hk
  simp_all! only[h1,ww]
  let P2:List D->Sto->Prop:=fun xs σ=>∃(Pf R:List (List Int)) (x:List Int) (c:Option Sl),(B=Pf++R/\xs=R.map iD/\Row n A B Pf x)/\σ=[some (.sh (wD A)),some (.ow (B.map iD)),some (.sh (.int B.length)),some (.sh (iD x)),c]
  refine jW (P2 []) ?_ ?_
  ·rw[ws_forU];simp only[getS,ownD_ow];refine forUL_by P2 _ _ ⟨[],B,_,_,⟨rfl,rfl,Row.start g bs hk⟩,rfl⟩ ?_ ?_
   rotate_left
   ·exact fun σ h=>h
   rintro _ xs σ ⟨Pf,R,x,c,⟨eB,hd,r⟩,rfl⟩
   cases R with
   |nil=>simp at hd
   |cons b R =>
    simp only[K1,Qj]at hd;obtain⟨rfl,rfl⟩:=hd
    have hb:b∈B:=by rw[eB];simp
    have hp:=bs.piv b hb;have lb:=bs.len b hb
    have lp:Pf.length<B.length:=by rw[eB];simp
    have eb:B.getD Pf.length []=b:=by rw[eB,KY,Qs (K6 _),Za];rfl
    have wc:=fun Q E=>wp_cleared (x:=x) (b:=b) (Q:=Q) (E:=E) (by rw[r.len,lb]) (by lia) (by lia) (ua (m:=Pf.length) (by lia) r.bit) (ua (m:=Pf.length) (by lia) (by have:=bs.bit Pf.length lp;rw[eb]at this;exact this))
    dsimp! only[h2,wc];exact⟨Pf ++ [b],R,_,_,⟨by rw[eB];simp,rfl,r.step g bs eB hk⟩,rfl⟩
  rintro σ ⟨Pf,R,x,c,⟨eB,hd,r⟩,rfl⟩
  have:R=[]:=by simpa using hd.symm
  subst this;rw[Qu]at eB;subst eB;have fx:fnn x<x.length:=fnn_in r.own;have lx:=r.len
  have wf:=fun Q E=>wp_fnn (l:=x) (Q:=Q) (E:=E) fx (by lia)
  rw[jI,kF];dsimp! only[h3,wf,wD,KP];by_cases hf:n<=fnn x
  ·rw[if_pos (by lia)];obtain⟨f1,⟨i,f2,f3⟩,f4⟩:=r.found g hk hf;have cf:=zv (f:=D.int) (r:=x) (j:=A.length) (by lia);simp_all! only[kY,prt,Ka,slD,KP,cf,h4];rw[hl];refine⟨⟨x.drop n,rfl,fnn_in f3,by lia,fun j=>?_⟩,fun d q=>?_,fun _ z=>z.elim⟩
   ·rw[KY,Uv,<- KY];exact ua (m:=B.length) (by lia) r.bit _
   ·obtain⟨u,rfl,lw⟩:=q _ rfl;intro n' A' e g';have eA:=w1 (M:=A) e;subst eA;obtain rfl:=sq_uni g g';exact⟨u,rfl,wts_of f1 f4 lw⟩
  ·rw[if_neg (by lia)];simp_all! only[KP];refine⟨by unfold lim;lia,B ++ [x],_,_,_,⟨bs.grow g r hk (by lia),by simp;lia,?_⟩,by rw[Qw];rfl⟩;rw[K9,XJ,show n-(B.length+1)=m by lia]
 ·rintro σ ⟨B,a,b,c,⟨bs,hB,hd⟩,rfl⟩;have:B.length≠n:=bs.lt g
  have:n-B.length=0:=by
   rcases Uw (n-B.length) with z|z
   ·exact z
   ·have:=congrArg List.length hd;simp at this;lia
  lia
structure SqR (n:Nat) (T:List (List (Int×Int))) (q:List (Int×Int)):Prop where
 sq:SqT n T
 len:q.length=n
 sm:∀x∈q,SmallP x
theorem SqR.small{n:Nat}{T:List (List (Int×Int))}{q:List (Int×Int)}(g:SqR n T q):Smalls q:=⟨by rw[g.len];have:=g.sq.n4;lia,g.sm⟩
theorem SqR.lo{n:Nat}{T:List (List (Int×Int))}{q:List (Int×Int)}{low:Int}(g:SqR n T q)(m:IsMin (T ++ [q]) low):-130<=low:=by
 obtain⟨r,hr,x,hx,e⟩:=m.at_
 have sx:SmallP x:=by
  rcases QA.mp hr with z|z
  ·exact g.sq.sm r z x hx
  ·rw[Qz.mp z]at hx;exact g.sm x hx
 have:=sx.lo;lia
theorem SqR.sqA{n:Nat}{T:List (List (Int×Int))}{q:List (Int×Int)}{low:Int}(g:SqR n T q)(l:-130<=low):SqA n (wh low T):=by
 have r:=g.sq.rect l;exact⟨g.sq.n1,g.sq.n4,r.len,r.row,r.b⟩
noncomputable def c_solved:Ctr where
 pre ds:=∃n T q,ds=[tabD T,.lst (q.map nq)]/\SqR n T q
 res ds d:=∀n T q,ds=[tabD T,.lst (q.map nq)]->SqR n T q->∃low,IsMin (T ++ [q]) low/\jD (n-1) (wh low T)≠0/\d=.lst ((yk n (wh low T) (q.map (atW low))).map rq)
 exn ds y:=∃n T q low u,(ds=[tabD T,.lst (q.map nq)]/\SqR n T q/\IsMin (T ++ [q]) low)/\jD (n-1) (wh low T)=0/\y.t="Dependent" /\ y.f=[iD u]/\Wts n (wh low T) u
theorem nqs_inj{a b:List (Int×Int)}(h:D.lst (a.map nq)=D.lst (b.map nq)):a=b:=by
 injection h with h;exact kB (fun x y e=>vg e) h
theorem injTq{T T':List (List (Int×Int))}{q q':List (Int×Int)}(e:[tabD T,D.lst (q.map nq)]=[tabD T',D.lst (q'.map nq)]):T=T'/\q=q':=by
 injection e with e1 e2;injection e2 with e2;exact⟨xT (by rw[e1]),nqs_inj e2⟩
noncomputable def b_solvedY(i1 i2 i3 i4 i5:Nat):Sm :=
 (.seq (.set 2 (.call i1 [(.bin .add (.call i2 [(.var 0)]) (.var 1))]))
 (.seq (.retY i3 [(.call i4 [(.var 0),(.var 2)]),(.call i5 [(.var 1),(.var 2)])])
 .nop))
theorem k_solved{C:Cfg}{i1 i2 i3 i4 i5:Nat}(h1:C.ct i1=c_least_power)(h2:C.ct i2=c_one_by_one)(h3:C.ct i3=c_siw)(h4:C.ct i4=c_rows_in_steps)(h5:C.ct i5=c_in_steps)(hf:C.fr i3=true):KeepsY C 3 (b_solvedY i1 i2 i3 i4 i5) c_solved:=by
 rintro ds ⟨n,T,q,rfl,gr⟩;have g:=gr.sq;have n1:=g.n1;have n4:=g.n4;have fl:=KC T g.row;rw[g.len]at fl;have f16:n*n<=4*4:=Y3 n4 n4;have f1:1*1<=n*n:=Y3 n1 n1
 have wo:=fun Q E=>wp_obo (rows:=T) (Q:=Q) (E:=E) (by lia)
 have lq:=gr.len
 have ne:T.flatten++q ≠ []:=by intro z;have:=congrArg List.length z;simp only[K9,XG]at this;lia
 have few2:(T.flatten++q).length<=200:=by rw[K9];lia
 have ea:T.flatten.map nq++q.map nq=(T.flatten++q).map nq:=by rw[Qw]
 rw[b_solvedY];simp_all! only[h2,wo,KP,ea];refine⟨by unfold lim;lia,?_⟩;simp_all! only[h1,c_least_power,wp_1,ne,few2];obtain⟨p1,p2⟩:=uR (d:=0) (ns:=(T.flatten++q).map (·.2));generalize mmF false 0 ((T.flatten++q).map (·.2))=low at *
 have m:IsMin (T ++ [q]) low:=by
  have fe:(T ++ [q]).flatten=T.flatten++q:=by simp
  refine⟨fun r hr x hx=>p1 _ (K7.mpr ⟨x,by rw[<- fe];exact Y9.mpr ⟨r,hr,hx⟩,rfl⟩),?_⟩;rcases p2 with z|z
  ·obtain⟨x,hx,e⟩:=K7.mp z;rw[<- fe]at hx;obtain⟨r,hr,hx⟩:=Y9.mp hx;exact⟨r,hr,x,hx,e⟩
  ·exact absurd (Ze.mp z.1) ne
 have l1:=gr.lo m
 have wr:=fun Q E=>wp_ris (rows:=T) (p:=low) (Q:=Q) (E:=E) (by rw[g.len];lia) g.small (by lia) fun r hr=>m.le r (Xe _ hr)
 have wi:=fun Q E=>ux (xs:=q) (p:=low) (Q:=Q) (E:=E) gr.small (by lia) fun x hx=>m.le q (by simp) x hx
 have ga:=gr.sqA l1;rw[jI,ws_retY];dsimp! only[h3,h4,h5,wr,wi,hf]
 have bq:∀x∈q.map (atW low),bits x<=400:=fun x hx=>by
  obtain⟨y,hy,rfl⟩:=K7.mp hx;have:=zK (gr.sm y hy) l1;lia
 have eq1:D.lst (q.map fun x=>D.int (atW low x))=iD (q.map (atW low)):=by unfold iD;rw[Qr];rfl
 rw[eq1,show (T.map fun r=>r.map (atW low))=wh low T from rfl];refine⟨⟨n,wh low T,q.map (atW low),rfl,ga,by rw[KP];exact lq,bq⟩,fun d r=>?_,fun y hy=>?_⟩
 ·obtain⟨hz,rfl⟩:=r n _ _ rfl ga;refine isL_lst.mpr ?_;intro n' T' q' e g';obtain⟨rfl,rfl⟩:=injTq e
  have:n'=n:=by have:=g.len;have:=g'.sq.len;lia
  subst this;exact⟨low,m,hz,rfl⟩
 ·obtain⟨n',A,b,u,e,g',hz,ht,hf',hw⟩:=hy;obtain⟨rfl,rfl⟩:=injAb e;obtain rfl:=sq_uni ga g';exact⟨n,T,q,low,u,⟨rfl,gr,m⟩,hz,ht,hf',hw⟩
end Z.J46
set_option exponentiation.threshold 3000
namespace Z.K46
open PySem Z Z.K42 Z.K40 Z.J51 Z.J45 Z.L45 Z.L46 Z.J46
noncomputable def b_law_wholes:Sm :=
 (.seq (.set 1 (.bi .min [(.compE (.var 0) (.bi .min [(.compE (.var 2) (.ix (.var 3) (.cst (.int 1))))]))]))
 (.seq (.ret (.tup [(.compE (.var 0) (.compE (.var 2) (.bin .shl (.ix (.var 3) (.cst (.int 0))) (.bin .sub (.ix (.var 3) (.cst (.int 1))) (.var 1))))),(.var 1)]))
 .nop))
noncomputable def b_law_meets(i_law_common i_law_wholes:Nat):Sm :=
 (.seq (.set 3 (.cst (.int 1)))
 (.seq (.forE 4 (.var 2) (.seq (.set 3 (.bin .fdiv (.bin .mul (.var 3) (.ix (.var 4) (.cst (.int 1)))) (.call i_law_common [(.var 3),(.ix (.var 4) (.cst (.int 1)))])))
  .nop))
 (.seq (.set 5 (.compE (.var 2) (.bin .mul (.ix (.var 9) (.cst (.int 0))) (.bin .fdiv (.var 3) (.ix (.var 9) (.cst (.int 1)))))))
 (.seq (.unp [6,7] (.call i_law_wholes [(.bin .add (.var 0) (.lst [(.var 1)]))]))
 (.seq (.forR 8 [(.bi .len [(.var 0)])] (.seq (.ite (.cmp .ne (.bi .sum [(.compR [(.bi .len [(.var 5)])] (.bin .mul (.ix (.ix (.var 6) (.var 8)) (.var 9)) (.ix (.var 5) (.var 9))))]) (.bin .mul (.ix (.ix (.var 6) (.neg (.cst (.int 1)))) (.var 8)) (.var 3))) (.seq (.ret (.cst (.bl false)))
  .nop) .nop)
  .nop))
 (.seq (.ret (.cst (.bl true)))
 .nop))))))
noncomputable def b_law_weighed(i_law_whole i_law_common i_law_wholes:Nat):Sm :=
 (.seq (.ite (.or (.not (.isi (.var 1) .list)) (.or (.cmp .ne (.bi .len [(.var 1)]) (.bi .len [(.var 0)])) (.not (.bi .all [(.compE (.var 1) (.call i_law_whole [(.var 7)]))])))) (.seq (.ret (.cst (.bl false)))
  .nop) .nop)
 (.seq (.set 2 (.cst (.int 0)))
 (.seq (.forE 3 (.var 1) (.seq (.set 2 (.call i_law_common [(.var 2),(.var 3)]))
  .nop))
 (.seq (.ite (.or (.cmp .ne (.var 2) (.cst (.int 1))) (.cmp .lt (.ix (.compF (.var 1) (.cmp .ne (.var 7) (.cst (.int 0))) (.var 7)) (.cst (.int 0))) (.cst (.int 0)))) (.seq (.ret (.cst (.bl false)))
  .nop) .nop)
 (.seq (.unp [4,5] (.call i_law_wholes [(.var 0)]))
 (.seq (.forR 6 [(.bi .len [(.var 0)])] (.seq (.ite (.cmp .ne (.bi .sum [(.compR [(.bi .len [(.var 0)])] (.bin .mul (.ix (.var 1) (.var 7)) (.ix (.ix (.var 4) (.var 7)) (.var 6))))]) (.cst (.int 0))) (.seq (.ret (.cst (.bl false)))
  .nop) .nop)
  .nop))
 (.seq (.ret (.cst (.bl true)))
 .nop)))))))
structure RectM (M:List (List (Int×Int))):Prop where
 ne:M ≠ []
 few:M.length<=5
 row:∀r∈M,r ≠ []/\r.length<=4
 sm:∀r∈M,∀x∈r,SmallP x
noncomputable def c_wholes:Ctr where
 pre ds:=∃M,ds=[tabD M]/\RectM M
 res ds d:=∀M,ds=[tabD M]->RectM M->∃low,IsMin M low/\d=.tup [wD (wh low M),.int low]
theorem k_wholes{C:Cfg}:jS C 2 b_law_wholes c_wholes:=by
 rintro ds ⟨M,rfl,g⟩;have few:=g.few
 have l1:M.length<=lim:=by unfold lim;lia
 have r0:∀r∈M,r ≠ []:=fun r hr=>(g.row r hr).1
 have rl:∀r∈M,r.length<=lim:=fun r hr=>by have:=(g.row r hr).2;unfold lim;lia
 rw[b_law_wholes,tabD];simp_all! only[KP];refine⟨l1,?_⟩
 rw[jJ (g:=fun r:List (Int×Int)=>D.lst (r.map nq)) (h:=fun r=>D.int (mmF false 0 (r.map (·.2)))) (fun r hr Q=>by
  have l2:=rl r hr;dsimp! only[KP,l2];rw[jJ (g:=nq) (h:=fun x:Int×Int=>D.int x.2) (fun x _ Q=>by rw[xS]),show (r.map fun x=>D.int x.2)=(r.map (·.2)).map .int by rw[Qr];rfl,J2]
  exact and_iff_right (by simpa using r0 r hr))]
 rw[show (M.map fun r=>D.int (mmF false 0 (r.map (·.2))))=(M.map fun r=>mmF false 0 (r.map (·.2))).map .int by rw[Qr];rfl,J2];refine⟨by simpa using g.ne,?_⟩;obtain⟨p1,p2⟩:=uR (d:=0) (ns:=M.map fun r=>mmF false 0 (r.map (·.2)));generalize mmF false 0 (M.map fun r=>mmF false 0 (r.map (·.2)))=low at *
 have m:IsMin M low:=by
  refine⟨fun r hr x hx=>Int.le_trans (p1 _ (K7.mpr ⟨r,hr,rfl⟩)) ((uR (d:=0) (ns:=r.map (·.2))).1 _ (K7.mpr ⟨x,hx,rfl⟩)),?_⟩;rcases p2 with z|z
  ·obtain⟨r,hr,e⟩:=K7.mp z;rcases(uR (d:=0) (ns:=r.map (·.2))).2 with y|y
   ·obtain⟨x,hx,e2⟩:=K7.mp y;exact⟨r,hr,x,hx,by lia⟩
   ·exact absurd (Ze.mp y.1) (r0 r hr)
  ·exact absurd (Ze.mp z.1) g.ne
 have lb:-130<=low:=by
  obtain⟨r,hr,x,hx,e⟩:=m.at_;have:=(g.sm r hr x hx).lo;lia
 simp_all! only[KP];refine⟨l1,?_⟩
 rw[jJ (g:=fun r:List (Int×Int)=>D.lst (r.map nq)) (h:=fun r=>D.lst ((r.map (atW low)).map .int)) (fun r hr Q=>by
  have l2:=rl r hr;dsimp! only[KP,l2]
  rw[jJ (g:=nq) (h:=fun x:Int×Int=>D.int (atW low x)) (fun x hx Q=>by
   have h1:=m.le r hr x hx;have h2:=(g.sm r hr x hx).b;have h3:=(g.sm r hr x hx).hi
   have so:ShlOk x.1 (x.2-low):=⟨by lia,by lia⟩
   rw[yz,xS,bin_sub,bin_shl]
   exact and_iff_right so),Qr]
  rfl)]
 intro M' e g';rw[<- xT (r:=M) e];exact⟨low,m,by unfold wD wh;rw[Qr];rfl⟩
theorem Jq{M:List (List (Int×Int))}{Q:D->Prop}{E:XD->Prop}(g:RectM M):c_wholes.wp [tabD M] Q E ↔ ∀low,IsMin M low->Q (.tup [wD (wh low M),.int low]):=by
 constructor
 ·intro w low h
  refine w.2.1 _ fun M' e g'=>?_
  rw[<- xT e];exact⟨low,h,rfl⟩
 ·intro q;refine⟨⟨M,rfl,g⟩,fun d h=>?_,fun _ z=>z.elim⟩;obtain⟨low,hw,rfl⟩:=h M rfl g;exact q low hw
theorem SqR_rect{n:Nat}{T:List (List (Int×Int))}{q:List (Int×Int)}(g:SqR n T q):RectM (T ++ [q]):=by
 have n1:=g.sq.n1;have n4:=g.sq.n4;have hl:=g.sq.len;have lq:=g.len;refine⟨by simp,by simp;lia,fun r hr=>?_,fun r hr=>?_⟩
 ·have:r.length=n:=by
   rcases QA.mp hr with z|z
   ·exact g.sq.row r z
   ·rw[Qz.mp z];exact lq
  exact⟨fun z=>by rw[z]at this;simp at this;lia,by lia⟩
 ·rcases QA.mp hr with z|z
  ·exact g.sq.sm r z
  ·rw[Qz.mp z];exact g.sm
theorem SqT_rect{n:Nat}{T:List (List (Int×Int))}(g:SqT n T):RectM T:=by
 have n1:=g.n1;have n4:=g.n4;refine⟨g.ne,by rw[g.len];lia,fun r hr=>?_,g.sm⟩;have:=g.row r hr;exact⟨fun z=>by rw[z]at this;simp at this;lia,by lia⟩
structure UnderY (qs:List Rat) (u:Int):Prop where
 pos:0<u
 dvd:∀q∈qs,(q.den:Int) ∣ u
 b:bits u<=1800*qs.length+1
noncomputable def Meets(n:Nat)(A:List (List Int))(b:List Int)(xs:List Rat):Prop:=∀i,i<n->((K3 n).map fun j=>(((A.getD i []).getD j 0:Int):Rat)*xs.getD j 0).sum=((b.getD i 0:Int):Rat)
theorem vM(k:Rat)(f:Nat->Rat)(n:Nat):((K3 n).map fun j=>k*f j).sum=k*((K3 n).map f).sum:=by
 induction n with
 |zero=>simp
 |succ n ih=>rw[Yo,Qw,Qw,XI,XI,ih];simp;grind
theorem u4(f:Nat->Int)(n:Nat):((K3 n).map fun j=>((f j:Int):Rat)).sum=(((K3 n).map f).sum:Int):=by
 induction n with
 |zero=>simp
 |succ n ih=>rw[Yo,Qw,Qw,XI,XI,ih];simp;grind
theorem sol_meets{n:Nat}{A:List (List Int)}{b:List Int}(g:SqA n A)(hb:b.length=n)(hz:jD (n-1) A≠0):Meets n A b (yk n A b):=by
 intro i hi;have c:=cramer g.n1 g.n4 g.len g.row hb hi
 have e:((K3 n).map fun j=>(((A.getD i []).getD j 0:Int):Rat)*(yk n A b).getD j 0)=(K3 n).map fun j=>(1 / (jD (n-1) A:Rat))*((((A.getD i []).getD j 0*jD (n-1) (yD A j b):Int)):Rat):=QK fun j hj=>by
  have hj:=Xh.mp hj
  have:(yk n A b).getD j 0=Xl (jD (n-1) (yD A j b)) (jD (n-1) A):=by
   unfold yk;rw[KY,Qg,List.getElem?_range hj];rfl
  rw[this,Rat.divInt_eq_div,QR]
  grind
 rw[e,vM,u4,c,QR]
 have:(jD (n-1) A:Rat)≠0:=by simpa using hz
 grind
noncomputable def c_meets:Ctr where
 pre ds:=∃n T q xs low,ds=[tabD T,.lst (q.map nq),.lst (xs.map rq)]/\SqR n T q/\xs.length=n/\(∀x∈xs,szr 1800 x)/\IsMin (T ++ [q]) low/\Meets n (wh low T) (q.map (atW low)) xs
 res ds d:=d=.bl true
theorem bits_topY{u:Int}{q:Rat}(hu:0<u)(h:szr 1800 q):bits (yY u q)<=1800+bits u:=by
 unfold yY;have d:=zU q;rw[kg (by lia)];have:=k9 q.num (u / q.den);have:=yI (a:=u) d;have:=h.1;lia
theorem meet_int{n:Nat}{A:List (List Int)}{b:List Int}{zs:List Rat}{u:Int}(ga:SqA n A)(lb:b.length=n)(lx:zs.length=n)(gu:UnderY zs u)(hm:Meets n A b zs):∀i,i<n->((K3 n).map fun j=>(A.getD i []).getD j 0*(zs.map (yY u)).getD j 0).sum=b.getD i 0*u:=by
 intro i hi;have:=hm i hi
 have e:((((K3 n).map fun j=>(A.getD i []).getD j 0*(zs.map (yY u)).getD j 0).sum:Int):Rat)=(u:Rat)*((K3 n).map fun j=>(((A.getD i []).getD j 0:Int):Rat)*zs.getD j 0).sum:=by
  rw[<- u4,<- vM];congr 1
  refine QK fun j hj=>?_
  have hj:=Xh.mp hj
  have ez:(zs.map (yY u)).getD j 0=yY u (zs.getD j 0):=by
   rw[K40.getD_at (by simpa[lx]using hj),K40.getD_at (by lia),XN]
  have er:=topI_rat (gu.dvd (zs.getD j 0) (by rw[K40.getD_at (by lia)];exact QJ _));rw[ez,QR,er]
  grind
 rw[this,Zb,<- QR]at e;exact Rat.intCast_inj.mp e
theorem k_meets{C:Cfg}{i1 i2:Nat}(h1:C.ct i1=kG)(h2:C.ct i2=c_wholes):jS C 9 (b_law_meets i1 i2) c_meets:=by
 rintro ds ⟨n,T,q,xs,low,rfl,gr,lx,hs,m,hm⟩;have g:=gr.sq;have n1:=g.n1;have n4:=g.n4;have hl:=g.len;have lq:=gr.len;rw[b_law_meets];simp_all! only[]
 let P:List D->Sto->Prop:=fun ds σ=>∃(zs ys:List Rat) (u:Int) (a:Option Sl),(zs++ys=xs/\ds=ys.map rq/\UnderY zs u)/\σ=[some (.sh (tabD T)),some (.sh (.lst (q.map nq))),some (.sh (.lst (xs.map rq))),some (.sh (.int u)),a,none,none,none,none]
 refine jW (P []) ?_ ?_
 ·rw[uN]
  simp_arith only[]
  refine qP P ⟨[],xs,1,_,⟨rfl,rfl,by decide,fun q hq=>absurd hq (by simp),by decide⟩,rfl⟩ ?_ fun σ h=>h
  rintro _ ds σ ⟨zs,ys,u,a,⟨ha,hd,gu⟩,rfl⟩
  cases ys with
  |nil=>simp at hd
  |cons y ys =>
   simp only[K1,Qj]at hd;obtain⟨rfl,rfl⟩:=hd;have sy:=hs y (by rw[<- ha];simp)
   have lz:zs.length<=3:=by rw[<- ha,K9]at lx;simp at lx;lia
   have bu:=gu.b;have dy:=zU y;have mo:kH u y.den:=jE (by have:=sy.2;lia);obtain⟨v,ev,v0,v1,v2,vb⟩:=lcm_step gu.pos dy;have g0:0<Xb u y.den:=YU _ (by have:=gu.pos;lia)
   have gb:bits (Xb u y.den:Int)<=9000:=by
    refine Qx (kl ?_) (Qx sy.2 (by decide));have:=Int.gcd_le_right (a:=u) (b:=(y.den:Int)) (by lia);lia
   simp_arith! only[h1,kG,ix_rq1,mo,ev]
   refine⟨⟨by lia,by have:=sy.2;lia⟩,⟨by lia,gb⟩,?_⟩;refine⟨zs ++ [y],ys,v,_,⟨by rw[Ys];exact ha,rfl,v0,fun z hz=>?_,?_⟩,rfl⟩
   ·rcases QA.mp hz with z'|z'
    ·exact Int.dvd_trans (gu.dvd z z') v1
    ·rw[Qz.mp z'];exact v2
   ·rw[K9,XJ];have:=sy.2;lia
 rintro σ ⟨zs,ys,u,a,⟨ha,hd,gu⟩,rfl⟩
 have:ys=[]:=by simpa using hd.symm
 subst this;rw[Qu]at ha;subst ha;have bu:=gu.b;rw[lx]at bu;have u0:=gu.pos;simp_all! only[KP];refine⟨by unfold lim;lia,?_⟩
 rw[jJ (g:=rq) (h:=fun q=>D.int (yY u q)) (fun x hx Q=>by
  have sx:=hs x hx;have dx:=zU x
  have f1:(x.den:Int)≠0:=by lia
  have f2:bits (x.den:Int)<=9000:=by have:=sx.2;lia
  have mo:kH x.num (u.fdiv x.den):=by
   rw[kg (by lia)];have:=yI (a:=u) dx;exact jE (by have:=sx.1;lia)
  dsimp! only[ix_rq0,ix_rq1,f1,f2,mo,yY])]
 rw[show (zs.map fun q=>D.int (yY u q))=(zs.map (yY u)).map .int by rw[Qr];rfl]
 have et:D.lst ((T.map fun r=>D.lst (r.map nq)) ++ [D.lst (q.map nq)])=tabD (T ++ [q]):=by unfold tabD;rw[Qw];rfl
 have l5:T.length+(0+1)<=lim:=by unfold lim;lia
 simp_all! only[tabD,KP,l5,et,h2]
 refine(Jq (M:=T ++ [q]) (SqR_rect gr)).mpr fun low' m'=>?_
 obtain rfl:=m'.uni m;have l1:=gr.lo m
 have eW:wh low' (T ++ [q])=wh low' T ++ [q.map (atW low')]:=by unfold wh;rw[Qw];rfl
 have ga:=gr.sqA l1;have la:=ga.len;rw[eW];simp_all! only[];generalize wh low' T=A at *
 have lb:(q.map (atW low')).length=n:=by rw[KP];exact lq
 have bb:∀j,bits ((q.map (atW low')).getD j 0)<=400:=fun j=>by
  rcases Qd j q.length with z|z
  ·rw[K40.getD_at (by simpa using z),XN];have:=zK (gr.sm _ (QJ z)) l1;lia
  ·rw[Um,KT (by simpa using z)];exact XB _
 generalize q.map (atW low')=b at *;rw[jI,uI];dsimp! only[KP];refine⟨by unfold kQ;lia,?_⟩;have key:=meet_int ga lb lx gu hm
 have lt:(zs.map (yY u)).length=n:=by rw[KP];exact lx
 have bt:∀j,bits ((zs.map (yY u)).getD j 0)<=9100:=fun j=>by
  rcases Qd j zs.length with z|z
  ·rw[K40.getD_at (by simpa using z),XN];have:=bits_topY u0 (hs _ (QJ z));lia
  ·rw[Um,KT (by simpa using z)];exact XB _
 generalize zs.map (yY u)=ts at *
 let P3:List D->Sto->Prop:=fun ds σ=>(∀d∈ds,∃i:Int,d=.int i/\0<=i/\i<n)/\∃c:Option Sl,σ=[some (.sh (tabD T)),some (.sh (.lst (q.map nq))),some (.sh (.lst (zs.map rq))),some (.sh (.int u)),a,some (.sh (iD ts)),some (.sh (wD (A ++ [b]))),some (.sh (.int low')),c]
 refine qP P3 ⟨zd (P:=fun i=>0<=i/\i<n) _ _ _ (fun i hi=>by lia),_,rfl⟩ ?_ ?_
 ·rintro d ds σ ⟨hd,c,rfl⟩;obtain⟨z,rfl,z0,z1⟩:=hd d (K0 ..)
  obtain⟨i,rfl⟩:∃i:Nat,z=i:=⟨z.toNat,by lia⟩
  have hi:i<n:=by lia
  have aw:=at_w (M:=A ++ [b]) (i:=i) (by rw[K9];lia)
  have eg:(A ++ [b]).getD i []=A.getD i []:=by rw[KY,Qt (by lia),<- KY]
  have an:atD ((A ++ [b]).map fun r=>D.lst (r.map .int)) (-1)=some (.lst (b.map .int)):=by
   unfold atD;rw[if_neg (by decide),if_pos (by rw[KP,K9];simp;lia),KP,K9,show (-1+((A.length + [b].length:Nat):Int)).toNat=A.length by simp;lia,Qg,Qs (K6 _),Za];rfl
  have ab:=Jb (r:=b) (i:=i) (by lia);have mb:kH (b.getD i 0) u:=jE (by have:=bb i;lia);rw[eg]at aw;have lr:=ga.row _ (ga.at_ hi)
  have lts:ts.length<=lim:=by unfold lim;lia
  rw[jI,kF];dsimp! only[iD,wD,KP,aw,an,ab,mb];refine⟨by unfold kQ;lia,by rw[rlen];unfold lim;lia,?_⟩
  rw[Qm,qC (h:=fun j=>D.int ((A.getD i []).getD j 0*ts.getD j 0)) (fun j hj Q=>by
   have a1:=Jb (r:=A.getD i []) (i:=j) (by lia);have a2:=Jb (r:=ts) (i:=j) hj;have mj:kH ((A.getD i []).getD j 0) (ts.getD j 0):=jE (by have:=uu (ga.bit _ (ga.at_ hi)) j;have:=bt j;lia)
   dsimp! only[aw,a1,a2,mj])]
  rw[show ((K3 ts.length).map fun j=>D.int ((A.getD i []).getD j 0*ts.getD j 0))=((K3 ts.length).map fun j=>(A.getD i []).getD j 0*ts.getD j 0).map .int by rw[Qr];rfl];have k:=key i hi;rw[<- lt]at k;dsimp! only[k];exact⟨fun d h=>hd d (KR _ h),_,rfl⟩
 ·rintro σ ⟨_,c,rfl⟩;simp_all! only[];rfl
theorem zb{α:Type}{p:D->(Bool->Prop)->Prop}{f:D->(D->Prop)->Prop}{g h:α->D}{t:α->Bool}:∀ {l:List α} {Q:List D->Prop},(∀a∈l,∀Q,p (g a) Q ↔ Q (t a))->(∀a∈l,∀Q,f (g a) Q ↔ Q (h a))->(kW p f (l.map g) Q ↔ Q ((l.filter t).map h))
 |[],Q,_,_=>by simp[kW]
 |a::l,Q,k1,k2=>by
  rw[K1,kW,k1 a (K0 ..)]
  cases ht:t a with
  |true =>
   rw[if_pos rfl,k2 a (K0 ..),zb (fun b hb=>k1 b (KR _ hb)) (fun b hb=>k2 b (KR _ hb)),List.filter_cons_of_pos (by rw[ht])]
   rfl
  |false =>
   rw[if_neg (by decide),zb (fun b hb=>k1 b (KR _ hb)) (fun b hb=>k2 b (KR _ hb)),List.filter_cons_of_neg (by rw[ht];decide)]
noncomputable def c_weighed:Ctr where
 pre ds:=∃n T u low,ds=[tabD T,iD u]/\SqT n T/\(∀r∈T,∀x∈r,low<=x.2)/\Wts n (wh low T) u
 res ds d:=d=.bl true
theorem fil_head:∀ {u:List Int},fnn u<u.length->∃r,u.filter (fun x=>x != 0)=u.getD (fnn u) 0::r
 |[],h=>by simp at h
 |x::u,h=>by
  by_cases hx:x=0
  ·subst hx
   have e:fnn (0::u)=fnn u+1:=by unfold fnn;rw[List.findIdx_cons];rfl
   rw[e]at h ⊢;obtain⟨r,hr⟩:=fil_head (u:=u) (by simpa using h);exact⟨r,by rw[List.filter_cons_of_neg (by simp),hr];rfl⟩
  ·have e:fnn (x::u)=0:=by
    unfold fnn;rw[List.findIdx_cons]
    have:(x != 0)=true:=by simpa using hx
    rw[this];rfl
   rw[e];exact⟨_,by rw[List.filter_cons_of_pos (by simpa using hx)];rfl⟩
theorem atW_step{low l2:Int}{x:Int×Int}(h1:low<=l2)(h2:l2<=x.2):atW low x=2^(l2-low).toNat*atW l2 x:=by
 unfold atW;rw[show (x.2-low).toNat=(l2-low).toNat+(x.2-l2).toNat by lia,XT]
 grind
theorem wh_at{low:Int}{T:List (List (Int×Int))}{i c:Nat}(hi:i<T.length)(hc:c<(T.getD i []).length):((wh low T).getD i []).getD c 0=atW low ((T.getD i []).getD c (0,0)):=by
 unfold wh
 have e:(T.map fun r=>r.map (atW low)).getD i []=(T.getD i []).map (atW low):=by
  rw[K40.getD_at (by simpa using hi),K40.getD_at hi,XN]
 rw[e,K40.getD_at (by simpa using hc),K40.getD_at hc,XN]
theorem wts_low{n:Nat}{T:List (List (Int×Int))}{u:List Int}{low l2:Int}(g:SqT n T)(h1:low<=l2)(h2:∀r∈T,∀x∈r,l2<=x.2)(w:Wts n (wh low T) u):∀c,c<n->((K3 n).map fun i=>u.getD i 0*((wh l2 T).getD i []).getD c 0).sum=0:=by
 intro c hc;have:=w.nil c hc;have hl:=g.len
 have e:((K3 n).map fun i=>u.getD i 0*((wh low T).getD i []).getD c 0)=(K3 n).map fun i=>2^(l2-low).toNat*(u.getD i 0*((wh l2 T).getD i []).getD c 0):=QK fun i hi=>by
  have hi:=Xh.mp hi
  have mi:T.getD i []∈T:=by rw[K40.getD_at (by lia)];exact QJ _
  have li:=g.row _ mi
  have mx:(T.getD i []).getD c (0,0)∈T.getD i []:=by rw[K40.getD_at (r:=T.getD i []) (by lia)];exact QJ _
  rw[wh_at (by lia) (by lia),wh_at (by lia) (by lia),atW_step h1 (h2 _ mi _ mx)]
  grind
 rw[e,vP]at this;rcases Int.mul_eq_zero.mp this with z|z
 ·exact absurd z (Int.ne_of_gt (Int.pow_pos (by decide)))
 ·exact z
theorem k_weighed{C:Cfg}{i1 i2 i3:Nat}(h1:C.ct i1=xk)(h2:C.ct i2=kG)(h3:C.ct i3=c_wholes):jS C 7 (b_law_weighed i1 i2 i3) c_weighed:=by
 rintro ds ⟨n,T,u,low,rfl,g,hlow,w⟩;have n1:=g.n1;have n4:=g.n4;have hl:=g.len;have lu:=w.len;rw[b_law_weighed];rw[jI,kF];dsimp! only[tabD,iD,KP,lu,hl];refine⟨by unfold lim;lia,?_⟩;rw[jJ (g:=D.int) (h:=fun _:Int=>D.bl true) (fun x hx Q=>by simp_arith only[h1,xk,isInt])];rw[show (u.map fun _=>D.bl true)=(u.map fun _=>true).map .bl by rw[Qr];rfl,bi_all,show (u.map fun _=>true).all id=true by simp];simp_all! only[]
 let P:List D->Sto->Prop:=fun ds σ=>∃(zs ys:List Int) (a:Option Sl),(zs++ys=u/\ds=ys.map .int/\bits (gL zs:Int)<=4000)/\σ=[some (.sh (tabD T)),some (.sh (iD u)),some (.sh (.int (gL zs:Nat))),a,none,none,none]
 refine jW (P []) ?_ ?_
 ·rw[uN]
  simp_arith only[]
  refine qP P ⟨[],u,_,⟨rfl,rfl,by decide⟩,rfl⟩ ?_ fun σ h=>h
  rintro _ ds σ ⟨zs,ys,a,⟨ha,hd,gb⟩,rfl⟩
  cases ys with
  |nil=>simp at hd
  |cons y ys =>
   simp only[K1,Qj]at hd;obtain⟨rfl,rfl⟩:=hd
   have by':bits y<=4000:=vO w.bit y (by rw[<- ha];simp)
   simp_arith! only[h2,kG]
   refine⟨⟨by lia,by lia⟩,zs ++ [y],ys,_,⟨by rw[Ys];exact ha,rfl,?_⟩,by rw[Kb]⟩;rw[Kb];by_cases hy:y=0
   ·subst hy
    have:Xb (gL zs:Nat) 0=gL zs:=by unfold Xb;simp
    rw[this];exact gb
   ·refine Qx (kl ?_) by'
    have:=Int.gcd_le_natAbs_right (a:=(gL zs:Int)) hy;simpa using this
 rintro σ ⟨zs,ys,a,⟨ha,hd,gb⟩,rfl⟩
 have:ys=[]:=by simpa using hd.symm
 subst this;rw[Qu]at ha;subst ha;have fu:fnn zs<zs.length:=fnn_in (i:=fnn zs) (by have:=w.pos;lia);obtain⟨r,hr⟩:=fil_head fu;rw[jI,kF];dsimp! only[w.one,iD,KP,lu];refine⟨by unfold lim;lia,?_⟩;rw[zb (g:=D.int) (t:=fun x:Int=>x != 0) (h:=D.int) (fun x hx Q=>by dsimp! only[];rfl) (fun x hx Q=>by dsimp! only[]),hr];have pz:=w.pos
 have np:¬ zs.getD (fnn zs) 0<0:=by lia
 simp_all! only[np,h3]
 refine(Jq (M:=T) (SqT_rect g)).mpr fun l2 m2=>?_
 simp_all! only[];rw[jI,uI];dsimp! only[tabD,KP];refine⟨by unfold kQ;lia,?_⟩
 have low2:low<=l2:=by
  obtain⟨r,hr,x,hx,e⟩:=m2.at_;have:=hlow r hr x hx;lia
 have key:=wts_low g low2 m2.le w;have lb2:=(m2.b g).1;have rc:=g.rect lb2
 have ga:SqA n (wh l2 T):=⟨n1,n4,rc.len,rc.row,rc.b⟩
 have la:=ga.len;generalize wh l2 T=A at *;have lz:zs.length=n:=lu
 let P3:List D->Sto->Prop:=fun ds σ=>(∀d∈ds,∃i:Int,d=.int i/\0<=i/\i<n)/\∃c:Option Sl,σ=[some (.sh (tabD T)),some (.sh (iD zs)),some (.sh (.int (1:Nat))),a,some (.sh (wD A)),some (.sh (.int l2)),c]
 refine qP P3 ⟨zd (P:=fun i=>0<=i/\i<n) _ _ _ (fun i hi=>by lia),_,rfl⟩ ?_ ?_
 ·rintro d ds σ ⟨hd,c,rfl⟩;obtain⟨z,rfl,z0,z1⟩:=hd d (K0 ..)
  obtain⟨k,rfl⟩:∃k:Nat,z=k:=⟨z.toNat,by lia⟩
  have hk:k<n:=by lia
  rw[jI,kF];dsimp! only[tabD,iD,wD,KP];refine⟨by unfold kQ;lia,by rw[rlen];unfold lim;lia,?_⟩
  rw[Qm,qC (h:=fun j=>D.int (zs.getD j 0*(A.getD j []).getD k 0)) (fun j hj Q=>by
   have hj:j<n:=by lia
   have aw:=at_w (M:=A) (i:=j) (by lia);have a1:=Jb (r:=A.getD j []) (i:=k) (by rw[ga.row _ (ga.at_ hj)];exact hk);have a2:=Jb (r:=zs) (i:=j) (by lia);have mj:kH (zs.getD j 0) ((A.getD j []).getD k 0):=jE (by have:=uu (ga.bit _ (ga.at_ hj)) k;have:=w.bit j;lia)
   dsimp! only[aw,a1,a2,mj])]
  rw[hl,show ((K3 n).map fun j=>D.int (zs.getD j 0*(A.getD j []).getD k 0))=((K3 n).map fun j=>zs.getD j 0*(A.getD j []).getD k 0).map .int by rw[Qr];rfl];dsimp! only[key k hk];exact⟨fun d h=>hd d (KR _ h),_,rfl⟩
 ·rintro σ ⟨_,c,rfl⟩;simp_all! only[];rfl
end Z.K46
namespace Z
open PySem PySem.Spec PySem.Calls PyProof.Rows PySem.W L2
open PySem.Builtin PySem.Builtin.Str PySem.Builtin.BaseException PySem.Builtin.Exceptions
section
variable {prog:Qp} {w:World} {A:QH} {E:KO->Shared->Prop} {s:Shared} {K:Frag} {e D t0:Addr} {oe:Obj} {vs:Array KO}
end
abbrev fx(C t:Addr)(dct:Option Addr):HO:=.frz (excO C t dct) (.ext fun _=>True)
noncomputable def Ex1(H:Hp)(C:Addr)(tx:V)(f:List (Str×V))(e:Addr):Prop:=∃t dct,H e=some (fx C t dct)/\H t=some (.tup [tx])/\∀p∈f,∃dA,dct=some dA/\H dA=some (.xd [p])
theorem Ex1.mono{H H':Hp}{C e:Addr}{tx:V}{f:List (Str×V)}(h:Ex1 H C tx f e)(s:jf H H'):Ex1 H' C tx f e:=by
 obtain⟨t,dct,h1,h2,h3⟩:=h;exact⟨t,dct,s _ _ h1,s _ _ h2,fun p hp=>by obtain⟨dA,q1,q2⟩:=h3 p hp;exact⟨dA,q1,s _ _ q2⟩⟩
section
variable {X:Cx} {C T f:Addr} {n x:Str} {l:Bool} {np pos cp:Pos} {t:TA}
end
section
variable {X:Cx} {C T f:Addr} {n x:Str} {l:Bool} {np pos cp:Pos} {t:TA}
end
section
variable {X:Cx} {C T f:Addr} {n x:Str} {l:Bool} {np pos cp:Pos} {t:TA}
end
noncomputable def Exs(mg:Str->Option KO)(H0 H:Hp)(tx:V):List Str->List Addr->Prop
 |[],es=>es=[]
 |c::cs,es=>∃e r D y,es=e::r/\mg c=some (.ref D)/\Ex1 H D tx (if hasF c=true then [(yB c,y)] else []) e/\(c="Dependent"->∃q,y=.ref q/\H0 q=none/\H q=some (.lst []))/\(c="BadText"->y=.int 0)/\Exs mg H0 H tx cs r
theorem Exs.mono{mg:Str->Option KO}{H0 H1 H H':Hp}{tx:V}(s:jf H H')(s0:jf H1 H0):∀ {cs:List Str} {es:List Addr},Exs mg H0 H tx cs es->Exs mg H1 H' tx cs es
 |[],es,h=>h
 |c::cs,es,h=>by
  obtain⟨e,r,D,y,h1,h2,h3,h4,h5,h6⟩:=h;exact⟨e,r,D,y,h1,h2,h3.mono s,fun z=>by obtain⟨q,q1,q2,q3⟩:=h4 z;exact⟨q,q1,s0.free q2,s _ _ q3⟩,h5,h6.mono s s0⟩
theorem Exs.len{mg:Str->Option KO}{H0 H:Hp}{tx:V}:∀ {cs:List Str} {as:List Addr},Exs mg H0 H tx cs as->as.length=cs.length
 |[],as,h=>by cases h;rfl
 |c::cs,as,h=>by
  obtain⟨e,r,D,y,rfl,h2,h3,h4,h5,h6⟩:=h;simp[Exs.len h6]
section
variable {X:Cx} {np pos cp wp:Pos} {t:TA} {c y:Str} {i:Nat}
end
structure Hand (X:Cx) (i:FnI) (L:List FnI) (cns:List Str) (C:Cfg) (lv:Nat):Prop where
 ok:OkS X.nox (i.ck L cns) C
 own:Own X
 rm:Room lv X.A
 sc:X.env.scope=ji i.st
theorem fn_hand{P:Qp}{w:World}{K:KN}{mg:Str->Option KO}{base:QG}{C:Cfg}{cns:List Str}{i:FnI}{L:List FnI}{lv:Nat}{f:Addr}{fd:Ya}{sp:Sp}(h2:2<=lv)(F:FnAt K mg i f fd)(hsc:xr i=true)
 (fns:∀n j,L[n]?=some j->∃f fd,FnOk P w K mg base (CXz P w mg) lv f fd j.ps (spD K j.ps.length (C.fr n) (C.f2 n) (C.ct n))/\FnAt K mg j f fd)
 (hcn:∀n x,cns[n]?=some x->∃u v,mg x=some u/\jV v u/\∀S,Is K S (C.cn n) v) (hb:∀x∈blts,mg x=none) (hE:∀x,¬ C.E x) (len:∀vs H Q E,sp vs H Q E->vs.length=i.ps.length)
 (body:∀(X:Cx) (H:Hp) (vs:List V) (Q:VK) (E:XK),Hand X i L cns C lv->(X.prog=P/\X.w=w/\X.K=K/\X.mg=mg/\X.base=base/\X.H₀=H)->sp vs H Q E ->
  ∃t,PSs X (jT i.st) t/\t { nx:=fun _ H'=>Q .non H',rt:=Q } (L2.start i.N vs) H) :
 FnOk P w K mg base (CXz P w mg) (lv+1) f fd i.ps sp:=by
 have S:=zy hsc;refine fun_okz F.fn S len (fun cdv A outer s H vs Q E hr h=>?_)
 have hun:(A.deeper (envOfC i.x (ji i.st) s.heap.objs.size f cdv)).units+100<cLine:=by have:=hr.un;lia
 have hcalm:A.handled.isNone=true:=by
  have e:A.handled=none:=hr.hd h2;rw[e];rfl
 have ok:OkS (uk (CXz P w mg) P w K mg base i.N i.x (ji i.st) f cdv A outer s H E).nox (i.ck L cns) C:=by
  refine⟨⟨rfl,S.nd,rfl,S.kind,hcalm,rfl,hun,?_,hcn,hb,hE⟩,fun _=>rfl⟩;intro n x m e;have e':(L.map fun j=>(j.x,j.ps.length))[n]?=some (x,m):=e;rw[Qg]at e'
  cases q:L[n]? with
  |none=>rw[q]at e';cases e'
  |some j =>
   rw[q]at e';cases e';obtain⟨f',fd',F',A'⟩:=fns n j q;exact⟨f',fd',j.ps,lv,F',hr,A'.mg,A'.fn.kp,.all A'.bd⟩
 exact body (uk (CXz P w mg) P w K mg base i.N i.x (ji i.st) f cdv A outer s H E) H vs Q E ⟨ok,⟨rfl,rfl,rfl⟩,hr,rfl⟩ ⟨rfl,rfl,rfl,rfl,rfl,rfl⟩ h
theorem law_walkH{l:PySem.W.OpenLaw}{q:Qp}{loose:List Str}{XP:(Str->Option KO)->QG->Prop}{YP:World->QG->Prop}{d:DefRec}{K:Params->KN}(lv:Nat)(i:FnI){x:Str}
 (hn:l.most=some 63) (hdf:d.params.defaults=[]) (hY:∀(w:World) (h:QG),YP w h->(K w.params).In h) (hr:Room lv callerA) (hx:i.ps=[x]) (hdn:d.name=i.x)
 (key:∀(w:World) (mg:Str->Option KO) (h:QG),(K w.params).In h->h.Ns Q7 mg->∃f fd,FnAt (K w.params) mg i f fd/\∀base:QG,FnOk l.prog w (K w.params) mg base (CXz l.prog w mg) lv f fd [x] (spD (K w.params) 1 false false zB)) :
 PySem.W.WalkO q loose XP YP l.row.toRowW d [] (fun f vs=>PySem.call f vs):=by
 refine L2.walk_of (n:=63) (k:=lv) (x:=x) (CX:=fun _=>fun _ _ _ E _ _=>∃v da H,E v da H) (sp:=fun w=>spD (K w.params) 1 false false zB) hn (by decide) hdf hr hY ?_ (fun w H a ns hl _ hS=>law_sp hl hS) fun _ _ _ _ _ ⟨_,_,_,z⟩=>z
 intro w mg fa h KX G hmg;obtain⟨f,fd,A,ok⟩:=key w mg h KX G
 have e:fa=f:=by
  have:=A.mg;rw[<- hdn,hmg]at this;cases this;rfl
 subst e;refine⟨fd,fun s u=>.of_eq ?_,fun base _ _=>?_⟩
 ·have:=A.bd [u] (by rw[hx];rfl);rw[hx]at this;exact this
 ·exact⟨(ok base).len,fun A outer s H args us vs Q E r e0 b rv hsp=>Uf ((ok base).run A outer s H args us vs Q E r e0 b rv hsp) fun r s' z=>by
   cases r with
   |ok fl=>cases fl<;>exact z
   |error e=>obtain⟨x,C,H1,da,z,_⟩:=z;exact⟨_,_,_,z⟩⟩
end Z
namespace Z.M46
open PySem PySem.Spec PySem.Calls PyProof.Rows PySem.W L2 Z Z.K42 Z.K40 Z.J51 Z.J45 Z.L45 Z.L46 Z.J46 Z.K46
noncomputable def top(i:Nat):Stmt:=PySem.Challenge.pw_trueline_k46_whole_solutions_meet.main.body.getD i (.Pass ⟨0,0,0,0⟩)
noncomputable def fi_law_cell:FnI:=⟨"_law_cell",top 41,["_law_script","_law_k"],["_law_script","_law_k"],yV,xV,false,false,[],true,false⟩
noncomputable def fi_law_drawn:FnI:=⟨"_law_drawn",top 42,["_law_cell_here","_law_k","_law_more"],["_law_cell_here","_law_k"],yA,kE,false,false,[],true,false⟩
noncomputable def fi_law_width:FnI:=⟨"_law_width",top 50,["_law_script","_law_k"],["_law_script","_law_k"],yy 1 0,zn,false,false,[],true,false⟩
noncomputable def fi_law_bare:FnI:=⟨"_law_bare",top 43,["_law_whole_here","_law_power","_law_low"],["_law_whole_here","_law_power"],zh,q9,false,false,[],true,false⟩
noncomputable def fi_law_number:FnI:=⟨"_law_number",top 44,["_law_cell_here","_law_k","_law_width_here","_law_far","_law_more","_law_kind","_law_power","_law_whole_here"],["_law_cell_here","_law_k","_law_width_here","_law_far"],xQ 1 3,qV,false,false,[],true,false⟩
noncomputable def fi_law_measure:FnI:=⟨"_law_measure",top 45,["_law_cell_here","_law_k","_law_width_here","_law_whole_here","_law_place"],["_law_cell_here","_law_k","_law_width_here"],xx 4 1 3,qQ,false,false,[],true,false⟩
noncomputable def fi_law_row:FnI:=⟨"_law_row",top 46,["_law_script","_law_start","_law_many","_law_width_here","_law_row_here","_law_k","_law_cell_here","_law_more","_law_number_here","_law_old","_law_place"],["_law_script","_law_start","_law_many","_law_width_here"],ud 0 1 5 3,c_row,false,false,[],true,false⟩
noncomputable def fi_law_square:FnI:=⟨"_law_square",top 51,["_law_script","_law_start","_law_many","_law_width_here","_law_row_here","_law_rows","_law_more","_law_at","_law_other","_law_place"],["_law_script","_law_start","_law_many","_law_width_here"],K45.b_law_square 6 1 0 3,K45.c_square,true,false,[],true,false⟩
noncomputable def fi_two_to:FnI:=⟨"two_to",top 18,["count","told","factor","left"],["count"],vV,qG,false,false,[],true,false⟩
noncomputable def fi_value:FnI:=⟨"value",top 19,["number"],["number"],Kl 8,xO,false,false,[],true,false⟩
noncomputable def fi_odd_form:FnI:=⟨"odd_form",top 20,["whole","power"],["whole","power"],zg,qx,false,false,[],true,false⟩
noncomputable def fi_one_form:FnI:=⟨"one_form",top 22,["pair"],["pair"],yT 10,q5,false,false,[],true,false⟩
noncomputable def fi_one_by_one:FnI:=⟨"one_by_one",top 24,["rows","told","row"],["rows"],K42.b_one_by_one,K42.c_one_by_one,false,false,[],true,false⟩
noncomputable def fi_least_power:FnI:=⟨"least_power",top 25,["numbers"],["numbers"],K42.b_least_power,K42.c_least_power,false,false,[],true,false⟩
noncomputable def fi_in_steps:FnI:=⟨"in_steps",top 26,["numbers","power"],["numbers","power"],K42.b_in_steps 8,K42.c_in_steps,false,false,[],true,false⟩
noncomputable def fi_rows_in_steps:FnI:=⟨"rows_in_steps",top 27,["rows","power"],["rows","power"],J51.b_rows_in_steps 14,J51.c_rows_in_steps,false,false,[],true,false⟩
noncomputable def fi_without:FnI:=⟨"without",top 29,["rows","place"],["rows","place"],J45.b_without,J45.c_without,false,false,[],true,false⟩
noncomputable def fi_whole_determinant1:FnI:=⟨"whole_determinant",top 30,["rows","total","sign","pair"],["rows"],J45.b_whole_determinant1,J45.c_det1,false,false,[],true,false⟩
noncomputable def fi_whole_determinant2:FnI:=⟨"whole_determinant",top 30,["rows","total","sign","pair"],["rows"],J45.b_whole_determinant2 17 16,J45.c_det2,false,false,[],true,false⟩
noncomputable def fi_whole_determinant3:FnI:=⟨"whole_determinant",top 30,["rows","total","sign","pair"],["rows"],J45.b_whole_determinant3 18 16,J45.c_det3,false,false,[],true,false⟩
noncomputable def fi_whole_determinant4:FnI:=⟨"whole_determinant",top 30,["rows","total","sign","pair"],["rows"],J45.b_whole_determinant4 19 16,J45.c_det4,false,false,[],true,false⟩
noncomputable def fi_determinant:FnI:=⟨"determinant",top 31,["rows","power","whole"],["rows"],J45.b_determinant 13 12 20 15 9 11,J45.c_determinant,false,false,[],true,false⟩
noncomputable def fi_common_divisor:FnI:=⟨"common_divisor",top 15,["one","other","greater","lesser","left"],["one","other"],qv,jK,false,false,[],true,false⟩
noncomputable def fi_ratio:FnI:=⟨"ratio",top 16,["top","under","divisor"],["top","under"],JZ 22,xl,false,false,[],true,false⟩
noncomputable def fi_first_not_nought:FnI:=⟨"first_not_nought",top 32,["row","place"],["row"],J46.b_first_not_nought,J46.c_fnn,false,false,[],true,false⟩
noncomputable def fi_cleared:FnI:=⟨"cleared",top 33,["row","base","place"],["row","base"],J46.b_cleared 24,J46.c_cleared,false,false,[],true,false⟩
noncomputable def fi_in_lowest_terms:FnI:=⟨"in_lowest_terms",top 34,["weights","divisor","weight"],["weights"],J46.b_in_lowest_terms 22 24,J46.c_lowest,false,false,[],true,false⟩
noncomputable def fi_weighted:FnI:=⟨"weighted",top 35,["rows","place"],["rows","place"],J46.b_weighted,J46.c_weighted,false,false,[],true,false⟩
noncomputable def fi_weights_to_nought:FnI:=⟨"weights_to_nought",top 36,["rows","bases","place","row","base"],["rows"],J46.b_weights_to_nought 27 25 24 26,J46.c_weights,false,false,[],true,false⟩
noncomputable def fi_put_in:FnI:=⟨"put_in",top 37,["rows","place","right"],["rows","place","right"],J46.b_put_in,J46.c_put_in,false,false,[],true,false⟩
noncomputable def fi_solved_in_wholesX:FnI:=⟨"solved_in_wholes",top 38,["rows","right","whole"],["rows","right"],J46.b_siwY 20 28 23 29,J46.c_siw,true,true,["Dependent"],true,false⟩
noncomputable def fi_solvedX:FnI:=⟨"solved",top 39,["rows","right","power"],["rows","right"],J46.b_solvedY 13 12 30 15 14,J46.c_solved,true,true,["Dependent"],true,false⟩
noncomputable def fi_law_whole:FnI:=⟨"_law_whole",top 47,["_law_thing"],["_law_thing"],yp,xk,false,false,[],true,false⟩
noncomputable def fi_law_common:FnI:=⟨"_law_common",top 48,["_law_one","_law_other","_law_left"],["_law_one","_law_other"],xZ,kG,false,false,[],true,false⟩
noncomputable def fi_law_wholes:FnI:=⟨"_law_wholes",top 52,["_law_rows","_law_low"],["_law_rows"],K46.b_law_wholes,K46.c_wholes,false,false,[],true,false⟩
noncomputable def fi_law_meets:FnI:=⟨"_law_meets",top 54,["_law_rows","_law_right","_law_answer","_law_under","_law_one","_law_tops","_law_wholes_here","_law_low","_law_at"],["_law_rows","_law_right","_law_answer"],K46.b_law_meets 33 34,K46.c_meets,false,false,[],true,false⟩
noncomputable def fi_law_weighed:FnI:=⟨"_law_weighed",top 55,["_law_rows","_law_weights","_law_divisor","_law_one","_law_wholes_here","_law_low","_law_place"],["_law_rows","_law_weights"],K46.b_law_weighed 32 33 34,K46.c_weighed,false,false,[],true,false⟩
noncomputable def fi_told:FnI:=⟨"_law_told",top 53,["_law_rows","_law_right","_law_e"],["_law_rows","_law_right"],.nop,zB,false,false,[],false,false⟩
noncomputable def fi_law:FnI:=⟨"law",top 56,["_law_script","_law_width_here","_law_many","_law_rows","_law_right","_law_kept","_law_word","_law_answer","_law_one","_law_due"],["_law_script"],.nop,zB,false,false,[],false,false⟩
noncomputable def fi_law_alone:FnI:=⟨"_law_alone",top 49,["_law_e","_law_flags"],["_law_e"],.nop,zB,false,false,[],true,false⟩
noncomputable def fi_ini_Dependent:FnI:=⟨"__init__",clsDef (top 6),["self","text","weights"],["self","text","weights"],.nop,zB,false,false,[],true,false⟩
noncomputable def fns:List FnI:=[fi_law_cell,fi_law_drawn,fi_law_width,fi_law_bare,fi_law_number,fi_law_measure,fi_law_row,fi_law_square,fi_two_to,fi_value,fi_odd_form,fi_one_form,fi_one_by_one,fi_least_power,fi_in_steps,fi_rows_in_steps,fi_without,fi_whole_determinant1,fi_whole_determinant2,fi_whole_determinant3,fi_whole_determinant4,fi_determinant,fi_common_divisor,fi_ratio,fi_first_not_nought,fi_cleared,fi_in_lowest_terms,fi_weighted,fi_weights_to_nought,fi_put_in,fi_solved_in_wholesX,fi_solvedX,fi_law_whole,fi_law_common,fi_law_wholes,fi_law_meets,fi_law_weighed]
noncomputable def C:Cfg where
 ct n:=((fns.map (·.c))[n]?).getD ⟨fun _=>False,fun _ _=>False,fun _ _=>False⟩
 cn _:=.non
 fr n:=((fns.map (·.fr))[n]?).getD false
 f2 n:=((fns.map (·.g))[n]?).getD false
theorem chk:KB fns []=true:=by decide +kernel
theorem sc_told:xr fi_told=true:=by decide +kernel
theorem sc_law:xr fi_law=true:=by decide +kernel
theorem ct:∀n i,fns[n]?=some i->C.ct n=i.c/\C.fr n=i.fr/\C.f2 n=i.g:=by
 intro n i e;refine⟨?_,?_,?_⟩
 ·show ((fns.map (·.c))[n]?).getD _=i.c;rw[Qg,e];rfl
 ·show ((fns.map (·.fr))[n]?).getD _=i.fr;rw[Qg,e];rfl
 ·show ((fns.map (·.g))[n]?).getD _=i.g;rw[Qg,e];rfl
theorem keeps:∀i∈fns,i.Keep C:=by
 intro i hi;simp only[fns,KS,K4,or_false]at hi;rcases hi with rfl|rfl|rfl|rfl|rfl|rfl|rfl|rfl|rfl|rfl|rfl|rfl|rfl|rfl|rfl|rfl|rfl|rfl|rfl|rfl|rfl|rfl|rfl|rfl|rfl|rfl|rfl|rfl|rfl|rfl|rfl|rfl|rfl|rfl|rfl|rfl|rfl
 ·exact k_cell
 ·exact k_drawn
 ·exact k_width rfl rfl
 ·exact k_bare
 ·exact k_number rfl rfl
 ·exact k_measure rfl rfl rfl
 ·exact k_row rfl rfl rfl rfl
 ·exact K45.k_square rfl rfl rfl rfl
 ·exact k_two_to
 ·exact k_value rfl
 ·exact k_odd_form
 ·exact k_one_form rfl
 ·exact K42.k_one_by_one
 ·exact K42.k_least_power
 ·exact K42.k_in_steps rfl
 ·exact J51.k_rows_in_steps rfl
 ·exact J45.k_without
 ·exact J45.k_det1
 ·exact J45.k_det2 rfl rfl
 ·exact J45.k_det3 rfl rfl
 ·exact J45.k_det4 rfl rfl
 ·exact J45.k_determinant rfl rfl rfl rfl rfl rfl
 ·exact zZ
 ·exact k_ratio rfl
 ·exact J46.k_fnn
 ·exact J46.k_cleared rfl
 ·exact J46.k_lowest rfl rfl
 ·exact J46.k_weighted
 ·exact J46.k_weights rfl rfl rfl rfl
 ·exact J46.k_put_in
 ·exact J46.k_siw rfl rfl rfl rfl (fun _ z=>z)
 ·exact J46.k_solved rfl rfl rfl rfl rfl rfl
 ·exact k_whole
 ·exact k_common
 ·exact K46.k_wholes
 ·exact K46.k_meets rfl rfl
 ·exact K46.k_weighed rfl rfl rfl
noncomputable def y0:Ex:=(.call 2 [(.var 0),(.cst (.int 0))])
noncomputable def y1:Ex:=(.bin .add (.cst (.int 1)) (.bin .mod (.call 1 [(.call 0 [(.var 0),(.cst (.int 0))]),(.cst (.int 107))]) (.cst (.int 4))))
noncomputable def y2:Ex:=(.call 7 [(.var 0),(.cst (.int 1)),(.var 2),(.var 1)])
noncomputable def y3:Ex:=(.call 6 [(.var 0),(.bin .add (.cst (.int 1)) (.bin .mul (.var 2) (.var 2))),(.var 2),(.var 1)])
noncomputable def y4:Ex:=(.lst [(.compE (.var 3) (.bi .list [(.var 10)])),(.bi .list [(.var 4)])])
noncomputable def y6:Ex:=(.or (.cmp .ne (.lst [(.var 3),(.var 4)]) (.var 5)) (.cmp .eq (.var 6) (.cst (.str "other"))))
noncomputable def y7c:Ex:=(.cmp .eq (.var 6) (.cst (.str "none")))
noncomputable def y7:Ex:=(.and (.call 36 [(.var 3),(.var 7)]) (.cmp .eq (.call 21 [(.var 3)]) (.tup [(.cst (.int 0)),(.cst (.int 1))])))
noncomputable def y8:Ex:=(.or (.not (.isi (.var 7) .list)) (.or (.cmp .ne (.bi .len [(.var 7)]) (.var 2)) (.cmp .eq (.call 21 [(.var 3)]) (.tup [(.cst (.int 0)),(.cst (.int 1))]))))
noncomputable def y9a:Ex:=(.or (.not (.isi (.var 8) .tuple)) (.or (.cmp .ne (.bi .len [(.var 8)]) (.cst (.int 2))) (.or (.not (.call 32 [(.ix (.var 8) (.cst (.int 0)))])) (.not (.call 32 [(.ix (.var 8) (.cst (.int 1)))])))))
noncomputable def y9b:Ex:=(.or (.cmp .lt (.ix (.var 8) (.cst (.int 1))) (.cst (.int 1))) (.cmp .ne (.call 33 [(.ix (.var 8) (.cst (.int 0))),(.ix (.var 8) (.cst (.int 1)))]) (.cst (.int 1))))
noncomputable def y12:Ex:=(.and (.call 35 [(.var 3),(.var 4),(.var 9)]) (.cmp .eq (.call 31 [(.var 3),(.var 4)]) (.var 9)))
noncomputable def exT(K:KN)(O₀:List Addr)(H₀:Hp)(w0:Str)(D:Ends):XD->Prop:=fun y=>y.t="Dependent" /\ ∃d,y.f=[d]/\∀v t H',jf H₀ H'->H₀ t=none->Is K (je H' O₀) d v->H' t=some (.tup [.str w0,v])->D.rt (.ref t) H'
theorem ps_told{X:Cx}{k:Ck}{C:Cfg}{O₀:List Addr}{H₀:Hp}{i f jc jt:Nat}{es:List Ex}{v:Expr}{w1 w0:Str}{Ca:Addr}{b0:Stmt}{suite:List Stmt}{c1 tp np rp p pos:Pos}(ok:OkS X.nox k C)(own:Own X)(o0:∀a∈O₀,H₀ a≠none)(al:Alone X)(hm:X.mg "Dependent"=some (.ref Ca))(co:ClsOk X.K X.mg "Dependent" Ca true)
 (g1:Gl X "Dependent") (gi:Gl X "int") (ga:Gl X "_law_alone") (hle:X.env.scope.names.lookup ("_law_e":Str)=some .local) (hi:X.N[i]?=some ("_law_e":Str)) (hk:k.cls=[]) (hka:k.al=false) (hrs:k.rs=false) (hv:chkN k f es [] v=true) (hst:Qa [v] X.env=(false,eval v X.env)::Qa [] X.env) (hsu:J0 w0 (some "weights") (b0::suite)=true) :
 PS X (.Try [.Return (some (.Tuple [.Constant (.str w1) jc c1,v] jt tp)) rp] [.ExceptHandler (some (.Name "Dependent" np)) (some "_law_e") (b0::suite) p] [] [] pos)
  (fun D τ H=>∃σ O,jf H₀ H/\(∀a∈O₀,a∈O)/\Reps X.K O H σ τ/\wpEs C es σ fun ds=>C.fr f=true/\(C.ct f).wp ds (fun d=>WdF X.K O H (fun u H1=>∀t,H1 t=none->D.rt (.ref t) (upd H1 t (.tup [.str w1,u]))) d) (exT X.K O₀ H₀ w0 D)):=by
 intro pins s τ H D I w;refine wpAny_Try_except ?_;obtain⟨σ,O,g,gs,R,w⟩:=w
 let hes:List Zj:=[.ExceptHandler (some (.Name "Dependent" np)) (some "_law_e") (b0::suite) p]
 let xe':KO->Shared->Prop:=fun e s₁=>wpAny (model X.prog X.w) X.A (noteFrame e X.env) (fun _ s₂=>wpAny (model X.prog X.w) X.A (setFlight e none) (fun _ s₃=>wpAny (model X.prog X.w) X.A (handleBy e X.env hes) (SP X pins D) X.xe s₃) X.xe s₂) X.xe s₁
 let X':Cx:={ X with xe:=xe',pn:=X.pn++pins }
 have toX:∀ {ps:List (Addr×Obj)} {σ':L2.St} {H':Hp} {s':Shared},Inv X' ps σ' H' s'->Inv X pins σ' H' s':=fun {ps σ' H' s'} J=>⟨I.ok,J.os,J.bare,J.base,J.loc,J.cell,J.free,J.freeC,fun q hq=>J.pin q (Xe _ hq),J.hok,J.len⟩
 have I':Inv X' [] τ H s:=⟨⟨I.ok.mod,I.ok.kind,I.ok.glob,I.ok.blt,I.ok.above,I.ok.inj,I.ok.has,I.ok.cab,I.ok.hd,I.ok.frames,I.ok.stk,I.ok.exf,I.ok.bs,I.ok.bsz,I.ok.noex,I.ok.exfs,I.ok.funs,I.ok.frf⟩,I.os,I.bare,I.base,I.loc,I.cell,I.free,I.freeC,fun q hq=>I.pin q (by simpa[X']using hq),I.hok,I.len⟩
 have ok':OkX X' k C O₀ H₀ (exT X.K O₀ H₀ w0 D):=by
  refine⟨⟨⟨ok.N,ok.nd,ok.names,ok.kd,ok.calm,rfl,ok.units,ok.fns,ok.cns,ok.blt,ok.E⟩,ok.fn⟩,⟨own.stk,own.frm,own.ex⟩,o0,?_,(fun z=>by rw[hrs]at z;cases z),(fun z=>by rw[hrs]at z;cases z),(fun z hz=>by rw[hk]at hz;cases hz),fun z=>?_⟩
  ·intro z Cz hz hmz pins' σ' H' s' H1 da e s2 J sm fd T;obtain⟨zt,d,zf,rt⟩:=hz
   have ec:Cz=Ca:=by rw[zt,show X'.mg "Dependent"=some (.ref Ca) from hm]at hmz;cases hmz;rfl
   subst ec;have af:=co.al rfl;refine caught (X:=X') (Q:=SP X pins D) (E:=X.xe) (pre:=[]) (fun _ z=>nomatch z) J ⟨own.stk,own.frm,own.ex⟩ ok.nd hm co.cl g1 (by decide) hi hle T ?_;rintro ea oe vs s7 s1 cl dt dc rfl J7 hn;have s2':jf H1 (upd H1 ea (.frz oe (.ext fun _=>True))):=jB hn _
   have hlen:i<σ'.length:=by
    rw[J.len];exact(Q4.mp hi).1
   have hF:∀n,some ("weights":Str)=some n->∃T f,InitF X'.K X'.mg Cz T f n:=fun n hn=>by
    cases hn;obtain⟨T,f,F,_⟩:=co.ow rfl;exact⟨T,f,F⟩
   obtain⟨psu,hwo⟩:=pss_suite (X:=X') (ea:=ea) (i:=i) (y:="Dependent") (D:=Cz) ⟨al.fn,al.rm,al.int⟩ hi hle gi ga af hF hsu
   have st0:J1 i Cz (σ'.set i (some (.ref ea))) (upd H1 ea (.frz oe (.ext fun _=>True))):=⟨ea,oe,_,Qq hlen,jm ..,cl⟩
   have fin:∀(f:Flow) (s8:Shared),SP (mkX X' ea) pins' { nx:=fun _ _=>False,rt:=fun v H'=>jf (upd H1 ea (.frz oe (.ext fun _=>True))) H'/\D.rt v H' } f s8 ->
    wpAny (model X'.prog X'.w) X'.A (do bindName X'.env "_law_e" .none;Z4 X'.env "_law_e" p) (fun _ s₅=>SP X pins D f s₅) X.xe s8:=fun f s8 z=>by
    cases f with
    |ret u =>
     obtain⟨v,σ8,H8,J8,r8,s8',q8⟩:=z
     refine name_gone (X:=X') (inv_unX J J8) ⟨own.stk,own.frm,own.ex⟩ hle fun s9 J9=>?_
     exact⟨v,_,H8,toX J9,r8,q8⟩
    |next=>obtain⟨_,_,_,z⟩:=z;exact z.elim
    |brk=>obtain⟨_,_,_,z⟩:=z;exact z.elim
    |cont=>obtain⟨_,_,_,z⟩:=z;exact z.elim
   obtain⟨dA,v,rfl,hdA,iv⟩:=fd d (by rw[zf];simp);rw[zt]at hdA
   refine QY (psu pins' s7 _ _ { nx:=fun _ _=>False,rt:=fun v H'=>jf (upd H1 ea (.frz oe (.ext fun _=>True))) H'/\D.rt v H' } J7 ⟨st0,ea,oe,_,vs,dA,v,Qq hlen,jm ..,cl,dt,dc.resolve_left (fun z=>nomatch z),s2' _ _ hdA,fun t H8 s8 ht0 ht8=>⟨s8,rt v t H8 ((sm.trans s2').trans s8) ((sm.trans s2').free ht0) (Is.mono (jd (s2'.trans s8)) d iv) ht8⟩⟩) fin fun _ _ z=>z
  ·rw[hka]at z;cases z
 have pb:PSs X' [.Return (some (.Tuple [.Constant (.str w1) jc c1,v] jt tp)) rp] _:=jr (qY (Kz (js vd (js (sY ok' f es v hv) jU hst) rfl))) j7
 refine QY (pb [] s τ H D I' ⟨σ,O,g,gs,R,jw es (fun ds wd=>⟨wd.1,wd.2.1,fun d r xs a H1 us e s1 h0 h1 i1=>⟨by show 2<=sizeLine;decide,fun t ht=>?_⟩,wd.2.2.2⟩) w⟩) (fun f s1 z=>?_) fun e s1 z=>z
 ·exact wd.2.2.1 d r xs a H1 us e s1 h0 h1 i1 t ht
 cases f with
 |ret u=>obtain⟨v,σ8,H8,J8,r8,q8⟩:=z;exact⟨v,σ8,H8,toX J8,r8,q8⟩
 |next =>
  obtain⟨σ8,H8,J8,q8⟩:=z
  exact j7 (X:=X) pins s1 σ8 H8 D (toX J8) q8
 |brk=>obtain⟨σ8,H8,J8,q8⟩:=z;exact⟨σ8,H8,toX J8,q8⟩
 |cont=>obtain⟨σ8,H8,J8,q8⟩:=z;exact⟨σ8,H8,toX J8,q8⟩
theorem yK(H:Hp):je H []=H:=by
 funext b;exact j5 (by simp)
abbrev qD(q:List (Int×Int)):D:=.lst (q.map nq)
noncomputable def TelA(K:KN)(H:Hp)(Q:VK)(n:Nat)(T:List (List (Int×Int)))(q:List (Int×Int)):Prop:=∀low a ws t H',IsMin (T ++ [q]) low->jD (n-1) (wh low T)≠0->jf H H'->H a=none->H' a=some (.lst ws)->Iss K (je H' [a]) ((yk n (wh low T) (q.map (atW low))).map rq) ws->H t=none->t≠a->H' t=some (.tup [.str "told",.ref a])->Q (.ref t) H'
noncomputable def TelW(K:KN)(H:Hp)(Q:VK)(n:Nat)(T:List (List (Int×Int)))(q:List (Int×Int)):Prop:=∀low u v t H',IsMin (T ++ [q]) low->jD (n-1) (wh low T)=0->Wts n (wh low T) u->jf H H'->H t=none->Is K H' (iD u) v->H' t=some (.tup [.str "none",v])->Q (.ref t) H'
noncomputable def spTd(K:KN):Sp:=fun vs H Q _=>∃n T q v1 v2,vs=[v1,v2]/\Is K H (tabD T) v1/\Is K H (qD q) v2/\SqR n T q/\TelA K H Q n T q/\TelW K H Q n T q
theorem told_body{X:Cx}{lv:Nat}{H:Hp}{vs:List V}{Q:VK}{E:XK}{Ca:Addr}(hh:Hand X fi_told fns [] C lv)(al:Alone X)(hm:X.mg "Dependent"=some (.ref Ca))(co:ClsOk X.K X.mg "Dependent" Ca true)(sp:spTd X.K vs H Q E) :
 ∃t,PSs X (jT fi_told.st) t/\t { nx:=fun _ H'=>Q .non H',rt:=Q } (L2.start fi_told.N vs) H:=by
 obtain⟨b1,b2,b3,b4⟩:=hh.ok.toOk.vis (i:=2) (x:="_law_e") (by decide +kernel)
 have G:∀c,(fi_told.ck fns []).gl c=true->Gl X c:=fun c h=>(hh.ok.toOk.gl h).1
 have le:X.env.scope.names.lookup ("_law_e":Str)=some .local:=by rw[hh.sc];decide +kernel
 refine⟨_,jr (ps_told (O₀:=[]) (H₀:=H) (w0:="none") (i:=2) (f:=31) (es:=[.var 0,.var 1]) hh.ok hh.own (fun _ z=>nomatch z) al hm co (G _ (by decide +kernel)) (G _ (by decide +kernel)) (G _ (by decide +kernel)) le b1 rfl rfl rfl (by decide +kernel) rfl (by decide +kernel)) j7,?_⟩;obtain⟨n,T,q,v1,v2,rfl,i1,i2,gr,ta,tw⟩:=sp
 have is:Iss X.K (je H []) [tabD T,qD q] [v1,v2]:=by
  rw[yK];unfold Iss;exact⟨_,_,rfl,i1,by unfold Iss;exact⟨_,_,rfl,i2,by unfold Iss;rfl⟩⟩
 refine⟨startS 3 [tabD T,qD q],[],fun _ _ z=>z,(fun _ z=>nomatch z),vk (N:=fi_told.N) rfl (fun _ z=>nomatch z) is,?_⟩;dsimp! only[];refine⟨rfl,⟨n,T,q,rfl,gr⟩,fun d r xs a H1 us e s1 h0 h1 is1 t ht=>?_,fun y hy=>?_⟩
 ·obtain⟨low,m,hz,rfl⟩:=r n T q rfl gr;cases e
  have ne:t≠a:=fun z=>by rw[z,h1]at ht;cases ht
  have st:=jB ht (.tup [.str "told",.ref a]);exact ta low a us t _ m hz (s1.trans st) h0 (st _ _ h1) (Iss.mono (jd st) _ is1) (s1.free ht) ne (jm ..)
 ·obtain⟨n',T',q',low,u,⟨e,gr',m⟩,hz,yt,yf,hw⟩:=hy;obtain⟨rfl,rfl⟩:=injTq e
  have:n'=n:=by have:=gr.sq.len;have:=gr'.sq.len;lia
  subst this;refine⟨yt,_,yf,fun v t H' s1 h0 i1 ht=>tw low u v t H' m hz hw s1 h0 (by rw[yK]at i1;exact i1) ht⟩
end Z.M46
set_option exponentiation.threshold 3000
namespace Z.M46
open PySem PySem.Spec PySem.Calls PyProof.Rows PySem.W L2 Z Z.K42 Z.K40 Z.J51 Z.J45 Z.L45 Z.L46 Z.J46 Z.K46
theorem det_mul(k:Int):∀(n:Nat) (M:List (List Int)),jD n (M.map fun r=>r.map fun x=>k*x)=k^(n+1)*jD n M:=by
 have g0:∀(M:List (List Int)) (j:Nat),((M.map fun r=>r.map fun x=>k*x).getD 0 []).getD j 0=k*(M.getD 0 []).getD j 0:=fun M j=>by
  cases M with
  |nil=>simp
  |cons r M =>
   show (r.map fun x=>k*x).getD j 0=k*r.getD j 0;rw[KY,KY,Qg];rcases Qd j r.length with h|h
   ·rw[KU h];rfl
   ·rw[KT h];simp
 intro n
 induction n with
 |zero=>intro M;show _=k^1*_;rw[jD,jD,g0,XR,Int.pow_zero,Z0]
 |succ n ih =>
  intro M;rw[jD,jD,<- vP];refine congrArg List.sum (QK fun j _=>?_)
  have e:wo ((M.map fun r=>r.map fun x=>k*x).drop 1) j=(wo (M.drop 1) j).map fun r=>r.map fun x=>k*x:=by
   unfold wo;rw[<- Uz,Qr,Qr]
   refine QK fun r _=>?_
   simp only[Function.comp,Qw,List.map_take,Uz]
  rw[e,ih,g0,XR k (n+1)]
  grind
theorem det_low{n:Nat}{T:List (List (Int×Int))}{low l2:Int}(h1:low<=l2)(h2:∀r∈T,∀x∈r,l2<=x.2):jD n (wh low T)=0 ↔ jD n (wh l2 T)=0:=by
 have e:wh low T=(wh l2 T).map fun r=>r.map fun x=>2^(l2-low).toNat*x:=by
  unfold wh;rw[Qr]
  refine QK fun r hr=>?_
  simp only[Function.comp,Qr]
  exact QK fun x hx=>atW_step h1 (h2 r hr x hx)
 rw[e,det_mul];have p:(0:Int)<(2^(l2-low).toNat)^(n+1):=Int.pow_pos (Int.pow_pos (by decide));constructor
 ·intro z;exact(Int.mul_eq_zero.mp z).resolve_left (Int.ne_of_gt p)
 ·intro z;rw[z,ZK]
theorem vr_nil{w p:Int}:vr (w,p)=0 ↔ w=0:=by
 unfold vr
 have:tw p≠0:=by have:=kf p;grind
 constructor
 ·intro z;have:=(Rat.mul_eq_zero.mp z).resolve_right this;simpa using this
 ·intro z;rw[z];simp
theorem det_nq{n:Nat}{T:List (List (Int×Int))}{q:List (Int×Int)}{low:Int}{Q:D->Prop}{E:XD->Prop}(g:SqR n T q)(m:IsMin (T ++ [q]) low)(h:∀r:Rat,(r=0 ↔ jD (n-1) (wh low T)=0)->Q (rq r)):c_determinant.wp [tabD T] Q E:=by
 refine⟨⟨n,T,rfl,g.sq⟩,fun d r=>?_,fun _ z=>z.elim⟩;obtain⟨l2,m2,rfl⟩:=r n T rfl g.sq;refine h _ ?_
 have lo:low<=l2:=by
  obtain⟨r,hr,x,hx,e⟩:=m2.at_;have:=m.le r (Xe _ hr) x hx;lia
 unfold detQ;rw[vr_nil];exact(det_low lo m2.le).symm
abbrev nsD(ns:List Int):D:=.lst (ns.map .int)
section
variable {ns:List Int} {Q:D->Prop} {n w:Nat} {T:List (List (Int×Int))} {q:List (Int×Int)}
theorem e0(hn:ns.length<=63)(h:∀w:Nat,8<=w->w<=64->Q (.int w)):wpE C y0 [some (.sh (nsD ns)),none,none,none,none,none,none,none,none,none] Q:=by
 unfold y0;dsimp! only[];exact(wp_width hn (by decide)).mpr h
theorem e1(hn:ns.length<=63)(h:∀n:Nat,1<=n->n<=4->Q (.int n)):wpE C y1 [some (.sh (nsD ns)),none,none,none,none,none,none,none,none,none] Q:=by
 unfold y1;dsimp! only[]
 refine(Kx hn (by decide)).mpr fun c=>zL.mpr fun m m0 m1=>?_
 dsimp! only[];rw[jA (by decide)];have:=h (1+m%4).toNat (by omega) (by omega)
 rwa [show (((1+m%4).toNat:Nat):Int)=1+m%4 by omega]at this
theorem e2(hn:ns.length<=63)(n1:1<=n)(n4:n<=4)(w1:8<=w)(w2:w<=64)(h:∀T,SqT n T->Q (tabD T)):wpE C y2 [some (.sh (nsD ns)),some (.sh (.int w)),some (.sh (.int n)),none,none,none,none,none,none,none] Q:=by
 unfold y2;dsimp! only[];exact(K45.wp_square hn (by decide) ⟨n1,n4⟩ w1 w2).mpr h
theorem e3(hn:ns.length<=63)(g:SqT n T)(w1:8<=w)(w2:w<=64)(h:∀q,SqR n T q->Q (qD q)):wpE C y3 [some (.sh (nsD ns)),some (.sh (.int w)),some (.sh (.int n)),none,none,none,none,none,none,none] Q:=by
 have n1:=g.n1;have n4:=g.n4;have bn:bits (n:Int)<=10:=jk.mpr (by omega);have mo:kH (n:Int) n:=.inl (by lia);unfold y3;dsimp! only[mo];have nn:(0:Int)<=n*n:=Int.mul_nonneg (by lia) (by lia)
 refine(wp_row hn (by lia) (by lia) (by lia) w1 w2).mpr fun q ql hq=>h q ⟨g,by rw[ql];lia,fun x hx=>(hq x hx).small w2⟩
theorem e4(g:SqR n T q)(h:Q (.lst [tabD T,qD q])):wpE C y4 [none,none,none,some (.sh (tabD T)),some (.sh (qD q)),none,none,none,none,none] Q:=by
 have l1:T.length<=lim:=by rw[g.sq.len];have:=g.sq.n4;unfold lim;lia
 have l2:q.length<=lim:=by rw[g.len];have:=g.sq.n4;unfold lim;lia
 unfold y4 tabD qD;dsimp! only[KP,l1,l2]
 rw[jJ (g:=fun r:List (Int×Int)=>D.lst (r.map nq)) (h:=fun r=>D.lst (r.map nq)) (fun r hr Q=>by
  have l3:r.length<=lim:=by rw[g.sq.row r hr];have:=g.sq.n4;unfold lim;lia
  dsimp! only[KP,l3])]
 exact h
theorem e6{w:Str}(hw:(w == Yt "other")=false)(h:Q (.bl false)):wpE C y6 [none,none,none,some (.sh (tabD T)),some (.sh (qD q)),some (.sh (.lst [tabD T,qD q])),some (.sh (.str w)),none,none,none] Q:=by
 have d1:=dep_tab T;have d2:=vt q;unfold y6;dsimp! only[eqD_refl,hw];exact⟨by lia,h⟩
theorem e7c{w:Str}{c:Bool}(hw:(w == Yt "none")=c)(h:Q (.bl c)):wpE C y7c [none,none,none,none,none,none,some (.sh (.str w)),none,none,none] Q:=by
 unfold y7c;dsimp! only[hw];exact h
theorem e7{u:List Int}{low:Int}(g:SqR n T q)(m:IsMin (T ++ [q]) low)(hz:jD (n-1) (wh low T)=0)(hu:Wts n (wh low T) u)(h:Q (.bl true)):wpE C y7 [none,none,none,some (.sh (tabD T)),none,none,none,some (.sh (iD u)),none,none] Q:=by
 unfold y7;dsimp! only[];refine⟨⟨n,T,u,low,rfl,g.sq,fun r hr=>m.le r (Xe _ hr),hu⟩,fun d e=>?_,fun _ z=>z.elim⟩;cases e;dsimp! only[]
 refine det_nq g m fun r hr=>?_
 rw[tup01];dsimp! only[dep_rq,eq_rq,hr.mpr hz,decide_true];exact h
theorem e8{low:Int}{xs:List Rat}(g:SqR n T q)(m:IsMin (T ++ [q]) low)(hz:jD (n-1) (wh low T)≠0)(hl:xs.length=n)(h:Q (.bl false)):wpE C y8 [none,none,some (.sh (.int n)),some (.sh (tabD T)),none,none,none,some (.sh (.lst (xs.map rq))),none,none] Q:=by
 unfold y8;dsimp! only[KP,hl]
 refine det_nq g m fun r hr=>?_
 have:¬ r=0:=fun z=>hz (hr.mp z)
 rw[tup01];dsimp! only[dep_rq,eq_rq,this,decide_false];exact h
theorem e9a{r:Rat}(h:Q (.bl false)):wpE C y9a [none,none,none,none,none,none,none,none,some (.sh (rq r)),none] Q:=by
 have h32:C.ct 32=xk:=rfl;unfold y9a rq
 simp_arith only[h32,xk,isInt]
 exact h
theorem e9b{r:Rat}(hr:szr 1800 r)(h:Q (.bl false)):wpE C y9b [none,none,none,none,none,none,none,none,some (.sh (rq r)),none] Q:=by
 have h33:C.ct 33=kG:=rfl
 have d:¬ (r.den:Int)<1:=by have:=zU r;lia
 have b1:bits r.num<=9000:=by have:=hr.1;lia
 have b2:bits (r.den:Int)<=9000:=by have:=hr.2;lia
 have e:Xb r.num r.den=1:=r.reduced;unfold y9b
 simp_arith only[h33,kG,ix_rq0,ix_rq1,d,b1,b2,e]
 exact h
theorem deps_rqs:∀xs:List Rat,qB (xs.map rq)<=1
 |[]=>by simp[qB]
 |x::xs=>by have:=deps_rqs xs;simp[qB,dep_rq];lia
theorem uH{A:List (List Int)}{b:List Int}:(yk n A b).length=n:=by unfold yk;simp
theorem e12{low:Int}(g:SqR n T q)(m:IsMin (T ++ [q]) low)(hz:jD (n-1) (wh low T)≠0)(hs:∀x∈yk n (wh low T) (q.map (atW low)),szr 1800 x)(h:Q (.bl true)):wpE C y12 [none,none,none,some (.sh (tabD T)),some (.sh (qD q)),none,none,none,none,some (.sh (.lst ((yk n (wh low T) (q.map (atW low))).map rq)))] Q:=by
 have lo:=g.lo m;unfold y12;dsimp! only[];refine⟨⟨n,T,q,_,low,rfl,g,uH,hs,m,sol_meets (g.sqA lo) (by rw[KP];exact g.len) hz⟩,fun d e=>?_,fun _ z=>z.elim⟩;cases e;dsimp! only[];refine⟨⟨n,T,q,rfl,g⟩,fun d e=>?_,fun y hy=>?_⟩
 ·obtain⟨low',m',_,rfl⟩:=e n T q rfl g;obtain rfl:=m'.uni m;dsimp! only[eqD_refl];exact⟨Qx (deps_rqs _) (by decide),h⟩
 ·obtain⟨n',T',q',low',u,⟨e,g',m'⟩,z,_⟩:=hy;obtain⟨rfl,rfl⟩:=injTq e;obtain rfl:=m'.uni m
  have:n'=n:=by have:=g.sq.len;have:=g'.sq.len;lia
  subst this;exact absurd z hz
end
theorem sol_sz{n:Nat}{A:List (List Int)}{b:List Int}(g:SqA n A)(lb:b.length=n)(bb:∀x∈b,bits x<=400)(hz:jD (n-1) A≠0):∀x∈yk n A b,szr 1800 x:=by
 intro x hx;unfold yk at hx;obtain⟨j,hj,rfl⟩:=K7.mp hx;have h1:=det_b (put_sq g lb bb (Xh.mp hj));have h2:=det_b g;have sz:=divInt_sz (jD (n-1) (yD A j b)) hz;exact⟨by lia,by lia⟩
noncomputable def Sh(K:KN)(S:Hp):Sto->L2.St->Prop
 |[],[]=>True
 |none::σ,_::τ=>Sh K S σ τ
 |some (.sh d)::σ,some v::τ=>Is K S d v/\Sh K S σ τ
 |_,_=>False
theorem reps_sh{K:KN}{H:Hp}{σ:Sto}{τ:L2.St}(h:Sh K H σ τ):Reps K [] H σ τ:=by
 have key:∀ {σ:Sto} {τ:L2.St},Sh K H σ τ->σ.length=τ.length/\∀i z,getS σ i=some z->∃d v,z=.sh d/\τ[i]?=some (some v)/\Is K H d v:=by
  intro σ
  induction σ with
  |nil =>
   intro τ h
   cases τ with
   |nil=>exact⟨rfl,fun i z g=>by simp[getS]at g⟩
   |cons _ _=>exact h.elim
  |cons x σ ih =>
   intro τ h
   cases τ with
   |nil=>rcases x with _|(_|_|_)<;>exact h.elim
   |cons y τ =>
    rcases x with _|(d|_|_)
    ·obtain⟨l,q⟩:=ih (τ:=τ) (by cases y<;>exact h);refine⟨by simp[l],fun i z g=>?_⟩
     cases i with
     |zero=>simp[getS]at g
     |succ i=>exact q i z (by simpa[getS]using g)
    ·cases y with
     |none=>exact h.elim
     |some v =>
      obtain⟨h1,h2⟩:=h;obtain⟨l,q⟩:=ih h2;refine⟨by simp[l],fun i z g=>?_⟩
      cases i with
      |zero =>
       simp[getS]at g
       exact⟨d,v,g.symm,rfl,h1⟩
      |succ i=>exact q i z (by simpa[getS]using g)
    ·cases y<;>exact h.elim
    ·cases y<;>exact h.elim
 obtain⟨l,q⟩:=key h
 have no:∀i z,getS σ i=some z->∃d,z=.sh d:=fun i z g=>by obtain⟨d,_,e,_⟩:=q i z g;exact⟨d,e⟩
 refine⟨l,(fun _ z=>nomatch z),fun i d g=>?_,fun i ds g=>?_,fun i j ds es _ g=>?_,⟨fun i rows g=>?_,fun i j rs qs g=>?_⟩⟩
 ·obtain⟨d',v,e,hv,is⟩:=q i _ g;cases e;exact⟨v,hv,by rw[yK];exact is⟩
 ·obtain⟨_,e⟩:=no _ _ g;cases e
 ·obtain⟨_,e⟩:=no _ _ g;cases e
 ·obtain⟨_,e⟩:=no _ _ g;cases e
 ·intro g2;obtain⟨_,e⟩:=no _ _ g2;cases e
theorem go{K:KN}{H:Hp}{σ:Sto}{τ:L2.St}{x:Ex}{Q:VK}(w:wpE C x σ (Wd K [] H Q))(h:Sh K H σ τ):tD K C x τ H Q:=⟨σ,[],reps_sh h,w⟩
theorem goT{K:KN}{H:Hp}{σ:Sto}{τ:L2.St}{x:Ex}{Q:Bool->Hp->Prop}(w:wpE C x σ (isB fun c=>∀H',jf H H'->Q c H'))(h:Sh K H σ τ):tDT K C x τ H Q:=⟨σ,[],reps_sh h,w⟩
noncomputable def sL(n:Nat):Stmt:=(jT fi_law.st).getD n (.Pass ⟨0,0,0,0⟩)
structure LF (Y:Cx) (lv:Nat):Prop where
 ok:OkS Y (fi_law.ck fns []) C
 rm:Room lv Y.A
 td:∃f fd,FnOk Y.prog Y.w Y.K Y.mg Y.base (CXz Y.prog Y.w Y.mg) lv f fd ["_law_rows","_law_right"] (spTd Y.K)/\Y.mg "_law_told"=some (.ref f)/\XS Y.K (.ref f)=true/\yP Y.K fd ["_law_rows","_law_right"] []
section
variable {Y:Cx} {lv:Nat}
theorem LF.gl(F:LF Y lv){c:Str}(h:(fi_law.ck fns []).gl c=true):Gl Y c:=(F.ok.toOk.gl h).1
theorem LF.v(F:LF Y lv){i:Nat}{x:Str}{p:Pos}(h:(fi_law.ck fns []).loc i x=true):PE Y (.Name x p) (tVar i):=by
 obtain⟨a1,a2,a3,a4⟩:=F.ok.toOk.vis h;exact j9 a1 (qd a2) a3 a4
theorem LF.pg(F:LF Y lv){i:Nat}{x:Str}{p:Pos}(h:(fi_law.ck fns []).loc i x=true):PG Y (.Name x p) (k7 i):=by
 obtain⟨a1,a2,a3,a4⟩:=F.ok.toOk.vis h;exact xY F.ok.nd a1 a2 (.inl (F.ok.fn _))
theorem LF.set(F:LF Y lv){i:Nat}{x:Str}{p pos:Pos}{e:Expr}{te:TE}(h:(fi_law.ck fns []).loc i x=true)(he:PE Y e te)(hs:Y5 e (some (.Name x p)) pos.line Y.env=pure false):PS Y (.Assign [.Name x p] e pos) (vS te (k7 i)):=by
 obtain⟨a1,a2,a3,a4⟩:=F.ok.toOk.vis h;exact yh F.ok.nd a1 a2 he hs (.inl (F.ok.fn _))
abbrev tRF:TS:=tSeq (tRet (tC (.bl false))) yQ
theorem LF.ifF(F:LF Y lv){y:Ex}{e:Expr}{jp rp pos:Pos}{k:Nat}(h:chkE (fi_law.ck fns []) y e=true):PS Y (.If e [.Return (some (.Constant (.bool false) k jp)) rp] [] pos) (tIfS (tDT Y.K C y) tRF yQ):=ps_if (sB F.ok.toOk y _ h).2 (jr (qY pe_bl) j7) j7
theorem p0(F:LF Y lv):PS Y (sL 0) (vS (tD Y.K C y0) (k7 1)):=F.set (by decide +kernel) (sB F.ok.toOk y0 _ (by decide +kernel)).1 rfl
theorem p1(F:LF Y lv):PS Y (sL 1) (vS (tD Y.K C y1) (k7 2)):=F.set (by decide +kernel) (sB F.ok.toOk y1 _ (by decide +kernel)).1 rfl
theorem p2(F:LF Y lv):PS Y (sL 2) (vS (tD Y.K C y2) (k7 3)):=F.set (by decide +kernel) (sB F.ok.toOk y2 _ (by decide +kernel)).1 rfl
theorem p3(F:LF Y lv):PS Y (sL 3) (vS (tD Y.K C y3) (k7 4)):=F.set (by decide +kernel) (sB F.ok.toOk y3 _ (by decide +kernel)).1 rfl
theorem p4(F:LF Y lv):PS Y (sL 4) (vS (tD Y.K C y4) (k7 5)):=F.set (by decide +kernel) (sB F.ok.toOk y4 _ (by decide +kernel)).1 rfl
theorem p5(F:LF Y lv):PS Y (sL 5) (vS (tCall (spTd Y.K) [] E0 (vY (tVar 3) (vY (tVar 4) tNil))) (gTup Y.K 2 (gCons (k7 6) (gCons (k7 7) gNil)))):=by
 obtain⟨f,fd,FO,hm,hk,hb⟩:=F.td;exact Ks (zl FO F.rm (F.gl (by decide +kernel)) hm hk hb .nil passZ (js (F.v (by decide +kernel)) (js (F.v (by decide +kernel)) jU))) (pg_tup F.ok.calm (uV (F.pg (by decide +kernel)) (uV (F.pg (by decide +kernel)) pgs_nil)))
theorem p6(F:LF Y lv):PS Y (sL 6) (tIfS (tDT Y.K C y6) tRF yQ):=F.ifF (by decide +kernel)
theorem p7(F:LF Y lv):PS Y (sL 7) (tIfS (tDT Y.K C y7c) (tSeq (tRet (tD Y.K C y7)) yQ) yQ):=ps_if (sB F.ok.toOk y7c _ (by decide +kernel)).2 (jr (qY (sB F.ok.toOk y7 _ (by decide +kernel)).1) j7) j7
theorem p8(F:LF Y lv):PS Y (sL 8) (tIfS (tDT Y.K C y8) tRF yQ):=F.ifF (by decide +kernel)
theorem p9(F:LF Y lv):PS Y (sL 9) (tFor (iList Y.K (tVar 7)) (k7 8) (tSeq (tIfS (tDT Y.K C y9a) tRF yQ) (tSeq (tIfS (tDT Y.K C y9b) tRF yQ) yQ))) :=
 z9 (by rw[F.ok.xe];exact Yn) F.ok.calm (pi_list (F.v (by decide +kernel))) (F.pg (by decide +kernel)) (jr (F.ifF (by decide +kernel)) (jr (F.ifF (by decide +kernel)) j7))
theorem p10(F:LF Y lv):PS Y (sL 10) (vS (tCB (fun xs H Q=>∃p ys,xs=[.ref p]/\(SqL Y.K H p ys\/SqT Y.K H p ys)/\∀l,H l=none->Q (.ref l) (upd H l (.lst ys))) (vY (tVar 7) tNil)) (k7 9)) :=
 F.set (by decide +kernel) (kR (T:="list") kX (F.gl (by decide +kernel)) (F.ok.blt _ (by decide)) X6 (js (F.v (by decide +kernel)) jU)) rfl
theorem p11(F:LF Y lv):PS Y (sL 11) (tDrop (tBM Y.K "list" rAppend (tVar 7) (vY (tTup (vY (tC (.int 1)) (vY (tC (.int 1)) tNil))) tNil))) :=
 zO (pe_bm X0 Zk PySem.F.type_list_append uh (F.v (by decide +kernel)) (js (Kz (js Kq (js Kq jU))) jU))
theorem p12(F:LF Y lv):PS Y (sL 12) (tRet (tD Y.K C y12)):=qY (sB F.ok.toOk y12 _ (by decide +kernel)).1
end
theorem up_new{H H':Hp}{a:Addr}(s:jf H H')(h:H a=none):jf H (je H' [a]):=fun b o e=>by
 have ne:b≠a:=fun z=>by rw[z,h]at e;cases e
 rw[j5 (by simpa using ne)];exact s b o e
theorem mn{K:KN}{H:Hp}{d:D}{v:V}(i:Is K (je H []) d v):Is K H d v:=by rw[yK]at i;exact i
theorem law_body{Y:Cx}{lv:Nat}{H:Hp}{vs:List V}{Q:VK}{E:XK}(F:LF Y lv)(sp:spD Y.K 1 false false zB vs H Q E) :
 ∃t,PSs Y (jT fi_law.st) t/\t { nx:=fun _ H'=>Q .non H',rt:=Q } (L2.start fi_law.N vs) H:=by
 refine⟨_,(jr (p0 F) (jr (p1 F) (jr (p2 F) (jr (p3 F) (jr (p4 F) (jr (p5 F) (jr (p6 F) (jr (p7 F) (jr (p8 F) (jr (p9 F) (jr (p10 F) (jr (p11 F) (jr (p12 F) j7))))))))))))),?_⟩;obtain⟨O,ds,hl,ho,is,⟨ns,rfl,hn⟩,hq,_⟩:=sp
 have fin:∀H',jf H H'->Q (.bl true) H':=fun H' s=>hq _ rfl _ _ s (j6 _)
 unfold Iss at is;obtain⟨v,r,rfl,i1,i2⟩:=is;unfold Iss at i2;subst i2;have i0:Is Y.K H (nsD ns) v:=Is.mono (jg _ _) _ i1;clear hq ho i1;refine go (e0 hn fun w w1 w2 v1 H1 s1 i1=>?_) (QI i0 trivial);replace i1:=mn i1;replace i0:=Is.mono s1 _ i0;refine go (e1 hn fun n n1 n4 v2 H2 s2 i2=>?_) (QI i0 trivial);replace i2:=mn i2;replace i0:=Is.mono s2 _ i0;replace i1:=Is.mono s2 _ i1;refine go (e2 hn n1 n4 w1 w2 fun T g v3 H3 s3 i3=>?_) (QI i0 (QI i1 (QI i2 trivial)));replace i3:=mn i3;replace i0:=Is.mono s3 _ i0;replace i1:=Is.mono s3 _ i1;replace i2:=Is.mono s3 _ i2;refine go (e3 hn g w1 w2 fun q gr v4 H4 s4 i4=>?_) (QI i0 (QI i1 (QI i2 trivial)));replace i4:=mn i4;replace i3:=Is.mono s4 _ i3;replace i2:=Is.mono s4 _ i2;refine go (e4 gr fun v5 H5 s5 i5=>?_) (QI i3 (QI i4 trivial));replace i5:=mn i5;replace i4:=Is.mono s5 _ i4;replace i3:=Is.mono s5 _ i3;replace i2:=Is.mono s5 _ i2;have sA:jf H H5:=s1.trans (s2.trans (s3.trans (s4.trans s5)));clear i0 i1 s1 s2 s3 s4 s5 g;refine⟨v3,rfl,v4,rfl,n,T,q,v3,v4,rfl,i3,i4,gr,?_,?_⟩
 ·intro low a us t H6 m hz s6 ha ga ia ht ta gt;refine⟨t,_,rfl,SqT.of gt,rfl,_,_,rfl,_,_,rfl,rfl,?_⟩;have lo:=gr.lo m
  have hs:∀x∈yk n (wh low T) (q.map (atW low)),szr 1800 x:=sol_sz (gr.sqA lo) (by rw[KP];exact gr.len) (fun x hx=>by
   obtain⟨y,hy,rfl⟩:=K7.mp hx;have:=zK (gr.sm y hy) lo
   lia) hz
  have j3:=Is.mono (up_new s6 ha) _ i3;have j4:=Is.mono (up_new s6 ha) _ i4;have k2:=Is.mono s6 _ i2;refine goT (e6 (by decide +kernel) fun H7 s7=>?_) (QI (Is.mono s6 _ i3) (QI (Is.mono s6 _ i4) (QI (Is.mono s6 _ i5) (QI (qt (by decide +kernel)) trivial))));refine goT (e7c (c:=false) (by decide +kernel) fun H8 s8=>?_) (QI (qt (by decide +kernel)) trivial);have s68:=s7.trans s8
  have rd:∀ {H':Hp},jf H6 H'->Is Y.K H' (.lst ((yk n (wh low T) (q.map (atW low))).map rq)) (.ref a):=fun {H'} s=>qg (SqL.of (s _ _ ga)) (Iss.mono (jg _ [a]) _ (Iss.mono (jd s) _ ia))
  refine goT (e8 gr m hz uH fun H9 s9=>?_) (QI (Is.mono s68 _ k2) (QI (Is.mono (s6.trans s68) _ i3) (QI (rd s68) trivial)));have s69:=s68.trans s9
  have lu:us.length=n:=by rw[ia.length,KP,uH]
  refine⟨_,rfl,a,rfl,⟨_,SqL.of (s69 _ _ ga)⟩,fun i m σ H'=>(jf H9 H'/\i+m=n)/\∃x,σ=[some v,some v1,some v2,some v3,some v4,some v5,some (.str "told"),some (.ref a),x,none],⟨n,⟨fun _ _ z=>z,Nat.zero_add _⟩,none,rfl⟩,?_⟩;rintro i k σ H10 ⟨⟨s10,hik⟩,x,rfl⟩;have sB:=s69.trans s10;have hp:=SqL.of (K:=Y.K) (sB _ _ ga);by_cases hi:i<n
  ·obtain⟨rt,hrt⟩:∃e,(yk n (wh low T) (q.map (atW low)))[i]?=some e:=⟨_,KU (by rw[uH];exact hi)⟩
   obtain⟨e,he,ie⟩:=ia.get (i:=i) (d:=rq rt) (by rw[Qg,hrt];rfl)
   have ie:∀ {H'},jf H6 H'->Is Y.K H' (rq rt) e:=fun s=>Is.mono (jg _ [a]) _ (Is.mono (jd s) _ ie)
   refine .inr ⟨⟨_,_,hp,he⟩,fun σ' H'=>jf H9 H'/\∃x,σ'=[some v,some v1,some v2,some v3,some v4,some v5,some (.str "told"),some (.ref a),x,none],fun σ' H' ⟨z1,z2⟩=>⟨k-1,by lia,⟨z1,by lia⟩,z2⟩,?_⟩;rintro y H11 ⟨rfl,hy⟩;have ey:=hy _ hp;rw[he]at ey;cases ey;refine goT (e9a fun H12 s12=>?_) (QI (ie sB) trivial);refine goT (e9b (hs _ (QD hrt)) fun H13 s13=>?_) (QI (ie (sB.trans s12)) trivial);exact⟨(s10.trans s12).trans s13,_,rfl⟩
  refine .inl ⟨⟨_,hp,by lia⟩,?_⟩;have gB:=sB _ _ ga;refine⟨_,rfl,a,_,rfl,.inl (SqL.of gB),fun l hl=>?_⟩
  have la:l≠a:=fun z=>by rw[z,gB]at hl;cases hl
  have sC:=sB.trans (jB hl (.lst us));have gl:upd H10 l (.lst us) l=some (.lst us):=jm ..;generalize upd H10 l (.lst us)=H11 at sC gl ⊢;refine⟨_,rfl,.inl ⟨rfl,_,SqL.of (sC _ _ ga)⟩,by decide,fun t2 ht2=>?_⟩;have sD:=jB ht2 (.tup [.int 1,.int 1]);have sE:=sC.trans sD;replace gl:=sD _ _ gl;generalize upd H11 t2 (.tup [.int 1,.int 1])=H12 at sE gl ⊢;refine⟨a,_,_,rfl,rfl,sE _ _ ga,by rw[lu];exact Nat.lt_of_le_of_lt n4 (by decide),?_⟩
  have hw:∀o,je (upd H12 a o) [a]=je H12 [a]:=fun o=>jM (by simp)
  have sF:∀o,jf H (upd H12 a o):=fun o b u z=>by
   have:b≠a:=fun e=>by rw[e,sA.free ha]at z;cases z
   rw[jh this];exact(sA.trans (s6.trans sE)) _ _ z
  have pr:∀o d v,Is Y.K (je H6 [a]) d v->Is Y.K (upd H12 a o) d v:=fun o d v i=>Is.mono (jg _ [a]) _ (by rw[hw];exact Is.mono (jd sE) _ i)
  refine go (e12 gr m hz hs fun v H14 s14 i14=>?_) (QI (pr _ _ _ j3) (QI (pr _ _ _ j4) (QI (qg (SqL.of (by rw[jh la];exact gl)) (Iss.mono (jg _ [a]) _ (by rw[hw];exact Iss.mono (jd sE) _ ia))) trivial)));cases kq i14;exact fin _ ((sF _).trans s14)
 ·intro low u v6 t H6 m hz hu s6 ht iv gt;refine⟨t,_,rfl,SqT.of gt,rfl,_,_,rfl,_,_,rfl,rfl,?_⟩;refine goT (e6 (by decide +kernel) fun H7 s7=>?_) (QI (Is.mono s6 _ i3) (QI (Is.mono s6 _ i4) (QI (Is.mono s6 _ i5) (QI (qt (by decide +kernel)) trivial))));refine goT (e7c (c:=true) (by decide +kernel) fun H8 s8=>?_) (QI (qt (by decide +kernel)) trivial);have s68:=s7.trans s8;refine go (e7 gr m hz hu fun v H9 s9 i9=>?_) (QI (Is.mono (s6.trans s68) _ i3) (QI (Is.mono s68 _ iv) trivial));cases kq i9;exact fin _ (sA.trans (s6.trans (s68.trans s9)))
theorem law_key{P:Qp}{w:World}{K:KN}{mg:Str->Option KO}(F1:∀i∈fns,yS K mg i)(Ft:yS K mg fi_told)(Fl:yS K mg fi_law)(hb:∀x∈blts,mg x=none)(E:ExcOk K mg ["Dependent"] true) :
 ∃f fd,FnAt K mg fi_law f fd/\∀base:QG,FnOk P w K mg base (CXz P w mg) 41 f fd ["_law_script"] (spD K 1 false false zB):=by
 obtain⟨ft,fdt,At⟩:=Ft;obtain⟨fl,fdl,Al⟩:=Fl;refine⟨fl,fdl,Al,fun base=>?_⟩
 have hE:∀x,¬ C.E x:=fun _ z=>z
 have hcn:∀n x,([]:List Str)[n]?=some x->∃u v,mg x=some u/\jV v u/\∀S,Is K S (C.cn n) v:=fun n x e=>by simp at e
 have all:=all_sound (P:=P) (w:=w) (base:=base) F1 chk keeps ct hcn hb hE (fun i hi hz=>?_)
 ·have fk:∀k,39<=k->∀n j,fns[n]?=some j->∃f fd,FnOk P w K mg base (CXz P w mg) k f fd j.ps (spD K j.ps.length (C.fr n) (C.f2 n) (C.ct n))/\FnAt K mg j f fd:=fun k hk n j e=>by
   obtain⟨f,fd,A⟩:=F1 j (QD e);have hn:n<37:=(Q4.mp e).1;rw[(ct n j e).1,(ct n j e).2.1,(ct n j e).2.2];exact⟨f,fd,(all n j f fd e A).mono (by lia),A⟩
  have ot:FnOk P w K mg base (CXz P w mg) 40 ft fdt ["_law_rows","_law_right"] (spTd K):=by
   refine fn_hand (i:=fi_told) (L:=fns) (cns:=[]) (C:=C) (by decide) At sc_told (fk 39 (by decide)) hcn hb hE (fun vs H Q E h=>by obtain⟨n,T,q,v1,v2,rfl,_⟩:=h;rfl) fun X H vs Q E' hh eqs sp=>?_
   obtain⟨rfl,rfl,rfl,rfl,rfl,_⟩:=eqs;obtain⟨Ca,hm,co⟩:=E.exc "Dependent" (by decide);exact told_body hh ⟨E.fn rfl,⟨(hh.rm.mono (show 1<=39 by decide)).dp,(hh.rm.mono (show 1<=39 by decide)).un⟩,hb _ (by decide)⟩ hm co sp
  refine fn_hand (i:=fi_law) (L:=fns) (cns:=[]) (C:=C) (lv:=40) (by decide) Al sc_law (fk 40 (by decide)) hcn hb hE (fun vs H Q E h=>by obtain⟨O,ds,hl,_,is,_⟩:=h;rw[is.length,hl];rfl) fun X H vs Q E' hh eqs sp=>?_
  obtain⟨rfl,rfl,rfl,rfl,rfl,_⟩:=eqs
  have lf:LF X.nox 40:=⟨hh.ok,hh.rm,⟨ft,fdt,ot,At.mg,At.fn.kp,.all At.bd⟩⟩
  obtain⟨t,pt,ht⟩:=law_body lf sp;exact⟨t,PSs.nox pt,ht⟩
 ·simp only[fns,KS,K4,or_false]at hi
  rcases hi with rfl|rfl|rfl|rfl|rfl|rfl|rfl|rfl|rfl|rfl|rfl|rfl|rfl|rfl|rfl|rfl|rfl|rfl|rfl|rfl|rfl|rfl|rfl|rfl|rfl|rfl|rfl|rfl|rfl|rfl|rfl|rfl|rfl|rfl|rfl|rfl|rfl<;>first|exact KZ hz|exact E
end Z.M46
namespace PySem.W.Fast
theorem tw17087342653158179577:True:=⟨⟩
theorem tw9602469711547681389:True:=⟨⟩
theorem tw2751262892247204976:True:=⟨⟩
theorem tw2076591221534604782:True:=⟨⟩
theorem tw16816350698803025045:True:=⟨⟩
theorem tw6581169230889556095:True:=⟨⟩
theorem tw12813870792051263666:True:=⟨⟩
theorem tw10438631528636930984:True:=⟨⟩
theorem tw14401155736899517312:True:=⟨⟩
theorem tw13102181233786131909:True:=⟨⟩
theorem tw6543620918267467924:True:=⟨⟩
theorem tw7350156292093974445:True:=⟨⟩
theorem tw670800414702723467:True:=⟨⟩
theorem tw12330329430097773854:True:=⟨⟩
theorem tw8745486757420559905:True:=⟨⟩
theorem tw13928545480136119805:True:=⟨⟩
theorem tw7802557662091936142:True:=⟨⟩
theorem tw4315735482994341663:True:=⟨⟩
theorem tw16965251120974618499:True:=⟨⟩
theorem tw14889144204556035877:True:=⟨⟩
theorem tw4630490576673061274:True:=⟨⟩
theorem tw5790427487369791348:True:=⟨⟩
theorem tw7022274798910363299:True:=⟨⟩
theorem tw13504523613897977119:True:=⟨⟩
theorem tw17422146309973473750:True:=⟨⟩
theorem tw963672486705093:True:=⟨⟩
theorem tw4081529262089902447:True:=⟨⟩
theorem tw13485630244099803447:True:=⟨⟩
theorem tw14267044602335435164:True:=⟨⟩
theorem tw469217307320000483:True:=⟨⟩
theorem tw5443366951767228818:True:=⟨⟩
theorem tw5091585408754505380:True:=⟨⟩
theorem tw13139960883198447553:True:=⟨⟩
theorem tw14194639490273420757:True:=⟨⟩
theorem tw667015460272686987:True:=⟨⟩
theorem tw14573821378187803352:True:=⟨⟩
theorem tw14233549115627118670:True:=⟨⟩
theorem tw10796455280984624083:True:=⟨⟩
theorem tw10816605176915124760:True:=⟨⟩
theorem tw18309571201197310371:True:=⟨⟩
theorem tw6255645226535548711:True:=⟨⟩
theorem tw1444009411836785267:True:=⟨⟩
theorem tw16733450183676639510:True:=⟨⟩
theorem tw3222799491757034601:True:=⟨⟩
theorem tw13364966094155152843:True:=⟨⟩
theorem tw1316927990607758270:True:=⟨⟩
theorem tw13657483262740271935:True:=⟨⟩
theorem tw14836124051151287316:True:=⟨⟩
theorem tw12214305571761682560:True:=⟨⟩
theorem tw5646315661334917059:True:=⟨⟩
theorem tw4123207893086203846:True:=⟨⟩
theorem tw167389422762123612:True:=⟨⟩
theorem tw17998347625611300487:True:=⟨⟩
theorem tw17665399157640833612:True:=⟨⟩
theorem tw16772733454059742130:True:=⟨⟩
theorem tw9323881373798190986:True:=⟨⟩
theorem tw15345335745543475841:True:=⟨⟩
theorem tw11002978177747948967:True:=⟨⟩
theorem tw1461965124427088911:True:=⟨⟩
theorem tw11421628167391435749:True:=⟨⟩
theorem tw8762334490698611070:True:=⟨⟩
theorem tw15514254680757999310:True:=⟨⟩
theorem tw11553338249231076852:True:=⟨⟩
theorem tw13307676659751561001:True:=⟨⟩
theorem tw2998934279151720002:True:=⟨⟩
theorem tw11535513909861704416:True:=⟨⟩
theorem tw15849734722582094564:True:=⟨⟩
theorem tw6913383047202727404:True:=⟨⟩
theorem tw1943019807686693461:True:=⟨⟩
theorem tw6437106381315187499:True:=⟨⟩
theorem tw12909116223461280089:True:=⟨⟩
theorem tw10613085930865391823:True:=⟨⟩
theorem tw8538321308505710680:True:=⟨⟩
theorem tw14125100192611451081:True:=⟨⟩
theorem tw16892454851737368827:True:=⟨⟩
theorem tw9099991922433821896:True:=⟨⟩
theorem tw1508272209720582540:True:=⟨⟩
theorem tw650558388364544351:True:=⟨⟩
theorem tw12746307744576314811:True:=⟨⟩
theorem tw9215716330549053709:True:=⟨⟩
theorem tw9771912665476147378:True:=⟨⟩
theorem tw9712280147233665063:True:=⟨⟩
theorem tw11348410717435910600:True:=⟨⟩
theorem tw7102693689150038444:True:=⟨⟩
theorem tw11061223803940396659:True:=⟨⟩
theorem tw9143242254391826912:True:=⟨⟩
theorem tw4370478355148105397:True:=⟨⟩
theorem tw17503590505857574378:True:=⟨⟩
theorem tw8050909350965792928:True:=⟨⟩
theorem tw13853001395720612453:True:=⟨⟩
theorem tw16458518425388737350:True:=⟨⟩
theorem tw13974320797279101721:True:=⟨⟩
theorem tw4681558007206907675:True:=⟨⟩
theorem tw7496140883597133767:True:=⟨⟩
theorem tw13797825060374350558:True:=⟨⟩
theorem tw9301786517568451881:True:=⟨⟩
theorem tw1950699005856263709:True:=⟨⟩
theorem tw6096323166238523250:True:=⟨⟩
theorem tw6791403927197397488:True:=⟨⟩
theorem tw14053336797229824390:True:=⟨⟩
theorem tw15116918783095552629:True:=⟨⟩
theorem tw13663816519204803270:True:=⟨⟩
theorem tw17256543237871533143:True:=⟨⟩
theorem tw17464528164573158280:True:=⟨⟩
theorem tw13453316737396293179:True:=⟨⟩
theorem tw13495851665342619232:True:=⟨⟩
theorem tw16118443152727023000:True:=⟨⟩
theorem tw13036505788303438168:True:=⟨⟩
theorem tw14644488432779806930:True:=⟨⟩
theorem tw17902938245912730148:True:=⟨⟩
theorem tw1363848669243810653:True:=⟨⟩
theorem tw13377672355211106945:True:=⟨⟩
theorem tw11239959470143840983:True:=⟨⟩
theorem tw9207033341645152550:True:=⟨⟩
theorem tw13612653798599316867:True:=⟨⟩
theorem tw15221895174544010489:True:=⟨⟩
theorem tw3489626342674884727:True:=⟨⟩
theorem tw2917463034089383752:True:=⟨⟩
theorem tw7279974624913515049:True:=⟨⟩
theorem tw3814765052189014295:True:=⟨⟩
theorem tw16431654855715223366:True:=⟨⟩
theorem tw13224053764605937114:True:=⟨⟩
theorem tw2258531285651731975:True:=⟨⟩
theorem tw4919560656426514712:True:=⟨⟩
theorem tw3276482351729323203:True:=⟨⟩
theorem tw7307471088340706695:True:=⟨⟩
theorem tw6396131210064527372:True:=⟨⟩
theorem tw7940839541405689038:True:=⟨⟩
theorem tw1315610503524664710:True:=⟨⟩
theorem tw7608047773645701942:True:=⟨⟩
theorem tw6864364262328129011:True:=⟨⟩
theorem tw10216759455447229565:True:=⟨⟩
theorem tw18006795433712461328:True:=⟨⟩
theorem tw4063502592557890660:True:=⟨⟩
theorem tw16795828378588880573:True:=⟨⟩
theorem tw4658268492181765211:True:=⟨⟩
theorem tw11841145533796534941:True:=⟨⟩
theorem tw1049430464868819799:True:=⟨⟩
theorem tw5172002712429033018:True:=⟨⟩
theorem tw249553559186553949:True:=⟨⟩
theorem tw16512826881296426127:True:=⟨⟩
theorem tw5561413523198591799:True:=⟨⟩
theorem tw1025366471520851492:True:=⟨⟩
theorem tw5940452326484689193:True:=⟨⟩
theorem tw14272884072942550480:True:=⟨⟩
theorem tw8596791898047477618:True:=⟨⟩
theorem tw12640146514455599035:True:=⟨⟩
theorem tw740138187240708522:True:=⟨⟩
theorem tw11305925089307978149:True:=⟨⟩
theorem tw10185882128471730919:True:=⟨⟩
theorem tw9072311183761962814:True:=⟨⟩
theorem tw2315604795325992163:True:=⟨⟩
theorem tw14593814049467403798:True:=⟨⟩
theorem tw7893108647905474166:True:=⟨⟩
theorem tw12621690800345171415:True:=⟨⟩
theorem tw1341444575898512541:True:=⟨⟩
theorem tw12748066076208535737:True:=⟨⟩
theorem tw14878138796633831260:True:=⟨⟩
theorem tw1930516164332991791:True:=⟨⟩
theorem tw1513771180096662174:True:=⟨⟩
theorem tw5825810032490571714:True:=⟨⟩
theorem tw15118039859887237395:True:=⟨⟩
theorem tw9983194467261346652:True:=⟨⟩
theorem tw5640543704454063236:True:=⟨⟩
theorem tw15669234065599437621:True:=⟨⟩
theorem tw13195797826043850331:True:=⟨⟩
theorem tw9434685069223922932:True:=⟨⟩
theorem tw16072411008705117656:True:=⟨⟩
theorem tw1916520508198857710:True:=⟨⟩
theorem tw17766313276721106872:True:=⟨⟩
theorem tw1898380234179929446:True:=⟨⟩
theorem tw68957600687066295:True:=⟨⟩
theorem tw10491601339073910211:True:=⟨⟩
theorem tw13954823302496745256:True:=⟨⟩
theorem tw16063083214853781390:True:=⟨⟩
theorem tw17034558016671529590:True:=⟨⟩
theorem tw3613452548712180748:True:=⟨⟩
theorem tw2705835010091913533:True:=⟨⟩
theorem tw17347049888119511186:True:=⟨⟩
theorem tw11038491095137325967:True:=⟨⟩
theorem tw14958968499168649395:True:=⟨⟩
theorem tw16515847937956614843:True:=⟨⟩
theorem tw11530347966337426481:True:=⟨⟩
theorem tw284794205668911194:True:=⟨⟩
theorem tw12242214681466443007:True:=⟨⟩
theorem tw12591222024170638296:True:=⟨⟩
theorem tw10734684128301676902:True:=⟨⟩
theorem tw601225831636371758:True:=⟨⟩
theorem tw18130847451227568412:True:=⟨⟩
theorem tw350011967124289765:True:=⟨⟩
theorem tw12530543313715127849:True:=⟨⟩
theorem tw4748864637782757545:True:=⟨⟩
theorem tw1217380066450830018:True:=⟨⟩
theorem tw575124007373191082:True:=⟨⟩
theorem tw16221115333782886774:True:=⟨⟩
theorem tw13866131334512394090:True:=⟨⟩
theorem tw10538420109776454766:True:=⟨⟩
theorem tw10125008351649980:True:=⟨⟩
theorem tw11800878808284471787:True:=⟨⟩
theorem tw16052021286422833781:True:=⟨⟩
theorem tw7896479386317120406:True:=⟨⟩
theorem tw16479463391830180044:True:=⟨⟩
theorem tw13955321506694432609:True:=⟨⟩
theorem tw16955353825836474802:True:=⟨⟩
theorem tw7709385647328380486:True:=⟨⟩
theorem tw4286663754821926986:True:=⟨⟩
theorem tw15783832412397218166:True:=⟨⟩
theorem tw17445267134016036055:True:=⟨⟩
theorem tw15867379005063206098:True:=⟨⟩
theorem tw2789990970370882598:True:=⟨⟩
theorem tw243088717562248561:True:=⟨⟩
theorem tw7280169193541482698:True:=⟨⟩
theorem tw3304236504978980218:True:=⟨⟩
theorem tw6370210943280097923:True:=⟨⟩
theorem tw3357987498834151243:True:=⟨⟩
theorem tw14724197659250426304:True:=⟨⟩
theorem tw15853411769507273096:True:=⟨⟩
theorem tw14492044874957409859:True:=⟨⟩
theorem tw2582812445113670558:True:=⟨⟩
theorem tw6701736256311008562:True:=⟨⟩
theorem tw12093028332010972361:True:=⟨⟩
theorem tw2315715935223436968:True:=⟨⟩
theorem tw3001468009907735128:True:=⟨⟩
theorem tw14222790765380153496:True:=⟨⟩
theorem tw13200124163060289306:True:=⟨⟩
theorem tw9378898511717033650:True:=⟨⟩
theorem tw13601351811996860655:True:=⟨⟩
theorem tw18043360584203393285:True:=⟨⟩
theorem tw3264913979893161460:True:=⟨⟩
theorem tw13055082881452955910:True:=⟨⟩
theorem tw10536976121721890515:True:=⟨⟩
theorem tw15763934575437052608:True:=⟨⟩
theorem tw8864209330660362260:True:=⟨⟩
theorem tw301179420347867255:True:=⟨⟩
theorem tw14181606725459158796:True:=⟨⟩
theorem tw10805177873528969906:True:=⟨⟩
theorem tw3175736365641810745:True:=⟨⟩
theorem tw8352546565170272831:True:=⟨⟩
theorem tw8661899744871238962:True:=⟨⟩
theorem tw4922796281375616726:True:=⟨⟩
theorem tw7731401637899342232:True:=⟨⟩
theorem tw4843613504440880251:True:=⟨⟩
theorem tw3318852711924864081:True:=⟨⟩
theorem tw14402892951311571512:True:=⟨⟩
theorem tw9379541559945895823:True:=⟨⟩
theorem tw18088795765202451021:True:=⟨⟩
theorem tw16042256452438452296:True:=⟨⟩
theorem tw10885425821196004111:True:=⟨⟩
theorem tw5023522423569116035:True:=⟨⟩
theorem tw10359171886176816814:True:=⟨⟩
theorem tw10721211150521334482:True:=⟨⟩
theorem tw8496372328330125158:True:=⟨⟩
theorem tw15282930888619913528:True:=⟨⟩
theorem tw4424133983951208377:True:=⟨⟩
theorem tw15908252227972725727:True:=⟨⟩
theorem tw16684643084651918795:True:=⟨⟩
theorem tw3705897060167145466:True:=⟨⟩
theorem tw9374012397903406452:True:=⟨⟩
theorem tw10370635509200664333:True:=⟨⟩
theorem tw13441622054768947824:True:=⟨⟩
theorem tw3765315010419897000:True:=⟨⟩
theorem tw17860097530999538782:True:=⟨⟩
theorem tw2299100498518225816:True:=⟨⟩
theorem tw941588324454336836:True:=⟨⟩
theorem tw5117635664106965258:True:=⟨⟩
theorem tw10107411287119267803:True:=⟨⟩
theorem tw2460173857343428998:True:=⟨⟩
theorem tw13707331046244975915:True:=⟨⟩
theorem tw9350793096939039868:True:=⟨⟩
theorem tw5575279244916548001:True:=⟨⟩
theorem tw826948802518196344:True:=⟨⟩
theorem tw4700472904412272996:True:=⟨⟩
theorem tw10542993958768360905:True:=⟨⟩
theorem tw11399080560687717235:True:=⟨⟩
theorem tw5994474655232183570:True:=⟨⟩
theorem tw17815178137538409590:True:=⟨⟩
theorem tw7855513212574152575:True:=⟨⟩
theorem tw16130436313384847510:True:=⟨⟩
theorem tw16877016363146163036:True:=⟨⟩
theorem tw6237928610082333309:True:=⟨⟩
theorem tw4269574129473607467:True:=⟨⟩
theorem tw169488345274578758:True:=⟨⟩
theorem tw6794751622715274027:True:=⟨⟩
theorem tw13640660617629911556:True:=⟨⟩
theorem tw17643465841444196823:True:=⟨⟩
theorem tw13846693883836160316:True:=⟨⟩
theorem tw14364372228350079199:True:=⟨⟩
theorem tw4371362008313220954:True:=⟨⟩
theorem tw5996750972725304829:True:=⟨⟩
theorem tw8355657046412253368:True:=⟨⟩
theorem tw17980244887459250341:True:=⟨⟩
theorem tw6273221288478309985:True:=⟨⟩
theorem tw12878066370768047787:True:=⟨⟩
end PySem.W.Fast
open PySem PySem.W PyProof.Rows
set_option maxRecDepth 100000 in
set_option maxHeartbeats 0 in
theorem PySem.Challenge.cw_trueline_k46_whole_solutions_meet_holds : PySem.Challenge.rw_trueline_k46_whole_solutions_meet.Holds := by
 w_on;o_law;k_head;(case hw=>w_witness2)
 k_fill
 refine Z.law_walkH (l:=PySem.Challenge.rw_trueline_k46_whole_solutions_meet) 41 Z.M46.fi_law rfl rfl (fun w h Y=>PySem.W.kIn_of Y) ⟨fun _=>rfl,by decide,by decide⟩ rfl rfl ?F
 case F =>
  intro w mg h KX G;refine' Z.M46.law_key ?fns ?ft ?fl ?blt (Z.exc_ok KX (i:=Z.M46.fi_law_alone) ?al (by decide +kernel) ?ex)
  case ex =>
   intro x hx;simp only[KS,K4,or_false]at hx;subst hx;refine' Z.exc_mkO (i:=Z.M46.fi_ini_Dependent) KX G (by decide +kernel) (by decide +kernel) (fun _ _ _ _ _ _ _ _ _ _ _=>⟨_,rfl,rfl⟩) ?oa ?ote ?oml ?ol ?oln ?orN ?oT ?oM ?orM ?oi ?on1 ?on2 ?on3 ?on4 ?om1 ?om2 ?om3 ?om4 ?om5 ?om6 ?oop ?ofi ?ofn ?okp ?olf ?olD ?ocd (fun _=>Z.alone_mk KX G ?xe1 ?xe2 ?xe3 ?xe4 ?xe5 ?xe6 ?xe7 ?xt1 ?xt2 ?xt3 ?xt4 ?xv1 ?xv2 ?xv3 (by decide +kernel) ?xcl);(case oa=>k_is);(case ote=>k_is);(case oml=>k_is);(case ol=>k_is);(case oln=>k_is);(case orN=>rfl);(case oT=>k_is);(case oM=>k_is);(case orM=>rfl);(case oi=>k_is);(case on1=>k_is);(case on2=>k_is);(case on3=>k_is);(case on4=>k_is);(case om1=>k_is);(case om2=>k_is);(case om3=>k_is);(case om4=>k_is);(case om5=>k_is);(case om6=>k_is);(case oop=>k_is);(case ofi=>k_is);(case ofn=>k_is);(case okp=>k_is);(case olf=>k_is);(case olD=>k_is);(case ocd=>k_is);(case xe1=>k_is);(case xe2=>k_is);(case xe3=>k_is);(case xe4=>k_is);(case xe5=>k_is);(case xe6=>k_is);(case xe7=>k_is);(case xt1=>k_is);(case xt2=>k_is);(case xt3=>k_is);(case xt4=>k_is);(case xv1=>k_is);(case xv2=>k_is);(case xv3=>k_is);(case xcl=>exact(fun c hc=>by simp only[Z.names12,KS,K4,or_false]at hc;rcases hc with rfl|rfl|rfl|rfl|rfl|rfl|rfl|rfl|rfl|rfl|rfl|rfl<;>(refine' Z.kit_cl KX G ?ya ?yt ?ym ?ys ?yb ?yd;(case ya=>k_is);(case yt=>k_is);(case ym=>k_is);(case ys=>k_is);(case yb=>decide +kernel);(case yd=>decide))))
  case fns =>
   intro i hi;simp only[Z.M46.fns,KS,K4,or_false]at hi
   rcases hi with rfl|rfl|rfl|rfl|rfl|rfl|rfl|rfl|rfl|rfl|rfl|rfl|rfl|rfl|rfl|rfl|rfl|rfl|rfl|rfl|rfl|rfl|rfl|rfl|rfl|rfl|rfl|rfl|rfl|rfl|rfl|rfl|rfl|rfl|rfl|rfl|rfl<;>((first|refine' Z.fact_mk KX G (fun _ _ _ _ _ _=>Z.len1 fun _=>rfl) ?a ?l ?c ?k|refine' Z.fact_mk KX G (fun _ _ _ _ _ _=>Z.len2 fun _ _=>rfl) ?a ?l ?c ?k|refine' Z.fact_mk KX G (fun _ _ _ _ _ _=>Z.len3 fun _ _ _=>rfl) ?a ?l ?c ?k|refine' Z.fact_mk KX G (fun _ _ _ _ _ _=>Z.len4 fun _ _ _ _=>rfl) ?a ?l ?c ?k);(all_goals try dsimp only[Z.M46.fi_law_cell,Z.M46.fi_law_drawn,Z.M46.fi_law_width,Z.M46.fi_law_bare,Z.M46.fi_law_number,Z.M46.fi_law_measure,Z.M46.fi_law_row,Z.M46.fi_law_square,Z.M46.fi_two_to,Z.M46.fi_value,Z.M46.fi_odd_form,Z.M46.fi_one_form,Z.M46.fi_one_by_one,Z.M46.fi_least_power,Z.M46.fi_in_steps,Z.M46.fi_rows_in_steps,Z.M46.fi_without,Z.M46.fi_whole_determinant1,Z.M46.fi_whole_determinant2,Z.M46.fi_whole_determinant3,Z.M46.fi_whole_determinant4,Z.M46.fi_determinant,Z.M46.fi_common_divisor,Z.M46.fi_ratio,Z.M46.fi_first_not_nought,Z.M46.fi_cleared,Z.M46.fi_in_lowest_terms,Z.M46.fi_weighted,Z.M46.fi_weights_to_nought,Z.M46.fi_put_in,Z.M46.fi_solved_in_wholesX,Z.M46.fi_solvedX,Z.M46.fi_law_whole,Z.M46.fi_law_common,Z.M46.fi_law_wholes,Z.M46.fi_law_meets,Z.M46.fi_law_weighed]);(case a=>k_is);(case l=>k_is);(case c=>k_is);(case k=>k_is))
  case ft=>refine' Z.fact_mk (i:=Z.M46.fi_told) KX G (fun _ _ _ _ _ _=>Z.len2 fun _ _=>rfl) ?a ?l ?c ?k;(all_goals try dsimp only[Z.M46.fi_told]);(case a=>k_is);(case l=>k_is);(case c=>k_is);(case k=>k_is)
  case fl=>refine' Z.fact_mk (i:=Z.M46.fi_law) KX G (fun _ _ _ _ _ _=>Z.len1 fun _=>rfl) ?a ?l ?c ?k;(all_goals try dsimp only[Z.M46.fi_law]);(case a=>k_is);(case l=>k_is);(case c=>k_is);(case k=>k_is)
  case al=>refine' Z.fact_mk (i:=Z.M46.fi_law_alone) KX G (fun _ _ _ _ _ _=>Z.len1 fun _=>rfl) ?a ?l ?c ?k;(all_goals try dsimp only[Z.M46.fi_law_alone]);(case a=>k_is);(case l=>k_is);(case c=>k_is);(case k=>k_is)
  case blt =>
   intro x hx;simp only[Z.blts,KS,K4,or_false]at hx
   rcases hx with rfl|rfl|rfl|rfl|rfl|rfl|rfl|rfl|rfl|rfl|rfl|rfl|rfl|rfl|rfl|rfl|rfl|rfl|rfl<;>(refine' Zw KX G ?z;(case z=>k_is))
