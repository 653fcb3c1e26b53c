import PyProof.Rows.All
import Wide.All
import OpenK.AllK
import Wide.FinOn
import PyProof.EqAt
import PyProof.EqKinds
import PyProof.TupleCall
import PySem.Challenge.RW_trueline_k10_refusals_apart
set_option Elab.async false
set_option linter.all false
set_option maxRecDepth 100000
namespace L2
open PySem PySem.Spec PyProof.Rows
abbrev Key:=Sum Int Str
def keyIs:Key->Value->Bool
 |.inl k,v=>Value.isInt k v
 |.inr x,v=>Value.isStrOf x v
def keyH(w:World):Key->Int
 |.inl k=>hashInt k
 |.inr x=>hashStr w x
theorem keyIs_shape:∀ {k:Key} {v:Value},keyIs k v=true->(∃i t,k=Sum.inl i/\v=Value.int i t)\/(∃x t,k=Sum.inr x/\v=Value.str x t)
 |.inl i,v,h=>by
  obtain⟨t,e⟩:=Value.isInt_shape (k:=i) (v:=v) h
  exact .inl ⟨i,t,rfl,e⟩
 |.inr x,v,h=>by
  obtain⟨t,e⟩:=Value.isStrOf_shape (x:=x) (v:=v) h
  exact .inr ⟨x,t,rfl,e⟩
theorem key_ll(a b:Int):decide ((Sum.inl a:Key)=Sum.inl b)=(a == b):=by
 by_cases e:a=b
 ·subst e;simp
 ·have h:¬ (Sum.inl a:Key)=Sum.inl b:=fun q=>e (Sum.inl.inj q)
  rw[decide_eq_false h]
  exact(beq_eq_false_iff_ne.mpr e).symm
theorem key_rr(a b:Str):decide ((Sum.inr a:Key)=Sum.inr b)=decide (a=b):=by
 by_cases e:a=b
 ·subst e;simp
 ·have h:¬ (Sum.inr a:Key)=Sum.inr b:=fun q=>e (Sum.inr.inj q)
  rw[decide_eq_false h,decide_eq_false e]
theorem key_lr(a:Int)(b:Str):decide ((Sum.inl a:Key)=Sum.inr b)=false:=decide_eq_false (fun q=>nomatch q)
theorem key_rl(a:Str)(b:Int):decide ((Sum.inr a:Key)=Sum.inl b)=false:=decide_eq_false (fun q=>nomatch q)
def mixKind(prog:Program)(w:World):PySem.KeyKind prog w Key where
 is:=keyIs
 hash:=keyH w
 inj:=fun v a b ha hb=>by
  rcases keyIs_shape ha with⟨i,t,rfl,rfl⟩|⟨x,t,rfl,rfl⟩
  ·rcases keyIs_shape hb with⟨j,u,rfl,e⟩|⟨y,u,rfl,e⟩
   ·injection e with e1 _;rw[e1]
   ·exact nomatch e
  ·rcases keyIs_shape hb with⟨j,u,rfl,e⟩|⟨y,u,rfl,e⟩
   ·exact nomatch e
   ·injection e with e1 _;rw[e1]
 byValue:=fun k v h=>by
  rcases keyIs_shape h with⟨i,t,rfl,rfl⟩|⟨x,t,rfl,rfl⟩<;>rfl
 pyHash:=fun hv h=>by
  rcases keyIs_shape hv with⟨i,t,rfl,rfl⟩|⟨x,t,rfl,rfl⟩
  ·exact wpAny_pyHash_int h
  ·exact wpAny_pyHash_str h
 eqBool:=fun hu hv h=>by
  rcases keyIs_shape hu with⟨i,t,rfl,rfl⟩|⟨x,t,rfl,rfl⟩
  ·rcases keyIs_shape hv with⟨j,u,rfl,rfl⟩|⟨y,u,rfl,rfl⟩
   ·rw[key_ll]at h;exact wpAny_eqBool_int h
   ·rw[key_lr]at h;exact SeqAt.EqAt.int_str i t y u _ _ _ _ h
  ·rcases keyIs_shape hv with⟨j,u,rfl,rfl⟩|⟨y,u,rfl,rfl⟩
   ·rw[key_rl]at h;exact SeqAt.EqAt.str_int x t j u _ _ _ _ h
   ·rw[key_rr]at h;exact wpAny_eqBool_str h
 «strs»:=fun k x t v h=>by
  rcases keyIs_shape h with⟨i,u,rfl,e⟩|⟨y,u,rfl,e⟩
  ·exact nomatch e
  ·injection e with e1 _
   subst e1
   cases v<;>rfl
end L2
namespace L2
open PySem PySem.Spec PyProof.Rows
inductive V where
 |non|bl (b:Bool)|int (i:Int)|str (x:Str)|byt (b:Array UInt8)|flt (b:UInt64)|ref (a:Addr)|ty (n:String)
 deriving DecidableEq
def RelV:V->Value->Prop
 |.non,u=>u=Value.none
 |.bl b,u=>u=Value.bool b
 |.int i,u=>∃t,u=Value.int i t
 |.str x,u=>∃t,u=Value.str x t
 |.byt b,u=>∃t,u=Value.bytes b t
 |.flt b,u=>∃t,u=Value.float b t
 |.ref a,u=>u=Value.ref a
 |.ty n,u=>u=Value.type n
abbrev Vals:List V->List Value->Prop:=Paired RelV
theorem Vals.length{xs:List V}{us:List Value}(r:Vals xs us):xs.length=us.length:=Paired.length r
theorem Vals.get:∀ {xs:List V} {us:List Value} {i:Nat} {x:V},Vals xs us->xs[i]?=some x->∃u,us[i]?=some u/\RelV x u
 |_,_,_,_,.nil,e=>by simp at e
 |_,_,0,_,.cons r _,e=>by simp at e;subst e;exact⟨_,rfl,r⟩
 |_,_,i+1,x,.cons _ t,e=>by
  obtain⟨u,h1,h2⟩:=Vals.get (i:=i) (x:=x) t (by simpa using e)
  exact⟨u,by simpa using h1,h2⟩
theorem Vals.append:∀ {xs ys:List V} {us ws:List Value},Vals xs us->Vals ys ws->Vals (xs++ys) (us++ws)
 |_,_,_,_,.nil,s=>s
 |_,_,_,_,.cons r t,s=>.cons r (Vals.append t s)
def RelO:Option V->Option Value->Prop
 |some v,some u=>RelV v u
 |none,none=>True
 |_,_=>False
def KV{κ:Type}:List (κ×V)->List (κ×Value)->Prop:=Paired fun(p:κ×V) (q:κ×Value)=>p.1=q.1/\RelV p.2 q.2
def kV:Key->V
 |.inl i=>.int i
 |.inr x=>.str x
inductive HO where
 |lst (xs:List V)
 |tup (xs:List V)
 |dK (kvs:List (Key×V))|dT (kvs:List (List Key×V))
 |set (S:Int->Bool) (n:Nat)
 |ins (C dx:Addr) (fs:List (Str×V))
 |own (x:Addr)
 |xd (fs:List (Str×V))
 |met (f x:Addr)
 |rng (lo hi:Int)
 |frz (o:Obj) (u:HO)
 |tbl (ps:Array Value)
 |ext (φ:Heap->Prop)
abbrev Hp:=Addr->Option HO
def upd(H:Hp)(a:Addr)(o:HO):Hp:=fun b=>if b=a then some o else H b
theorem upd_same{H:Hp}{a:Addr}{o:HO}:upd H a o a=some o:=by unfold upd;rw[if_pos rfl]
theorem upd_ne{H:Hp}{a b:Addr}{o:HO}(h:b≠a):upd H a o b=H b:=by unfold upd;rw[if_neg h]
theorem ne_of_none{H:Hp}{a b:Addr}{o:HO}(h:H a=some o)(h':H b=none):a≠b:=by
 intro e;subst e;rw[h]at h';cases h'
section
variable (P:Program) (w:World)
def ObjOk(H:Hp)(h:Heap)(a:Addr):HO->Prop
 |.lst xs=>xs.length<=sizeLine/\∃(its:List Value) (n:Nat),Vals xs its/\h.get? a=some { cls:=.type "list",data:=.seq its.toArray n }
 |.tup xs=>xs.length<=sizeLine/\∃its:List Value,Vals xs its/\IsTup h a its.toArray
 |.dK kvs=>kvs.length<=sizeLine/\(a == sysModules)=false/\∃vs,KV kvs vs/\h.DictOf (mixKind P w) a vs
 |.dT kvs=>kvs.length<=sizeLine/\(a == sysModules)=false/\∃xs:List (List Key×Addr×Value),
  Paired (fun(p:List Key×V) (q:List Key×Addr×Value)=>p.1=q.1/\H q.2.1=some (.tup (p.1.map kV))/\RelV p.2 q.2.2) kvs xs /\
  ∃o es ep,h.get? a=some o/\o.ExactDict/\o.data=.dict es ep/\es.toList=xs.map (entryOfKey (tupleKind (mixKind P w)))/\(xs.map (·.1)).Nodup
 |.set S n=>h.SetOf (intKind P w) a S n
 |.ins C dx fs=>H dx=some (.own a)/\fs.length<=1000/\dx≠a/\h.get? a=some (PySem.W.instObj C dx) /\
  ∃mA,h.Ns1 dx mA/\(∀f,RelO (fs.lookup f) (mA f))/\PySem.Within mA (fs.map (·.1))
 |.own _=>∃o,h.get? a=some o
 |.xd fs=>∃mA,h.Ns1 a mA/\∀f,RelO (fs.lookup f) (mA f)
 |.rng lo hi=>∃t u v,h.get? a=some { cls:=.type "range",data:=.fields #[.int lo t,.int hi u,.int 1 v] }
 |.frz o u=>h.get? a=some o/\ObjOk H h a u
 |.tbl ps=>h.get? a=some { cls:=.none,data:=.fields ps }
 |.met f x=>h.get? a=some (PySem.W.methodObj (.ref f) (.ref x))
 |.ext φ=>φ h/\(∃o,h.get? a=some o)/\∀h1 h2:Heap,φ h1->(∀o,h1.get? a=some o->h2.get? a=some o)->φ h2
def HOk(H:Hp)(h:Heap):Prop:=∀a o,H a=some o->ObjOk P w H h a o
end
section
variable {P:Program} {w:World} {H H':Hp} {h h':Heap} {a:Addr} {o:HO}
theorem ObjOk.lt(x:ObjOk P w H h a o):a<h.objs.size:=by
 cases o with
 |lst xs=>obtain⟨_,_,_,_,e⟩:=x;exact Heap.lt_size e
 |tup xs=>obtain⟨_,_,_,p⟩:=x;exact p.lt
 |dK kvs=>obtain⟨_,_,_,_,o,_,_,e,_⟩:=x;exact Heap.lt_size e
 |dT kvs=>obtain⟨_,_,_,_,o,_,_,e,_⟩:=x;exact Heap.lt_size e
 |set S n=>obtain⟨o,_,_,_,e,_⟩:=x;exact Heap.lt_size e
 |ins C dx fs=>obtain⟨_,_,_,e,_⟩:=x;exact Heap.lt_size e
 |own y=>obtain⟨_,e⟩:=x;exact Heap.lt_size e
 |xd fs=>obtain⟨_,⟨_,_,_,e,_⟩,_⟩:=x;exact Heap.lt_size e
 |rng lo hi=>obtain⟨_,_,_,e⟩:=x;exact Heap.lt_size e
 |frz ob u=>obtain⟨e,_⟩:=x;exact Heap.lt_size e
 |tbl ps=>exact Heap.lt_size (show h.get? a=some _ from x)
 |met f y=>exact Heap.lt_size (show h.get? a=some _ from x)
 |ext φ=>obtain⟨_,⟨_,e⟩,_⟩:=x;exact Heap.lt_size e
theorem Paired.mapP{α β:Type}{F G:α->β->Prop}:∀ {l₁:List α} {l₂:List β},Paired F l₁ l₂->(∀a b,F a b->G a b)->Paired G l₁ l₂
 |_,_,.nil,_=>.nil
 |_,_,.cons r t,f=>.cons (f _ _ r) (Paired.mapP t f)
theorem ObjOk.stay(x:ObjOk P w H h a o)(k:∀b u,(b=a\/H b=some (.own a))->h.get? b=some u->h'.get? b=some u)
 (ho:∀b,H b=some (.own a)->H' b=some (.own a)) (ht:∀b xs,H b=some (.tup xs)->H' b=some (.tup xs)):ObjOk P w H' h' a o:=by
 induction o with
 |lst xs=>obtain⟨z,its,n,r,e⟩:=x;exact⟨z,its,n,r,k _ _ (.inl rfl) e⟩
 |tup xs=>obtain⟨z,its,r,ob,e,c⟩:=x;exact⟨z,its,r,ob,k _ _ (.inl rfl) e,c⟩
 |dK kvs=>obtain⟨z,y,vs,r,ob,es,ep,e,c⟩:=x;exact⟨z,y,vs,r,ob,es,ep,k _ _ (.inl rfl) e,c⟩
 |dT kvs =>
  obtain⟨z,y,xs,r,ob,es,ep,e,c⟩:=x
  exact⟨z,y,xs,Paired.mapP r fun p q z=>⟨z.1,ht _ _ z.2.1,z.2.2⟩,ob,es,ep,k _ _ (.inl rfl) e,c⟩
 |set S n=>obtain⟨ob,es,ep,t,e,c⟩:=x;exact⟨ob,es,ep,t,k _ _ (.inl rfl) e,c⟩
 |ins C dx fs =>
  obtain⟨d,z,ne,e,mA,⟨od,es,ep,e2,c⟩,r⟩:=x
  exact⟨ho _ d,z,ne,k _ _ (.inl rfl) e,mA,⟨od,es,ep,k _ _ (.inr d) e2,c⟩,r⟩
 |own y=>obtain⟨ob,e⟩:=x;exact⟨ob,k _ _ (.inl rfl) e⟩
 |xd fs=>obtain⟨mA,⟨od,es,ep,e,c⟩,r⟩:=x;exact⟨mA,⟨od,es,ep,k _ _ (.inl rfl) e,c⟩,r⟩
 |rng lo hi=>obtain⟨t,u,v,e⟩:=x;exact⟨t,u,v,k _ _ (.inl rfl) e⟩
 |frz ob u ih=>obtain⟨e,q⟩:=x;exact⟨k _ _ (.inl rfl) e,ih q⟩
 |tbl ps =>
  have e:h.get? a=some { cls:=.none,data:=.fields ps }:=x
  show h'.get? a=some { cls:=.none,data:=.fields ps }
  exact k a _ (.inl rfl) e
 |met f y =>
  have e:h.get? a=some (PySem.W.methodObj (.ref f) (.ref y)):=x
  show h'.get? a=some (PySem.W.methodObj (.ref f) (.ref y))
  exact k a _ (.inl rfl) e
 |ext φ=>obtain⟨p,⟨o,e⟩,st⟩:=x;exact⟨st _ _ p fun o q=>k _ _ (.inl rfl) q,⟨o,k _ _ (.inl rfl) e⟩,st⟩
theorem HOk.lt(x:HOk P w H h)(e:H a=some o):a<h.objs.size:=(x a o e).lt
theorem HOk.fresh(x:HOk P w H h)(e:h.objs.size<=a):H a=none:=by
 cases q:H a with
 |none=>rfl
 |some u=>exact absurd (Nat.lt_of_lt_of_le (x.lt q) e) (Nat.lt_irrefl _)
theorem HOk.kept(x:HOk P w H h)(k:∀b u,h.get? b=some u->h'.get? b=some u):HOk P w H h':=fun a o e =>
 (x a o e).stay (fun b u _ q=>k b u q) (fun _ q=>q) fun _ _ q=>q
theorem HOk.laid(x:HOk P w H h)(k:∀b u,h.get? b=some u->h'.get? b=some u)(hp:h.objs.size<=a)(new:ObjOk P w (upd H a o) h' a o):HOk P w (upd H a o) h':=fun b u e=>by
 have hn:=x.fresh hp
 by_cases hb:b=a
 ·subst hb;rw[upd_same]at e;cases e;exact new
 ·rw[upd_ne hb]at e
  exact(x b u e).stay (fun c v _ q=>k c v q) (fun c q=>by rw[upd_ne (ne_of_none q hn)];exact q) fun c xs q=>by rw[upd_ne (ne_of_none q hn)];exact q
end
def Rd(H:Hp)(a:Addr)(u:HO):Prop:=H a=some u\/∃o,H a=some (.frz o u)
theorem Rd.ok{P:Program}{w:World}{H:Hp}{h:Heap}{a:Addr}{u:HO}(r:Rd H a u)(x:HOk P w H h):ObjOk P w H h a u:=by
 rcases r with r|⟨o,r⟩
 ·exact x a u r
 ·obtain⟨_,q⟩:=x a _ r
  exact q
def Mut:Option HO->Prop
 |some (.lst _)=>True
 |some (.dK _)=>True
 |some (.dT _)=>True
 |some (.set _ _)=>True
 |some (.ins _ _ _)=>True
 |some (.ext _)=>True
 |_=>False
section
variable {P:Program} {w:World} {H:Hp} {h h':Heap} {x e:Addr} {o':HO}
theorem HOk.write(ok:HOk P w H h)(mu:Mut (H x))(he:e=x\/H e=some (.own x))(k:∀b u,b≠e->h.get? b=some u->h'.get? b=some u)(heo:∃u,h'.get? e=some u)
 (new:ObjOk P w (upd H x o') h' x o'):HOk P w (upd H x o') h':=fun b u q=>by
 have nown:∀c y,H c=some (.own y)->c≠x:=fun c y r z=>by subst z;rw[r]at mu;exact mu
 have ntup:∀c xs,H c=some (.tup xs)->c≠x:=fun c xs r z=>by subst z;rw[r]at mu;exact mu
 by_cases hb:b=x
 ·subst hb;rw[upd_same]at q;cases q;exact new
 ·rw[upd_ne hb]at q
  by_cases hbe:b=e
  ·have q':H b=some (.own x):=by
    rcases he with z|z
    ·exact absurd (hbe.trans z) hb
    ·rw[hbe];exact z
   rw[q]at q';cases q'
   obtain⟨v,hv⟩:=heo
   exact⟨v,by rw[hbe];exact hv⟩
  ·refine(ok b u q).stay (fun c v hc r=>k c v ?_ r) (fun c r=>by rw[upd_ne (nown c b r)];exact r) fun c xs r=>by rw[upd_ne (ntup c xs r)];exact r
   rcases hc with rfl|hc
   ·exact hbe
   ·rintro rfl
    rcases he with z|z
    ·exact nown c b hc z
    ·rw[hc]at z;cases z;exact hb rfl
end
structure Un (fs ex:List Addr) (H H':Hp) (h h':Heap):Prop where
 keep:∀b o,h.get? b=some o->H b=none->b ∉ fs->b ∉ ex->h'.get? b=some o
 slot:∀b o,h.get? b=some o->H b=none->b∈fs->b ∉ ex->∃sl,h'.get? b=some { o with slots:=sl }
 free:∀b o,h.get? b=some o->H b=none->b ∉ ex->H' b=none
 there:∀b o,h.get? b=some o->b ∉ ex->∃o',h'.get? b=some o'
 tups:∀b xs,H b=some (.tup xs)->H' b=some (.tup xs)
 frzs:∀b o u,H b=some (.frz o u)->H' b=some (.frz o u)
 tbls:∀b ps,H b=some (.tbl ps)->∃more,H' b=some (.tbl (ps++more))
section
variable {fs fs' ex ex':List Addr} {H H1 H2:Hp} {h h1 h2 h':Heap} {a x e:Addr} {o:HO}
theorem Un.any(u:Un fs ex H H1 h h1){b:Addr}{ob:Obj}(q:h.get? b=some ob)(n:H b=none)(hx:b ∉ ex):∃sl,h1.get? b=some { ob with slots:=sl }:=by
 by_cases hb:b∈fs
 ·exact u.slot b ob q n hb hx
 ·exact⟨ob.slots,u.keep b ob q n hb hx⟩
theorem Un.kept(k:∀b u,h.get? b=some u->h'.get? b=some u):Un fs ex H H h h' :=
 ⟨fun b ob q _ _ _=>k b ob q,fun b ob q _ _ _=>⟨ob.slots,k b ob q⟩,fun _ _ _ n _=>n,fun b ob q _=>⟨ob,k b ob q⟩,fun _ _ q=>q,fun _ _ _ q=>q,fun _ ps q=>⟨#[],by rw[q];simp⟩⟩
theorem Un.refl:Un fs ex H H h h:=Un.kept fun _ _ q=>q
theorem Un.laid(k:∀b u,h.get? b=some u->h'.get? b=some u)(hp:h.objs.size<=a)(hn:H a=none):Un fs ex H (upd H a o) h h' where
 keep:=fun b u q _ _ _=>k b u q
 slot:=fun b u q _ _ _=>⟨u.slots,k b u q⟩
 free:=fun b u q n _=>by rw[upd_ne (Nat.ne_of_lt (Nat.lt_of_lt_of_le (Heap.lt_size q) hp))];exact n
 there:=fun b u q _=>⟨u,k b u q⟩
 tups:=fun b xs q=>by rw[upd_ne (ne_of_none q hn)];exact q
 frzs:=fun b u xs q=>by rw[upd_ne (ne_of_none q hn)];exact q
 tbls:=fun b ps q=>⟨#[],by rw[upd_ne (ne_of_none q hn),q];simp⟩
theorem Un.write(mu:Mut (H x))(he:e=x\/H e=some (.own x))(k:∀b u,b≠e->h.get? b=some u->h'.get? b=some u)(heo:∃u,h'.get? e=some u):Un fs ex H (upd H x o) h h':=by
 have hx:∀b,H b=none->b≠x:=fun b n z=>by subst z;rw[n]at mu;exact mu
 have hb:∀b,H b=none->b≠e:=fun b n z=>by
  subst z
  rcases he with r|r
  ·exact hx b n r
  ·rw[n]at r;cases r
 have hm:∀b u,H b=some u->¬ Mut (some u)->b≠x:=fun b u q nm z=>by subst z;rw[q]at mu;exact nm mu
 refine⟨fun b u q n _ _=>k b u (hb b n) q,fun b u q n _ _=>⟨u.slots,k b u (hb b n) q⟩,fun b u q n _=>by rw[upd_ne (hx b n)];exact n,fun b u q _=>?_,
  fun b xs q=>by rw[upd_ne (hm b _ q fun z=>z)];exact q,fun b u xs q=>by rw[upd_ne (hm b _ q fun z=>z)];exact q,fun b ps q=>⟨#[],by rw[upd_ne (hm b _ q fun z=>z),q];simp⟩⟩
 by_cases hbe:b=e
 ·subst hbe;exact heo
 ·exact⟨u,k b u hbe q⟩
end
def trk(h:Heap)(H:Hp):List Addr:=(List.range h.objs.size).filter fun a=>(H a).isSome
def hidT(h:Heap)(H:Hp):Heap:=PySem.W.hideAll h (trk h H)
theorem hidT_size(h:Heap)(H:Hp):(hidT h H).objs.size=h.objs.size:=PySem.W.hideAll_size _ _
theorem hidT_get{h:Heap}{H:Hp}{b:Addr}{o:Obj}(e:h.get? b=some o)(n:H b=none):(hidT h H).get? b=some o :=
 PySem.W.hideAll_get _ e fun hm=>by
  have q:(H b).isSome=true:=(List.mem_filter.mp hm).2
  rw[n]at q;simp at q
theorem of_hidT{h:Heap}{H:Hp}{b:Addr}{o:Obj}(e:(hidT h H).get? b=some o):h.get? b=some o/\H b=none:=by
 have e':h.get? b=some o:=PySem.W.of_hideAll (trk h H) e
 refine⟨e',?_⟩
 cases q:H b with
 |none=>rfl
 |some x =>
  have hm:b∈trk h H:=List.mem_filter.mpr ⟨List.mem_range.mpr (Heap.lt_size e'),by simp[q]⟩
  have z:(hidT h H).get? b=none:=PySem.W.hideAll_none (trk h H) hm
  rw[z]at e;cases e
end L2
namespace L2
open PySem PySem.Spec PyProof.Rows
structure Mod (K:PySem.W.Frag) (mg:Str->Option Value) (base:Heap):Prop where
 kin:K.In base
 glob:base.Ns mainGlobals mg
 blt:∃mb,base.Ns builtinsNs mb/\∀x:Str,x ≠ "__name__"->mb x=bootBuiltins x
 nolimit:base.NoLimit/\base.NoDigits
structure Cx where
 prog:Program
 w:World
 K:PySem.W.Frag
 mg:Str->Option Value
 base:Heap
 A:Around
 N:List Str
 s₀:Shared
 H₀:Hp
 env:Env
 outer:List Env
 stack:List Env
 ex:List Addr
 fn:Str->Bool
 calm:Bool
 pn:List (Addr×Obj)
 xe:Value->Shared->Prop
def frs(l:List Env):List Addr:=l.filterMap (·.frame)
abbrev Cx.fs(X:Cx):List Addr:=frs X.outer
def Vis(sc:Scope)(x:Str):Prop:=sc.names.lookup x=some .local\/sc.names.lookup x=some .cell\/sc.names.lookup x=some .free
def Loc(sc:Scope)(x:Str):Prop:=sc.names.lookup x=some .local\/sc.names.lookup x=some .cell
def Look(env:Env)(h:Heap)(m:Str->Option Value)(x:Str)(u:Value):Prop :=
 (env.kindOf x=some .local/\m x=some u)\/((env.kindOf x=some .cell\/env.kindOf x=some .free)/\∃c,env.cells.lookup x=some c/\h.IsCell c (some u))
structure Cx.Ok (X:Cx):Prop where
 mod:Mod X.K X.mg X.base
 kind:X.env.scope.kind=.function
 glob:X.env.globals=mainGlobals
 blt:X.env.builtins=builtinsNs
 above:X.s₀.heap.objs.size<=X.env.locals
 inj:∀x y c,X.env.cells.lookup x=some c->X.env.cells.lookup y=some c->x=y
 has:∀x,(X.env.kindOf x=some .cell\/X.env.kindOf x=some .free)->∃c,X.env.cells.lookup x=some c
 cab:∀x c,X.fn x=true->X.env.cells.lookup x=some c->X.s₀.heap.objs.size<=c
 hd:X.calm=true->X.A.handled=none
 frames:X.A.frames=some X.stack
 stk:X.stack=X.outer\/(X.stack=X.env::X.outer/\X.env.frame=some X.env.locals)
 exf:∀b∈X.ex,b≠X.env.locals/\∀x c,X.env.cells.lookup x=some c->c≠b
 bs:∀b o,X.base.get? b=some o->X.s₀.heap.get? b=some o/\X.H₀ b=none
 bsz:X.base.objs.size<=X.s₀.heap.objs.size
 noex:∀b o,X.base.get? b=some o->b ∉ X.ex
 exfs:∀b∈X.ex,b ∉ X.fs
 funs:X.s₀.heap.FunFrames X.base X.outer
 frf:∀b∈X.fs,X.H₀ b=none
structure Inv (X:Cx) (pins:List (Addr×Obj)) (σ:List (Option V)) (H:Hp) (s:Shared):Prop where
 ok:X.Ok
 os:s.os=X.s₀.os
 bare:AllBare s.gens
 base:Un X.fs X.ex X.H₀ H X.s₀.heap s.heap
 loc:∃m,s.heap.Ns X.env.locals m/\∀(i:Nat) (x:Str) (v:V),X.N[i]?=some x->σ[i]?=some (some v)->Vis X.env.scope x->∃u,RelV v u/\Look X.env s.heap m x u
 cell:∀x c,X.env.cells.lookup x=some c->∃v,s.heap.IsCell c v
 free:H X.env.locals=none
 freeC:∀x c,X.env.cells.lookup x=some c->H c=none
 pin:∀p∈X.pn++pins,s.heap.get? p.1=some p.2/\H p.1=none/\p.1≠X.env.locals/\p.1 ∉ X.fs/\∀v,p.2.data ≠ .cell v
 hok:HOk X.prog X.w H s.heap
 len:σ.length=X.N.length
section
variable {X:Cx} {pins:List (Addr×Obj)} {σ:List (Option V)} {H H':Hp} {s:Shared} {h':Heap}
theorem Cx.Ok.nofr(ok:X.Ok){b:Addr}{o:Obj}(e:X.base.get? b=some o):b ∉ X.fs:=fun hb=>by
 have:=(ok.funs.mem hb).1
 rw[e]at this;cases this
theorem Inv.bs(I:Inv X pins σ H s):∀b o,X.base.get? b=some o->s.heap.get? b=some o/\H b=none:=fun b o e =>
 ⟨I.base.keep b o (I.ok.bs b o e).1 (I.ok.bs b o e).2 (I.ok.nofr e) (I.ok.noex b o e),I.base.free b o (I.ok.bs b o e).1 (I.ok.bs b o e).2 (I.ok.noex b o e)⟩
theorem Inv.bk(I:Inv X pins σ H s):∀b o,X.base.get? b=some o->s.heap.get? b=some o:=fun b o e=>(I.bs b o e).1
theorem Inv.mod(I:Inv X pins σ H s):Mod X.K X.mg X.base:=I.ok.mod
theorem Inv.kIn(I:Inv X pins σ H s):X.K.In s.heap:=I.ok.mod.kin.keeps I.bk
theorem Inv.lt(I:Inv X pins σ H s):X.env.locals<s.heap.objs.size:=let ⟨_,hn,_⟩:=I.loc;hn.lt
theorem Inv.sz(I:Inv X pins σ H s):X.s₀.heap.objs.size<=s.heap.objs.size:=Nat.le_trans I.ok.above (Nat.le_of_lt I.lt)
theorem Inv.nofs(I:Inv X pins σ H s){a:Addr}(h:s.heap.objs.size<=a):a ∉ X.fs:=fun hb=>by
 obtain⟨_,o,ho,_⟩:=I.ok.funs.mem hb
 exact absurd (Nat.lt_of_lt_of_le (Heap.lt_size ho) (Nat.le_trans I.sz h)) (Nat.lt_irrefl _)
theorem Inv.cne(I:Inv X pins σ H s):∀x c,X.env.cells.lookup x=some c->c≠X.env.locals:=fun x c e z=>by
 obtain⟨v,o,ho,hd⟩:=I.cell x c e
 obtain⟨m,⟨o',es,ep,ho',hd',_⟩,_⟩:=I.loc
 rw[z,ho']at ho;cases ho;rw[hd']at hd;cases hd
theorem Inv.funs(I:Inv X pins σ H s):s.heap.FunFrames X.base X.outer:=by
 have all:∀(l:List Env),(∀b∈frs l,b∈X.fs)->X.s₀.heap.FunFrames X.base l->s.heap.FunFrames X.base l:=by
  intro l
  induction l with
  |nil=>intro _ _;trivial
  |cons env r ih =>
   intro hs hl
   obtain⟨hk,⟨L,o,hf,hn,ho,hd⟩,hr⟩:=hl
   have hL:L∈X.fs:=hs L (by unfold frs;rw[List.filterMap_cons,hf];exact List.mem_cons_self)
   obtain⟨sl,e⟩:=I.base.slot L o ho (I.ok.frf L hL) hL fun z=>I.ok.exfs L z hL
   exact⟨hk,⟨L,_,hf,hn,e,hd⟩,ih (fun b hb=>hs b (by unfold frs;rw[List.filterMap_cons,hf];exact List.mem_cons_of_mem _ hb)) hr⟩
 exact all X.outer (fun _ hb=>hb) I.ok.funs
theorem Inv.stack(I:Inv X pins σ H s):s.heap.FunFrames X.base X.stack:=by
 rcases I.ok.stk with e|⟨e,hf⟩
 ·rw[e];exact I.funs
 ·rw[e]
  obtain⟨m,hn,_⟩:=I.loc
  refine .cons (by rw[I.ok.kind];decide) hf hn ?_ I.funs
  exact Heap.get?_none_of_le (Nat.le_trans I.ok.bsz I.ok.above)
theorem Inv.stkSub(I:Inv X pins σ H s):∀b∈frs X.stack,b∈X.env.locals::X.fs:=fun b hb=>by
 rcases I.ok.stk with e|⟨e,hf⟩
 ·rw[e]at hb;exact List.mem_cons_of_mem _ hb
 ·rw[e]at hb
  unfold frs at hb
  rw[List.filterMap_cons,hf]at hb
  exact hb
theorem Inv.stkFree(I:Inv X pins σ H s):∀b∈frs X.stack,H b=none:=fun b hb=>by
 rcases List.mem_cons.mp (I.stkSub b hb) with e|hb
 ·rw[e];exact I.free
 ·obtain⟨_,o,ho,_⟩:=I.ok.funs.mem hb
  exact I.base.free b o ho (I.ok.frf b hb) fun z=>I.ok.exfs b z hb
theorem Inv.step{g':Array GenState}{t':Nat}{d':Drawn}{ch:List Addr}(I:Inv X pins σ H s)
 (hch:∀b∈ch,(b∈X.ex\/X.s₀.heap.objs.size<=b)/\b≠X.env.locals/\(∀x c,X.env.cells.lookup x=some c->c≠b)/\∀p∈X.pn++pins,p.1≠b)
 (keep:∀b o,b≠X.env.locals->b ∉ X.fs->b ∉ ch->s.heap.get? b=some o->H b=none->h'.get? b=some o)
 (slot:∀b o,b≠X.env.locals->b∈X.fs->b ∉ ch->s.heap.get? b=some o->H b=none->∃sl,h'.get? b=some { o with slots:=sl }) (free:∀b o,b ∉ ch->s.heap.get? b=some o->H b=none->H' b=none)
 (there:∀b o,b ∉ ch->s.heap.get? b=some o->∃o',h'.get? b=some o')
 (tups:∀b xs,H b=some (.tup xs)->H' b=some (.tup xs)) (frzs:∀b o u,H b=some (.frz o u)->H' b=some (.frz o u)) (tbls:∀b ps,H b=some (.tbl ps)->∃more,H' b=some (.tbl (ps++more)))
 (ns:∀m,s.heap.Ns X.env.locals m->h'.Ns X.env.locals m) (hok:HOk X.prog X.w H' h') (hg:AllBare g') :
 Inv X pins σ H' { s with heap:=h',gens:=g',drawn:=d',toks:=t' }:=by
 have neL:∀b o,X.s₀.heap.get? b=some o->b≠X.env.locals:=fun b o e=>Nat.ne_of_lt (Nat.lt_of_lt_of_le (Heap.lt_size e) I.ok.above)
 have neC:∀b o,X.s₀.heap.get? b=some o->b ∉ X.ex->b ∉ ch:=fun b o e hx hb=>by
  rcases(hch b hb).1 with z|z
  ·exact hx z
  ·exact absurd (Nat.lt_of_lt_of_le (Heap.lt_size e) z) (Nat.lt_irrefl _)
 have cellK:∀x c,X.env.cells.lookup x=some c->∀v,s.heap.IsCell c v->h'.IsCell c v:=fun x c e v ⟨o,ho,hd⟩=>by
  have nch:c ∉ ch:=fun z=>(hch c z).2.2.1 x c e rfl
  by_cases hc:c∈X.fs
  ·obtain⟨sl,q⟩:=slot c o (I.cne x c e) hc nch ho (I.freeC x c e)
   exact⟨_,q,hd⟩
  ·exact⟨o,keep c o (I.cne x c e) hc nch ho (I.freeC x c e),hd⟩
 refine⟨I.ok,I.os,hg,⟨fun b o e n hb hx=>?_,fun b o e n hb hx=>?_,fun b o e n hx=>?_,fun b o e hx=>?_,fun b xs e=>tups b xs (I.base.tups b xs e),fun b o xs e=>frzs b o xs (I.base.frzs b o xs e),fun b ps e=>?_⟩,?_,fun x c e=>?_,?_,fun x c e=>?_,fun p hp=>?_,hok,I.len⟩
 ·exact keep b o (neL b o e) hb (neC b o e hx) (I.base.keep b o e n hb hx) (I.base.free b o e n hx)
 ·obtain⟨sl,e1⟩:=I.base.slot b o e n hb hx
  obtain⟨sl',e2⟩:=slot b _ (neL b o e) hb (neC b o e hx) e1 (I.base.free b o e n hx)
  exact⟨sl',e2⟩
 ·obtain⟨o',e1⟩:=I.base.there b o e hx
  exact free b o' (neC b o e hx) e1 (I.base.free b o e n hx)
 ·obtain⟨o',e1⟩:=I.base.there b o e hx
  exact there b o' (neC b o e hx) e1
 ·obtain⟨m1,e1⟩:=I.base.tbls b ps e
  obtain⟨m2,e2⟩:=tbls b _ e1
  exact⟨m1++m2,by rw[e2,Array.append_assoc]⟩
 ·obtain⟨m,hn,hl⟩:=I.loc
  refine⟨m,ns m hn,fun i x v e1 e2 e3=>?_⟩
  obtain⟨u,r,l⟩:=hl i x v e1 e2 e3
  refine⟨u,r,?_⟩
  rcases l with l|⟨k,c,e,z⟩
  ·exact .inl l
  ·exact .inr ⟨k,c,e,cellK x c e _ z⟩
 ·obtain⟨v,z⟩:=I.cell x c e
  exact⟨v,cellK x c e v z⟩
 ·obtain⟨m,⟨o,_,_,ho,_⟩,_⟩:=I.loc
  exact free _ o (fun z=>(hch _ z).2.1 rfl) ho I.free
 ·obtain⟨v,o,ho,hd⟩:=I.cell x c e
  exact free c o (fun z=>(hch c z).2.2.1 x c e rfl) ho (I.freeC x c e)
 ·obtain⟨e,n,ne,nf,d⟩:=I.pin p hp
  have nch:p.1 ∉ ch:=fun z=>(hch p.1 z).2.2.2 p hp rfl
  exact⟨keep p.1 p.2 ne nf nch e n,free p.1 p.2 nch e n,ne,nf,d⟩
theorem Inv.un{t':Nat}(I:Inv X pins σ H s)(u:Un X.fs [] H H' s.heap h')(hok:HOk X.prog X.w H' h'):Inv X pins σ H' { s with heap:=h',toks:=t' }:=by
 obtain⟨m,⟨o,es,ep,ho,r⟩,_⟩:=id I.loc
 obtain⟨sl,hL⟩:=u.any ho I.free (by simp)
 exact I.step (g':=s.gens) (d':=s.drawn) (ch:=[]) (fun _ z=>nomatch z) (fun b o _ hb _ e n=>u.keep b o e n hb (by simp)) (fun b o _ hb _ e n=>u.slot b o e n hb (by simp)) (fun b o _ e n=>u.free b o e n (by simp)) (fun b o _ e=>u.there b o e (by simp)) u.tups u.frzs u.tbls (fun m' hm=>by
  obtain⟨o',es',ep',ho',r'⟩:=hm
  rw[ho]at ho';cases ho'
  exact⟨_,es',ep',hL,r'⟩) hok I.bare
theorem Inv.call{g':Array GenState}{t':Nat}{d':Drawn}{ch:List Addr}(I:Inv X pins σ H s)(u:Un (frs X.stack) ch H H' s.heap h')(hok:HOk X.prog X.w H' h')(hg:AllBare g')
 (hch:∀b∈ch,(b∈X.ex\/X.s₀.heap.objs.size<=b)/\b≠X.env.locals/\(∀x c,X.env.cells.lookup x=some c->c≠b)/\∀p∈X.pn++pins,p.1≠b) :
 Inv X pins σ H' { s with heap:=h',gens:=g',drawn:=d',toks:=t' }:=by
 obtain⟨m,⟨o,es,ep,ho,r⟩,_⟩:=id I.loc
 obtain⟨sl,hL⟩:=u.any ho I.free fun z=>(hch _ z).2.1 rfl
 exact I.step (ch:=ch) hch (fun b o hL hb hc e n=>u.keep b o e n (fun z=>(List.mem_cons.mp (I.stkSub b z)).elim hL hb) hc) (fun b o _ _ hc e n=>u.any e n hc) (fun b o hc e n=>u.free b o e n hc) (fun b o hc e=>u.there b o e hc) u.tups u.frzs u.tbls (fun m' hm=>by
  obtain⟨o',es',ep',ho',r'⟩:=hm
  rw[ho]at ho';cases ho'
  exact⟨_,es',ep',hL,r'⟩) hok hg
theorem Inv.turned{t':Nat}{it:Addr}(I:Inv X pins σ H s)(k:∀b o,b≠it->s.heap.get? b=some o->h'.get? b=some o)(hn:H it=none)(hL:it≠X.env.locals)
 (h1:it∈X.ex\/X.s₀.heap.objs.size<=it) (h2:∀x c,X.env.cells.lookup x=some c->c≠it) (h3:∀p∈X.pn++pins,p.1≠it):Inv X pins σ H { s with heap:=h',toks:=t' }:=by
 have nit:∀b u,H b=some u->b≠it:=fun b u e z=>by rw[z,hn]at e;cases e
 refine I.step (g':=s.gens) (d':=s.drawn) (ch:=[it]) (fun b hb=>?_) (fun b o _ _ hc e _=>k b o (fun z=>hc (by simp[z])) e) (fun b o _ _ hc e _=>⟨o.slots,k b o (fun z=>hc (by simp[z])) e⟩) (fun _ _ _ _ n=>n)
  (fun b o hc e=>⟨o,k b o (fun z=>hc (by simp[z])) e⟩) (fun _ _ e=>e) (fun _ _ _ e=>e) (fun b ps e=>⟨#[],by rw[e];simp⟩) (fun m hm=>?_) (fun b u e=>?_) I.bare
 ·have e:b=it:=by simpa using hb
  subst e
  exact⟨h1,hL,h2,h3⟩
 ·obtain⟨o,es,ep,ho,r⟩:=hm
  exact⟨o,es,ep,k _ o (Ne.symm hL) ho,r⟩
 ·refine(I.hok b u e).stay (fun c v hc q=>k c v ?_ q) (fun _ q=>q) fun _ _ q=>q
  rcases hc with z|z
  ·rw[z];exact nit b u e
  ·exact nit c _ z
theorem Inv.tok(I:Inv X pins σ H s)(t:Nat):Inv X pins σ H { s with toks:=t }:=I.un (h':=s.heap) (t':=t) Un.refl I.hok
theorem Inv.kept{t':Nat}(I:Inv X pins σ H s)(k:∀b u,s.heap.get? b=some u->h'.get? b=some u):Inv X pins σ H { s with heap:=h',toks:=t' }:=I.un (Un.kept k) (I.hok.kept k)
theorem Inv.laid{a:Addr}{o:HO}{t':Nat}(I:Inv X pins σ H s)(k:∀b u,s.heap.get? b=some u->h'.get? b=some u)(hp:s.heap.objs.size<=a)(new:ObjOk X.prog X.w (upd H a o) h' a o) :
 Inv X pins σ (upd H a o) { s with heap:=h',toks:=t' }:=I.un (Un.laid k hp (I.hok.fresh hp)) (I.hok.laid k hp new)
theorem Inv.write{x e:Addr}{o:HO}{t':Nat}(I:Inv X pins σ H s)(mu:Mut (H x))(he:e=x\/H e=some (.own x))(k:∀b u,b≠e->s.heap.get? b=some u->h'.get? b=some u)(heo:∃u,h'.get? e=some u)
 (new:ObjOk X.prog X.w (upd H x o) h' x o):Inv X pins σ (upd H x o) { s with heap:=h',toks:=t' }:=I.un (Un.write mu he k heo) (I.hok.write mu he k heo new)
theorem Inv.pins_of{pins':List (Addr×Obj)}(I:Inv X pins σ H s)(h:∀p∈pins',s.heap.get? p.1=some p.2/\H p.1=none/\p.1≠X.env.locals/\p.1 ∉ X.fs/\∀v,p.2.data ≠ .cell v):Inv X pins' σ H s :=
 ⟨I.ok,I.os,I.bare,I.base,I.loc,I.cell,I.free,I.freeC,fun p hp=>(List.mem_append.mp hp).elim (fun z=>I.pin p (List.mem_append_left _ z)) (h p),I.hok,I.len⟩
theorem nodup_ix{N:List Str}(hN:N.Nodup){i j:Nat}{x:Str}(a:N[i]?=some x)(b:N[j]?=some x):i=j:=by
 obtain⟨h1,e1⟩:=List.getElem?_eq_some_iff.mp a
 obtain⟨h2,e2⟩:=List.getElem?_eq_some_iff.mp b
 exact(List.getElem_inj hN).mp (e1.trans e2.symm)
theorem store_ok2{M:Model}{A:Around}{E:Value->Shared->Prop}{i:Nat}{x:Str}{v:V}{u:Value}{Q:Unit->Shared->Prop}(I:Inv X pins σ H s)(hN:X.N.Nodup)(hi:X.N[i]?=some x)(hx:Loc X.env.scope x)(r:RelV v u)
 (h:∀s',Inv X pins (σ.set i (some v)) H s'->(∃a,Heap.SameBut a s.heap s'.heap/\(a=X.env.locals\/X.env.cells.lookup x=some a))->Q () s') (hf:X.fn x=true\/X.env.scope.names.lookup x=some .local:=by first|exact .inl rfl|exact .inr rfl|assumption):wpAny M A (storeName X.env x u) Q E s:=by
 obtain⟨m,hn,hl⟩:=id I.loc
 have hcls:(X.env.scope.kind == .class ||(X.env.scope.kind == .module&&X.env.locals != X.env.globals))=false:=by rw[I.ok.kind];rfl
 have hiσ:i<σ.length:=by rw[I.len];exact(List.getElem?_eq_some_iff.mp hi).1
 have cne:=I.cne
 have tracked:∀ {a:Addr} {h':Heap},(∃o,s.heap.get? a=some o/\H a=none)->Heap.SameBut a s.heap h'->HOk X.prog X.w H h':=fun {a h'} ha hs b ob e=>by
  obtain⟨_,_,hfree⟩:=ha
  refine(I.hok b ob e).stay (fun c w' hc q=>(hs.2 c ?_).trans q) (fun _ q=>q) fun _ _ q=>q
  rintro rfl
  rcases hc with rfl|hc
  ·rw[hfree]at e;cases e
  ·rw[hfree]at hc;cases hc
 rcases hx with hk|hk
 ·refine wpAny_storeName_local hk hn (fun h' hn' hs=>?_) hcls
  obtain⟨oL,_,_,hoL,_⟩:=id hn
  refine h _ ⟨I.ok,I.os,I.bare,⟨fun b o e n hb hx=>?_,fun b o e n hb hx=>?_,I.base.free,fun b o e hx=>?_,I.base.tups,I.base.frzs,I.base.tbls⟩,⟨_,hn',fun j y v' e1 e2 e3=>?_⟩,fun y c e=>?_,I.free,I.freeC,fun p hp=>?_,tracked ⟨oL,hoL,I.free⟩ hs,by simpa using I.len⟩ ⟨_,hs,.inl rfl⟩
  ·exact(hs.2 b (Nat.ne_of_lt (Nat.lt_of_lt_of_le (Heap.lt_size e) I.ok.above))).trans (I.base.keep b o e n hb hx)
  ·obtain⟨sl,e1⟩:=I.base.slot b o e n hb hx
   exact⟨sl,(hs.2 b (Nat.ne_of_lt (Nat.lt_of_lt_of_le (Heap.lt_size e) I.ok.above))).trans e1⟩
  ·obtain⟨o',e1⟩:=I.base.there b o e hx
   exact⟨o',(hs.2 b (Nat.ne_of_lt (Nat.lt_of_lt_of_le (Heap.lt_size e) I.ok.above))).trans e1⟩
  ·by_cases hj:j=i
   ·subst hj
    rw[hi]at e1;cases e1
    rw[List.getElem?_set_self hiσ]at e2
    cases e2
    exact⟨u,r,.inl ⟨hk,by simp⟩⟩
   ·rw[List.getElem?_set_ne (Ne.symm hj)]at e2
    obtain⟨u',r',q⟩:=hl j y v' e1 e2 e3
    refine⟨u',r',?_⟩
    rcases q with⟨k,e⟩|⟨k,c,e,z⟩
    ·refine .inl ⟨k,?_⟩
     have:y≠x:=fun e=>hj (nodup_ix hN e1 (e ▸ hi))
     simp[this,e]
    ·exact .inr ⟨k,c,e,z.sameBut hs (cne y c e)⟩
  ·obtain⟨w',z⟩:=I.cell y c e
   exact⟨w',z.sameBut hs (cne y c e)⟩
  ·obtain⟨e,n,ne,nf,d⟩:=I.pin p hp
   exact⟨(hs.2 p.1 ne).trans e,n,ne,nf,d⟩
 ·have hfn:X.fn x=true:=by
   rcases hf with z|z
   ·exact z
   ·rw[z]at hk;cases hk
  obtain⟨c,hc⟩:=I.ok.has x (.inl hk)
  obtain⟨w',z⟩:=I.cell x c hc
  refine wpAny_storeName_cell I.ok.kind hk hc z (fun h' hc' hs=>?_)
  obtain⟨oc,hoc,hocd⟩:=id z
  refine h { s with heap:=h' } ⟨I.ok,I.os,I.bare,⟨fun b o e n hb hx=>?_,fun b o e n hb hx=>?_,I.base.free,fun b o e hx=>?_,I.base.tups,I.base.frzs,I.base.tbls⟩,⟨m,hn.sameBut hs (Ne.symm (cne x c hc)),fun j y v' e1 e2 e3=>?_⟩,fun y c' e=>?_,I.free,I.freeC,fun p hp=>?_,tracked ⟨oc,hoc,I.freeC x c hc⟩ hs,by simpa using I.len⟩ ⟨c,hs,.inr hc⟩
  ·exact(hs.2 b (Nat.ne_of_lt (Nat.lt_of_lt_of_le (Heap.lt_size e) (I.ok.cab x c hfn hc)))).trans (I.base.keep b o e n hb hx)
  ·obtain⟨sl,e1⟩:=I.base.slot b o e n hb hx
   exact⟨sl,(hs.2 b (Nat.ne_of_lt (Nat.lt_of_lt_of_le (Heap.lt_size e) (I.ok.cab x c hfn hc)))).trans e1⟩
  ·obtain⟨o',e1⟩:=I.base.there b o e hx
   exact⟨o',(hs.2 b (Nat.ne_of_lt (Nat.lt_of_lt_of_le (Heap.lt_size e) (I.ok.cab x c hfn hc)))).trans e1⟩
  ·by_cases hj:j=i
   ·subst hj
    rw[hi]at e1;cases e1
    rw[List.getElem?_set_self hiσ]at e2
    cases e2
    exact⟨u,r,.inr ⟨.inl hk,c,hc,hc'⟩⟩
   ·rw[List.getElem?_set_ne (Ne.symm hj)]at e2
    obtain⟨u',r',q⟩:=hl j y v' e1 e2 e3
    refine⟨u',r',?_⟩
    rcases q with q|⟨k,c',e,z'⟩
    ·exact .inl q
    ·refine .inr ⟨k,c',e,z'.sameBut hs ?_⟩
     rintro rfl
     exact hj (nodup_ix hN e1 (I.ok.inj _ _ _ e hc ▸ hi))
  ·by_cases hcc:c'=c
   ·subst hcc;exact⟨_,hc'⟩
   ·obtain⟨w2,z2⟩:=I.cell y c' e
    exact⟨w2,z2.sameBut hs hcc⟩
  ·obtain⟨e,n,ne,nf,d⟩:=I.pin p hp
   refine⟨(hs.2 p.1 ?_).trans e,n,ne,nf,d⟩
   intro q
   rw[q,hoc]at e
   have q':oc=p.2:=Option.some.inj e
   exact d w' (by rw[<- q'];exact hocd)
theorem store_ok{M:Model}{A:Around}{E:Value->Shared->Prop}{i:Nat}{x:Str}{v:V}{u:Value}{Q:Unit->Shared->Prop}(I:Inv X pins σ H s)(hN:X.N.Nodup)(hi:X.N[i]?=some x)(hx:Loc X.env.scope x)(r:RelV v u)
 (h:∀s',Inv X pins (σ.set i (some v)) H s'->Q () s') (hf:X.fn x=true\/X.env.scope.names.lookup x=some .local:=by first|exact .inl rfl|exact .inr rfl|assumption):wpAny M A (storeName X.env x u) Q E s :=
 store_ok2 I hN hi hx r (fun s' I' _=>h s' I') hf
theorem Inv.call'{s':Shared}{ch:List Addr}(I:Inv X pins σ H s)(ho:s'.os=s.os)(u:Un (frs X.stack) ch H H' s.heap s'.heap)(hok:HOk X.prog X.w H' s'.heap)(hg:AllBare s'.gens)
 (hch:∀b∈ch,(b∈X.ex\/X.s₀.heap.objs.size<=b)/\b≠X.env.locals/\(∀x c,X.env.cells.lookup x=some c->c≠b)/\∀p∈X.pn++pins,p.1≠b):Inv X pins σ H' s':=by
 obtain⟨h',g',d',t',o'⟩:=s'
 have e:o'=s.os:=ho
 subst e
 exact I.call (g':=g') (t':=t') (d':=d') u hok hg hch
end
abbrev XK:=Value->Option Addr->Hp->Prop
abbrev St:=List (Option V)
abbrev VK:=V->Hp->Prop
abbrev TE:=St->Hp->VK->Prop
abbrev TT:=St->Hp->(Bool->Hp->Prop)->Prop
abbrev TA:=St->Hp->(List V->Hp->Prop)->Prop
structure Ends where
 nx:St->Hp->Prop
 rt:VK
 bk:St->Hp->Prop:=fun _ _=>False
 ct:St->Hp->Prop:=fun _ _=>False
abbrev TS:=Ends->St->Hp->Prop
def EP(X:Cx)(pins:List (Addr×Obj))(σ:St)(Q:VK)(u:Value)(s':Shared):Prop:=∃v H',Inv X pins σ H' s'/\RelV v u/\Q v H'
def TP(X:Cx)(pins:List (Addr×Obj))(σ:St)(Q:Bool->Hp->Prop)(b:Bool)(s':Shared):Prop:=∃H',Inv X pins σ H' s'/\Q b H'
def AP(X:Cx)(pins:List (Addr×Obj))(σ:St)(Q:List V->Hp->Prop)(us:List Value)(s':Shared):Prop:=∃vs H',Inv X pins σ H' s'/\Vals vs us/\Q vs H'
def SP(X:Cx)(pins:List (Addr×Obj))(D:Ends)(f:Flow)(s':Shared):Prop :=
 match f with
 |.next=>∃σ' H',Inv X pins σ' H' s'/\D.nx σ' H'
 |.brk=>∃σ' H',Inv X pins σ' H' s'/\D.bk σ' H'
 |.cont=>∃σ' H',Inv X pins σ' H' s'/\D.ct σ' H'
 |.ret u=>∃v σ' H',Inv X pins σ' H' s'/\RelV v u/\D.rt v H'
def PE(X:Cx)(e:Expr)(t:TE):Prop :=
 ∀(pins:List (Addr×Obj)) (s:Shared) (σ:St) (H:Hp) (Q:VK),Inv X pins σ H s->t σ H Q->wpAny (model X.prog X.w) X.A (eval e X.env) (EP X pins σ Q) X.xe s
def PT(X:Cx)(e:Expr)(t:TT):Prop :=
 ∀(pins:List (Addr×Obj)) (s:Shared) (σ:St) (H:Hp) (Q:Bool->Hp->Prop),Inv X pins σ H s->t σ H Q->wpAny (model X.prog X.w) X.A (isTrue e X.env (eval e X.env)) (TP X pins σ Q) X.xe s
def PW(X:Cx)(e:Expr)(t:TT):Prop :=
 ∀(whole:Sem Value) (pins:List (Addr×Obj)) (s:Shared) (σ:St) (H:Hp) (Q:Bool->Hp->Prop),Inv X pins σ H s->t σ H Q->wpAny (model X.prog X.w) X.A (isTrue e X.env whole) (TP X pins σ Q) X.xe s
theorem PW.pt{X:Cx}{e:Expr}{t:TT}(h:PW X e t):PT X e t:=h _
def PA(X:Cx)(es:List Expr)(t:TA):Prop :=
 ∀(pos:Pos) (pins:List (Addr×Obj)) (s:Shared) (σ:St) (H:Hp) (Q:List V->Hp->Prop),Inv X pins σ H s->t σ H Q->wpAny (model X.prog X.w) X.A (spliced (backTo pos (starEach es X.env))) (AP X pins σ Q) X.xe s
def PS(X:Cx)(st:Stmt)(t:TS):Prop :=
 ∀(pins:List (Addr×Obj)) (s:Shared) (σ:St) (H:Hp) (D:Ends),Inv X pins σ H s->t D σ H->wpAny (model X.prog X.w) X.A (exec st X.env) (SP X pins D) X.xe s
def PSs(X:Cx)(st:List Stmt)(t:TS):Prop :=
 ∀(pins:List (Addr×Obj)) (s:Shared) (σ:St) (H:Hp) (D:Ends),Inv X pins σ H s->t D σ H->wpAny (model X.prog X.w) X.A (execs st X.env) (SP X pins D) X.xe s
theorem thn{α:Type}{t:Sem α}{Q Q':α->Shared->Prop}{M:Model}{A:Around}{E:Value->Shared->Prop}{s:Shared}(h:wpAny M A t Q E s)(hQ:∀a s,Q a s->Q' a s):wpAny M A t Q' E s:=wpAny_mono h hQ fun _ _ x=>x
end L2
namespace L2
open PySem PySem.Spec PyProof.Rows
section
variable {X:Cx}
def tVar(i:Nat):TE:=fun σ H Q=>∃v,σ[i]?=some (some v)/\Q v H
def tC(v:V):TE:=fun _ H Q=>Q v H
theorem pe_var{i:Nat}{x:Str}{pos:Pos}(hN:X.N[i]?=some x)(hv:Vis X.env.scope x)(hd:(x == ("__debug__":Str))=false:=by decide)(hcd:(x == ("__classdict__":Str))=false:=by decide):PE X (.Name x pos) (tVar i):=by
 intro pins s σ H Q I h
 obtain⟨v,e,h⟩:=h
 obtain⟨m,hn,hl⟩:=I.loc
 obtain⟨u,r,l⟩:=hl i x v hN e hv
 have fin:EP X pins σ Q u s:=⟨v,H,I,r,h⟩
 rcases l with⟨hk,hm⟩|⟨hk,c,hc,hcell⟩
 ·exact wpAny_Name (wpAny_loadName_local I.ok.kind hk hn hm fin) hd
 ·rcases hk with hk|hk
  ·exact wpAny_Name (wpAny_loadName_cell I.ok.kind hk hc hcell fin) hd
  ·exact wpAny_Name (wpAny_loadName_free I.ok.kind hk hc hcell fin hcd) hd
theorem pe_int{i j pos}:PE X (.Constant (.int i) j pos) (tC (.int i)):=fun _ _ _ H _ I h=>wpAny_Constant_int ⟨.int i,H,I.tok _,⟨_,rfl⟩,h⟩
theorem pe_bl{b j pos}:PE X (.Constant (.bool b) j pos) (tC (.bl b)):=fun _ _ _ H _ I h=>Constant_bool ⟨.bl b,H,I,rfl,h⟩
theorem pe_non{j pos}:PE X (.Constant .none j pos) (tC .non):=fun _ _ _ H _ I h=>Constant_none ⟨.non,H,I,rfl,h⟩
theorem pe_str{x j pos}:PE X (.Constant (.str x) j pos) (tC (.str x)):=fun _ _ _ H _ I h=>Calls.Constant_str ⟨.str x,H,I.tok _,⟨_,rfl⟩,h⟩
def Gl(X:Cx)(x:Str):Prop:=X.env.kindOf x=some .globalImplicit
theorem ld_glob{E:Value->Shared->Prop}{pins:List (Addr×Obj)}{s:Shared}{σ:St}{H:Hp}{x:Str}{u:Value}{pos:Pos}{Q:Value->Shared->Prop}(I:Inv X pins σ H s)(hg:Gl X x)(hm:X.mg x=some u)(h:Q u s)
 (hd:(x == ("__debug__":Str))=false:=by decide):wpAny (model X.prog X.w) X.A (eval (.Name x pos) X.env) Q E s :=
 Calls.Name_function_global I.ok.kind hg (Calls.loadGlobal_global (by rw[I.ok.glob];exact I.mod.glob.keeps I.bk) hm h) hd
theorem ld_blt{E:Value->Shared->Prop}{pins:List (Addr×Obj)}{s:Shared}{σ:St}{H:Hp}{x:Str}{u:Value}{pos:Pos}{Q:Value->Shared->Prop}(I:Inv X pins σ H s)(hg:Gl X x)(hm:X.mg x=none)(hv:bootBuiltins x=some u)(h:Q u s)
 (hn:x ≠ "__name__":=by decide) (hd:(x == ("__debug__":Str))=false:=by decide):wpAny (model X.prog X.w) X.A (eval (.Name x pos) X.env) Q E s:=by
 obtain⟨mb,h1,h2⟩:=I.mod.blt
 exact Calls.Name_function_global I.ok.kind hg (Calls.loadGlobal_builtin (by rw[I.ok.glob];exact I.mod.glob.keeps I.bk) hm (by rw[I.ok.blt];exact h1.keeps I.bk) ((h2 x hn).trans hv) h) hd
theorem pe_glob{x:Str}{v:V}{u:Value}{pos:Pos}(hg:Gl X x)(hm:X.mg x=some u)(r:RelV v u)(hd:(x == ("__debug__":Str))=false:=by decide):PE X (.Name x pos) (tC v) :=
 fun _ _ _ H _ I h=>ld_glob I hg hm ⟨v,H,I,r,h⟩ hd
theorem pe_bltn{x:Str}{v:V}{u:Value}{pos:Pos}(hg:Gl X x)(hm:X.mg x=none)(hv:bootBuiltins x=some u)(r:RelV v u)(hn:x ≠ "__name__":=by decide)(hd:(x == ("__debug__":Str))=false:=by decide):PE X (.Name x pos) (tC v) :=
 fun _ _ _ H _ I h=>ld_blt I hg hm hv ⟨v,H,I,r,h⟩ hn hd
variable {a b:Expr} {ta tb:TE} {pos:Pos}
def PC(X:Cx)(op:CmpOp)(a b:Expr)(t:TE):Prop :=
 ∀(pins:List (Addr×Obj)) (s:Shared) (σ:St) (H:Hp) (Q:VK),Inv X pins σ H s->t σ H Q ->
  wpAny (model X.prog X.w) X.A (eval a X.env) (fun v s₁=>wpAny (model X.prog X.w) X.A (eval b X.env) (fun u s₂=>wpAny (model X.prog X.w) X.A (compareOp op v u) (EP X pins σ Q) X.xe s₂) X.xe s₁) X.xe s
theorem nobehind(b:Expr){op:CmpOp}(h:op ≠ .In)(h2:op ≠ .NotIn):behindInMarks op b=false:=by
 have e1:(op == CmpOp.In)=false:=by cases op<;>first|rfl|exact absurd rfl h
 have e2:(op == CmpOp.NotIn)=false:=by cases op<;>first|rfl|exact absurd rfl h2
 cases b<;>simp[behindInMarks,e1,e2]
def tIsN(ta:TE):TE:=fun σ H Q=>ta σ H fun x H1=>Q (.bl (decide (x=.non))) H1
theorem RelV.none_iff{x:V}{v:Value}(r:RelV x v):(v == Value.none)=decide (x=.non):=by
 cases x with
 |non=>cases r;rfl
 |bl _=>cases r;rfl
 |int _=>obtain⟨t,rfl⟩:=r;rfl
 |str _=>obtain⟨t,rfl⟩:=r;rfl
 |byt _=>obtain⟨t,rfl⟩:=r;rfl
 |flt _=>obtain⟨t,rfl⟩:=r;rfl
 |ref _=>cases r;rfl
 |ty _=>cases r;rfl
theorem pc_isN{j pos'}(ha:PE X a ta):PC X .Is a (.Constant .none j pos') (tIsN ta):=by
 intro pins s σ H Q I h
 refine thn (ha pins s σ H _ I h) fun v s1 ⟨x,H1,I1,r1,q1⟩=>?_
 exact Constant_none (is_none_gen ⟨.bl _,H1,I1,by rw[r1.none_iff];rfl,q1⟩)
def tB(t:TE):TT:=fun σ H Q=>t σ H fun x H1=>∃c,x=.bl c/\Q c H1
theorem pt_cmp{op:CmpOp}{t:TE}(h:PC X op a b t)(h1:behindInMarks op b=false:=by first|exact nobehind _ (by decide) (by decide)|rfl):PT X (.Compare a [op] [b] pos) (tB t):=by
 intro pins s σ H Q I hw
 refine wpAny_isTrue_Compare1 (thn (h pins s σ H _ I hw) fun v s1 h1=>thn h1 fun u s2 h2=>thn h2 fun c s3 ⟨x,H1,I1,r1,q1⟩=>?_) h1
 obtain⟨d,rfl,q⟩:=q1
 cases r1
 exact wpAny_truthy_bool ⟨H1,I1,q⟩
theorem pt_val{e:Expr}{t:TE}(h:PE X e t)(he:∀whole,isTrue e X.env whole=(do let v <- whole;standAt e.pos;holding [v] (truthy v)):=by intro _;rfl):PT X e (tB t):=by
 intro pins s σ H Q I hw
 refine isTrue_plain (thn (h pins s σ H _ I hw) fun v s1 ⟨x,H1,I1,r1,q1⟩=>?_) (he _)
 obtain⟨d,rfl,q⟩:=q1
 cases r1
 exact wpAny_truthy_bool ⟨H1,I1,q⟩
variable {tA tB':TT} {rest:List Expr}
def tAnd(t u:TT):TT:=fun σ H Q=>t σ H fun c H1=>if c=true then u σ H1 Q else Q false H1
def tOr(t u:TT):TT:=fun σ H Q=>t σ H fun c H1=>if c=true then Q true H1 else u σ H1 Q
def tNot(t:TT):TT:=fun σ H Q=>t σ H fun c H1=>Q (!c) H1
theorem pw_and1(ha:PT X a tA):PW X (.BoolOp .And [a] pos) tA:=by
 intro wh pins s σ H Q I h
 refine isTrue_and (thn (ha pins s σ H Q I h) fun c s1 e=>?_)
 cases c with
 |true=>exact isTrue_and_nil e
 |false=>exact e
theorem pw_or1(ha:PT X a tA):PW X (.BoolOp .Or [a] pos) tA:=by
 intro wh pins s σ H Q I h
 refine isTrue_or (thn (ha pins s σ H Q I h) fun c s1 e=>?_)
 cases c with
 |false=>exact isTrue_or_nil e
 |true=>exact e
theorem pw_and(ha:PT X a tA)(hb:PW X (.BoolOp .And (b::rest) pos) tB'):PW X (.BoolOp .And (a::b::rest) pos) (tAnd tA tB'):=by
 intro wh pins s σ H Q I h
 refine isTrue_and (thn (ha pins s σ H _ I h) fun c s1 ⟨H1,I1,q1⟩=>?_)
 cases c with
 |true=>exact hb wh pins s1 σ H1 Q I1 q1
 |false=>exact⟨H1,I1,q1⟩
theorem pw_or(ha:PT X a tA)(hb:PW X (.BoolOp .Or (b::rest) pos) tB'):PW X (.BoolOp .Or (a::b::rest) pos) (tOr tA tB'):=by
 intro wh pins s σ H Q I h
 refine isTrue_or (thn (ha pins s σ H _ I h) fun c s1 ⟨H1,I1,q1⟩=>?_)
 cases c with
 |true=>exact⟨H1,I1,q1⟩
 |false=>exact hb wh pins s1 σ H1 Q I1 q1
theorem pt_not(ha:PT X a tA):PT X (.UnaryOp .Not a pos) (tNot tA):=by
 intro pins s σ H Q I h
 exact isTrue_not (ha pins s σ H (fun c H1=>Q (!c) H1) I h)
def tAndV(ta tb:TE):TE:=fun σ H Q=>ta σ H fun x H1=>∃c,x=.bl c/\if c=true then tb σ H1 Q else Q (.bl false) H1
def tOrV(ta tb:TE):TE:=fun σ H Q=>ta σ H fun x H1=>∃c,x=.bl c/\if c=true then Q (.bl true) H1 else tb σ H1 Q
def tNotV(ta:TE):TE:=fun σ H Q=>ta σ H fun x H1=>∃c,x=.bl c/\Q (.bl (!c)) H1
theorem pe_one{op}{t:TE}(h:PE X a t):PE X (.BoolOp op [a] pos) t:=fun pins s σ H Q I hw=>BoolOp_one (h pins s σ H Q I hw)
theorem pe_and(ha:PE X a ta)(hb:PE X (.BoolOp .And (b::rest) pos) tb):PE X (.BoolOp .And (a::b::rest) pos) (tAndV ta tb):=by
 intro pins s σ H Q I h
 refine BoolOp_and (thn (ha pins s σ H _ I h) fun v s1 ⟨x,H1,I1,r1,q1⟩=>?_)
 obtain⟨c,rfl,q1⟩:=q1
 cases r1
 refine wpAny_truthy_bool ?_
 cases c with
 |true=>exact hb pins s1 σ H1 Q I1 q1
 |false=>exact⟨.bl false,H1,I1,rfl,q1⟩
theorem pe_or(ha:PE X a ta)(hb:PE X (.BoolOp .Or (b::rest) pos) tb):PE X (.BoolOp .Or (a::b::rest) pos) (tOrV ta tb):=by
 intro pins s σ H Q I h
 refine BoolOp_or (thn (ha pins s σ H _ I h) fun v s1 ⟨x,H1,I1,r1,q1⟩=>?_)
 obtain⟨c,rfl,q1⟩:=q1
 cases r1
 refine wpAny_truthy_bool ?_
 cases c with
 |false=>exact hb pins s1 σ H1 Q I1 q1
 |true=>exact⟨.bl true,H1,I1,rfl,q1⟩
theorem pe_not(ha:PE X a ta):PE X (.UnaryOp .Not a pos) (tNotV ta):=by
 intro pins s σ H Q I h
 refine UnaryOp_ (thn (ha pins s σ H _ I h) fun v s1 ⟨x,H1,I1,r1,q1⟩=>?_)
 obtain⟨c,rfl,q1⟩:=q1
 cases r1
 exact not_of (wpAny_truthy_bool ⟨.bl (!c),H1,I1,rfl,q1⟩)
def tIf(t:TT)(ta tb:TE):TE:=fun σ H Q=>t σ H fun c H1=>if c=true then ta σ H1 Q else tb σ H1 Q
theorem pe_ifExp{c:Expr}(hc:PT X c tA)(ha:PE X a ta)(hb:PE X b tb):PE X (.IfExp c a b pos) (tIf tA ta tb):=by
 intro pins s σ H Q I h
 refine wpAny_IfExp (thn (hc pins s σ H _ I h) fun d s1 ⟨H1,I1,q1⟩=>?_)
 cases d with
 |true=>exact ha pins s1 σ H1 Q I1 q1
 |false=>exact hb pins s1 σ H1 Q I1 q1
end
end L2
namespace L2
open PySem PySem.Spec PyProof.Rows
def SqL(K:PySem.W.Frag)(H:Hp)(a:Addr)(xs:List V):Prop :=
 Rd H a (.lst xs) \/
  ∃(o:Obj) (its:Array Value) (n:Nat),K.lookup a=some o/\o.cls=.type "list" /\ o.dict=none/\o.data=.seq its n/\its.size<=sizeLine/\Vals xs its.toList
def SqT(K:PySem.W.Frag)(H:Hp)(a:Addr)(xs:List V):Prop :=
 Rd H a (.tup xs) \/
  ∃(o:Obj) (its:Array Value) (n:Nat),K.lookup a=some o/\o.cls=.type "tuple" /\ o.data=.seq its n/\its.size<=sizeLine/\Vals xs its.toList
def absV:Value->Option V
 |.none=>some .non
 |.bool b=>some (.bl b)
 |.int i _=>some (.int i)
 |.str x _=>some (.str x)
 |.bytes b _=>some (.byt b)
 |.float b _=>some (.flt b)
 |.ref a=>some (.ref a)
 |.type n=>some (.ty n)
 |_=>none
theorem RelV.abs{x:V}{u:Value}(r:RelV x u):absV u=some x:=by
 cases x with
 |non=>cases r;rfl
 |bl _=>cases r;rfl
 |int _=>obtain⟨t,rfl⟩:=r;rfl
 |str _=>obtain⟨t,rfl⟩:=r;rfl
 |byt _=>obtain⟨t,rfl⟩:=r;rfl
 |flt _=>obtain⟨t,rfl⟩:=r;rfl
 |ref _=>cases r;rfl
 |ty _=>cases r;rfl
theorem RelV.inj{x y:V}{u:Value}(r:RelV x u)(q:RelV y u):x=y:=Option.some.inj (r.abs.symm.trans q.abs)
theorem Vals.inj:∀ {xs ys:List V} {us:List Value},Vals xs us->Vals ys us->xs=ys
 |_,_,_,.nil,.nil=>rfl
 |_,_,_,.cons r t,.cons r' t'=>by rw[r.inj r',Vals.inj t t']
section
variable {X:Cx} {pins:List (Addr×Obj)} {σ:St} {H:Hp} {s:Shared} {a:Addr} {xs ys:List V}
theorem SqL.of{K:PySem.W.Frag}(h:H a=some (.lst xs)):SqL K H a xs:=.inl (.inl h)
theorem SqT.of{K:PySem.W.Frag}(h:H a=some (.tup xs)):SqT K H a xs:=.inl (.inl h)
theorem Inv.list(I:Inv X pins σ H s)(h:SqL X.K H a xs):∃its:List Value,Vals xs its/\PlainL s.heap a its.toArray/\xs.length<=sizeLine:=by
 rcases h with h|⟨o,its,n,hk,hc,hd,hs,hz,r⟩
 ·obtain⟨z,its,n,r,e⟩:=h.ok I.hok
  exact⟨its,r,⟨_,n,e,rfl,rfl,rfl⟩,z⟩
 ·refine⟨its.toList,r,⟨o,n,I.kIn a o hk,hc,hd,by simpa using hs⟩,?_⟩
  have e:=r.length
  simp only[Array.length_toList]at e
  omega
theorem Inv.tuple(I:Inv X pins σ H s)(h:SqT X.K H a xs):∃its:List Value,Vals xs its/\IsTup s.heap a its.toArray/\xs.length<=sizeLine:=by
 rcases h with h|⟨o,its,n,hk,hc,hs,hz,r⟩
 ·obtain⟨z,its,r,p⟩:=h.ok I.hok
  exact⟨its,r,p,z⟩
 ·refine⟨its.toList,r,⟨o,I.kIn a o hk,hc,n,by simpa using hs⟩,?_⟩
  have e:=r.length
  simp only[Array.length_toList]at e
  omega
theorem Inv.list_inj(I:Inv X pins σ H s)(h:SqL X.K H a xs)(h':SqL X.K H a ys):xs=ys:=by
 obtain⟨its,r,⟨o,n,e,_,_,d⟩,_⟩:=I.list h
 obtain⟨its',r',⟨o',n',e',_,_,d'⟩,_⟩:=I.list h'
 rw[e]at e';cases e'
 rw[d]at d'
 injection d' with d1 _
 have:its=its':=by simpa using congrArg Array.toList d1
 subst this
 exact r.inj r'
theorem Inv.tuple_inj(I:Inv X pins σ H s)(h:SqT X.K H a xs)(h':SqT X.K H a ys):xs=ys:=by
 obtain⟨its,r,⟨o,e,_,n,d⟩,_⟩:=I.tuple h
 obtain⟨its',r',⟨o',e',_,n',d'⟩,_⟩:=I.tuple h'
 rw[e]at e';cases e'
 rw[d]at d'
 injection d' with d1 _
 have:its=its':=by simpa using congrArg Array.toList d1
 subst this
 exact r.inj r'
end
abbrev Cx.wish(X:Cx)(E:Value->Shared->Prop):Cx:={ X with xe:=E }
abbrev Cx.nox(X:Cx):Cx:=X.wish fun _ _=>False
theorem Cx.Ok.wish{X:Cx}(ok:X.Ok)(E:Value->Shared->Prop):(X.wish E).Ok :=
 ⟨ok.mod,ok.kind,ok.glob,ok.blt,ok.above,ok.inj,ok.has,ok.cab,ok.hd,ok.frames,ok.stk,ok.exf,ok.bs,ok.bsz,ok.noex,ok.exfs,ok.funs,ok.frf⟩
theorem Cx.Ok.unwish{X:Cx}{E:Value->Shared->Prop}(ok:(X.wish E).Ok):X.Ok :=
 ⟨ok.mod,ok.kind,ok.glob,ok.blt,ok.above,ok.inj,ok.has,ok.cab,ok.hd,ok.frames,ok.stk,ok.exf,ok.bs,ok.bsz,ok.noex,ok.exfs,ok.funs,ok.frf⟩
section
variable {X:Cx} {pins:List (Addr×Obj)} {σ:St} {H:Hp} {s:Shared} {E:Value->Shared->Prop}
theorem Inv.wish(I:Inv X pins σ H s)(E:Value->Shared->Prop):Inv (X.wish E) pins σ H s:=⟨I.ok.wish E,I.os,I.bare,I.base,I.loc,I.cell,I.free,I.freeC,I.pin,I.hok,I.len⟩
theorem Inv.unwish(I:Inv (X.wish E) pins σ H s):Inv X pins σ H s:=⟨I.ok.unwish,I.os,I.bare,I.base,I.loc,I.cell,I.free,I.freeC,I.pin,I.hok,I.len⟩
theorem SP.unwish{D:Ends}{f:Flow}{s':Shared}(h:SP (X.wish E) pins D f s'):SP X pins D f s':=by
 cases f with
 |next=>obtain⟨σ',H',I,q⟩:=h;exact⟨σ',H',I.unwish,q⟩
 |brk=>obtain⟨σ',H',I,q⟩:=h;exact⟨σ',H',I.unwish,q⟩
 |cont=>obtain⟨σ',H',I,q⟩:=h;exact⟨σ',H',I.unwish,q⟩
 |ret u=>obtain⟨v,σ',H',I,r,q⟩:=h;exact⟨v,σ',H',I.unwish,r,q⟩
theorem PT.nox{e:Expr}{t:TT}(h:PT X.nox e t):PT X e t:=fun pins s σ H Q I hw =>
 wpAny_mono (h pins s σ H Q (I.wish _) hw) (fun _ _ ⟨H',I',q⟩=>⟨H',I'.unwish,q⟩) fun _ _ z=>False.elim z
theorem PSs.nox{st:List Stmt}{t:TS}(h:PSs X.nox st t):PSs X st t:=fun pins s σ H D I hw =>
 wpAny_mono (h pins s σ H D (I.wish _) hw) (fun _ _ q=>q.unwish) fun _ _ z=>False.elim z
end
section
variable {X:Cx} {st:Stmt} {rest:List Stmt} {t u:TS} {e:Expr} {te:TE} {pos:Pos}
def tNext:TS:=fun D σ H=>D.nx σ H
def tSeq(t u:TS):TS:=fun D σ H=>t { D with nx:=u D } σ H
theorem pss_nil:PSs X [] tNext:=fun _ _ σ H _ I h=>wpAny_execs_nil ⟨σ,H,I,h⟩
theorem pss_cons(h1:PS X st t)(h2:PSs X rest u):PSs X (st::rest) (tSeq t u):=by
 intro pins s σ H D I h
 refine wpAny_execs_cons (thn (h1 pins s σ H { D with nx:=u D } I h) fun f s1 q=>?_)
 cases f with
 |next =>
  obtain⟨σ',H',I',q⟩:=q
  exact h2 pins s1 σ' H' D I' q
 |ret v=>exact q
 |brk=>exact q
 |cont=>exact q
def tBreak:TS:=fun D σ H=>D.bk σ H
def tCont:TS:=fun D σ H=>D.ct σ H
theorem ps_break:PS X (.Break pos) tBreak:=fun _ _ σ H _ I h=>wpAny_Break ⟨σ,H,I,h⟩
theorem ps_continue:PS X (.Continue pos) tCont:=fun _ _ σ H _ I h=>wpAny_Continue ⟨σ,H,I,h⟩
theorem Inv.quiet{pins:List (Addr×Obj)}{σ:St}{H:Hp}{s:Shared}(I:Inv X pins σ H s):interactive X.env=false:=by simp[interactive,I.ok.kind]
def tDrop(te:TE):TS:=fun D σ H=>te σ H fun _ H1=>D.nx σ H1
theorem ps_expr(he:PE X e te)(hs:swapsWith e none pos.line X.env=pure false:=by rfl):PS X (.Expr e pos) (tDrop te):=by
 intro pins s σ H D I h
 exact wpAny_Expr_any (thn (he pins s σ H _ I h) fun v s1 ⟨x,H1,I1,r1,q1⟩=>⟨σ,H1,I1,q1⟩) I.quiet hs
def tRet(te:TE):TS:=fun D σ H=>te σ H D.rt
theorem ps_ret(he:PE X e te):PS X (.Return (some e) pos) (tRet te):=by
 intro pins s σ H D I h
 exact wpAny_Return_some (thn (he pins s σ H _ I h) fun v s1 ⟨x,H1,I1,r1,q1⟩=>⟨x,σ,H1,I1,r1,q1⟩)
def tIfS(c:TT)(t u:TS):TS:=fun D σ H=>c σ H fun b H1=>if b=true then t D σ H1 else u D σ H1
theorem ps_if{c:Expr}{a b:List Stmt}{tc:TT}(hc:PT X c tc)(ha:PSs X a t)(hb:PSs X b u):PS X (.If c a b pos) (tIfS tc t u):=by
 intro pins s σ H D I h
 refine wpAny_If (thn (hc pins s σ H _ I h) fun d s1 ⟨H1,I1,q1⟩=>?_)
 cases d with
 |true=>exact ha pins s1 σ H1 D I1 q1
 |false=>exact hb pins s1 σ H1 D I1 q1
def tNever:TS:=fun _ _ _=>False
theorem ps_never:PS X st tNever:=fun _ _ _ _ _ _ h=>h.elim
end
abbrev TG:=V->St->Hp->(St->Hp->Prop)->Prop
def PG(X:Cx)(target:Expr)(t:TG):Prop :=
 ∀(pins:List (Addr×Obj)) (s:Shared) (σ:St) (H:Hp) (v:V) (u:Value) (Q:St->Hp->Prop),Inv X pins σ H s->RelV v u->t v σ H Q ->
  wpAny (model X.prog X.w) X.A (assign target X.env u) (fun _ s'=>∃σ' H',Inv X pins σ' H' s'/\Q σ' H') X.xe s
section
variable {X:Cx} {pos:Pos}
def gName(i:Nat):TG:=fun v σ H Q=>Q (σ.set i (some v)) H
theorem pg_name{i:Nat}{x:Str}(hN:X.N.Nodup)(hi:X.N[i]?=some x)(hx:Loc X.env.scope x)(hf:X.fn x=true\/X.env.scope.names.lookup x=some .local:=by first|exact .inl rfl|exact .inr rfl|assumption):PG X (.Name x pos) (gName i):=by
 intro pins s σ H v u Q I r h
 exact wpAny_assign_Name (store_ok I hN hi hx r (fun s' I'=>⟨_,H,I',h⟩) hf)
def tAsg(te:TE)(g:TG):TS:=fun D σ H=>te σ H fun x H1=>g x σ H1 D.nx
theorem ps_set{i:Nat}{x:Str}{e:Expr}{te:TE}{pos':Pos}(hN:X.N.Nodup)(hi:X.N[i]?=some x)(hx:Loc X.env.scope x)(he:PE X e te)(hs:swapsWith e (some (.Name x pos')) pos.line X.env=pure false:=by rfl)(hf:X.fn x=true\/X.env.scope.names.lookup x=some .local:=by first|exact .inl rfl|exact .inr rfl|assumption) :
 PS X (.Assign [.Name x pos'] e pos) (tAsg te (gName i)):=by
 intro pins s σ H D I h
 refine wpAny_Assign_Name (thn (he pins s σ H _ I h) fun v s1 ⟨y,H1,I1,r1,q1⟩=>?_) hs
 exact store_ok I1 hN hi hx r1 (fun s2 I2=>⟨_,H1,I2,q1⟩) hf
end
section
variable {X:Cx} {pos:Pos}
def tWhile(c:TT)(tb:TS):TS:=fun D σ H=>∃W:Nat->St->Hp->Prop,(∃m,W m σ H)/\∀m σ H,W m σ H ->
 c σ H fun b H1=>if b=true then ∃N:St->Hp->Prop,(∀σ' H',N σ' H'->∃m',m'<m/\W m' σ' H')/\tb { D with nx:=N,ct:=N,bk:=D.nx } σ H1 else D.nx σ H1
theorem ps_while{c:Expr}{body:List Stmt}{tc:TT}{tb:TS}(hp:PassesOwn (model X.prog X.w) X.A X.env X.xe)(hc:PT X c tc)(hb:PSs X body tb):PS X (.While c body [] pos) (tWhile tc tb):=by
 intro pins s σ H D I h
 obtain⟨W,⟨m0,w0⟩,turn⟩:=h
 refine wpAny_While (codeAny_whileLoop (fun n s'=>∃σ' H',Inv X pins σ' H' s'/\W n σ' H') ?_ m0 ⟨σ,H,I,w0⟩)
 rintro n s1 ⟨σ1,H1,I1,w1⟩
 refine wpAny_passesOwn hp (thn (hc pins s1 σ1 H1 _ I1 (turn n σ1 H1 w1)) fun b s2 ⟨H2,I2,q2⟩=>?_)
 cases b with
 |true =>
  obtain⟨N,hN,q2⟩:=q2
  rw[if_pos rfl]
  refine wpAny_passesOwn hp (thn (hb pins s2 σ1 H2 _ I2 q2) fun f s3 q3=>?_)
  cases f with
  |next =>
   obtain⟨σ3,H3,I3,n3⟩:=q3
   obtain⟨m',hm,w3⟩:=hN σ3 H3 n3
   exact⟨m',hm,σ3,H3,I3,w3⟩
  |cont =>
   obtain⟨σ3,H3,I3,n3⟩:=q3
   obtain⟨m',hm,w3⟩:=hN σ3 H3 n3
   exact⟨m',hm,σ3,H3,I3,w3⟩
  |brk=>exact q3
  |ret v=>exact q3
 |false =>
  rw[if_neg Bool.false_ne_true]
  exact wpAny_execs_nil ⟨σ1,H2,I2,q2⟩
end
structure It where
 go:Nat->Hp->Prop
 yld:Nat->Hp->V->Hp->Prop
 stop:Nat->Hp->Prop
def FpOk(X:Cx)(pins:List (Addr×Obj))(H:Hp)(b:Addr):Prop :=
 H b=none/\b≠X.env.locals/\b ∉ X.fs/\(b∈X.ex\/X.s₀.heap.objs.size<=b)/\(∀x c,X.env.cells.lookup x=some c->c≠b)/\∀p∈X.pn++pins,p.1≠b
theorem Inv.fpOk{X:Cx}{pins:List (Addr×Obj)}{σ:St}{H H':Hp}{s:Shared}{b:Addr}(I:Inv X pins σ H s)(hb:s.heap.objs.size<=b)(hn:H' b=none):FpOk X pins H' b:=by
 refine⟨hn,Nat.ne_of_gt (Nat.lt_of_lt_of_le I.lt hb),I.nofs hb,.inr (Nat.le_trans I.sz hb),fun x c e z=>?_,fun p hp z=>?_⟩
 ·obtain⟨v,q⟩:=I.cell x c e
  exact absurd (Nat.lt_of_lt_of_le q.lt (by rw[z];exact hb)) (Nat.lt_irrefl _)
 ·exact absurd (Nat.lt_of_lt_of_le (Heap.lt_size (I.pin p hp).1) (by rw[z];exact hb)) (Nat.lt_irrefl _)
structure Turn (P:Program) (w:World) (K:PySem.W.Frag) (tg:Expr) (J:It) (fp:List Addr) (it:Addr) (tn:Nat->Heap->Prop):Prop where
 mem:it∈fp
 obj:∀i h,tn i h->∀b∈fp,∃o,h.get? b=some o/\∀v,o.data ≠ .cell v
 keep:∀i h h',tn i h->(∀b∈fp,∀o,h.get? b=some o->h'.get? b=some o)->tn i h'
 item:∀(X:Cx),X.prog=P->X.w=w->X.K=K->X.calm=true->∀(i:Nat) (pins:List (Addr×Obj)) (s:Shared) (σ:St) (H:Hp) (E:Value->Shared->Prop),Inv X pins σ H s->(∀b∈fp,FpOk X pins H b)->tn i s.heap->J.go i H ->
  wpAny (model P w) X.A (pyNext (.ref it)) (fun r s1=>∃u,r=some u /\
   wpAny (model P w) X.A (letOwnedTupleGo tg (.ref it) u) (fun _ s2=>∃x H',Inv X pins σ H' s2/\RelV x u/\J.yld i H x H'/\tn (i+1) s2.heap/\∀b∈fp,H' b=none) E s1) E s
 done:∀(X:Cx),X.prog=P->X.w=w->X.K=K->X.calm=true->∀(i:Nat) (pins:List (Addr×Obj)) (s:Shared) (σ:St) (H:Hp) (E:Value->Shared->Prop),Inv X pins σ H s->(∀b∈fp,FpOk X pins H b)->tn i s.heap->J.stop i H ->
  wpAny (model P w) X.A (pyNext (.ref it)) (fun r s1=>r=none/\Inv X pins σ H s1) E s
 self:∀(A:Around) (i:Nat) (s:Shared) (Q:Value->Shared->Prop) (E:Value->Shared->Prop),tn i s.heap->Q (.ref it) s->wpAny (model P w) A (pyIter (.ref it)) Q E s
abbrev TI:=St->Hp->(It->Hp->Prop)->Prop
def PIE(X:Cx)(pins:List (Addr×Obj))(σ:St)(tg:Expr)(R:It->Hp->Prop)(itv:Value)(s2:Shared):Prop :=
 ∃(it:Addr) (fp:List Addr) (tn:Nat->Heap->Prop) (J:It) (H':Hp),itv=.ref it/\Inv X pins σ H' s2/\Turn X.prog X.w X.K tg J fp it tn/\tn 0 s2.heap/\(∀b∈fp,FpOk X pins H' b)/\R J H'
def PI(X:Cx)(tg iter:Expr)(wi:TI):Prop :=
 ∀(pins:List (Addr×Obj)) (s:Shared) (σ:St) (H:Hp) (R:It->Hp->Prop),Inv X pins σ H s->wi σ H R ->
  wpAny (model X.prog X.w) X.A (eval iter X.env) (fun v s1=>wpAny (model X.prog X.w) X.A (pyIter v) (PIE X pins σ tg R) X.xe s1) X.xe s
theorem go_of{M:Model}{A:Around}{E:Value->Shared->Prop}{s:Shared}{tg:Expr}{it:Addr}{u:Value}{o:Obj}{n:String}{vs:Array Value}{Q:Unit->Shared->Prop}(ho:s.heap.get? it=some o)(hc:o.cls=.type n)(hd:o.data=.fields vs)
 (hn:["enumerate","zip","dict_itemiterator","dict_reverseitemiterator","odict_iterator","itertools.zip_longest","itertools.pairwise"].contains n=false) (hQ:Q () s):wpAny M A (letOwnedTupleGo tg (.ref it) u) Q E s:=by
 unfold letOwnedTupleGo
 cases tg<;>first
  |exact wpAny_pure hQ
  |(cases u<;>first
   |exact wpAny_pure hQ
   |(refine wpAny_bind (wpAny_load ho ?_)
     rw[hc,hd]
     show wpAny M A (if (["enumerate","zip","dict_itemiterator","dict_reverseitemiterator","odict_iterator","itertools.zip_longest","itertools.pairwise"].contains n&&vs[0]? == some (rawInt _))=true then _ else _) Q E s
     rw[if_neg (by intro h;rw[hn,Bool.false_and]at h;cases h)]
     exact wpAny_pure hQ))
def Itl(K:PySem.W.Frag)(a:Addr):It :=
 ⟨fun i H=>∃xs x,SqL K H a xs/\xs[i]?=some x,fun i H x H'=>H'=H/\∀xs,SqL K H a xs->xs[i]?=some x,fun i H=>∃xs,SqL K H a xs/\xs.length<=i⟩
def Itt(K:PySem.W.Frag)(a:Addr):It :=
 ⟨fun i H=>∃xs x,SqT K H a xs/\xs[i]?=some x,fun i H x H'=>H'=H/\∀xs,SqT K H a xs->xs[i]?=some x,fun i H=>∃xs,SqT K H a xs/\xs.length<=i⟩
theorem turn_list{P:Program}{w:World}{K:PySem.W.Frag}{tg:Expr}(a it:Addr):Turn P w K tg (Itl K a) [it] it (fun i h=>h.IsListIter it a i) where
 mem:=by simp
 obj:=fun i h st b hb=>by
  have e:b=it:=by simpa using hb
  subst e
  obtain⟨o,e,c,d⟩:=st
  exact⟨o,e,fun v z=>by rw[d]at z;cases z⟩
 keep:=fun i h h' st k=>st.at fun o e=>k it (by simp) o e
 item:=by
  intro X hP hw hK hc i pins s σ H E I hf st hg
  subst hP hw hK
  obtain⟨xs,x,hq,hx⟩:=hg
  obtain⟨its,rv,p,hz⟩:=I.list hq
  obtain⟨u,hu,ru⟩:=rv.get hx
  obtain⟨f0,f1,f2,f3,f4,f5⟩:=hf it (by simp)
  refine wpAny_pyNext_list_item st p.isList (x:=u) (by simpa using hu) fun h' st' sb=>?_
  have I1:Inv X pins σ H { s with heap:=h' }:=I.turned (t':=s.toks) (fun b o hb e=>(sb.2 b hb).trans e) f0 f1 f3 f4 f5
  obtain⟨o,e,c,d⟩:=id st'
  exact⟨u,rfl,go_of (s:={ s with heap:=h' }) e c d (by decide) ⟨x,H,I1,ru,⟨rfl,fun ys hy=>by rw[I.list_inj hy hq];exact hx⟩,st',fun b hb=>(hf b hb).1⟩⟩
 done:=by
  intro X hP hw hK hc i pins s σ H E I hf st hg
  subst hP hw hK
  obtain⟨xs,hq,hx⟩:=hg
  obtain⟨its,rv,p,hz⟩:=I.list hq
  obtain⟨f0,f1,f2,f3,f4,f5⟩:=hf it (by simp)
  have hl:=rv.length
  exact wpAny_pyNext_list_end (I.ok.hd hc) st p.isList (by simp;omega) fun h' eb=>⟨rfl,I.turned (t':=s.toks) (fun b o hb e=>eb b o hb e) f0 f1 f3 f4 f5⟩
 self:=fun _ _ _ _ _ st h=>wpAny_pyIter_listiter st h
theorem turn_tuple{P:Program}{w:World}{K:PySem.W.Frag}{tg:Expr}(a it:Addr):Turn P w K tg (Itt K a) [it] it (fun i h=>h.IsTupleIter it a i) where
 mem:=by simp
 obj:=fun i h st b hb=>by
  have e:b=it:=by simpa using hb
  subst e
  obtain⟨o,e,c,d⟩:=st
  exact⟨o,e,fun v z=>by rw[d]at z;cases z⟩
 keep:=fun i h h' st k=>st.at fun o e=>k it (by simp) o e
 item:=by
  intro X hP hw hK hc i pins s σ H E I hf st hg
  subst hP hw hK
  obtain⟨xs,x,hq,hx⟩:=hg
  obtain⟨its,rv,p,hz⟩:=I.tuple hq
  obtain⟨u,hu,ru⟩:=rv.get hx
  obtain⟨f0,f1,f2,f3,f4,f5⟩:=hf it (by simp)
  refine wpAny_pyNext_tuple_item st (show s.heap.IsTuple a its.toArray from p) (x:=u) (by simpa using hu) fun h' st' sb=>?_
  have I1:Inv X pins σ H { s with heap:=h' }:=I.turned (t':=s.toks) (fun b o hb e=>(sb.2 b hb).trans e) f0 f1 f3 f4 f5
  obtain⟨o,e,c,d⟩:=id st'
  exact⟨u,rfl,go_of (s:={ s with heap:=h' }) e c d (by decide) ⟨x,H,I1,ru,⟨rfl,fun ys hy=>by rw[I.tuple_inj hy hq];exact hx⟩,st',fun b hb=>(hf b hb).1⟩⟩
 done:=by
  intro X hP hw hK hc i pins s σ H E I hf st hg
  subst hP hw hK
  obtain⟨xs,hq,hx⟩:=hg
  obtain⟨its,rv,p,hz⟩:=I.tuple hq
  obtain⟨f0,f1,f2,f3,f4,f5⟩:=hf it (by simp)
  have hl:=rv.length
  exact wpAny_pyNext_tuple_end (I.ok.hd hc) st (show s.heap.IsTuple a its.toArray from p) (by simp;omega) fun h' eb=>⟨rfl,I.turned (t':=s.toks) (fun b o hb e=>eb b o hb e) f0 f1 f3 f4 f5⟩
 self:=fun _ _ _ _ _ st h=>wpAny_pyIter_tupleiter st h
end L2
namespace L2
open PySem PySem.Spec PyProof.Rows
section
variable {X:Cx} {tg:Expr}
def iList(K:PySem.W.Frag)(tl:TE):TI:=fun σ H R=>tl σ H fun x H1=>∃a,x=.ref a/\(∃xs,SqL K H1 a xs)/\R (Itl K a) H1
theorem pi_list{l:Expr}{tl:TE}(hl:PE X l tl):PI X tg l (iList X.K tl):=by
 intro pins s σ H R I h
 refine thn (hl pins s σ H _ I h) fun v s1 ⟨x,H1,I1,r1,q1⟩=>?_
 obtain⟨a,e,⟨xs,hq⟩,q⟩:=q1
 subst e
 cases r1
 obtain⟨its,rv,p,hz⟩:=I1.list hq
 refine wpAny_pyIter_list p.isList ?_
 refine⟨s1.heap.objs.size,[s1.heap.objs.size],_,_,H1,rfl,I1.kept (t':=s1.toks) fun b o e=>Heap.get?_push_of_some _ e,turn_list a _,⟨_,Heap.get?_push_size _ rfl,rfl,rfl⟩,fun b hb=>?_,q⟩
 have e:b=s1.heap.objs.size:=by simpa using hb
 subst e
 exact I1.fpOk (Nat.le_refl _) (I1.hok.fresh (Nat.le_refl _))
def tFor(wi:TI)(g:TG)(tb:TS):TS:=fun D σ H=>wi σ H fun J H1=>∃W:Nat->Nat->St->Hp->Prop,(∃m,W 0 m σ H1)/\∀i m σ H,W i m σ H ->
 (J.stop i H/\D.nx σ H)\/(J.go i H/\∃N:St->Hp->Prop,(∀σ' H',N σ' H'->∃m',m'<m/\W (i+1) m' σ' H')/\∀x H',J.yld i H x H'->g x σ H' fun σ2 H2=>tb { D with nx:=N,ct:=N,bk:=D.nx } σ2 H2)
def pinsAt(fp:List Addr)(h:Heap):List (Addr×Obj):=fp.filterMap fun b=>(h.get? b).map fun o=>(b,o)
theorem mem_pinsAt{fp:List Addr}{h:Heap}{b:Addr}{o:Obj}(hb:b∈fp)(e:h.get? b=some o):(b,o)∈pinsAt fp h:=List.mem_filterMap.mpr ⟨b,hb,by rw[e];rfl⟩
theorem of_pinsAt{fp:List Addr}{h:Heap}{p:Addr×Obj}(hp:p∈pinsAt fp h):p.1∈fp/\h.get? p.1=some p.2:=by
 obtain⟨b,hb,e⟩:=List.mem_filterMap.mp hp
 cases q:h.get? b with
 |none=>rw[q]at e;cases e
 |some o =>
  rw[q]at e
  have e':(b,o)=p:=Option.some.inj e
  subst e'
  exact⟨hb,q⟩
theorem Inv.pinned{pins:List (Addr×Obj)}{σ:St}{H:Hp}{s:Shared}{fp:List Addr}(I:Inv X pins σ H s)(hf:∀b∈fp,FpOk X pins H b)(ho:∀b∈fp,∃o,s.heap.get? b=some o/\∀v,o.data ≠ .cell v):Inv X (pins++pinsAt fp s.heap) σ H s :=
 I.pins_of fun p hp=>(List.mem_append.mp hp).elim (fun z=>I.pin p (List.mem_append_right _ z)) fun z=>by
  obtain⟨hb,e⟩:=of_pinsAt z
  obtain⟨f0,f1,f2,_⟩:=hf p.1 hb
  obtain⟨o,e',d⟩:=ho p.1 hb
  rw[e]at e';cases e'
  exact⟨e,f0,f1,f2,d⟩
theorem Inv.unpinned{pins pl:List (Addr×Obj)}{σ:St}{H:Hp}{s:Shared}(I:Inv X (pins++pl) σ H s):Inv X pins σ H s:=I.pins_of fun p hp=>I.pin p (List.mem_append_right _ (List.mem_append_left _ hp))
theorem ps_for{iter:Expr}{body:List Stmt}{wi:TI}{g:TG}{tb:TS}{pos:Pos}(hp:PassesOwn (model X.prog X.w) X.A X.env X.xe)(hc:X.calm=true)(hi:PI X tg iter wi)(hg:PG X tg g)(hb:PSs X body tb)
 (hs:∀x,foldedSetIterable iter X.env x=pure x:=by intro _;rfl):PS X (.For tg iter body [] pos) (tFor wi g tb):=by
 intro pins s σ H D I h
 refine wpAny_For (thn (hi pins s σ H _ I h) fun v s1 h1=>thn h1 fun itv s2 h2=>?_) hs
 obtain⟨it,fp,tn,J,H2,e,I2,T,st2,f2,W,⟨m0,w0⟩,turn⟩:=h2
 subst e
 have stat:∀ {H':Hp},(∀b∈fp,H' b=none)->∀b∈fp,FpOk X pins H' b:=fun hn b hb=>⟨hn b hb,(f2 b hb).2⟩
 refine codeAny_forLoop_any (fun n s'=>∃i σ' H',Inv X pins σ' H' s'/\tn i s'.heap/\(∀b∈fp,H' b=none)/\W i n σ' H') ?_ m0 ⟨0,σ,H2,I2,st2,fun b hb=>(f2 b hb).1,w0⟩
 rintro n s3 ⟨i,σ3,H3,I3,st3,fr3,w3⟩
 rcases turn i n σ3 H3 w3 with⟨stop,qn⟩|⟨go,N,hN,step⟩
 ·refine wpAny_passesOwn hp (thn (T.done X rfl rfl rfl hc i pins s3 σ3 H3 X.xe I3 (stat fr3) st3 stop) fun r s4 ⟨hr,I4⟩=>?_)
  subst hr
  exact wpAny_execs_nil ⟨σ3,H3,I4,qn⟩
 ·refine wpAny_passesOwn hp (thn (T.item X rfl rfl rfl hc i pins s3 σ3 H3 X.xe I3 (stat fr3) st3 go) fun r s4 ⟨u,hr,h4⟩=>?_)
  subst hr
  refine wpAny_passesOwn hp (thn h4 fun _ s5 ⟨x,H5,I5,r5,y5,st5,fr5⟩=>?_)
  have I5':=I5.pinned (stat fr5) (T.obj _ _ st5)
  refine wpAny_passesOwn hp (thn (hg _ s5 σ3 H5 x u _ I5' r5 (step x H5 y5)) fun _ s6 ⟨σ6,H6,I6,q6⟩=>?_)
  refine wpAny_passesOwn hp (thn (hb _ s6 σ6 H6 _ I6 q6) fun f s7 q7=>?_)
  have again:∀ {σ7:St} {H7:Hp},Inv X (pins++pinsAt fp s5.heap) σ7 H7 s7->N σ7 H7->∃m,m<n/\∃i σ' H',Inv X pins σ' H' s7/\tn i s7.heap/\(∀b∈fp,H' b=none)/\W i m σ' H':=fun {σ7 H7} I7 n7=>by
   obtain⟨m',hm,w7⟩:=hN σ7 H7 n7
   refine⟨m',hm,i+1,σ7,H7,I7.unpinned,T.keep _ _ _ st5 fun b hb o e=>(I7.pin (b,o) (List.mem_append_right _ (List.mem_append_right _ (mem_pinsAt hb e)))).1,fun b hb=>?_,w7⟩
   obtain⟨o,e,d⟩:=T.obj _ _ st5 b hb
   exact(I7.pin (b,o) (List.mem_append_right _ (List.mem_append_right _ (mem_pinsAt hb e)))).2.1
  cases f with
  |next=>obtain⟨σ7,H7,I7,n7⟩:=q7;exact again I7 n7
  |cont=>obtain⟨σ7,H7,I7,n7⟩:=q7;exact again I7 n7
  |brk=>obtain⟨σ7,H7,I7,q7⟩:=q7;exact⟨σ7,H7,I7.unpinned,q7⟩
  |ret v=>obtain⟨x7,σ7,H7,I7,r7,q7⟩:=q7;exact⟨x7,σ7,H7,I7.unpinned,r7,q7⟩
end
end L2
namespace L2
open PySem PySem.Spec PyProof.Rows
abbrev R2:=V->V->Hp->VK->Prop
def OpR(X:Cx)(f:Value->Value->Sem Value)(r:R2):Prop :=
 ∀(pins:List (Addr×Obj)) (s:Shared) (σ:St) (H:Hp) (x y:V) (v u:Value) (Q:VK),Inv X pins σ H s->RelV x v->RelV y u->r x y H Q ->
  wpAny (model X.prog X.w) X.A (f v u) (EP X pins σ Q) X.xe s
def UnR(X:Cx)(f:Value->Sem Value)(r:V->Hp->VK->Prop):Prop :=
 ∀(pins:List (Addr×Obj)) (s:Shared) (σ:St) (H:Hp) (x:V) (v:Value) (Q:VK),Inv X pins σ H s->RelV x v->r x H Q ->
  wpAny (model X.prog X.w) X.A (f v) (EP X pins σ Q) X.xe s
def CallR(X:Cx)(f:Value)(r:List V->Hp->VK->Prop):Prop :=
 ∀(pins:List (Addr×Obj)) (s:Shared) (σ:St) (H:Hp) (xs:List V) (us:List Value) (Q:VK),Inv X pins σ H s->Vals xs us->r xs H Q ->
  wpAny (model X.prog X.w) X.A (call f us) (EP X pins σ Q) X.xe s
def tOp(r:R2)(ta tb:TE):TE:=fun σ H Q=>ta σ H fun x H1=>tb σ H1 fun y H2=>r x y H2 Q
def tUn(r:V->Hp->VK->Prop)(ta:TE):TE:=fun σ H Q=>ta σ H fun x H1=>r x H1 Q
def rI(C:Int->Int->Prop)(g:Int->Int->V):R2:=fun x y H Q=>∃i j,x=.int i/\y=.int j/\C i j/\Q (g i j) H
def rI0(g:Int->Int->V):R2:=fun x y H Q=>∃i j,x=.int i/\y=.int j/\Q (g i j) H
def rU(g:Int->V):V->Hp->VK->Prop:=fun x H Q=>∃i,x=.int i/\Q (g i) H
section
variable {X:Cx} {a b c:Expr} {ta tb tc:TE} {pos:Pos}
theorem binT(ha:PE X a ta)(hb:PE X b tb){pins:List (Addr×Obj)}{s:Shared}{σ:St}{H:Hp}{R:V->V->Hp->Prop}(I:Inv X pins σ H s)
 (h:ta σ H fun x H1=>tb σ H1 fun y H2=>R x y H2) {Q:Value->Shared->Prop} {f:Value->Value->Sem Value}
 (hf:∀v u s2 x y H2,Inv X pins σ H2 s2->RelV x v->RelV y u->R x y H2->wpAny (model X.prog X.w) X.A (f v u) Q X.xe s2) :
 wpAny (model X.prog X.w) X.A (eval a X.env) (fun v s₁=>wpAny (model X.prog X.w) X.A (eval b X.env) (fun u s₂=>wpAny (model X.prog X.w) X.A (f v u) Q X.xe s₂) X.xe s₁) X.xe s:=by
 refine thn (ha pins s σ H _ I h) fun v s1 ⟨x,H1,I1,r1,q1⟩=>?_
 refine thn (hb pins s1 σ H1 _ I1 q1) fun u s2 ⟨y,H2,I2,r2,q2⟩=>?_
 exact hf v u s2 x y H2 I2 r1 r2 q2
theorem pe_op{op:Operator}{r:R2}(ho:OpR X (binaryOp op) r)(ha:PE X a ta)(hb:PE X b tb):PE X (.BinOp a op b pos) (tOp r ta tb):=by
 intro pins s σ H Q I h
 exact wpAny_BinOp (binT ha hb I h fun v u s2 x y H2 I2 rx ry q=>ho pins s2 σ H2 x y v u Q I2 rx ry q)
theorem pe_un{op:UnaryOp}{r:V->Hp->VK->Prop}(ho:UnR X (unaryOp op) r)(ha:PE X a ta):PE X (.UnaryOp op a pos) (tUn r ta):=by
 intro pins s σ H Q I h
 exact UnaryOp_ (thn (ha pins s σ H _ I h) fun v s1 ⟨x,H1,I1,r1,q1⟩=>ho pins s1 σ H1 x v Q I1 r1 q1)
theorem opI{f:Value->Value->Sem Value}{C:Int->Int->Prop}{g:Int->Int->Int}
 (rule:∀(i j:Int) (t u:Tok) (s:Shared) (Q:Value->Shared->Prop) (E:Value->Shared->Prop),C i j->Q (.int (g i j) s.toks) { s with toks:=s.toks+1 }->wpAny (model X.prog X.w) X.A (f (.int i t) (.int j u)) Q E s) :
 OpR X f (rI C fun i j=>.int (g i j)):=by
 intro pins s σ H x y v u Q I rx ry h
 obtain⟨i,j,rfl,rfl,hc,q⟩:=h
 obtain⟨t,rfl⟩:=rx
 obtain⟨t',rfl⟩:=ry
 exact rule i j t t' s _ _ hc ⟨.int (g i j),H,I.tok _,⟨_,rfl⟩,q⟩
theorem opI0{f:Value->Value->Sem Value}{g:Int->Int->Int}
 (rule:∀(i j:Int) (t u:Tok) (s:Shared) (Q:Value->Shared->Prop) (E:Value->Shared->Prop),Q (.int (g i j) s.toks) { s with toks:=s.toks+1 }->wpAny (model X.prog X.w) X.A (f (.int i t) (.int j u)) Q E s) :
 OpR X f (rI0 fun i j=>.int (g i j)):=by
 intro pins s σ H x y v u Q I rx ry h
 obtain⟨i,j,rfl,rfl,q⟩:=h
 obtain⟨t,rfl⟩:=rx
 obtain⟨t',rfl⟩:=ry
 exact rule i j t t' s _ _ ⟨.int (g i j),H,I.tok _,⟨_,rfl⟩,q⟩
theorem opB0{f:Value->Value->Sem Value}{g:Int->Int->Bool}
 (rule:∀(i j:Int) (t u:Tok) (s:Shared) (Q:Value->Shared->Prop) (E:Value->Shared->Prop),Q (.bool (g i j)) s->wpAny (model X.prog X.w) X.A (f (.int i t) (.int j u)) Q E s) :
 OpR X f (rI0 fun i j=>.bl (g i j)):=by
 intro pins s σ H x y v u Q I rx ry h
 obtain⟨i,j,rfl,rfl,q⟩:=h
 obtain⟨t,rfl⟩:=rx
 obtain⟨t',rfl⟩:=ry
 exact rule i j t t' s _ _ ⟨.bl (g i j),H,I,rfl,q⟩
theorem two_pow_nn(k:Nat):(0:Int)<=2^k:=by
 rw[two_pow_cast]
 exact Int.natCast_nonneg _
theorem op_shr:OpR X (binaryOp .RShift) (rI (fun _ j=>0<=j) fun i j=>.int (i / 2^j.toNat)):=opI fun i j _ _ _ _ _ hc q =>
 rshift_int hc (by rw[Int.fdiv_eq_ediv_of_nonneg i (two_pow_nn _)];exact q)
theorem op_and:OpR X (binaryOp .BitAnd) (rI0 fun i j=>.int (Builtin.bitAnd i j)):=opI0 fun _ _ _ _ _ _ _ q=>and_int q
theorem unI{f:Value->Sem Value}{g:Int->Int}
 (rule:∀(i:Int) (t:Tok) (s:Shared) (Q:Value->Shared->Prop) (E:Value->Shared->Prop),Q (.int (g i) s.toks) { s with toks:=s.toks+1 }->wpAny (model X.prog X.w) X.A (f (.int i t)) Q E s) :
 UnR X f (rU fun i=>.int (g i)):=by
 intro pins s σ H x v Q I rx h
 obtain⟨i,rfl,q⟩:=h
 obtain⟨t,rfl⟩:=rx
 exact rule i t s _ _ ⟨.int (g i),H,I.tok _,⟨_,rfl⟩,q⟩
theorem un_neg:UnR X (unaryOp .USub) (rU fun i=>.int (-i)):=unI fun _ _ _ _ _ q=>neg_int q
end
def scal:V->V->Bool
 |.non,.non=>true|.non,.int _=>true|.int _,.non=>true|.non,.bl _=>true|.bl _,.non=>true|.non,.str _=>true|.str _,.non=>true
 |.int _,.int _=>true|.bl _,.bl _=>true|.str _,.str _=>true|.byt _,.byt _=>true
 |.int _,.str _=>true|.str _,.int _=>true|.bl _,.str _=>true|.str _,.bl _=>true
 |_,_=>false
def rEq:R2:=fun x y H Q=>scal x y=true/\Q (.bl (decide (x=y))) H
theorem dec_int{i j:Int}:decide (V.int i=V.int j)=(i == j):=by
 rw[Bool.eq_iff_iff]
 simp
theorem dec_bl{i j:Bool}:decide (V.bl i=V.bl j)=(i == j):=by
 rw[Bool.eq_iff_iff]
 simp
theorem dec_str{i j:Str}:decide (V.str i=V.str j)=(i == j):=by
 rw[Bool.eq_iff_iff]
 simp
theorem dec_byt{i j:Array UInt8}:decide (V.byt i=V.byt j)=(i.toList == j.toList):=by
 rw[Bool.eq_iff_iff]
 cases i
 cases j
 simp
section
variable {X:Cx} {a b c:Expr} {ta tb tc:TE} {pos:Pos}
theorem fin_bl{pins:List (Addr×Obj)}{σ:St}{H:Hp}{s:Shared}{Q:VK}{k k':Bool}(I:Inv X pins σ H s)(q:Q (.bl k) H)(e:k=k'):EP X pins σ Q (.bool k') s:=by
 subst e
 exact⟨.bl k,H,I,rfl,q⟩
theorem op_eq:OpR X (compareOp .Eq) rEq:=by
 intro pins s σ H x y v u Q I rx ry h
 obtain⟨hs,q⟩:=h
 cases x with
 |non =>
  cases rx
  cases y with
  |non=>cases ry;exact PySem.EqNone.eq_none_none (fin_bl I q (by simp))
  |bl j=>cases ry;exact PySem.EqNone.eq_none_bool (fin_bl I q (by simp))
  |int j=>obtain⟨t',rfl⟩:=ry;exact PySem.EqNone.eq_none_int (fin_bl I q (by simp))
  |str j=>obtain⟨t',rfl⟩:=ry;exact PySem.EqNone.eq_none_str (fin_bl I q (by simp))
  |_=>exact absurd (show false=true from hs) Bool.false_ne_true
 |bl i =>
  cases rx
  cases y with
  |non=>cases ry;exact PySem.EqNone.eq_bool_none (fin_bl I q (by simp))
  |bl j=>cases ry;exact eq_bool (fin_bl I q dec_bl)
  |str j=>obtain⟨t',rfl⟩:=ry;exact PySem.EqMixed.eq_bool_str (fin_bl I q (by simp))
  |_=>exact absurd (show false=true from hs) Bool.false_ne_true
 |int i =>
  obtain⟨t,rfl⟩:=rx
  cases y with
  |non=>cases ry;exact PySem.EqNone.eq_int_none (fin_bl I q (by simp))
  |int j=>obtain⟨t',rfl⟩:=ry;exact eq_int (fin_bl I q dec_int)
  |str j=>obtain⟨t',rfl⟩:=ry;exact PySem.EqMixed.eq_int_str (fin_bl I q (by simp))
  |_=>exact absurd (show false=true from hs) Bool.false_ne_true
 |str i =>
  obtain⟨t,rfl⟩:=rx
  cases y with
  |non=>cases ry;exact PySem.EqNone.eq_str_none (fin_bl I q (by simp))
  |bl j=>cases ry;exact PySem.EqMixed.eq_str_bool (fin_bl I q (by simp))
  |int j=>obtain⟨t',rfl⟩:=ry;exact PySem.EqMixed.eq_str_int (fin_bl I q (by simp))
  |str j=>obtain⟨t',rfl⟩:=ry;exact eq_str (fin_bl I q dec_str)
  |_=>exact absurd (show false=true from hs) Bool.false_ne_true
 |byt i =>
  obtain⟨t,rfl⟩:=rx
  cases y with
  |byt j=>obtain⟨t',rfl⟩:=ry;exact PySem.W.eq_bytes (fin_bl I q dec_byt)
  |_=>exact absurd (show false=true from hs) Bool.false_ne_true
 |_=>cases y<;>exact absurd (show false=true from hs) Bool.false_ne_true
theorem op_lt:OpR X (compareOp .Lt) (rI0 fun i j=>.bl (decide (i<j))):=opB0 fun _ _ _ _ _ _ _ q=>lt_int q
theorem op_le:OpR X (compareOp .LtE) (rI0 fun i j=>.bl (decide (i<=j))):=opB0 fun _ _ _ _ _ _ _ q=>le_int q
theorem op_gt:OpR X (compareOp .Gt) (rI0 fun i j=>.bl (decide (j<i))):=opB0 fun _ _ _ _ _ _ _ q=>gt_int q
theorem op_ge:OpR X (compareOp .GtE) (rI0 fun i j=>.bl (decide (j<=i))):=opB0 fun _ _ _ _ _ _ _ q=>ge_int q
theorem op_isN:OpR X (compareOp .Is) (fun x y H Q=>y=.non/\Q (.bl (decide (x=.non))) H):=by
 intro pins s σ H x y v u Q I rx ry h
 obtain⟨rfl,q⟩:=h
 cases ry
 refine is_none_gen (fin_bl I q ?_)
 cases x<;>first
  |(cases rx;rfl)
  |(obtain⟨t,rfl⟩:=rx;rfl)
theorem op_notN:OpR X (compareOp .IsNot) (fun x y H Q=>y=.non/\Q (.bl (!decide (x=.non))) H):=by
 intro pins s σ H x y v u Q I rx ry h
 obtain⟨rfl,q⟩:=h
 cases ry
 refine isnot_none_gen (fin_bl I q ?_)
 cases x<;>first
  |(cases rx;rfl)
  |(obtain⟨t,rfl⟩:=rx;rfl)
theorem nomark(b:Expr){op:CmpOp}(h:op ≠ .In:=by decide)(h2:op ≠ .NotIn:=by decide):behindInMarks op b=false:=by
 have e1:(op == CmpOp.In)=false:=by cases op<;>first|rfl|exact absurd rfl h
 have e2:(op == CmpOp.NotIn)=false:=by cases op<;>first|rfl|exact absurd rfl h2
 cases b<;>simp[behindInMarks,e1,e2]
theorem pe_cmpR{op:CmpOp}{r:R2}(ho:OpR X (compareOp op) r)(ha:PE X a ta)(hb:PE X b tb)(hm:behindInMarks op b=false):PE X (.Compare a [op] [b] pos) (tOp r ta tb):=by
 intro pins s σ H Q I h
 exact wpAny_Compare1 (binT ha hb I h fun v u s2 x y H2 I2 rx ry q=>ho pins s2 σ H2 x y v u Q I2 rx ry q) hm
def tTest(t:TE):TT:=fun σ H Q=>t σ H fun x H'=>∃k,x=.bl k/\Q k H'
theorem pt_cmpR{op:CmpOp}{r:R2}(ho:OpR X (compareOp op) r)(ha:PE X a ta)(hb:PE X b tb)(hm:behindInMarks op b=false):PT X (.Compare a [op] [b] pos) (tTest (tOp r ta tb)):=by
 intro pins s σ H Q I h
 refine wpAny_isTrue_Compare1 (thn (ha pins s σ H _ I h) fun v s1 ⟨x,H1,I1,r1,q1⟩=>thn (hb pins s1 σ H1 _ I1 q1) fun u s2 ⟨y,H2,I2,r2,q2⟩ =>
  thn (ho pins s2 σ H2 x y v u _ I2 r1 r2 q2) fun c s3 ⟨z,H3,I3,r3,k,e,q3⟩=>?_) hm
 subst e
 cases r3
 exact wpAny_truthy_bool ⟨H3,I3,q3⟩
theorem line63:(sizeLine:Nat)<2^63:=by rw[sizeLine_eq];decide
theorem op_add_str:OpR X (binaryOp .Add) (fun x y H Q=>∃i j,x=.str i/\y=.str j/\i.length+j.length<=sizeLine/\Q (.str (i++j)) H):=by
 intro pins s σ H x y v u Q I rx ry h
 obtain⟨i,j,rfl,rfl,hz,q⟩:=h
 obtain⟨t,rfl⟩:=rx
 obtain⟨t',rfl⟩:=ry
 exact add_str (fun t' tk=>⟨.str (i++j),H,I.tok _,⟨_,rfl⟩,q⟩) hz
theorem vals1{x:V}{us:List Value}(r:Vals [x] us):∃u,us=[u]/\RelV x u:=by
 cases r with
 |cons r1 r2=>cases r2;exact⟨_,rfl,r1⟩
theorem vals2{x y:V}{us:List Value}(r:Vals [x,y] us):∃u w',us=[u,w']/\RelV x u/\RelV y w':=by
 cases r with
 |cons r1 r2 =>
  cases r2 with
  |cons r3 r4=>cases r4;exact⟨_,_,rfl,r1,r3⟩
theorem call_abs:CallR X (.builtin "abs") (fun xs H Q=>∃i,xs=[.int i]/\Q (.int (if i<0 then -i else i)) H):=by
 intro pins s σ H xs us Q I r h
 obtain⟨i,rfl,q⟩:=h
 obtain⟨u,rfl,t,rfl⟩:=vals1 r
 exact call_abs_int fun u tk=>⟨.int (if i<0 then -i else i),H,I.tok _,⟨_,rfl⟩,q⟩
theorem call_max2(hc:X.calm=true):CallR X (.builtin "max") (fun xs H Q=>∃i j,xs=[.int i,.int j]/\Q (.int (if j > i then j else i)) H):=by
 intro pins s σ H xs us Q I r h
 obtain⟨i,j,rfl,q⟩:=h
 obtain⟨u,w',rfl,⟨t,rfl⟩,⟨t',rfl⟩⟩:=vals2 r
 refine max_two_ints (I.ok.hd hc) fun h' tk k=>⟨_,H,I.kept k,?_,q⟩
 by_cases hj:j > i
 ·rw[if_pos hj,if_pos hj];exact⟨_,rfl⟩
 ·rw[if_neg hj,if_neg hj];exact⟨_,rfl⟩
theorem call_min2(hc:X.calm=true):CallR X (.builtin "min") (fun xs H Q=>∃i j,xs=[.int i,.int j]/\Q (.int (if j<i then j else i)) H):=by
 intro pins s σ H xs us Q I r h
 obtain⟨i,j,rfl,q⟩:=h
 obtain⟨u,w',rfl,⟨t,rfl⟩,⟨t',rfl⟩⟩:=vals2 r
 refine min_two_ints (I.ok.hd hc) fun h' tk k=>⟨_,H,I.kept k,?_,q⟩
 by_cases hj:j<i
 ·rw[if_pos hj,if_pos hj];exact⟨_,rfl⟩
 ·rw[if_neg hj,if_neg hj];exact⟨_,rfl⟩
theorem call_int1:CallR X (.type "int") (fun xs H Q=>(∃i,xs=[.int i]/\Q (.int i) H)\/∃k,xs=[.bl k]/\Q (.int (if k then 1 else 0)) H):=by
 intro pins s σ H xs us Q I r h
 rcases h with⟨i,rfl,q⟩|⟨k,rfl,q⟩
 ·obtain⟨u,rfl,t,rfl⟩:=vals1 r
  exact call_int_int ⟨.int i,H,I,⟨_,rfl⟩,q⟩
 ·obtain⟨u,rfl,r1⟩:=vals1 r
  cases r1
  exact call_int_bool ⟨.int (if k then 1 else 0),H,I.tok _,⟨_,rfl⟩,q⟩
theorem call_str_int:CallR X (.type "str") (fun xs H Q=>∃i,xs=[.int i]/\i.natAbs.log2<1920/\Q (.str (toString i)) H):=by
 intro pins s σ H xs us Q I r h
 obtain⟨i,rfl,hz,q⟩:=h
 obtain⟨u,rfl,t,rfl⟩:=vals1 r
 exact PySem.P.str_of_int hz ⟨.str _,H,I.tok _,⟨_,rfl⟩,q⟩
end
end L2
namespace L2
open PySem PySem.Spec PyProof.Rows
section
variable {prog:Program} {w:World} {A:Around} {E:Value->Shared->Prop} {s:Shared} {K:PySem.W.Frag} {x dx C f:Addr} {mA:Str->Option Value} {name:Str} {v:Value}
end
section
variable {P:Program} {w:World} {H H':Hp} {h h':Heap} {a C dx:Addr} {fs fs':List (Str×V)}
end
section
variable {X:Cx} {pins:List (Addr×Obj)} {σ:St} {H:Hp} {s:Shared} {a C dx:Addr} {fs:List (Str×V)} {f:Str} {v:V} {A:Around} {E:Value->Shared->Prop}
theorem attr_of{prog:Program}{w:World}{env:Env}{e:Expr}{f:Str}{pos:Pos}{s:Shared}{Q:Value->Shared->Prop}(hb:attributeBase e f env (eval e env)=eval e env)
 (h:wpAny (model prog w) A (eval e env) (fun o s₁=>wpAny (model prog w) A (getAttr o f true) Q E s₁) E s):wpAny (model prog w) A (eval (.Attribute e f pos) env) Q E s :=
 Attribute_any_ h (by rw[arm_eval_Attribute,hb])
end
section
variable {X:Cx} {o e value:Expr} {f:Str} {pos pos' tpos:Pos} {ta tv:TE}
end
section
variable {X:Cx} {pins:List (Addr×Obj)} {σ:St} {H:Hp} {s:Shared} {A:Around} {E:Value->Shared->Prop} {Q:Value->Shared->Prop} {c:Value} {b:Bool}
end
end L2
namespace L2
open PySem PySem.Spec PyProof.Rows
structure Room (k:Nat) (A:Around):Prop where
 hd:2<=k->A.handled=none
 dp:A.depth+3*k+5<recursionLimit
 un:A.units+16*k+200<cLine
theorem Room.mono{j k:Nat}{A:Around}(r:Room k A)(h:j<=k):Room j A:=⟨fun z=>r.hd (by omega),by have:=r.dp;omega,by have:=r.un;omega⟩
theorem Room.deeper{k:Nat}{A:Around}(r:Room (k+1) A)(env:Env):Room k (A.deeper env) :=
 ⟨fun z=>r.hd (by omega),by have:=r.dp;show A.depth+1+3*k+5<_;omega,by have:=r.un;show A.units+3+16*k+200<_;omega⟩
theorem make_depth{A:Around}{C:Addr}{us:List Value}{kw:List (Str×Value)}:(A.under (.builtin "type.__call__" ⟨.ref C::us,kw⟩)).depth=A.depth+1:=by
 first|rfl|simp[Around.under,Code.weight,Code.isCreation,Code.isGuard,Code.isCaller,Code.frames,Code.isFrame,guardIds]
theorem make_units{A:Around}{C:Addr}{us:List Value}{kw:List (Str×Value)}:(A.under (.builtin "type.__call__" ⟨.ref C::us,kw⟩)).units=A.units+1:=by
 first|rfl|simp[Around.under,Code.cUnits,Code.frames,Code.isFrame]
theorem Room.make{k:Nat}{A:Around}(r:Room (k+1) A)(C:Addr)(us:List Value)(kw:List (Str×Value)):Room k (A.under (.builtin "type.__call__" ⟨.ref C::us,kw⟩)) :=
 ⟨fun z=>r.hd (by omega),by have:=r.dp;rw[make_depth];omega,by have:=r.un;rw[make_units];omega⟩
theorem Room.depth{k:Nat}{A:Around}(r:Room k A):A.depth<recursionLimit:=by have:=r.dp;omega
def tNil:TA:=fun _ H Q=>Q [] H
def tCons(ta:TE)(tr:TA):TA:=fun σ H Q=>ta σ H fun x H1=>tr σ H1 fun xs H2=>Q (x::xs) H2
section
variable {X:Cx} {e:Expr} {es:List Expr} {te:TE} {t:TA} {pos:Pos}
theorem pa_nil:PA X [] tNil:=fun _ _ _ _ H Q I h=>Calls.spliced_nil ⟨[],H,I,.nil,h⟩
theorem pa_cons(ha:PE X e te)(hr:PA X es t)(hs:starEach (e::es) X.env=(false,eval e X.env)::starEach es X.env:=by rfl):PA X (e::es) (tCons te t):=by
 intro pos pins s σ H Q I h
 rw[hs]
 show wpAny _ _ (spliced ((false,eval e X.env)::backTo pos (starEach es X.env))) _ _ s
 refine Calls.spliced_cons (thn (ha pins s σ H _ I h) fun u s1 ⟨x,H1,I1,r1,q1⟩=>?_)
 exact thn (hr pos pins s1 σ H1 _ I1 q1) fun us s2 ⟨xs,H2,I2,r2,q2⟩=>⟨x::xs,H2,I2,.cons r1 r2,q2⟩
def tTup(t:TA):TE:=fun σ H Q=>t σ H fun xs H1=>xs.length<=sizeLine/\∀p,H1 p=none->Q (.ref p) (upd H1 p (.tup xs))
def tLst(t:TA):TE:=fun σ H Q=>t σ H fun xs H1=>xs.length<=sizeLine/\∀p,H1 p=none->Q (.ref p) (upd H1 p (.lst xs))
theorem pe_tup{x1}(h:PA X es t):PE X (.Tuple es x1 pos) (tTup t):=by
 intro pins s σ H Q I hq
 refine wpAny_Tuple_spliced (thn (h pos pins s σ H _ I hq) fun us s1 ⟨xs,H1,I1,r,z,q⟩=>⟨by rw[<- r.length];exact z,?_⟩)
 have hf:H1 s1.heap.objs.size=none:=I1.hok.fresh (Nat.le_refl _)
 refine⟨.ref s1.heap.objs.size,upd H1 s1.heap.objs.size (.tup xs),I1.laid (t':=s1.toks) (fun b u e=>Heap.get?_push_of_some _ e) (Nat.le_refl _) ?_,rfl,q _ hf⟩
 exact⟨z,us,r,⟨_,Heap.get?_push_size _ rfl,rfl,_,rfl⟩⟩
theorem pe_lst(h:PA X es t):PE X (.List es pos) (tLst t):=by
 intro pins s σ H Q I hq
 refine wpAny_List_spliced (thn (h pos pins s σ H _ I hq) fun us s1 ⟨xs,H1,I1,r,z,q⟩=>⟨by rw[<- r.length];exact z,?_⟩)
 have hf:H1 s1.heap.objs.size=none:=I1.hok.fresh (Nat.le_refl _)
 refine⟨.ref s1.heap.objs.size,upd H1 s1.heap.objs.size (.lst xs),I1.laid (t':=s1.toks) (fun b u e=>Heap.get?_push_of_some _ e) (Nat.le_refl _) ?_,rfl,q _ hf⟩
 exact⟨z,us,0,r,Heap.get?_push_size _ rfl⟩
end
abbrev Sp:=List V->Hp->VK->XK->Prop
abbrev CXT:=List Env->Hp->Shared->XK->Value->Shared->Prop
structure Env0 (P:Program) (w:World) (K:PySem.W.Frag) (mg:Str->Option Value) (base:Heap) (A:Around) (outer:List Env) (s:Shared) (H:Hp):Prop where
 frames:A.frames=some outer
 mod:Mod K mg base
 bs:∀b o,base.get? b=some o->s.heap.get? b=some o/\H b=none
 bsz:base.objs.size<=s.heap.objs.size
 funs:s.heap.FunFrames base outer
 frf:∀b∈frs outer,H b=none
 hok:HOk P w H s.heap
 bare:AllBare s.gens
def CE(outer:List Env)(P:Program)(w:World)(H:Hp)(s:Shared)(Q:VK)(u:Value)(s':Shared):Prop :=
 ∃v H',s'.os=s.os/\AllBare s'.gens/\Un (frs outer) [] H H' s.heap s'.heap/\HOk P w H' s'.heap/\RelV v u/\Q v H'
def CR(CX:CXT)(outer:List Env)(P:Program)(w:World)(H:Hp)(s:Shared)(Q:VK)(E:XK)(r:Result)(s':Shared):Prop :=
 match r with
 |.ok (.ret u)=>CE outer P w H s Q u s'
 |.ok _=>False
 |.error e=>CX outer H s E e s'
structure FnOk (P:Program) (w:World) (K:PySem.W.Frag) (mg:Str->Option Value) (base:Heap) (CX:CXT) (k:Nat) (f:Addr) (fd:FuncData) (ps:List Str) (sp:Sp):Prop where
 len:∀vs H Q E,sp vs H Q E->vs.length=ps.length
 run:∀(A:Around) (outer:List Env) (s:Shared) (H:Hp) (args:Args) (us:List Value) (vs:List V) (Q:VK) (E:XK),Room k A->Env0 P w K mg base A outer s H->BindsTo s fd args (ps.zip us)->Vals vs us->sp vs H Q E ->
  codeAny (model P w) A (.call (.ref f) args) (CR CX outer P w H s Q E) s
theorem FnOk.mono{P:Program}{w:World}{K:PySem.W.Frag}{mg:Str->Option Value}{base:Heap}{CX:CXT}{j k:Nat}{f:Addr}{fd:FuncData}{ps:List Str}{sp:Sp}(F:FnOk P w K mg base CX j f fd ps sp)(h:j<=k) :
 FnOk P w K mg base CX k f fd ps sp:=⟨F.len,fun A outer s H args us vs Q E hr=>F.run A outer s H args us vs Q E (hr.mono h)⟩
theorem Env0.make{P:Program}{w:World}{K:PySem.W.Frag}{mg:Str->Option Value}{base:Heap}{A:Around}{outer:List Env}{s:Shared}{H:Hp}(e:Env0 P w K mg base A outer s H)(C:Addr)(us:List Value)(kw:List (Str×Value)) :
 Env0 P w K mg base (A.under (.builtin "type.__call__" ⟨.ref C::us,kw⟩)) outer s H:=⟨by first|exact e.frames|(simpa[Around.under,Code.envs,Code.isFrame,pushEnvs]using e.frames),e.mod,e.bs,e.bsz,e.funs,e.frf,e.hok,e.bare⟩
section
variable {X:Cx} {pins:List (Addr×Obj)} {σ:St} {H:Hp} {s s':Shared}
theorem Inv.env0(I:Inv X pins σ H s):Env0 X.prog X.w X.K X.mg X.base X.A X.stack s H :=
 ⟨I.ok.frames,I.ok.mod,I.bs,Nat.le_trans I.ok.bsz I.sz,I.stack,I.stkFree,I.hok,I.bare⟩
theorem Inv.after{Q:VK}{u:Value}(I:Inv X pins σ H s)(h:CE X.stack X.prog X.w H s Q u s'):EP X pins σ Q u s':=by
 obtain⟨v,H',os,bare,un,hok,r,q⟩:=h
 obtain⟨hh,g,d,t,os'⟩:=s'
 obtain rfl:os'=s.os:=os
 exact⟨v,H',I.call (h':=hh) (g':=g) (d':=d) (t':=t) (ch:=[]) un hok bare (fun b z=>absurd z (by simp)),r,q⟩
end
def tCall(sp:Sp)(dvs:List V)(E:XK)(t:TA):TE:=fun σ H Q=>t σ H fun vs H1=>sp (vs++dvs) H1 Q E
def Binds(K:PySem.W.Frag)(fd:FuncData)(ps:List Str)(ds:List Value):Prop :=
 ∀(s:Shared) (us:List Value),K.In s.heap->(us++ds).length=ps.length->BindsTo s fd ⟨us,[]⟩ (ps.zip (us++ds))
theorem Binds.all{K:PySem.W.Frag}{fd:FuncData}{ps:List Str}(h:∀us:List Value,us.length=ps.length->bindArgs fd ⟨us,[]⟩=pure (ps.zip us)):Binds K fd ps []:=fun s us _ hl=>by
 rw[List.append_nil]at hl ⊢
 exact .of_eq (h us hl)
def Passes(CX:CXT)(X:Cx)(E:XK):Prop:=∀(pins:List (Addr×Obj)) (σ:St) (H:Hp) (s:Shared) (e:Value) (s':Shared),Inv X pins σ H s->CX X.stack H s E e s'->X.xe e s'
section
variable {X:Cx} {CX:CXT} {k:Nat} {f C:Addr} {fd:FuncData} {ps:List Str} {sp:Sp} {dvs:List V} {ds:List Value} {E:XK} {x m:Str} {p pos apos:Pos} {e o:Expr} {es:List Expr} {ta:TE} {t:TA}
theorem run_fn{pins:List (Addr×Obj)}{σ:St}{H:Hp}{s:Shared}{Q:VK}{us:List Value}{vs:List V}(F:FnOk X.prog X.w X.K X.mg X.base CX k f fd ps sp)(hr:Room k X.A)(hb:Binds X.K fd ps ds)(hd:Vals dvs ds)(hx:Passes CX X E)
 (I:Inv X pins σ H s) (r:Vals vs us) (h:sp (vs++dvs) H Q E):wpAny (model X.prog X.w) X.A (call (.ref f) us) (EP X pins σ Q) X.xe s:=by
 have r2:Vals (vs++dvs) (us++ds):=r.append hd
 have hl:(us++ds).length=ps.length:=by rw[<- r2.length];exact F.len _ _ _ _ h
 refine wpAny_call (codeAny_mono (F.run X.A X.stack s H ⟨us,[]⟩ (us++ds) (vs++dvs) Q E hr I.env0 (hb s us I.kIn hl) r2 h) fun r s' hq=>?_)
 cases r with
 |error e=>exact hx pins σ H s e s' I hq
 |ok fl =>
  cases fl with
  |ret u=>exact I.after hq
  |next=>exact False.elim hq
  |brk=>exact False.elim hq
  |cont=>exact False.elim hq
theorem pe_call(F:FnOk X.prog X.w X.K X.mg X.base CX k f fd ps sp)(hr:Room k X.A)(hg:Gl X x)(hm:X.mg x=some (.ref f))(hk:PySem.W.keepIn X.K (.ref f)=true)(hb:Binds X.K fd ps ds)(hd:Vals dvs ds)(hx:Passes CX X E)
 (ha:PA X (e::es) t) (hdb:(x == ("__debug__":Str))=false:=by decide) (he:starEach (e::es) X.env=(false,eval e X.env)::starEach es X.env:=by rfl) (hpl:(backTo pos (starEach es X.env)).any (·.1)=false:=by rfl) :
 PE X (.Call (.Name x p) (e::es) [] pos) (tCall sp dvs E t):=by
 intro pins s σ H Q I h
 refine wpAny_Call_Name_kw (ld_glob I hg hm ?_ hdb)
 refine PySem.W.callWith_K (h₀:=X.base) I.ok.mod.kin hk (thn (ha pos pins s σ H _ I h) fun us s1 ⟨vs,H1,I1,r,q⟩=>⟨I1.kIn,?_⟩) he hpl
 exact run_fn F hr hb hd hx I1 r q
end
section
variable {X:Cx} {CX:CXT} {k:Nat} {f C:Addr} {fd:FuncData} {ps ks:List Str} {sp:Sp} {E:XK} {x m:Str} {p pos apos kpos:Pos} {e o:Expr} {es:List Expr} {kws:List Keyword} {te ta:TE} {t tk:TA} {nm:Option Str}
variable {g:List Value->List Value->List Value} {gV:List V->List V->List V}
end
structure FnScope (N P:List Str) (sc:Scope):Prop where
 kind:sc.kind=.function
 co:sc.isCoroutine=false
 gen:sc.isGenerator=false
 nd:N.Nodup
 pre:N.take P.length=P
 par:∀x∈P,sc.names.lookup x=some .local\/sc.names.lookup x=some .cell
 nofree:∀y∈sc.names,y.2 ≠ .free
theorem bindL_out{kindOf:Str->Option NameKind}{x:Str}:∀ {binds:List (Str×Value)} {m:Str->Option Value},(∀v,(x,v) ∉ binds)->bindL kindOf binds m x=m x
 |[],_,_=>rfl
 |(n,v)::r,m,h=>by
  unfold bindL
  rw[bindL_out fun w hw=>h w (List.mem_cons_of_mem _ hw)]
  split
  ·have:x≠n:=by rintro rfl;exact h v List.mem_cons_self
   simp[this]
  ·rfl
theorem bindC_out{kindOf:Str->Option NameKind}{x:Str}:∀ {binds:List (Str×Value)} {m:Str->Option Value},(∀v,(x,v) ∉ binds)->bindC kindOf binds m x=m x
 |[],_,_=>rfl
 |(n,v)::r,m,h=>by
  unfold bindC
  rw[bindC_out fun w hw=>h w (List.mem_cons_of_mem _ hw)]
  split
  ·rfl
  ·have:x≠n:=by rintro rfl;exact h v List.mem_cons_self
   simp[this]
theorem bindL_get{kindOf:Str->Option NameKind}{x:Str}{v:Value}:∀ {P:List Str} {vs:List Value} {i:Nat} {m:Str->Option Value},P.Nodup->P[i]?=some x->vs[i]?=some v->kindOf x=some .local ->
 bindL kindOf (P.zip vs) m x=some v
 |[],_,_,_,_,h,_,_=>by simp at h
 |_::_,[],_,_,_,_,h,_=>by simp at h
 |p::P,w::vs,0,m,nd,h1,h2,hk=>by
  simp at h1 h2;subst h1;subst h2
  show bindL kindOf ((p,w)::P.zip vs) m p=_
  unfold bindL
  rw[bindL_out fun v hv=>(List.nodup_cons.mp nd).1 (List.of_mem_zip hv).1,if_pos hk]
  simp
 |p::P,w::vs,i+1,m,nd,h1,h2,hk=>by
  show bindL kindOf ((p,w)::P.zip vs) m x=_
  unfold bindL
  exact bindL_get (i:=i) (List.nodup_cons.mp nd).2 (by simpa using h1) (by simpa using h2) hk
theorem bindC_get{kindOf:Str->Option NameKind}{x:Str}{v:Value}:∀ {P:List Str} {vs:List Value} {i:Nat} {m:Str->Option Value},P.Nodup->P[i]?=some x->vs[i]?=some v->kindOf x≠some .local ->
 bindC kindOf (P.zip vs) m x=some v
 |[],_,_,_,_,h,_,_=>by simp at h
 |_::_,[],_,_,_,_,h,_=>by simp at h
 |p::P,w::vs,0,m,nd,h1,h2,hk=>by
  simp at h1 h2;subst h1;subst h2
  show bindC kindOf ((p,w)::P.zip vs) m p=_
  unfold bindC
  rw[bindC_out fun v hv=>(List.nodup_cons.mp nd).1 (List.of_mem_zip hv).1,if_neg hk]
  simp
 |p::P,w::vs,i+1,m,nd,h1,h2,hk=>by
  show bindC kindOf ((p,w)::P.zip vs) m x=_
  unfold bindC
  exact bindC_get (i:=i) (List.nodup_cons.mp nd).2 (by simpa using h1) (by simpa using h2) hk
def start(N:List Str)(vs:List V):St:=vs.map some++List.replicate (N.length-vs.length) none
def cxOf(CX:CXT)(P:Program)(w:World)(K:PySem.W.Frag)(mg:Str->Option Value)(base:Heap)(N:List Str)(qual:Str)(scope:Scope)(f:Addr)(cd:Value)(A:Around)(outer:List Env)(s:Shared)(H:Hp)(E:XK):Cx where
 prog:=P
 w:=w
 K:=K
 mg:=mg
 base:=base
 A:=A.deeper (envOfC qual scope s.heap.objs.size f cd)
 N:=N
 s₀:=s
 H₀:=H
 env:=envOfC qual scope s.heap.objs.size f cd
 outer:=outer
 stack:=envOfC qual scope s.heap.objs.size f cd::outer
 ex:=[]
 calm:=A.handled.isNone
 fn:=fun _=>true
 pn:=[]
 xe:=fun e s'=>wpAny (model P w) (A.deeper (envOfC qual scope s.heap.objs.size f cd)) (leaving (envOfC qual scope s.heap.objs.size f cd) e) (fun _ s''=>CX outer H s E e s'') (fun e' s''=>CX outer H s E e' s'') s'
theorem cell_has{sc:Scope}{n:Nat}{x:Str}(h:sc.names.lookup x=some .cell):∃c,(cellsFrom n sc.names []).lookup x=some c:=by
 have q:=PySem.W.cellsFrom_some sc.names n [] (.inl h)
 exact Option.isSome_iff_exists.mp q
theorem inv_start{CX:CXT}{P:Program}{w:World}{K:PySem.W.Frag}{mg:Str->Option Value}{base:Heap}{N ps:List Str}{qual:Str}{scope:Scope}{f:Addr}{cd:Value}{A:Around}{outer:List Env}{s s1:Shared}{H:Hp}{E:XK}{us:List Value}{vs:List V}
 (S:FnScope N ps scope) (hd:A.handled.isNone=true->A.handled=none) (e0:Env0 P w K mg base A outer s H) (hl:vs.length=ps.length) (r:Vals vs us)
 (x:InCallC s s.heap.objs.size (bindL (envOfC qual scope s.heap.objs.size f cd).kindOf (ps.zip us) fun _=>none) (cellsFrom (s.heap.objs.size+1) scope.names []) (bindC (envOfC qual scope s.heap.objs.size f cd).kindOf (ps.zip us) fun _=>none) s1) :
 Inv (cxOf CX P w K mg base N qual scope f cd A outer s H E) [] (start N vs) H s1:=by
 have hpl:ps.length<=N.length:=by have:=congrArg List.length S.pre;rw[List.length_take]at this;omega
 obtain⟨h1,tk,rfl,hk⟩:=x.done
 have noA:∀b:Addr,b ∉ (cxOf CX P w K mg base N qual scope f cd A outer s H E).ex:=fun b z=>absurd (show b∈([]:List Addr) from z) (by simp)
 refine⟨⟨e0.mod,S.kind,rfl,rfl,Nat.le_refl _,fun y z c h1 h2=>?_,fun y hy=>?_,fun y c _ h=>?_,hd,Around.frames_deeper e0.frames,.inr ⟨rfl,rfl⟩,fun b z=>absurd z (noA b),e0.bs,e0.bsz,fun b _ _=>noA b,fun b z=>absurd z (noA b),e0.funs,e0.frf⟩,
  rfl,e0.bare,Un.kept hk,⟨_,x.toInCall.ns,fun i y v h1 h2 h3=>?_⟩,fun y c h=>⟨_,x.cell y c h⟩,e0.hok.fresh (Nat.le_refl _),fun y c h=>?_,fun p hp=>absurd (show p∈([]:List (Addr×Obj)) from hp) (by simp),e0.hok.kept hk,?_⟩
 ·exact name_of_addr x.apart (PySem.mem_of_lookup h1) (PySem.mem_of_lookup h2)
 ·have hy:scope.names.lookup y=some .cell\/scope.names.lookup y=some .free:=hy
  rcases hy with hy|hy
  ·exact cell_has hy
  ·exact absurd rfl (S.nofree _ (PySem.mem_of_lookup hy))
 ·exact Nat.le_of_lt (x.above y c (PySem.mem_of_lookup h))
 ·have hi:i<vs.length:=by
   unfold start at h2
   by_cases hi:i<vs.length
   ·exact hi
   ·rw[List.getElem?_append_right (by simpa using hi)]at h2
    rw[List.getElem?_replicate]at h2
    split at h2<;>cases h2
  have ha:vs[i]?=some v:=by
   unfold start at h2
   rw[List.getElem?_append_left (by simpa using hi),List.getElem?_map]at h2
   cases e:vs[i]? with
   |none=>rw[e]at h2;cases h2
   |some a=>rw[e]at h2;cases h2;rfl
  obtain⟨u,hu,rv⟩:=r.get ha
  have hp:ps[i]?=some y:=by
   rw[<- S.pre,List.getElem?_take_of_lt (by omega)];exact h1
  have ndP:ps.Nodup:=by rw[<- S.pre];exact S.nd.sublist (List.take_sublist _ _)
  refine⟨u,rv,?_⟩
  rcases S.par y (List.mem_of_getElem? hp) with k|k
  ·exact .inl ⟨k,bindL_get ndP hp hu k⟩
  ·obtain⟨c,e⟩:=cell_has (n:=s.heap.objs.size+1) k
   refine .inr ⟨.inl k,c,e,?_⟩
   have q:=x.cell y c e
   rw[bindC_get ndP hp hu (by show scope.names.lookup y≠_;rw[k];decide)]at q
   exact q
 ·exact e0.hok.fresh (Nat.le_of_lt (x.above y c (PySem.mem_of_lookup h)))
 ·unfold start
  show _=N.length
  rw[List.length_append,List.length_map,List.length_replicate]
  omega
theorem fn_of{CX:CXT}{P:Program}{w:World}{K:PySem.W.Frag}{mg:Str->Option Value}{base:Heap}{k:Nat}{f:Addr}{name qual:Str}{params:Arguments}{body:List Stmt}{scope:Scope}{dV kV doc pm cdv ct oc:Value}{an od:Option Addr}
 {osl:Array (Option Value)} {N ps:List Str} {sp:Sp} (lk:K.lookup f=some ⟨oc,od,.func (PySem.W.fnOf name qual params body scope dV kV doc pm an cdv ct),osl⟩) (hcd:PySem.W.codeIn K cdv qual=true) (S:FnScope N ps scope)
 (len:∀vs H Q E,sp vs H Q E->vs.length=ps.length)
 (hbody:∀(A:Around) (outer:List Env) (s:Shared) (H:Hp) (vs:List V) (Q:VK) (E:XK),Room k (A.deeper (envOfC qual scope s.heap.objs.size f cdv))->sp vs H Q E ->
  ∃t,PSs (cxOf CX P w K mg base N qual scope f cdv A outer s H E) body t/\t { nx:=fun _ H'=>Q .non H',rt:=Q } (start N vs) H) :
 FnOk P w K mg base CX (k+1) f (PySem.W.fnOf name qual params body scope dV kV doc pm an cdv ct) ps sp:=by
 refine⟨len,fun A outer s H args us vs Q E hr e0 hb r hsp=>?_⟩
 have hl:=len _ _ _ _ hsp
 have KX:K.In s.heap:=e0.mod.kin.keeps fun b o e=>(e0.bs b o e).1
 have lim:s.heap.NoLimit:=e0.mod.nolimit.1.keeps fun b o e=>(e0.bs b o e).1
 have hkind:∀y∈ps.zip us,scope.names.lookup y.1=some .local\/(scope.names.lookup y.1=some .cell/\((cellsFrom (s.heap.objs.size+1) scope.names []).lookup y.1).isSome=true):=fun⟨n,v⟩ hy=>by
  rcases S.par n (List.of_mem_zip hy).1 with q|q
  ·exact .inl q
  ·exact .inr ⟨q,PySem.W.cellsFrom_some _ _ _ (.inl q)⟩
 refine codeAny_call_function hr.depth (KX _ _ lk) rfl S.co S.gen rfl (PySem.W.codeRec_of KX hcd) (hb _ _ _ _ ?_)
 refine wpAny_newFunctionEnv_cells S.kind hkind fun env he s1 x=>?_
 subst he
 refine⟨lim.keeps x.toInCall.keep,codeAny_func ?_⟩
 obtain⟨t,ht,hq⟩:=hbody A outer s H vs Q E (hr.deeper _) hsp
 have I:Inv (cxOf CX P w K mg base N qual scope f cdv A outer s H E) [] (start N vs) H s1:=inv_start S (fun z=>by simpa using z) e0 hl r x
 refine wpAny_mono (ht [] s1 (start N vs) H _ I hq) (fun fl s' hs=>?_) fun e s' hs=>hs
 have fin:∀ {σ':St} {H':Hp} {v:V} {u:Value},Inv (cxOf CX P w K mg base N qual scope f cdv A outer s H E) [] σ' H' s'->RelV v u->Q v H'->CE outer P w H s Q u s' :=
  fun {σ' H' v u} J rv q=>⟨v,H',J.os,J.bare,J.base,J.hok,rv,q⟩
 cases fl with
 |ret u =>
  obtain⟨v,σ',H',J,rv,q⟩:=hs
  exact fin J rv q
 |next =>
  obtain⟨σ',H',J,q⟩:=hs
  exact fin (v:=V.non) (u:=Value.none) J rfl q
 |brk =>
  obtain⟨_,_,_,q⟩:=hs
  exact False.elim q
 |cont =>
  obtain⟨_,_,_,q⟩:=hs
  exact False.elim q
end L2
namespace L2
open PySem PySem.Spec PyProof.Rows
section
variable {X:Cx} {x:Str} {p pos:Pos} {e:Expr} {es:List Expr} {t:TA} {id T:String} {r:List V->Hp->VK->Prop}
def tCB(r:List V->Hp->VK->Prop)(t:TA):TE:=fun σ H Q=>t σ H fun vs H1=>r vs H1 Q
theorem pe_callB(hc:CallR X (.builtin id) r)(hg:Gl X x)(hm:X.mg x=none)(hv:bootBuiltins x=some (.builtin id))(ha:PA X (e::es) t)(hn:x ≠ "__name__":=by decide)(hdb:(x == ("__debug__":Str))=false:=by decide)
 (he:starEach (e::es) X.env=(false,eval e X.env)::starEach es X.env:=by rfl) (hpl:(backTo pos (starEach es X.env)).any (·.1)=false:=by rfl):PE X (.Call (.Name x p) (e::es) [] pos) (tCB r t):=by
 intro pins s σ H Q I h
 refine wpAny_Call_Name_kw (ld_blt I hg hm hv ?_ hn hdb)
 exact PyProof.Rows.callWith_builtin1 (thn (ha pos pins s σ H _ I h) fun us s1 ⟨vs,H1,I1,r1,q1⟩=>hc pins s1 σ H1 vs us Q I1 r1 q1) he hpl
theorem pe_callTy(hc:CallR X (.type T) r)(hg:Gl X x)(hm:X.mg x=none)(hv:bootBuiltins x=some (.type T))(ha:PA X (e::es) t)(hn:x ≠ "__name__":=by decide)(hdb:(x == ("__debug__":Str))=false:=by decide)
 (he:starEach (e::es) X.env=(false,eval e X.env)::starEach es X.env:=by rfl) (hpl:(backTo pos (starEach es X.env)).any (·.1)=false:=by rfl):PE X (.Call (.Name x p) (e::es) [] pos) (tCB r t):=by
 intro pins s σ H Q I h
 refine wpAny_Call_Name_kw (ld_blt I hg hm hv ?_ hn hdb)
 exact PyProof.Rows.callWith_type1 (thn (ha pos pins s σ H _ I h) fun us s1 ⟨vs,H1,I1,r1,q1⟩=>hc pins s1 σ H1 vs us Q I1 r1 q1) he hpl
end
end L2
namespace HT
open PySem PyProof.Rows
section
open PySem.SeqAt
open PySem.AutoSeq1 (wpAny_loadPart')
open PySem.MeetsSeq PySem.MeetsSeq2 PySem.MeetsSeq3
end
section
variable {prog:Program} {w:World} {A:Around} {E:Value->Shared->Prop} {s:Shared}
end
end HT
namespace L2
open PySem PySem.Spec PyProof.Rows
section
variable {X:Cx} {e:Expr} {te:TE} {lo hi:Option Expr} {tl th:TO} {pos p2:Pos}
end
end L2
namespace L2
open PySem PySem.Spec PyProof.Rows
def ixN(n:Nat)(i:Int):Option Nat:=if 0<=i then (if i<n then some i.toNat else none) else if -(n:Int)<=i then some (i+n).toNat else none
def atI{α:Type}(xs:List α)(i:Int):Option α:=(ixN xs.length i).bind fun j=>xs[j]?
theorem ixN_seq{n:Nat}{i:Int}{j:Nat}(h:ixN n i=some j):seqIndex? i n=some j/\j<n /\ -(n:Int)<=i/\i<n:=by
 unfold ixN at h
 by_cases h0:0<=i
 ·rw[if_pos h0]at h
  by_cases h1:i<n
  ·rw[if_pos h1]at h
   have e:i.toNat=j:=Option.some.inj h
   exact⟨by rw[seqIndex_of h0 h1,e],by omega,by omega,h1⟩
  ·rw[if_neg h1]at h;cases h
 ·rw[if_neg h0]at h
  by_cases h1:-(n:Int)<=i
  ·rw[if_pos h1]at h
   have e:(i+n).toNat=j:=Option.some.inj h
   exact⟨by rw[seqIndex_neg (by omega) h1,e],by omega,h1,by omega⟩
  ·rw[if_neg h1]at h;cases h
theorem atI_get{α:Type}{xs:List α}{i:Int}{v:α}(h:atI xs i=some v):∃j,seqIndex? i xs.length=some j/\xs[j]?=some v/\j<xs.length /\ -(xs.length:Int)<=i/\i<xs.length:=by
 unfold atI at h
 cases e:ixN xs.length i with
 |none=>rw[e]at h;cases h
 |some j =>
  rw[e]at h
  obtain⟨h1,h2,h3,h4⟩:=ixN_seq e
  exact⟨j,h1,h,h2,h3,h4⟩
def PlainIx(b:Expr):Prop:=∀o i,subscripted b false o i=operate [o,i] (getItem o i)
def IxR(X:Cx)(r:R2):Prop :=
 ∀(value slice:Expr) (pins:List (Addr×Obj)) (s:Shared) (σ:St) (H:Hp) (x y:V) (v u:Value) (Q:VK),Inv X pins σ H s->RelV x v->RelV y u->r x y H Q ->
  subscripted slice false v u=operate [v,u] (getItem v u)->wpAny (model X.prog X.w) X.A (subscriptTail value slice v u) (EP X pins σ Q) X.xe s
def MtR(X:Cx)(id:String)(r:V->List V->Hp->VK->Prop):Prop :=
 ∀(pins:List (Addr×Obj)) (s:Shared) (σ:St) (H:Hp) (x:V) (xs:List V) (v:Value) (us:List Value) (Q:VK),Inv X pins σ H s->RelV x v->Vals xs us->r x xs H Q ->
  wpAny (model X.prog X.w) X.A (call (.builtin id) (v::us)) (EP X pins σ Q) X.xe s
section
variable {X:Cx} {a b:Expr} {ta tb:TE} {pos:Pos}
theorem pe_ix{r:R2}(hr:IxR X r)(ha:PE X a ta)(hb:PE X b tb)(hs:PlainIx b):PE X (.Subscript a b pos) (tOp r ta tb):=by
 intro pins s σ H Q I h
 exact Subscript_ (binT ha hb I h fun v u s2 x y H2 I2 rx ry q=>hr a b pins s2 σ H2 x y v u Q I2 rx ry q (hs _ _))
def rIxL(K:PySem.W.Frag):R2:=fun x y H Q=>∃p xs i v,x=.ref p/\y=.int i/\SqL K H p xs/\atI xs i=some v/\Q v H
def rIxT(K:PySem.W.Frag):R2:=fun x y H Q=>∃p xs i v,x=.ref p/\y=.int i/\SqT K H p xs/\atI xs i=some v/\Q v H
def rIxS:R2:=fun x y H Q=>∃z i c,x=.str z/\y=.int i/\z.length<=sizeLine/\atI z.cps.toList i=some c/\Q (.str ⟨#[c]⟩) H
theorem ix_list:IxR X (rIxL X.K):=by
 intro value slice pins s σ H x y v u Q I rx ry h hs
 obtain⟨p,xs,i,z,rfl,rfl,hq,he,q⟩:=h
 cases rx
 obtain⟨t,rfl⟩:=ry
 obtain⟨its,r,pl,hz⟩:=I.list hq
 obtain⟨j,h1,h2,h3,h4,h5⟩:=atI_get he
 obtain⟨w,ew,rw'⟩:=r.get h2
 have hl:=r.length
 have hn:=line63
 have fin:EP X pins σ Q w s:=⟨z,H,I,rw',q⟩
 by_cases h0:0<=i
 ·have hj:i.toNat=j:=by
   rw[seqIndex_of h0 h5]at h1
   exact Option.some.inj h1
  exact item_listR pl.isList h0 (by omega) (by rw[hj];simpa using ew) fin hs
 ·have hj:(i+(its.toArray.size:Int)).toNat=j:=by
   rw[seqIndex_neg (by omega) h4]at h1
   rw[List.size_toArray,<- hl]
   exact Option.some.inj h1
  exact subscriptTail_builtinR (x:=w) pl.isList.typeIs slot_list_getitem.lookup
   (wpAny_getItem_list_neg (Q:=fun r s'=>r=w/\EP X pins σ Q r s') pl.isList (by omega) (by rw[List.size_toArray]<;>omega) (by omega) (by rw[hj];simpa using ew) ⟨rfl,fin⟩) hs
theorem ix_tup:IxR X (rIxT X.K):=by
 intro value slice pins s σ H x y v u Q I rx ry h hs
 obtain⟨p,xs,i,z,rfl,rfl,hq,he,q⟩:=h
 cases rx
 obtain⟨t,rfl⟩:=ry
 obtain⟨its,r,pl,hz⟩:=I.tuple hq
 obtain⟨j,h1,h2,h3,h4,h5⟩:=atI_get he
 obtain⟨w,ew,rw'⟩:=r.get h2
 have hl:=r.length
 have hn:=line63
 have fin:EP X pins σ Q w s:=⟨z,H,I,rw',q⟩
 exact subscriptTail_builtinR (x:=w) pl.typeIs slot_tuple_getitem.lookup
  (getItem_tuple (j:=j) (Q:=fun r s'=>r=w/\EP X pins σ Q r s') pl (by omega) (by omega) (by rw[List.size_toArray,<- hl];exact h1) (by simpa using ew) ⟨rfl,fin⟩) hs
theorem ix_str:IxR X rIxS:=by
 intro value slice pins s σ H x y v u Q I rx ry h hs
 obtain⟨z,i,c,rfl,rfl,hz,he,q⟩:=h
 obtain⟨t,rfl⟩:=rx
 obtain⟨t',rfl⟩:=ry
 obtain⟨j,h1,h2,h3,h4,h5⟩:=atI_get he
 have hl:z.cps.toList.length=z.length:=by simp[Str.length]
 rw[hl]at h1 h4 h5
 have hn:=line63
 exact tail_any (typeIs_str s z t) slot_str_getitem.lookup (getItem_str (c:=c) (by
  have e1:decide (i < -(2^63:Int))=false:=decide_eq_false (by omega)
  have e2:decide (i ≥ 2^63)=false:=decide_eq_false (by omega)
  rw[e1,e2,Bool.or_false]) (by rw[h1];simpa using h2) ⟨.str ⟨#[c]⟩,H,I.tok _,⟨_,rfl⟩,q⟩) hs
theorem Inv.lst{pins:List (Addr×Obj)}{σ:St}{H:Hp}{s:Shared}{p:Addr}{xs:List V}(I:Inv X pins σ H s)(h:H p=some (.lst xs)) :
 ∃(its:List Value) (n:Nat),Vals xs its/\s.heap.get? p=some { cls:=.type "list",data:=.seq its.toArray n }/\xs.length<=sizeLine:=by
 obtain⟨z,its,n,r,e⟩:=I.hok p _ h
 exact⟨its,n,r,e,z⟩
theorem call_len_seq:CallR X (.builtin "len") (fun xs H Q=>∃p ys,xs=[.ref p]/\(SqL X.K H p ys\/SqT X.K H p ys)/\Q (.int ys.length) H):=by
 intro pins s σ H xs us Q I r h
 obtain⟨p,ys,rfl,hq,q⟩:=h
 obtain⟨u,rfl,rx⟩:=vals1 r
 cases rx
 have hn:=line63
 rcases hq with hq|hq
 ·obtain⟨its,r',pl,hz⟩:=I.list hq
  have hlen:=r'.length
  exact Calls.call_len_list pl.isList (by simp only[List.size_toArray]<;>omega) ⟨.int ys.length,H,I.tok _,⟨s.toks+1,by rw[List.size_toArray,hlen]⟩,q⟩
 ·obtain⟨its,r',pl,hz⟩:=I.tuple hq
  have hlen:=r'.length
  exact len_tuple pl (by simp only[List.size_toArray]<;>omega) ⟨.int ys.length,H,I.tok _,⟨s.toks+1,by rw[List.size_toArray,hlen]⟩,q⟩
theorem call_len_str:CallR X (.builtin "len") (fun xs H Q=>∃z,xs=[.str z]/\z.length<=sizeLine/\Q (.int z.length) H):=by
 intro pins s σ H xs us Q I r h
 obtain⟨z,rfl,hz,q⟩:=h
 obtain⟨u,rfl,t,rfl⟩:=vals1 r
 have hn:=line63
 exact len_str (by omega) ⟨.int z.length,H,I.tok _,⟨_,rfl⟩,q⟩
theorem call_list_of:CallR X (.type "list") (fun xs H Q=>∃p ys,xs=[.ref p]/\(SqL X.K H p ys\/SqT X.K H p ys)/\∀l,H l=none->Q (.ref l) (upd H l (.lst ys))):=by
 intro pins s σ H xs us Q I r h
 obtain⟨p,ys,rfl,hq,q⟩:=h
 obtain⟨u,rfl,rx⟩:=vals1 r
 cases rx
 have fin:∀(its:List Value),Vals ys its->ys.length<=sizeLine->∀(h':Heap) (c':Nat),(∀b o',s.heap.get? b=some o'->h'.get? b=some o') ->
  h'.get? s.heap.objs.size=some { cls:=.type "list",dict:=none,data:=.seq its.toArray c',slots:=#[] }->EP X pins σ Q (.ref s.heap.objs.size) { s with heap:=h' }:=fun its r' hz h' c' kp e =>
  ⟨.ref s.heap.objs.size,_,I.laid (t':=s.toks) kp (Nat.le_refl _) (show ObjOk X.prog X.w _ h' _ (.lst ys) from ⟨hz,its,c',r',e⟩),rfl,q _ (I.hok.fresh (Nat.le_refl _))⟩
 rcases hq with hq|hq
 ·obtain⟨its,r',pl,hz⟩:=I.list hq
  have hlen:=r'.length
  obtain⟨o,ho,hc,n,hd⟩:=pl.isList
  exact call_list_seq p (.inl rfl) ho hc hd (fun h' c' kp e=>fin its r' hz h' c' kp e) (by simp only[List.size_toArray]<;>omega)
 ·obtain⟨its,r',pl,hz⟩:=I.tuple hq
  have hlen:=r'.length
  obtain⟨o,ho,hc,n,hd⟩:=pl
  exact call_list_seq p (.inr rfl) ho hc hd (fun h' c' kp e=>fin its r' hz h' c' kp e) (by simp only[List.size_toArray]<;>omega)
theorem call_tuple_of:CallR X (.type "tuple") (fun xs H Q=>∃p ys,xs=[.ref p]/\((SqL X.K H p ys/\∀l,H l=none->Q (.ref l) (upd H l (.tup ys)))\/(SqT X.K H p ys/\Q (.ref p) H))):=by
 intro pins s σ H xs us Q I r h
 obtain⟨p,ys,rfl,h⟩:=h
 obtain⟨u,rfl,rx⟩:=vals1 r
 cases rx
 rcases h with⟨hq,q⟩|⟨hq,q⟩
 ·obtain⟨its,r',pl,hz⟩:=I.list hq
  have hlen:=r'.length
  refine call_tuple_list pl.isList (fun h' kp=>?_) (by simp only[List.size_toArray]<;>omega)
  have I1:Inv X pins σ H { s with heap:=h' }:=I.kept (t':=s.toks) kp
  have I2:Inv X pins σ (upd H h'.objs.size (.tup ys)) { s with heap:=h'.push { cls:=.type "tuple",data:=.seq its.toArray } } :=
   I1.laid (t':=s.toks) (fun b o e=>Heap.get?_push_of_some _ e) (Nat.le_refl _) (show ObjOk X.prog X.w _ _ _ (.tup ys) from ⟨hz,its,r',IsTup.new _ _⟩)
  exact⟨.ref h'.objs.size,_,I2,rfl,q _ (I1.hok.fresh (Nat.le_refl _))⟩
 ·obtain⟨its,r',pl,hz⟩:=I.tuple hq
  exact call_tuple_same pl ⟨.ref p,H,I,rfl,q⟩
def tyV(K:PySem.W.Frag)(T:String)(x:V)(H:Hp):Prop:=match x with
 |.str _=>T="str"
 |.int _=>T="int"
 |.ref p=>(T="list" /\ ∃xs,SqL K H p xs)\/(T="tuple" /\ ∃o,K.lookup p=some o/\o.cls=.type "tuple" /\ o.dict=none) \/
  (T="dict" /\ ((∃kvs,H p=some (.dK kvs))\/∃kvs,H p=some (.dT kvs)))\/(T="set" /\ ∃S n,H p=some (.set S n))
 |_=>False
theorem tyV_is{pins:List (Addr×Obj)}{σ:St}{H:Hp}{s:Shared}{T:String}{x:V}{v:Value}(I:Inv X pins σ H s)(r:RelV x v)(ty:tyV X.K T x H) :
 s.TypeIs v T/\∀a,v=.ref a->∃ob,s.heap.get? a=some ob/\ob.dict=none:=by
 cases x with
 |str z =>
  obtain⟨t,rfl⟩:=r
  cases (show T="str" from ty)
  exact⟨typeIs_str s z t,fun _ e=>nomatch e⟩
 |int i =>
  obtain⟨t,rfl⟩:=r
  cases (show T="int" from ty)
  exact⟨typeIs_int s i t,fun _ e=>nomatch e⟩
 |ref p =>
  cases r
  rcases ty with⟨rfl,xs,hq⟩|⟨rfl,o,hk,hc,hd⟩|⟨rfl,hk⟩|⟨rfl,S,n,hk⟩
  ·obtain⟨its,_,pl,_⟩:=I.list hq
   refine⟨pl.isList.typeIs,fun a e=>?_⟩
   cases e
   obtain⟨o,n,e,c,hd,_⟩:=pl
   exact⟨o,e,hd⟩
  ·refine⟨⟨o,I.kIn p o hk,hc⟩,fun a e=>?_⟩
   cases e
   exact⟨o,I.kIn _ o hk,hd⟩
  ·have z:∃o,s.heap.get? p=some o/\o.ExactDict:=by
    rcases hk with⟨kvs,hk⟩|⟨kvs,hk⟩
    ·obtain⟨_,_,_,_,o,_,_,e,ex,_⟩:=I.hok p _ hk
     exact⟨o,e,ex⟩
    ·obtain⟨_,_,_,_,o,_,_,e,ex,_⟩:=I.hok p _ hk
     exact⟨o,e,ex⟩
   obtain⟨o,e,ex⟩:=z
   refine⟨⟨o,e,ex.1⟩,fun a e2=>?_⟩
   cases e2
   exact⟨o,e,ex.2.1⟩
  ·obtain⟨o,_,_,_,e,ex,_⟩:=I.hok p _ hk
   refine⟨⟨o,e,ex.1⟩,fun a e2=>?_⟩
   cases e2
   exact⟨o,e,ex.2.1⟩
 |_=>exact False.elim ty
def tBM(K:PySem.W.Frag)(T:String)(r:V->List V->Hp->VK->Prop)(to:TE)(t:TA):TE:=fun σ H Q=>to σ H fun x H1=>tyV K T x H1/\t σ H1 fun xs H2=>r x xs H2 Q
variable {o e:Expr} {es:List Expr} {to:TE} {t:TA} {name:Str} {apos cpos:Pos} {T id:String} {r:V->List V->Hp->VK->Prop}
theorem pe_bm(pa:PlainAttrs T)(slot:Slot T name id)(hty:typeOf (.builtin id)=pure (.type "method_descriptor"))(hm:MtR X id r)(ho:PE X o to)(ha:PA X (e::es) t)
 (hbase:attributeBase o name X.env (eval o X.env)=eval o X.env:=by rfl)
 (hfew:((backTo cpos (starEach (e::es) X.env)).all (fun x=>!x.1)&&(backToKw cpos (keywordEach [] X.env)).all (fun x=>x.1.isSome)
  && decide ((e::es).length+([]:List Keyword).length+(if ([]:List Keyword).isEmpty then 0 else 1)<30))=true:=by rfl)
 (hline:(apos.endLine == cpos.line)=true:=by rfl) (hs:starEach (e::es) X.env=(false,eval e X.env)::starEach es X.env:=by rfl) (hplain:(backTo cpos (starEach es X.env)).any (·.1)=false:=by rfl) :
 PE X (.Call (.Attribute o name apos) (e::es) [] cpos) (tBM X.K T r to t):=by
 intro pins s σ H Q I h
 refine wpAny_Call_method_late hbase hfew hline rfl (thn (ho pins s σ H _ I h) fun v s1 ⟨x,H1,I1,r1,ty,q1⟩=>?_)
 obtain⟨h1,h2⟩:=tyV_is I1 r1 ty
 refine⟨T,id,pa,slot,hty,h1,h2,?_⟩
 have hA:=ha cpos pins s1 σ H1 _ I1 q1
 rw[hs]at hA ⊢
 refine Calls.callWith_builtin (by show (false ||(backTo cpos (starEach es X.env)).any (·.1))=false;rw[hplain]<;>rfl) (Calls.evalArgs_plain ?_)
 exact thn hA fun us s2 ⟨vs,H2,I2,r2,q2⟩=>hm pins s2 σ H2 x vs v us Q I2 r1 r2 q2
/- xs.append(e),list.index on a module's tuple .. are MtR facts of 06m -/
end
end L2
namespace L2
open PySem PySem.Spec PyProof.Rows
def MtM(X:Cx)(id:String)(r:V->List V->Hp->VK->Prop):Prop :=
 ∀(pins:List (Addr×Obj)) (s:Shared) (σ:St) (H:Hp) (x:V) (xs:List V) (v:Value) (us:List Value) (Q:VK),Inv X pins σ H s->RelV x v->Vals xs us->r x xs H Q ->
  wpAny (model X.prog X.w) X.A (call (.builtin id) (v::us)) (EP X pins σ Q) X.xe s
theorem Vals.one:∀ {x:V} {us:List Value},Vals [x] us->∃u,us=[u]/\RelV x u
 |_,_,.cons r .nil=>⟨_,rfl,r⟩
theorem Vals.rep{xs:List V}{us:List Value}(h:Vals xs us):∀k:Nat,Vals (List.replicate k xs).flatten (List.replicate k us).flatten
 |0=>.nil
 |k+1=>by
  rw[List.replicate_succ,List.replicate_succ,List.flatten_cons,List.flatten_cons]
  exact Vals.append h (Vals.rep h k)
theorem foldl_rep(its:List Value):∀(k:Nat) (acc:List Value),
 List.foldl (fun x1 x2=>x1++x2) acc.toArray (List.replicate k its.toArray)=(acc++(List.replicate k its).flatten).toArray
 |0,acc=>by simp
 |k+1,acc=>by
  have e:acc.toArray++its.toArray=(acc++its).toArray:=by simp
  have e2:(acc++its)++(List.replicate k its).flatten=acc++(List.replicate (k+1) its).flatten:=by
   rw[List.replicate_succ,List.flatten_cons,List.append_assoc]
  rw[<- e2,<- foldl_rep its k (acc++its),<- e,List.replicate_succ,List.foldl_cons]
section
variable {X:Cx} {pins:List (Addr×Obj)} {σ:St} {H:Hp} {s:Shared} {l b:Addr} {xs ys zs:List V}
theorem Inv.lset{its its':List Value}{n:Nat}{f:Array Value->Array Value}{t':Nat}(I:Inv X pins σ H s)(hH:H l=some (.lst xs))
 (e:s.heap.get? l=some { cls:=.type "list",data:=.seq its.toArray n }) (hf:f its.toArray=its'.toArray) (hv:Vals ys its') (hz:ys.length<=sizeLine) :
 Inv X pins σ (upd H l (.lst ys)) { s with heap:=s.heap.update l (Obj.mapSeq f),toks:=t' }:=by
 have q:=PySem.IsL.update e f
 rw[hf]at q
 refine I.write (x:=l) (e:=l) (by rw[hH];exact trivial) (.inl rfl) (fun b' u hb hu=>(Heap.get?_update_other s.heap (Obj.mapSeq f) (Ne.symm hb)).trans hu) ⟨_,q⟩ ?_
 exact⟨hz,its',_,hv,q⟩
theorem Inv.lnew{its:List Value}{t':Nat}(I:Inv X pins σ H s)(hv:Vals ys its)(hz:ys.length<=sizeLine) :
 Inv X pins σ (upd H s.heap.objs.size (.lst ys)) { s with heap:=s.heap.push { cls:=.type "list",data:=.seq its.toArray },toks:=t' } :=
 I.laid (fun _ _ q=>Heap.get?_push_of_some _ q) (Nat.le_refl _) ⟨hz,its,0,hv,Heap.get?_push_size _ rfl⟩
theorem Inv.fresh(I:Inv X pins σ H s):H s.heap.objs.size=none:=I.hok.fresh (Nat.le_refl _)
theorem Inv.lstM(I:Inv X pins σ H s)(hH:H l=some (.lst xs)):xs.length<=sizeLine/\∃(its:List Value) (n:Nat),Vals xs its/\xs.length=its.length/\s.heap.get? l=some { cls:=.type "list",data:=.seq its.toArray n }:=by
 obtain⟨z,its,n,r,e⟩:=I.hok l _ hH
 exact⟨z,its,n,r,r.length,e⟩
theorem notLongL{n:Nat}(h:n<=sizeLine):Builtin.List.listTooLong n=false:=by
 unfold Builtin.List.listTooLong
 exact decide_eq_false (by omega)
end
section
variable {X:Cx}
def rAppend:V->List V->Hp->VK->Prop:=fun x vs H Q=>∃l xs y,x=.ref l/\vs=[y]/\H l=some (.lst xs)/\xs.length<sizeLine/\Q .non (upd H l (.lst (xs ++ [y])))
theorem mt_append:MtM X "list.append" rAppend:=by
 intro pins s σ H x vs v us Q I rx rv h
 obtain⟨l,xs,y,rfl,rfl,hH,hz,q⟩:=h
 cases rx
 obtain⟨u,rfl,ru⟩:=rv.one
 obtain⟨z,its,n,r,hl,e⟩:=I.lstM hH
 refine call_meets F.slot_list_append ⟨_,e,rfl⟩ F.entry_list_append (F.args_list_append_2 _ _) (PySem.list_append l its.toArray n u (by rw[List.size_toArray];omega)) ⟨e,?_⟩
 refine⟨.non,_,I.lset (its':=its ++ [u]) hH e (by simp) (r.append (.cons ru .nil)) ?_,rfl,q⟩
 rw[List.length_append,List.length_singleton]
 omega
def rCat:R2:=fun x y H Q=>∃l b xs zs,x=.ref l/\y=.ref b/\H l=some (.lst xs)/\H b=some (.lst zs)/\xs.length+zs.length<=sizeLine/\∀p,H p=none->Q (.ref p) (upd H p (.lst (xs++zs)))
theorem op_cat:OpR X (binaryOp .Add) rCat:=by
 intro pins s σ H x y v u Q I rx ry h
 obtain⟨l,b,xs,zs,rfl,rfl,hH,hB,hz,q⟩:=h
 cases rx
 cases ry
 obtain⟨z,its,n,r,hl,e⟩:=I.lstM hH
 obtain⟨z2,its2,n2,r2,hl2,e2⟩:=I.lstM hB
 refine PySem.P.add_list e e2 ?_ (by rw[List.size_toArray,List.size_toArray];omega)
 have ea:its.toArray++its2.toArray=(its++its2).toArray:=by simp
 rw[ea]
 exact⟨.ref _,_,I.lnew (t':=s.toks) (r.append r2) (by rw[List.length_append];omega),rfl,q _ I.fresh⟩
theorem len_rep{α:Type}(xs:List α)(k:Nat):(List.replicate k xs).flatten.length=k*xs.length:=by
 induction k with
 |zero=>simp
 |succ k ih=>rw[List.replicate_succ,List.flatten_cons,List.length_append,ih,Nat.succ_mul,Nat.add_comm]
end
section
variable {prog:Program} {w:World} {A:Around} {E:Value->Shared->Prop} {s:Shared}
set_option maxRecDepth 100000 in
end
section
variable {X:Cx}
end
end L2
namespace Att
open PySem PySem.W PySem.Calls PyProof.Rows
theorem ints_of_wellAll{P:Params}{h:Heap}:∀(ns:List Int) (vs:List Value),WellAll P h vs (ns.map WData.int)->IntsAre vs ns:=by
 intro ns
 induction ns with
 |nil =>
  intro vs w
  rw[List.map_nil]at w
  cases w
  exact .nil
 |cons n ns ih =>
  intro vs w
  rw[List.map_cons]at w
  cases w with
  |cons a b =>
   cases a
   exact .cons _ _ (ih _ b)
theorem script_of{l:OpenLaw}{n:Nat}(hn:l.most=some n){P:Params}{h:Heap}{args:List WData}{vals:List Value}
 (hpre:l.row.toRowW.claim.pre args=true) (hwl:WellAll P h vals args) :
 ∃a vs ns,vals=[Value.ref a]/\args=[WData.list (ns.map WData.int)]/\h.get? a=some { cls:=.type "list",data:=.seq vs.toArray }/\IntsAre vs ns/\ns.length<=n:=by
 have hsh:WShape.hasAll [] args [.list .int]=true:=(pre_splitW hpre).1
 have hc:l.pre.holds [] { args:=args }=true:=(pre_splitW hpre).2
 obtain⟨d,r,rfl,h1,h2⟩:=hasAllW_cons hsh
 obtain rfl:=hasAllW_nil h2
 obtain⟨xs,rfl,h3⟩:=hasW_list h1
 obtain⟨ns,rfl⟩:=items_int h3
 have hlen:ns.length<=n:=by
  unfold OpenLaw.pre at hc
  have h4:(WTm.not (.lt (.lit (.int (n:Int))) (.len (.arg 0)))).holds [] { args:=[.list (ns.map .int)] }=true:=by
   have h4:=(holds_andW hc).1
   rw[hn]at h4
   exact h4
  have h5:=condW_of h4 (w_not (w_lt w_lit (w_len_list (w_arg rfl))))
  rw[List.length_map]at h5
  refine Nat.le_of_not_lt fun q=>?_
  have q':(n:Int)<((ns.length:Nat):Int):=by omega
  first
   |(rw[decide_eq_true q']at h5;exact absurd h5 (by decide))
   |(simp at h5;omega)
 cases hwl with
 |cons w1 w2 =>
  cases w2
  cases w1 with
  |list ho hall=>exact⟨_,_,ns,rfl,rfl,ho,ints_of_wellAll ns _ hall,hlen⟩
theorem post_true(l:OpenLaw)(args:List WData):l.row.toRowW.claim.post args (.bool true) args=true :=
 postW_of (r:=l.row.toRowW) (X:=(true == true))
  (show WShape.has [] (.bool true) .bool=true by first|rfl|decide|simp[WShape.has,WShape.arms,WShape.armsAll])
  (show (WTm.eq .res (.lit (.bool true))).value [] { args:=args,res:=some (.bool true),after:=args }=some (.bool (true == true)) from w_eq_bool (w_res rfl) w_lit) rfl
theorem attach_call{l:OpenLaw}{n:Nat}{q:Program}{loose:List Str}{XP:(Str->Option Value)->Heap->Prop}{YP:World->Heap->Prop}{d:DefRec}
 (hn:l.most=some n) (hdf:d.params.defaults=[])
 (call:∀(w:World) (s₀ s₁:Shared) (mg mb:Str->Option Value) (fa:Addr) (o:Obj) (pm cd doc:Value) (a:Addr) (vs:List Value) (ns:List Int),
  Ground q loose [] XP w s₀ mg mb s₁.heap->YP w s₁.heap ->
  s₁.heap.get? fa=some o->o.data=.func (docDef d.name d.params d.body d.scope pm cd doc)->s₁.heap.CodeRec cd d.name->mg d.name=some (.ref fa) ->
  s₁.heap.get? a=some { cls:=.type "list",data:=.seq vs.toArray }->IntsAre vs ns->ns.length<=n->s₁.gens=#[] ->
  codeAny (model l.prog w) callerA (.call (.ref fa) ⟨[.ref a],[]⟩) (fun r s'=>r=.ok (.ret (.bool true))/\OldK s₁.heap s'.heap/\s'.os=s₁.os/\AllBare s'.gens) s₁) :
 WalkO q loose XP YP l.row.toRowW d [] (fun f vs=>PySem.call f vs):=by
 intro w s₀ s₁ mg mb G Y fa o pm cd doc dV kV ho hd hcd hD hmg hg args vals as hpre hlay hrd hwl hlo
 obtain rfl:dV=.none:=Dflts.none hD hdf
 obtain rfl:kV=.none:=Dflts.noKw hD
 obtain⟨a,vs,ns,rfl,rfl,hobj,hints,hlen⟩:=script_of hn hpre hwl
 refine enter_call (codeAny_mono (call w s₀ s₁ mg mb fa o pm cd doc a vs ns G Y ho (fd_plain hd) hcd hmg hobj hints hlen hg) fun r s' hq=>?_)
 obtain⟨rfl,h2,h3,h4⟩:=hq
 exact⟨.inl ⟨.bool true,.bool true,[],rfl,fun _=>rfl,.bool true,post_true l _,fun _=>⟨List.Pairwise.nil,fun _ hm=>(nomatch hm)⟩⟩,h2,h3,h4⟩
section
variable {prog:Program} {w:World} {A:Around} {E:Value->Shared->Prop} {s:Shared} {K:Frag}
end
end Att
namespace L2
open PySem PySem.Spec PyProof.Rows
theorem vals_ints:∀ {vs:List Value} {ns:List Int},IntsAre vs ns->Vals (ns.map V.int) vs
 |_,_,.nil=>.nil
 |_,_,.cons n t h=>.cons ⟨t,rfl⟩ (vals_ints h)
def Only(H:Hp):Prop:=∀b,H b=none\/∃o xs,H b=some (.frz o (.lst xs))
theorem law_call{P:Program}{w:World}{K:PySem.W.Frag}{mg mb:Str->Option Value}{CX:CXT}{k:Nat}{fa a:Addr}{fd:FuncData}{x:Str}{sp:Sp}{s₁:Shared}{vs:List Value}{ns:List Int}
 (KX:K.In s₁.heap) (hns:s₁.heap.Ns mainGlobals mg) (hb:s₁.heap.Ns builtinsNs mb) (hbb:∀x:Str,x ≠ "__name__"->mb x=bootBuiltins x) (hlim:s₁.heap.NoLimit/\s₁.heap.NoDigits) (hg:s₁.gens=#[])
 (ha:s₁.heap.get? a=some { cls:=.type "list",data:=.seq vs.toArray }) (hi:IntsAre vs ns) (hl:ns.length<=sizeLine) (hr:Room k callerA)
 (F:∀base:Heap,K.In base->base.Ns mainGlobals mg->FnOk P w K mg base CX k fa fd [x] sp) (hbind:∀(s:Shared) (u:Value),BindsTo s fd ⟨[u],[]⟩ [(x,u)])
 (hsp:∀H:Hp,Only H->SqL K H a (ns.map V.int)->sp [.ref a] H (fun v _=>v=.bl true) fun _ _ _=>False)
 (hCX:∀H e s',CX [] H s₁ (fun _ _ _=>False) e s'->False) :
 codeAny (model P w) callerA (.call (.ref fa) ⟨[.ref a],[]⟩) (fun r s'=>r=.ok (.ret (.bool true))/\OldK s₁.heap s'.heap/\s'.os=s₁.os/\AllBare s'.gens) s₁:=by
 have rv:=vals_ints hi
 have lenV:=hi.length
 have core:∀H:Hp,Only H->SqL K H a (ns.map V.int)->HOk P w H s₁.heap->(∀b,H b≠none->b=a)->(H a≠none->K.lookup a=none) ->
  codeAny (model P w) callerA (.call (.ref fa) ⟨[.ref a],[]⟩) (fun r s'=>r=.ok (.ret (.bool true))/\OldK s₁.heap s'.heap/\s'.os=s₁.os/\AllBare s'.gens) s₁:=by
  intro H hO hS hok hA hK
  have base_of:∀ {b:Addr} {o:Obj},s₁.heap.get? b=some o->H b=none->(hidT s₁.heap H).get? b=some o:=fun e n=>hidT_get e n
  have noA:∀ {b:Addr} {o:Obj} {es:Array DictEntry} {ep:Nat},s₁.heap.get? b=some o->o.data=.dict es ep->H b=none:=fun {b o es ep} e d=>by
   cases q:H b with
   |none=>rfl
   |some u =>
    have e':b=a:=hA b (by rw[q];simp)
    subst e'
    rw[ha]at e;cases e
    have d':Data.seq vs.toArray _=Data.dict es ep:=d
    cases d'
  have nsK:∀ {b:Addr} {m:Str->Option Value},s₁.heap.Ns b m->(hidT s₁.heap H).Ns b m:=fun {b m} ⟨o,es,ep,e,d,r⟩=>⟨o,es,ep,base_of e (noA e d),d,r⟩
  have hKb:K.In (hidT s₁.heap H):=fun b o e=>base_of (KX b o e) (by
   cases q:H b with
   |none=>rfl
   |some u =>
    have e':b=a:=hA b (by rw[q];simp)
    subst e'
    rw[hK (by rw[q];simp)]at e;cases e)
  have hM:Mod K mg (hidT s₁.heap H):=⟨hKb,nsK hns,⟨mb,nsK hb,hbb⟩,(let ⟨mc,h1,h2⟩:=hlim.1;⟨mc,nsK h1,h2⟩),(let ⟨mc,h1,h2⟩:=hlim.2;⟨mc,nsK h1,h2⟩)⟩
  have e0:Env0 P w K mg (hidT s₁.heap H) callerA [] s₁ H:=⟨rfl,hM,fun b o e=>of_hidT e,Nat.le_of_eq (hidT_size _ _),trivial,fun b hb=>absurd (show b∈([]:List Addr) from hb) (by simp),hok,.of_eq hg⟩
  refine codeAny_mono ((F _ hKb (nsK hns)).run callerA [] s₁ H ⟨[.ref a],[]⟩ [.ref a] [.ref a] _ _ hr e0 (hbind s₁ (.ref a)) (.cons rfl .nil) (hsp H hO hS)) fun r s' h=>?_
  cases r with
  |error e=>exact(hCX H e s' h).elim
  |ok fl =>
   cases fl with
   |next=>exact False.elim h
   |brk=>exact False.elim h
   |cont=>exact False.elim h
   |ret u =>
    obtain⟨v,H',os,bare,un,hok',r',q⟩:=h
    have q':v=.bl true:=q
    subst q'
    obtain rfl:u=Value.bool true:=r'
    refine⟨rfl,OldK.of_keep fun b o e=>?_,os,bare⟩
    cases q:H b with
    |none=>exact un.keep b o e q (by intro z;exact absurd (show b∈([]:List Addr) from z) (by simp)) (by simp)
    |some u =>
     rcases hO b with z|⟨ob,xs,z⟩
     ·rw[q]at z;cases z
     ·have z2:=un.frzs b ob _ z
      obtain⟨e1,_⟩:=hok b _ z
      obtain⟨e2,_⟩:=hok' b _ z2
      rw[e]at e1;cases e1
      exact e2
 cases hk:K.lookup a with
 |some o =>
  have e:=KX a o hk
  rw[ha]at e
  cases e
  refine core (fun _=>none) (fun _=>.inl rfl) (.inr ⟨_,vs.toArray,_,hk,rfl,rfl,rfl,by rw[List.size_toArray,lenV];exact hl,by simpa using rv⟩) (fun b u z=>by have z':(none:Option HO)=some u:=z;cases z') (fun b z=>absurd rfl z) fun z=>absurd rfl z
 |none =>
  refine core (fun b=>if b=a then some (.frz { cls:=.type "list",data:=.seq vs.toArray } (.lst (ns.map V.int))) else none) (fun b=>?_) (.inl (.inr ⟨{ cls:=.type "list",data:=.seq vs.toArray },if_pos rfl⟩)) (fun b u z=>?_) (fun b z=>?_) fun _=>hk
  ·by_cases hb:b=a
   ·exact .inr ⟨_,_,if_pos hb⟩
   ·exact .inl (if_neg hb)
  ·by_cases hb:b=a
   ·have z':=(if_pos hb).symm.trans z
    cases z'
    subst hb
    exact⟨ha,by rw[List.length_map];exact hl,vs,_,rv,ha⟩
   ·have z':=(if_neg hb).symm.trans z
    cases z'
  ·by_cases hb:b=a
   ·exact hb
   ·exact absurd (if_neg hb) z
end L2
namespace L2
open PySem PySem.Spec PyProof.Rows
theorem walk_of{l:PySem.W.OpenLaw}{n k:Nat}{q:Program}{loose:List Str}{XP:(Str->Option Value)->Heap->Prop}{YP:World->Heap->Prop}{d:DefRec}{K:Params->PySem.W.Frag}{CX:World->CXT}{sp:World->Sp}{x:Str}
 (hn:l.most=some n) (hn2:n<=sizeLine) (hdf:d.params.defaults=[]) (hr:Room k callerA)
 (hY:∀(w:World) (h:Heap),YP w h->(K w.params).In h)
 (F:∀(w:World) (mg:Str->Option Value) (fa:Addr) (h:Heap),(K w.params).In h->h.Ns mainGlobals mg->mg d.name=some (.ref fa) ->
  ∃fd:FuncData,(∀(s:Shared) (u:Value),BindsTo s fd ⟨[u],[]⟩ [(x,u)]) /\
   ∀base:Heap,(K w.params).In base->base.Ns mainGlobals mg->FnOk l.prog w (K w.params) mg base (CX w) k fa fd [x] (sp w))
 (hsp:∀(w:World) (H:Hp) (a:Addr) (ns:List Int),ns.length<=n->Only H->SqL (K w.params) H a (ns.map V.int)->sp w [.ref a] H (fun v _=>v=.bl true) fun _ _ _=>False)
 (hCX:∀(w:World) (H:Hp) (s:Shared) (e:Value) (s':Shared),CX w [] H s (fun _ _ _=>False) e s'->False) :
 PySem.W.WalkO q loose XP YP l.row.toRowW d [] (fun f vs=>PySem.call f vs):=by
 refine Att.attach_call hn hdf fun w s₀ s₁ mg mb fa o pm cd doc a vs ns G Y ho hd hcd hmg hobj hints hlen hg=>?_
 have KX:=hY w _ Y
 obtain⟨fd,hb,hF⟩:=F w mg fa _ KX G.T.g hmg
 exact law_call KX G.T.g G.T.b G.T.builtins ⟨G.T.nolimit,G.T.nodigits⟩ hg hobj hints (Nat.le_trans hlen hn2) hr hF hb (fun H hO hS=>hsp w H a ns hlen hO hS) fun H e s'=>hCX w H s₁ e s'
end L2
/- THE LAST THEOREM (shape;LID,My.* are yours):
   My.Adr: a structure of the addresses that your layer names (classes,functions);My.Txt K t: a structure (Prop) of the equations over K;
   My.txt_mk:{K} {implicit addresses ..} (e1:nsIn K mainGlobals "law"=some (some (.ref f))) (e2:K.lookup f=some ⟨oc,od,.func (fnOf "law" "law" params body scope dV kV doc pm an cdv ct),sl⟩) (e3:codeIn K cdv "law"=true) ..:∃t,My.Txt K t
set_option maxRecDepth 100000 in
set_option maxHeartbeats 0 in
theorem PySem.Challenge.cw_LID_holds : PySem.Challenge.rw_LID.Holds := by
 w_on;o_law;k_head;(case hw=>w_witness2)
 k_fill
 refine L2.walk_of (l:=PySem.Challenge.rw_LID) (n:=63) (k:=40) (x:="script") (CX:=fun w=>..) (sp:=fun _=>My.sp_law) rfl (by decide) rfl ⟨rfl,by decide,by decide⟩ (fun w h Y=>PySem.W.kIn_of Y) ?F ?S ?C
 case F =>
  intro w mg fa h KX G hmg
  have T:∃t,My.Txt (L2.KOf KX) t:=by
   dsimp only[L2.KOf]                          -- K must stand as «<heap const> w.params» for k_is
   refine' My.txt_mk ?e1 ?e2 ?e3 ..
   (case e1=>PySem.W.k_is)                    -- in the order: a name -> its address -> its object -> its parts
   (case e2=>PySem.W.k_is)
   ..
  obtain⟨t,T⟩:=T
  have e0:=hmg.symm.trans (PySem.W.mg_of KX G T.law)
  cases e0                                       -- fa is the law's own address
  exact⟨_,fun s u=>.of_eq rfl,fun base kb nb=>My.law_fn T kb nb⟩     -- if «.of_eq rfl» comes too early: refine'⟨_,?b,fun base kb nb=>My.law_fn T kb nb⟩;exact fun s u=>.of_eq rfl
 case S=>exact fun w H a ns hl hO hS=>..
 case C=>exact ..
(the tactic k_is has no namespace: write k_is) -/
namespace L2
open PySem PySem.Spec PyProof.Rows
def defArgs(s:Stmt):Arguments:=match s with
 |.FunctionDef _ a _ _ _ _ _ _ _ _=>a
 |_=>{ posonlyargs:=[],args:=[],vararg:=none,kwonlyargs:=[],kw_defaults:=[],kwarg:=none,defaults:=[] }
def defBody(s:Stmt):List Stmt:=match s with
 |.FunctionDef _ _ b _ _ _ _ _ _ _=>b
 |_=>[]
def defScope(s:Stmt):Scope:=match s with
 |.FunctionDef _ _ _ _ _ _ sc _ _ _=>sc
 |_=>{ kind:=.function,names:=[],isGenerator:=false,isCoroutine:=false }
abbrev E0:XK:=fun _ _ _=>False
structure Fun (K:PySem.W.Frag) (x qual:Str) (st:Stmt) (f:Addr) (fd:FuncData):Prop where
 ex:∃(oc:Value) (od:Option Addr) (kV doc pm:Value) (an:Option Addr) (cdv ct:Value) (osl:Array (Option Value)),
  fd=PySem.W.fnOf x qual (defArgs st) (defBody st) (defScope st) .none kV doc pm an cdv ct/\K.lookup f=some ⟨oc,od,.func fd,osl⟩/\PySem.W.codeIn K cdv qual=true
 kp:PySem.W.keepIn K (.ref f)=true
section
variable {P:Program} {w:World} {K:PySem.W.Frag} {mg:Str->Option Value} {base:Heap}
theorem fun_mk{x qual:Str}{st:Stmt}{f:Addr}{oc:Value}{od an:Option Addr}{osl:Array (Option Value)}{kV doc pm cdv ct:Value}(l:K.lookup f=some ⟨oc,od,.func (PySem.W.fnOf x qual (defArgs st) (defBody st) (defScope st) .none kV doc pm an cdv ct),osl⟩)
 (c:PySem.W.codeIn K cdv qual=true) (k:PySem.W.keepIn K (.ref f)=true):Fun K x qual st f (PySem.W.fnOf x qual (defArgs st) (defBody st) (defScope st) .none kV doc pm an cdv ct):=⟨⟨oc,od,kV,doc,pm,an,cdv,ct,osl,rfl,l,c⟩,k⟩
end
section
variable {X:Cx}
end
def Same(H H':Hp):Prop:=∀b o,H b=some o->H' b=some o
theorem Same.refl(H:Hp):Same H H:=fun _ _ h=>h
theorem Same.trans{H H1 H2:Hp}(a:Same H H1)(b:Same H1 H2):Same H H2:=fun c o h=>b c o (a c o h)
theorem Same.free{H H':Hp}(e:Same H H'){l:Addr}(h:H' l=Option.none):H l=Option.none:=by
 cases q:H l with
 |none=>rfl
 |some o =>
  rw[e l o q]at h
  cases h
theorem Same.seq{K:PySem.W.Frag}{H H':Hp}{a:Addr}{xs:List V}(e:Same H H')(h:SqL K H a xs):SqL K H' a xs:=by
 rcases h with(h|⟨o,h⟩)|h
 ·exact .inl (.inl (e _ _ h))
 ·exact .inl (.inr ⟨o,e _ _ h⟩)
 ·exact .inr h
end L2
noncomputable section
namespace Z
open PySem
inductive D where
 |non|bl (b:Bool)|int (i:Int)|str (x:Str)|tup (xs:List D)|lst (xs:List D)
mutual
def eqD:D->D->Bool
 |.non,.non=>true
 |.bl a,.bl b=>a == b
 |.bl a,.int j=>(if a then 1 else 0) == j
 |.int i,.bl b=>i == (if b then 1 else 0)
 |.int i,.int j=>i == j
 |.str x,.str y=>x == y
 |.tup xs,.tup ys=>eqDs xs ys
 |.lst xs,.lst ys=>eqDs xs ys
 |_,_=>false
def eqDs:List D->List D->Bool
 |[],[]=>true
 |x::xs,y::ys=>eqD x y&&eqDs xs ys
 |_,_=>false
end
mutual
def depD:D->Nat
 |.tup xs=>depDs xs+1
 |.lst xs=>depDs xs+1
 |_=>0
def depDs:List D->Nat
 |[]=>0
 |x::xs=>max (depD x) (depDs xs)
end
mutual
def nol:D->Bool
 |.tup xs=>nols xs
 |.lst _=>false
 |_=>true
def nols:List D->Bool
 |[]=>true
 |x::xs=>nol x&&nols xs
end
structure XD where
 c:Nat
 t:Str
 f:List D
inductive BOp where
 |add|sub|mul|fdiv|mod|shl|shr|band|pow
 deriving DecidableEq
inductive COp where
 |eq|ne|lt|le|gt|ge|isN|notN|isT|notT
 deriving DecidableEq
inductive Bi where
 |abs|max|min|len|int|list|sum|all|any|tuple|str
 deriving DecidableEq
inductive Mt where
 |bitlen
 deriving DecidableEq
inductive Ty where
 |int|bool|tuple|list|str
 deriving DecidableEq
inductive SOp where
 |idx|join|part
 deriving DecidableEq
noncomputable def SOp.nm:SOp->Str
 |.idx=>"index"
 |.join=>"join"
 |.part=>"partition"
inductive Ex where
 |var (i:Nat)
 |cst (d:D)
 |con (k:Nat)
 |bin (o:BOp) (a b:Ex)
 |neg (a:Ex)
 |not (a:Ex)
 |cmp (o:COp) (a b:Ex)
 |and (a b:Ex)
 |or (a b:Ex)
 |ife (c a b:Ex)
 |tup (es:List Ex)
 |lst (es:List Ex)
 |ix (a b:Ex)
 |call (f:Nat) (es:List Ex)
 |bi (f:Bi) (es:List Ex)
 |compR (es:List Ex) (e:Ex)
 |compE (a e:Ex)
 |sm (o:SOp) (a b:Ex)
inductive Sm where
 |nop
 |seq (a b:Sm)
 |set (i:Nat) (e:Ex)
 |ret (e:Ex)
 |ite (c:Ex) (a b:Sm)
 |whl (c:Ex) (b:Sm)
 |forR (i:Nat) (es:List Ex) (b:Sm)
 |brk|cnt
 |never
 |new (i:Nat)
 |app (i:Nat) (e:Ex)
 |shr (i:Nat)
 |raise (x:Str)
inductive Sl where
 |sh (d:D)
 |ow (ds:List D)
 |ot (rows:List (List D))
abbrev Sto:=List (Option Sl)
def getS:Sto->Nat->Option Sl
 |[],_=>none
 |x::_,0=>x
 |_::r,i+1=>getS r i
def setS:Sto->Nat->Option Sl->Sto
 |[],_,_=>[]
 |_::r,0,v=>v::r
 |x::r,i+1,v=>x::setS r i v
abbrev bits(i:Int):Nat:=Builtin.Int.intBits i
def lim:Nat:=16777216
def MulOk(i j:Int):Prop:=bits i<=64\/bits j<=64\/bits i+bits j<=134217728
def ShlOk(i j:Int):Prop:=0<=j/\(bits i:Int)+j<=134217728
def PowOk(i j:Int):Prop:=0<=j/\(bits i:Int)*j<=134217728
def RepOk(n:Nat)(k:Int):Prop:=(-9223372036854775808<=k/\k<9223372036854775808)/\n*k.toNat<=lim
def intD(f:Int->Int->(D->Prop)->Prop):D->D->(D->Prop)->Prop
 |.int i,.int j,Q=>f i j Q
 |_,_,_=>False
def addD:D->D->(D->Prop)->Prop
 |.int i,.int j,Q=>Q (.int (i+j))
 |.str x,.str y,Q=>x.length+y.length<=lim/\Q (.str (x++y))
 |.lst xs,.lst ys,Q=>xs.length+ys.length<=lim/\Q (.lst (xs++ys))
 |_,_,_=>False
def mulD:D->D->(D->Prop)->Prop
 |.int i,.int j,Q=>MulOk i j/\Q (.int (i*j))
 |.lst xs,.int k,Q=>RepOk xs.length k/\Q (.lst (List.replicate k.toNat xs).flatten)
 |.str x,.int k,Q=>RepOk x.length k/\Q (.str ⟨(List.replicate k.toNat x.cps.toList).flatten.toArray⟩)
 |_,_,_=>False
def binD:BOp->D->D->(D->Prop)->Prop
 |.add=>addD
 |.sub=>intD fun i j Q=>Q (.int (i-j))
 |.mul=>mulD
 |.fdiv=>intD fun i j Q=>(j≠0/\bits j<=9000)/\Q (.int (i.fdiv j))
 |.mod=>intD fun i j Q=>j≠0/\Q (.int (i.fmod j))
 |.shl=>intD fun i j Q=>ShlOk i j/\Q (.int (i*2^j.toNat))
 |.shr=>intD fun i j Q=>0<=j/\Q (.int (i / 2^j.toNat))
 |.band=>intD fun i j Q=>Q (.int (Builtin.bitAnd i j))
 |.pow=>intD fun i j Q=>PowOk i j/\Q (.int (i^j.toNat))
noncomputable def isNonD:D->Bool
 |.non=>true
 |_=>false
def nonD(t:Bool):D->D->(D->Prop)->Prop
 |x,.non,Q=>Q (.bl (isNonD x == t))
 |_,_,_=>False
noncomputable def isTD(t:Bool):D->D->(D->Prop)->Prop
 |.bl b,.bl c,Q=>Q (.bl ((b == c) == t))
 |_,_,_=>False
def lexlt(p q:Int×Int):Bool:=decide (p.1<q.1\/(p.1=q.1/\p.2<q.2))
def prD(p:Int×Int):D:=.tup [.int p.1,.int p.2]
noncomputable def sortD:D->(D->Prop)->Prop
 |.lst xs,Q=>xs.length<64/\((∃ns:List Int,xs=ns.map D.int/\∀ms:List Int,ms.Perm ns->ms.Pairwise (·<=·)->Q (.lst (ms.map D.int))) \/
  ∃ps:List (Int×Int),xs=ps.map prD/\∀qs:List (Int×Int),qs.Perm ps->qs.Pairwise (fun a b=>lexlt b a=false)->Q (.lst (qs.map prD)))
 |_,_=>False
def cmpD:COp->D->D->(D->Prop)->Prop
 |.eq=>fun x y Q=>min (depD x) (depD y)<=100/\Q (.bl (eqD x y))
 |.ne=>fun x y Q=>min (depD x) (depD y)<=100/\Q (.bl (!eqD x y))
 |.lt=>intD fun i j Q=>Q (.bl (decide (i<j)))
 |.le=>intD fun i j Q=>Q (.bl (decide (i<=j)))
 |.gt=>intD fun i j Q=>Q (.bl (decide (j<i)))
 |.ge=>intD fun i j Q=>Q (.bl (decide (j<=i)))
 |.isN=>nonD true
 |.notN=>nonD false
 |.isT=>isTD true
 |.notT=>isTD false
def atD(xs:List D)(i:Int):Option D :=
 if 0<=i then xs[i.toNat]? else if -(xs.length:Int)<=i then xs[(i+xs.length).toNat]? else none
def ixD:D->D->(D->Prop)->Prop
 |.lst xs,.int i,Q=>∃d,atD xs i=some d/\Q d
 |.tup xs,.int i,Q=>∃d,atD xs i=some d/\Q d
 |.str x,.int i,Q=>∃c,(x.length<=lim/\0<=i/\x.cps[i.toNat]?=some c)/\Q (.str ⟨#[c]⟩)
 |_,_,_=>False
def tyD:Ty->D->Bool
 |.int,.int _=>true
 |.int,.bl _=>true
 |.bool,.bl _=>true
 |.tuple,.tup _=>true
 |.list,.lst _=>true
 |.str,.str _=>true
 |_,_=>false
def one1(f:D->(D->Prop)->Prop):List D->(D->Prop)->Prop
 |[x],Q=>f x Q
 |_,_=>False
def two2(f:D->D->(D->Prop)->Prop):List D->(D->Prop)->Prop
 |[x,y],Q=>f x y Q
 |_,_=>False
def absD:D->(D->Prop)->Prop
 |.int i,Q=>Q (.int (if i<0 then -i else i))
 |_,_=>False
def lenD:D->(D->Prop)->Prop
 |.lst xs,Q=>Q (.int xs.length)
 |.tup xs,Q=>Q (.int xs.length)
 |.str x,Q=>x.length<=lim/\Q (.int x.length)
 |_,_=>False
def toIntD:D->(D->Prop)->Prop
 |.int i,Q=>Q (.int i)
 |.bl b,Q=>Q (.int (if b then 1 else 0))
 |.str x,Q=>∃v,((x.length<=640\/(640<(PySem.numSeenOf x).length/\x.length<=lim))/\PySem.intText? x=some v)/\Q (.int v)
 |_,_=>False
def toStrD:D->(D->Prop)->Prop
 |.int i,Q=>i.natAbs.log2<1920/\Q (.str (toString i:String))
 |_,_=>False
def toListD:D->(D->Prop)->Prop
 |.lst xs,Q=>Q (.lst xs)
 |.tup xs,Q=>Q (.lst xs)
 |_,_=>False
def toTupD:D->(D->Prop)->Prop
 |.lst xs,Q=>Q (.tup xs)
 |.tup xs,Q=>Q (.tup xs)
 |_,_=>False
def listD(f:List D->(D->Prop)->Prop):D->(D->Prop)->Prop
 |.lst xs,Q=>f xs Q
 |_,_=>False
def pick(mx:Bool)(a b:Int):Int:=if mx then (if b > a then b else a) else (if b<a then b else a)
def mmF(mx:Bool)(d:Int):List Int->Int
 |[]=>d
 |n::ns=>ns.foldl (pick mx) n
def minD:List D->(D->Prop)->Prop
 |[x],Q=>listD (fun xs Q=>∃ns:List Int,xs=ns.map .int/\ns ≠ []/\Q (.int (mmF false 0 ns))) x Q
 |[x,y],Q=>intD (fun i j Q=>Q (.int (if j<i then j else i))) x y Q
 |_,_=>False
def biD:Bi->List D->(D->Prop)->Prop
 |.abs=>one1 absD
 |.max=>two2 (intD fun i j Q=>Q (.int (if j > i then j else i)))
 |.min=>minD
 |.len=>one1 lenD
 |.int=>one1 toIntD
 |.list=>one1 toListD
 |.tuple=>one1 toTupD
 |.str=>one1 toStrD
 |.sum=>one1 (listD fun xs Q=>∃ns:List Int,xs=ns.map .int/\Q (.int ns.sum))
 |.all=>one1 (listD fun xs Q=>∃bs:List Bool,xs=bs.map .bl/\Q (.bl (bs.all id)))
 |.any=>one1 (listD fun xs Q=>∃bs:List Bool,xs=bs.map .bl/\Q (.bl (bs.any id)))
def partS(x y:Str):List D:=match Builtin.Str.occurrences x y 0 x.length 1 with
 |i::_=>[.str (Builtin.Str.strSub x 0 i),.str y,.str (Builtin.Str.strSub x (i+y.length) x.length)]
 |[]=>[.str x,.str Str.empty,.str Str.empty]
def smD:SOp->Str->D->(D->Prop)->Prop
 |.idx,x,.str y,Q=>∃i r,Builtin.Str.occurrences x y 0 x.length 1=i::r/\Q (.int (i:Nat))
 |.join,x,.lst ys,Q=>∃ss:List Str,(x.length=0/\ys=ss.map .str/\(ss.map (·.length)).sum<=lim)/\Q (.str ⟨(ss.map (·.cps.toList)).flatten.toArray⟩)
 |.part,x,.str y,Q=>(y.length≠0/\x.length<=lim)/\Q (.tup (partS x y))
 |_,_,_,_=>False
def strD(x:D)(f:Str->Prop):Prop:=match x with|.str xs=>f xs|_=>False
def mmD(mx:Bool):D->D->(D->Prop)->Prop
 |.lst xs,.int d,Q=>∃ns:List Int,xs=ns.map .int/\Q (.int (mmF mx d ns))
 |_,_,_=>False
def mtD:Mt->D->(D->Prop)->Prop
 |.bitlen,.int i,Q=>Q (.int (bits i))
 |_,_,_=>False
noncomputable def fmtS:D->Option Str
 |.str x=>some x
 |.int i=>if i.natAbs.log2<1920 then some (toString i:String) else none
 |_=>none
structure Ctr where
 pre:List D->Prop
 res:List D->D->Prop
 exn:List D->XD->Prop:=fun _ _=>False
structure Cfg where
 ct:Nat->Ctr
 cn:Nat->D
 fr:Nat->Bool:=fun _=>false
 f2:Nat->Bool:=fun _=>false
 E:XD->Prop:=fun _=>False
def Ctr.wp(c:Ctr)(ds:List D)(Q:D->Prop)(E:XD->Prop):Prop:=c.pre ds/\(∀d,c.res ds d->Q d)/\∀x,c.exn ds x->E x
def itemsD:D->Option (List D)
 |.lst xs=>some xs
 |.tup xs=>some xs
 |.str x=>some (x.cps.toList.map fun c=>.str ⟨#[c]⟩)
 |_=>none
def rangeD(lo st:Int):Nat->List D
 |0=>[]
 |n+1=>.int lo::rangeD (lo+st) st n
def RgOk(i:Int):Prop:=-4611686018427387904<=i/\i<4611686018427387904
def rgD:List D->(List D->Prop)->Prop
 |[.int hi],Q=>RgOk hi/\Q (rangeD 0 1 hi.toNat)
 |[.int lo,.int hi],Q=>(RgOk lo/\RgOk hi)/\Q (rangeD lo 1 (hi-lo).toNat)
 |[.int lo,.int hi,.int st],Q=>(RgOk lo/\RgOk hi/\0<st/\st<1000)/\Q (rangeD lo st (if lo<hi then (hi-lo-1) / st+1 else 0).toNat)
 |_,_=>False
noncomputable def isL(f:List D->Prop):D->Prop
 |.lst xs=>f xs
 |_=>False
def rowsD(rows:List (List D)):D:=.lst (rows.map .lst)
def obD(f:List (List D)->Prop)(p:Prop):Option Sl->Prop
 |some (.ot rows)=>f rows
 |some (.sh _)=>p
 |_=>False
def otD(f:List (List D)->Prop):Option Sl->Prop
 |some (.ot rows)=>f rows
 |_=>False
noncomputable def isB(Q:Bool->Prop):D->Prop
 |.bl k=>Q k
 |_=>False
def compL(f:D->(D->Prop)->Prop):List D->(List D->Prop)->Prop
 |[],Q=>Q []
 |d::ds,Q=>f d fun y=>compL f ds fun ys=>Q (y::ys)
mutual
noncomputable def wpE(C:Cfg):Ex->Sto->(D->Prop)->Prop
 |.var i,σ,Q=>match getS σ i with|some (.sh d)=>Q d|_=>False
 |.cst d,_,Q=>Q d
 |.con k,_,Q=>Q (C.cn k)
 |.bin o a b,σ,Q=>wpE C a σ fun x=>wpE C b σ fun y=>binD o x y Q
 |.neg a,σ,Q=>wpE C a σ fun x=>match x with|.int i=>Q (.int (-i))|_=>False
 |.not a,σ,Q=>wpE C a σ fun x=>match x with|.bl c=>Q (.bl (!c))|_=>False
 |.cmp o a b,σ,Q=>wpE C a σ fun x=>wpE C b σ fun y=>cmpD o x y Q
 |.and a b,σ,Q=>wpE C a σ fun x=>match x with|.bl k=>if k=true then wpE C b σ Q else Q (.bl false)|_=>False
 |.or a b,σ,Q=>wpE C a σ fun x=>match x with|.bl k=>if k=true then Q (.bl true) else wpE C b σ Q|_=>False
 |.ife c a b,σ,Q=>wpE C c σ fun x=>match x with|.bl k=>if k=true then wpE C a σ Q else wpE C b σ Q|_=>False
 |.tup es,σ,Q=>wpEs C es σ fun ds=>Q (.tup ds)
 |.lst es,σ,Q=>wpEs C es σ fun ds=>Q (.lst ds)
 |.ix a b,σ,Q=>wpE C a σ fun x=>wpE C b σ fun y=>ixD x y Q
 |.call f es,σ,Q=>wpEs C es σ fun ds=>(C.ct f).wp ds Q C.E
 |.bi f es,σ,Q=>wpEs C es σ fun ds=>biD f ds Q
 |.compR es e,σ,Q=>wpEs C es σ fun ds=>rgD ds fun xs=>xs.length<=lim/\compL (fun d Q=>wpE C e (σ ++ [some (.sh d)]) Q) xs fun ys=>Q (.lst ys)
 |.compE a e,σ,Q=>wpE C a σ fun d=>∃xs,itemsD d=some xs/\xs.length<=lim/\compL (fun d Q=>wpE C e (σ ++ [some (.sh d)]) Q) xs fun ys=>Q (.lst ys)
 |.sm o a b,σ,Q=>wpE C a σ fun x=>strD x fun x=>wpE C b σ fun y=>smD o x y Q
noncomputable def wpFs(C:Cfg):List Ex->List Nat->Sto->(List Nat->Prop)->Prop
 |[],out,_,Q=>Q out
 |e::es,out,σ,Q=>wpE C e σ fun d=>∃z,(fmtS d=some z/\out.length+z.length<=lim)/\wpFs C es (out++z.cps.toList) σ Q
noncomputable def wpEs(C:Cfg):List Ex->Sto->(List D->Prop)->Prop
 |[],_,Q=>Q []
 |e::es,σ,Q=>wpE C e σ fun d=>wpEs C es σ fun ds=>Q (d::ds)
end
structure DE where
 nx:Sto->Prop
 rt:D->Prop
 bk:Sto->Prop:=fun _=>False
 ct:Sto->Prop:=fun _=>False
 rf:List D->Prop:=fun _=>False
 xn:XD->Prop:=fun _=>False
 rg:List (List D)->Prop:=fun _=>False
def setAll:List Nat->List D->Sto->Option Sto
 |[],[],σ=>some σ
 |i::is,d::ds,σ=>setAll is ds (setS σ i (some (.sh d)))
 |_,_,_=>none
def forL(body:DE->Sto->Prop)(i:Nat)(K:DE):List D->Sto->Prop
 |[],σ=>K.nx σ
 |d::ds,σ=>body { K with nx:=forL body i K ds,ct:=forL body i K ds,bk:=K.nx } (setS σ i (some (.sh d)))
def whileW(c:Sto->(Bool->Prop)->Prop)(body:DE->Sto->Prop)(K:DE)(σ:Sto):Prop :=
 ∃W:Nat->Sto->Prop,(∃m,W m σ)/\∀m σ,W m σ->c σ fun t=>if t=true then
  body { K with nx:=fun σ'=>∃m',m'<m/\W m' σ',ct:=fun σ'=>∃m',m'<m/\W m' σ',bk:=K.nx } σ else K.nx σ
noncomputable def wpN(C:Cfg)(σ:Sto)(f:Nat)(es:List Ex):List (Nat×List Ex)->(D->Prop)->(XD->Prop)->Prop
 |[],Q,E=>wpEs C es σ fun ds=>(C.ct f).wp ds Q E
 |gr::rest,Q,E=>wpN C σ f es rest (fun d=>wpEs C gr.2 σ fun ds=>(C.ct gr.1).wp (d::ds) Q C.E) E
def ocD(f:List D->Prop)(g:List (List D)->Prop):Option Sl->Prop
 |some (.ow ds)=>f ds
 |some (.ot rows)=>g rows
 |_=>False
def ownD(f:List D->Prop):Option Sl->Prop
 |some (.ow ds)=>f ds
 |_=>False
def insD(K:DE)(σ:Sto)(i:Nat)(ds:List D)(v:D):D->Prop
 |.int k=>(0<=k/\k<=ds.length/\ds.length<lim)/\K.nx (setS σ i (some (.ow (ds.take k.toNat++v::ds.drop k.toNat))))
 |_=>False
def app2D(K:DE)(σ:Sto)(i:Nat)(rows:List (List D))(w:(D->Prop)->Prop):D->Prop
 |.int k=>∃row,(0<=k/\rows[k.toNat]?=some row/\row.length<lim)/\w fun y=>K.nx (setS σ i (some (.ot (rows.set k.toNat (row ++ [y])))))
 |_=>False
def popD(K:DE)(σ:Sto)(i j:Nat)(ms ls:List D):D->Prop
 |.int k=>∃d,(0<=k/\ls[k.toNat]?=some d/\ms.length<lim/\k<16777216)/\K.nx (setS (setS σ j (some (.ow (ls.eraseIdx k.toNat)))) i (some (.ow (ms ++ [d]))))
 |_=>False
noncomputable def wpS(C:Cfg):Sm->DE->Sto->Prop
 |.nop,K,σ=>K.nx σ
 |.seq a b,K,σ=>wpS C a { K with nx:=fun σ'=>wpS C b K σ' } σ
 |.set i e,K,σ=>wpE C e σ fun d=>K.nx (setS σ i (some (.sh d)))
 |.ret e,K,σ=>wpE C e σ K.rt
 |.ite c a b,K,σ=>wpE C c σ (isB fun t=>if t=true then wpS C a K σ else wpS C b K σ)
 |.whl c b,K,σ=>whileW (fun σ Q=>wpE C c σ (isB Q)) (fun K σ=>wpS C b K σ) K σ
 |.forR i es b,K,σ=>wpEs C es σ fun ds=>rgD ds fun xs=>forL (fun K σ=>wpS C b K σ) i K xs σ
 |.brk,K,σ=>K.bk σ
 |.cnt,K,σ=>K.ct σ
 |.never,_,_=>False
 |.new i,K,σ=>K.nx (setS σ i (some (.ow [])))
 |.app i e,K,σ=>match getS σ i with|some (.ow ds)=>ds.length<lim/\wpE C e σ fun d=>K.nx (setS σ i (some (.ow (ds ++ [d]))))|_=>False
 |.shr i,K,σ=>match getS σ i with|some (.ow ds)=>K.nx (setS σ i (some (.sh (.lst ds))))|_=>False
 |.raise x,K,_=>K.xn ⟨0,x,[]⟩
theorem intD_mono{f:Int->Int->(D->Prop)->Prop}{x y:D}{Q Q':D->Prop}(hf:∀i j,f i j Q->f i j Q')(w:intD f x y Q):intD f x y Q':=by
 cases x<;>first|exact w.elim|(cases y<;>first|exact w.elim|exact hf _ _ w)
theorem binD_mono{o:BOp}{x y:D}{Q Q':D->Prop}(h:∀d,Q d->Q' d)(w:binD o x y Q):binD o x y Q':=by
 cases o<;>first|exact intD_mono (fun i j z=>h _ z) w|exact intD_mono (fun i j z=>⟨z.1,h _ z.2⟩) w|skip
 ·cases x<;>first|exact w.elim|(cases y<;>first|exact w.elim|exact h _ w|exact⟨w.1,h _ w.2⟩)
 ·cases x<;>first|exact w.elim|(cases y<;>first|exact w.elim|exact h _ w|exact⟨w.1,h _ w.2⟩)
theorem cmpD_mono{o:COp}{x y:D}{Q Q':D->Prop}(h:∀d,Q d->Q' d)(w:cmpD o x y Q):cmpD o x y Q':=by
 cases o<;>first|exact intD_mono (fun i j z=>h _ z) w|exact⟨w.1,h _ w.2⟩|skip
 ·cases y<;>first|exact w.elim|exact h _ w
 ·cases y<;>first|exact w.elim|exact h _ w
 ·cases x<;>first|exact w.elim|(cases y<;>first|exact w.elim|(next k=>cases k<;>first|exact w.elim|exact h _ w))
 ·cases x<;>first|exact w.elim|(cases y<;>first|exact w.elim|(next k=>cases k<;>first|exact w.elim|exact h _ w))
theorem ixD_mono{x y:D}{Q Q':D->Prop}(h:∀d,Q d->Q' d)(w:ixD x y Q):ixD x y Q':=by
 unfold ixD at *
 split at w<;>first|exact⟨w.choose,w.choose_spec.1,h _ w.choose_spec.2⟩|exact w.elim
theorem one1_mono{f:D->(D->Prop)->Prop}{xs:List D}{Q Q':D->Prop}(hf:∀x,f x Q->f x Q')(w:one1 f xs Q):one1 f xs Q':=by
 match xs,w with
 |[x],w=>exact hf x w
theorem two2_mono{f:D->D->(D->Prop)->Prop}{xs:List D}{Q Q':D->Prop}(hf:∀x y,f x y Q->f x y Q')(w:two2 f xs Q):two2 f xs Q':=by
 match xs,w with
 |[x,y],w=>exact hf x y w
theorem minD_mono{Q Q':D->Prop}(h:∀d,Q d->Q' d):∀ {xs:List D},minD xs Q->minD xs Q'
 |[x],w=>by
  cases x<;>first|exact w.elim|exact⟨w.choose,w.choose_spec.1,w.choose_spec.2.1,h _ w.choose_spec.2.2⟩
 |[x,y],w=>intD_mono (fun i j z=>h _ z) w
theorem biD_mono{f:Bi}{xs:List D}{Q Q':D->Prop}(h:∀d,Q d->Q' d)(w:biD f xs Q):biD f xs Q':=by
 cases f<;>first|exact minD_mono h w|exact one1_mono (f:=sortD) (fun x z=>sortD_mono h z) w|exact two2_mono (fun x y z=>intD_mono (fun i j z=>⟨z.1,h _ z.2⟩) z) w|exact two2_mono (fun x y z=>intD_mono (fun i j z=>h _ z) z) w|refine one1_mono (fun x z=>?_) w
 all_goals cases x<;>first|exact z.elim|exact h _ z|exact And.intro z.1 (h _ z.2)|exact⟨z.choose,z.choose_spec.1,h _ z.choose_spec.2⟩
theorem Ctr.wp_mono{c:Ctr}{ds:List D}{Q Q':D->Prop}{E:XD->Prop}(h:∀d,Q d->Q' d)(w:c.wp ds Q E):c.wp ds Q' E:=⟨w.1,fun d r=>h d (w.2.1 d r),w.2.2⟩
theorem isB_mono{Q Q':Bool->Prop}(h:∀k,Q k->Q' k){d:D}(w:isB Q d):isB Q' d:=by
 cases d<;>first|exact h _ w|exact w.elim
theorem rgD_mono{ds:List D}{Q Q':List D->Prop}(h:∀d,Q d->Q' d)(w:rgD ds Q):rgD ds Q':=by
 unfold rgD at *
 split at w
 ·exact⟨w.1,h _ w.2⟩
 ·exact⟨w.1,h _ w.2⟩
 ·exact⟨w.1,h _ w.2⟩
 ·exact w.elim
theorem compL_mono{f:D->(D->Prop)->Prop}(hf:∀d {Q Q':D->Prop},(∀y,Q y->Q' y)->f d Q->f d Q'):∀(xs:List D) {Q Q':List D->Prop},(∀ys,Q ys->Q' ys)->compL f xs Q->compL f xs Q'
 |[],Q,Q',h,w=>h _ w
 |d::ds,Q,Q',h,w=>hf d (fun y wy=>compL_mono hf ds (fun ys=>h _) wy) w
theorem smD_mono{o:SOp}{x:Str}{y:D}{Q Q':D->Prop}(k:∀d,Q d->Q' d)(w:smD o x y Q):smD o x y Q':=by
 unfold smD at *
 split at w
 ·obtain⟨i,r,e,q⟩:=w
  exact⟨i,r,e,k _ q⟩
 ·obtain⟨ss,e,q⟩:=w
  exact⟨ss,e,k _ q⟩
 ·exact⟨w.1,k _ w.2⟩
 ·exact w.elim
mutual
theorem wpE_mono{C:Cfg}:∀(e:Ex) {σ:Sto} {Q Q':D->Prop},(∀d,Q d->Q' d)->wpE C e σ Q->wpE C e σ Q'
 |.var i,σ,Q,Q',h,w=>by
  unfold wpE at *
  cases g:getS σ i with
  |none=>rw[g]at w;exact w.elim
  |some z=>rw[g]at w;cases z<;>first|exact h _ w|exact w.elim
 |.cst d,σ,Q,Q',h,w=>by unfold wpE at *;exact h _ w
 |.con k,σ,Q,Q',h,w=>by unfold wpE at *;exact h _ w
 |.bin o a b,σ,Q,Q',h,w=>by
  unfold wpE at *
  exact wpE_mono a (fun x wx=>wpE_mono b (fun y wy=>binD_mono h wy) wx) w
 |.neg a,σ,Q,Q',h,w=>by
  unfold wpE at *
  exact wpE_mono a (fun x wx=>by cases x<;>first|exact h _ wx|exact wx.elim) w
 |.not a,σ,Q,Q',h,w=>by
  unfold wpE at *
  exact wpE_mono a (fun x wx=>by cases x<;>first|exact h _ wx|exact wx.elim) w
 |.cmp o a b,σ,Q,Q',h,w=>by
  unfold wpE at *
  exact wpE_mono a (fun x wx=>wpE_mono b (fun y wy=>cmpD_mono h wy) wx) w
 |.and a b,σ,Q,Q',h,w=>by
  unfold wpE at *
  refine wpE_mono a (fun x wx=>?_) w
  cases x with
  |bl k=>cases k with
   |true=>exact wpE_mono b h wx
   |false=>exact h _ wx
  |_=>exact wx.elim
 |.or a b,σ,Q,Q',h,w=>by
  unfold wpE at *
  refine wpE_mono a (fun x wx=>?_) w
  cases x with
  |bl k=>cases k with
   |true=>exact h _ wx
   |false=>exact wpE_mono b h wx
  |_=>exact wx.elim
 |.ife c a b,σ,Q,Q',h,w=>by
  unfold wpE at *
  refine wpE_mono c (fun x wx=>?_) w
  cases x with
  |bl k=>cases k with
   |true=>exact wpE_mono a h wx
   |false=>exact wpE_mono b h wx
  |_=>exact wx.elim
 |.tup es,σ,Q,Q',h,w=>by unfold wpE at *;exact wpEs_mono es (fun ds=>h _) w
 |.lst es,σ,Q,Q',h,w=>by unfold wpE at *;exact wpEs_mono es (fun ds=>h _) w
 |.ix a b,σ,Q,Q',h,w=>by
  unfold wpE at *
  exact wpE_mono a (fun x wx=>wpE_mono b (fun y wy=>ixD_mono h wy) wx) w
 |.call f es,σ,Q,Q',h,w=>by unfold wpE at *;exact wpEs_mono es (fun ds=>Ctr.wp_mono h) w
 |.bi f es,σ,Q,Q',h,w=>by unfold wpE at *;exact wpEs_mono es (fun ds=>biD_mono h) w
 |.compR es e,σ,Q,Q',h,w=>by
  unfold wpE at *
  exact wpEs_mono es (fun ds=>rgD_mono fun xs wx=>⟨wx.1,compL_mono (f:=fun d Q=>wpE C e (σ ++ [some (.sh d)]) Q) (fun d _ _ hq=>wpE_mono e hq) xs (fun ys=>h _) wx.2⟩) w
 |.compE a e,σ,Q,Q',h,w=>by
  unfold wpE at *
  exact wpE_mono a (fun d ⟨xs,e1,wx⟩=>⟨xs,e1,wx.1,compL_mono (f:=fun d Q=>wpE C e (σ ++ [some (.sh d)]) Q) (fun d _ _ hq=>wpE_mono e hq) xs (fun ys=>h _) wx.2⟩) w
 |.sm o a b,σ,Q,Q',h,w=>by
  unfold wpE at *
  refine wpE_mono a (fun x wx=>?_) w
  cases x<;>first|exact wx.elim|exact wpE_mono b (fun y wy=>smD_mono h wy) wx
theorem wpFs_mono{C:Cfg}:∀(es:List Ex) {out:List Nat} {σ:Sto} {Q Q':List Nat->Prop},(∀d,Q d->Q' d)->wpFs C es out σ Q->wpFs C es out σ Q'
 |[],out,σ,Q,Q',h,w=>by unfold wpFs at *;exact h _ w
 |e::es,out,σ,Q,Q',h,w=>by
  unfold wpFs at *
  exact wpE_mono e (fun d ⟨z,a,wd⟩=>⟨z,a,wpFs_mono es h wd⟩) w
theorem wpEs_mono{C:Cfg}:∀(es:List Ex) {σ:Sto} {Q Q':List D->Prop},(∀d,Q d->Q' d)->wpEs C es σ Q->wpEs C es σ Q'
 |[],σ,Q,Q',h,w=>by unfold wpEs at *;exact h _ w
 |e::es,σ,Q,Q',h,w=>by
  unfold wpEs at *
  exact wpE_mono e (fun d wd=>wpEs_mono es (fun ds=>h _) wd) w
end
structure DE.le (K K':DE):Prop where
 nx:∀σ,K.nx σ->K'.nx σ
 rt:∀d,K.rt d->K'.rt d
 bk:∀σ,K.bk σ->K'.bk σ
 ct:∀σ,K.ct σ->K'.ct σ
 rf:∀ds,K.rf ds->K'.rf ds
 xn:∀x,K.xn x->K'.xn x:=by exact fun _ z=>z
 rg:∀rows,K.rg rows->K'.rg rows:=by exact fun _ z=>z
theorem forL_mono{body:DE->Sto->Prop}(hb:∀K K' σ,DE.le K K'->body K σ->body K' σ){i:Nat}{K K':DE}(h:DE.le K K'):∀(xs:List D) {σ:Sto},forL body i K xs σ->forL body i K' xs σ
 |[],σ,w=>h.nx _ w
 |d::ds,σ,w=>by
  unfold forL at *
  refine hb _ _ _ ?_ w
  exact⟨fun _=>forL_mono hb h ds,h.rt,h.nx,fun _=>forL_mono hb h ds,h.rf,h.xn,h.rg⟩
theorem wpN_mono{C:Cfg}{σ:Sto}{f:Nat}{es:List Ex}:∀(fs:List (Nat×List Ex)) {Q Q':D->Prop} {E E':XD->Prop},(∀d,Q d->Q' d)->(∀y,E y->E' y)->wpN C σ f es fs Q E->wpN C σ f es fs Q' E'
 |[],Q,Q',E,E',h,h',w=>by
  unfold wpN at *
  exact wpEs_mono es (fun ds wd=>⟨wd.1,fun d r=>h _ (wd.2.1 d r),fun y r=>h' _ (wd.2.2 y r)⟩) w
 |gr::rest,Q,Q',E,E',h,h',w=>by
  unfold wpN at *
  exact wpN_mono rest (fun d=>wpEs_mono gr.2 fun ds=>Ctr.wp_mono h) h' w
theorem wpS_mono{C:Cfg}:∀(s:Sm) {K K':DE} {σ:Sto},DE.le K K'->wpS C s K σ->wpS C s K' σ
 |.nop,K,K',σ,h,w=>by unfold wpS at *;exact h.nx _ w
 |.seq a b,K,K',σ,h,w=>by
  unfold wpS at *
  refine wpS_mono a ?_ w
  exact⟨fun _=>wpS_mono b h,h.rt,h.bk,h.ct,h.rf,h.xn,h.rg⟩
 |.set i e,K,K',σ,h,w=>by unfold wpS at *;exact wpE_mono e (fun _=>h.nx _) w
 |.ret e,K,K',σ,h,w=>by unfold wpS at *;exact wpE_mono e h.rt w
 |.ite c a b,K,K',σ,h,w=>by
  unfold wpS at *
  refine wpE_mono c (fun d=>isB_mono fun k wk=>?_) w
  cases k with
  |true=>exact wpS_mono a h wk
  |false=>exact wpS_mono b h wk
 |.whl c b,K,K',σ,h,w=>by
  unfold wpS at *
  obtain⟨W,w0,turn⟩:=w
  refine⟨W,w0,fun m σ hW=>wpE_mono c (fun d=>isB_mono fun k wk=>?_) (turn m σ hW)⟩
  cases k with
  |true =>
   refine wpS_mono b ?_ wk
   exact⟨fun _ z=>z,h.rt,h.nx,fun _ z=>z,h.rf,h.xn,h.rg⟩
  |false=>exact h.nx _ wk
 |.forR i es b,K,K',σ,h,w=>by
  unfold wpS at *
  exact wpEs_mono es (fun ds=>rgD_mono fun xs=>forL_mono (body:=fun K σ=>wpS C b K σ) (fun K K' σ h=>wpS_mono b h) h xs) w
 |.brk,K,K',σ,h,w=>by unfold wpS at *;exact h.bk _ w
 |.cnt,K,K',σ,h,w=>by unfold wpS at *;exact h.ct _ w
 |.never,K,K',σ,h,w=>by unfold wpS at *;exact w.elim
 |.new i,K,K',σ,h,w=>by unfold wpS at *;exact h.nx _ w
 |.app i e,K,K',σ,h,w=>by
  unfold wpS at *
  cases g:getS σ i with
  |none=>rw[g]at w;exact w.elim
  |some z =>
   rw[g]at w
   cases z with
   |sh d=>exact w.elim
   |ot _=>exact w.elim
   |ow ds=>exact⟨w.1,wpE_mono e (fun _=>h.nx _) w.2⟩
 |.shr i,K,K',σ,h,w=>by
  unfold wpS at *
  cases g:getS σ i with
  |none=>rw[g]at w;exact w.elim
  |some z =>
   rw[g]at w
   cases z with
   |sh d=>exact w.elim
   |ot _=>exact w.elim
   |ow ds=>exact h.nx _ w
 |.raise x,K,K',σ,h,w=>by unfold wpS at *;exact h.xn _ w
end Z
namespace Z
open PySem
theorem bits_def(i:Int):bits i=if i=0 then 0 else i.natAbs.log2+1:=by
 unfold bits Builtin.Int.intBits
 by_cases h:i=0
 ·simp[h]
 ·simp[h]
theorem bits_le_iff{i:Int}{n:Nat}:bits i<=n ↔ i.natAbs<2^n:=by
 rw[bits_def]
 by_cases h:i=0
 ·subst h;simp[Nat.two_pow_pos]
 ·rw[if_neg h]
  have h0:i.natAbs≠0:=by omega
  rw[<- Nat.log2_lt h0]
  omega
theorem lt_bits(i:Int):i.natAbs<2^bits i:=bits_le_iff.mp (Nat.le_refl _)
theorem bits_neg(i:Int):bits (-i)=bits i:=by
 rw[bits_def,bits_def,Int.natAbs_neg]
 by_cases h:i=0
 ·simp[h]
 ·rw[if_neg h,if_neg (by omega)]
theorem bits_mono{a b:Int}(h:a.natAbs<=b.natAbs):bits a<=bits b:=by
 rw[bits_le_iff];have:=lt_bits b;omega
theorem bits_pow_lt{n:Nat}{i:Int}(h0:0<=i)(h:i<2^n):bits i<=n:=by
 rw[bits_le_iff]
 have:(i.natAbs:Int)<2^n:=by omega
 exact_mod_cast this
theorem two_pow_pos(n:Nat):(0:Int)<2^n:=by
 have:=Nat.two_pow_pos n
 exact_mod_cast this
theorem fmod_pos{a b:Int}(h:0<=b):a.fmod b=a%b:=Int.fmod_eq_emod_of_nonneg a h
end Z
namespace Z
open PySem
def startS(n:Nat)(ds:List D):Sto:=ds.map (fun d=>some (.sh d))++List.replicate (n-ds.length) none
def Keeps(C:Cfg)(n:Nat)(b:Sm)(c:Ctr):Prop:=∀ds,c.pre ds->wpS C b { nx:=fun _=>c.res ds .non,rt:=c.res ds } (startS n ds)
def KeepsF(C:Cfg)(n:Nat)(b:Sm)(c:Ctr):Prop:=∀ds,c.pre ds->wpS C b { nx:=fun _=>False,rt:=fun _=>False,rf:=fun xs=>c.res ds (.lst xs) } (startS n ds)
def KeepsG(C:Cfg)(n:Nat)(b:Sm)(c:Ctr):Prop:=∀ds,c.pre ds->wpS C b { nx:=fun _=>False,rt:=fun _=>False,rg:=fun rows=>c.res ds (rowsD rows) } (startS n ds)
def KeepsX(C:Cfg)(n:Nat)(b:Sm)(c:Ctr):Prop:=∀ds,c.pre ds->wpS C b { nx:=fun _=>c.res ds .non,rt:=c.res ds,xn:=c.exn ds } (startS n ds)
def KeepsQ(C:Cfg)(n:Nat)(b:Sm)(c:Ctr):Prop:=∀ds,c.pre ds->wpS C b { nx:=fun _=>False,rt:=fun d=>nol d=true/\c.res ds d,rg:=fun rows=>c.res ds (rowsD rows),xn:=c.exn ds } (startS n ds)
section
variable {C:Cfg} {K:DE} {σ:Sto}
theorem ws_raise{x:Str}:wpS C (.raise x) K σ=K.xn ⟨0,x,[]⟩:=by rw[wpS]
theorem ws_nop:wpS C .nop K σ=K.nx σ:=by unfold wpS;rfl
theorem ws_seq{a b:Sm}:wpS C (.seq a b) K σ=wpS C a { K with nx:=fun σ'=>wpS C b K σ' } σ:=by rw[wpS]
theorem ws_set{i:Nat}{e:Ex}:wpS C (.set i e) K σ=wpE C e σ fun d=>K.nx (setS σ i (some (.sh d))):=by rw[wpS]
def unpD(is:List Nat)(K:DE)(σ:Sto):D->Prop
 |.tup ds=>∃σ',setAll is ds σ=some σ'/\K.nx σ'
 |.lst ds=>∃σ',setAll is ds σ=some σ'/\K.nx σ'
 |_=>False
theorem ws_ret{e:Ex}:wpS C (.ret e) K σ=wpE C e σ K.rt:=by rw[wpS]
theorem ws_ite{c:Ex}{a b:Sm}:wpS C (.ite c a b) K σ=wpE C c σ (isB fun t=>if t=true then wpS C a K σ else wpS C b K σ):=by rw[wpS]
theorem ws_brk:wpS C .brk K σ=K.bk σ:=by unfold wpS;rfl
theorem ws_cnt:wpS C .cnt K σ=K.ct σ:=by unfold wpS;rfl
theorem ws_never:wpS C .never K σ=False:=by unfold wpS;rfl
def appD(K:DE)(σ:Sto)(i:Nat)(w:(D->Prop)->Prop):Option Sl->Prop
 |some (.ow ds)=>ds.length<lim/\w fun d=>K.nx (setS σ i (some (.ow (ds ++ [d]))))
 |_=>False
def stoD(K:DE)(σ:Sto)(i:Nat)(ds:List D)(d:D):D->Prop
 |.int k=>(0<=k/\k<ds.length)/\K.nx (setS σ i (some (.ow (ds.set k.toNat d))))
 |_=>False
def stoW(K:DE)(σ:Sto)(i:Nat)(w:(D->Prop)->Prop)(u:(D->Prop)->Prop):Option Sl->Prop
 |some (.ow ds)=>w fun d=>u (stoD K σ i ds d)
 |_=>False
theorem appD_ow{i:Nat}{w:(D->Prop)->Prop}{ds:List D}:appD K σ i w (some (.ow ds))=(ds.length<lim/\w fun d=>K.nx (setS σ i (some (.ow (ds ++ [d]))))):=rfl
theorem stoD_int{i:Nat}{ds:List D}{d:D}{k:Int}:stoD K σ i ds d (.int k)=((0<=k/\k<ds.length)/\K.nx (setS σ i (some (.ow (ds.set k.toNat d))))):=rfl
theorem stoW_ow{i:Nat}{w u:(D->Prop)->Prop}{ds:List D}:stoW K σ i w u (some (.ow ds))=w fun d=>u (stoD K σ i ds d):=rfl
theorem ownD_ow{f:List D->Prop}{ds:List D}:ownD f (some (.ow ds))=f ds:=rfl
theorem ws_new{i:Nat}:wpS C (.new i) K σ=K.nx (setS σ i (some (.ow []))):=by rw[wpS]
theorem ws_app{i:Nat}{e:Ex}:wpS C (.app i e) K σ=appD K σ i (wpE C e σ) (getS σ i):=by
 rw[wpS]
 unfold appD
 cases getS σ i with
 |none=>rfl
 |some z=>cases z<;>rfl
theorem ws_shr{i:Nat}:wpS C (.shr i) K σ=ownD (fun ds=>K.nx (setS σ i (some (.sh (.lst ds))))) (getS σ i):=by
 rw[wpS]
 unfold ownD
 cases getS σ i with
 |none=>rfl
 |some z=>cases z<;>rfl
theorem ws_seq_set{i:Nat}{e:Ex}{b:Sm}:wpS C (.seq (.set i e) b) K σ=wpE C e σ fun d=>wpS C b K (setS σ i (some (.sh d))):=by rw[ws_seq,ws_set]
theorem ws_seq_ret{e:Ex}{b:Sm}:wpS C (.seq (.ret e) b) K σ=wpE C e σ K.rt:=by rw[ws_seq,ws_ret]
theorem ws_seq_new{i:Nat}{b:Sm}:wpS C (.seq (.new i) b) K σ=wpS C b K (setS σ i (some (.ow []))):=by rw[ws_seq,ws_new]
theorem ws_seq_app{i:Nat}{e:Ex}{b:Sm}:wpS C (.seq (.app i e) b) K σ=appD { K with nx:=fun σ'=>wpS C b K σ' } σ i (wpE C e σ) (getS σ i):=by rw[ws_seq,ws_app]
theorem ws_seq_shr{i:Nat}{b:Sm}:wpS C (.seq (.shr i) b) K σ=ownD (fun ds=>wpS C b K (setS σ i (some (.sh (.lst ds))))) (getS σ i):=by rw[ws_seq,ws_shr]
theorem isL_lst{f:List D->Prop}{xs:List D}:isL f (.lst xs)=f xs:=rfl
theorem insD_int{i:Nat}{ds:List D}{d:D}{k:Int}:insD K σ i ds d (.int k)=((0<=k/\k<=ds.length/\ds.length<lim)/\K.nx (setS σ i (some (.ow (ds.take k.toNat++d::ds.drop k.toNat))))):=rfl
theorem obD_ot{f:List (List D)->Prop}{p:Prop}{rows:List (List D)}:obD f p (some (.ot rows))=f rows:=rfl
theorem obD_sh{f:List (List D)->Prop}{p:Prop}{d:D}:obD f p (some (.sh d))=p:=rfl
theorem ocD_ow{f:List D->Prop}{g:List (List D)->Prop}{ds:List D}:ocD f g (some (.ow ds))=f ds:=rfl
theorem ocD_ot{f:List D->Prop}{g:List (List D)->Prop}{rows:List (List D)}:ocD f g (some (.ot rows))=g rows:=rfl
theorem otD_ot{f:List (List D)->Prop}{rows:List (List D)}:otD f (some (.ot rows))=f rows:=rfl
theorem app2D_int{i:Nat}{rows:List (List D)}{w:(D->Prop)->Prop}{k:Int}:app2D K σ i rows w (.int k)=∃row,(0<=k/\rows[k.toNat]?=some row/\row.length<lim)/\w fun y=>K.nx (setS σ i (some (.ot (rows.set k.toNat (row ++ [y]))))):=rfl
theorem popD_int{i j:Nat}{ms ls:List D}{k:Int}:popD K σ i j ms ls (.int k)=∃d,(0<=k/\ls[k.toNat]?=some d/\ms.length<lim/\k<16777216)/\K.nx (setS (setS σ j (some (.ow (ls.eraseIdx k.toNat)))) i (some (.ow (ms ++ [d])))):=rfl
end
theorem whileW_by{c:Sto->(Bool->Prop)->Prop}{body:DE->Sto->Prop}{K:DE}{σ:Sto}(P:Sto->Prop)(μ:Sto->Nat)(h0:P σ)
 (hs:∀σ,P σ->c σ fun t=>if t=true then body { K with nx:=fun σ'=>μ σ'<μ σ/\P σ',ct:=fun σ'=>μ σ'<μ σ/\P σ',bk:=K.nx } σ else K.nx σ)
 (hc:∀σ Q Q',(∀t,Q t->Q' t)->c σ Q->c σ Q') (hb:∀K K' σ,DE.le K K'->body K σ->body K' σ):whileW c body K σ:=by
 refine⟨fun m σ=>m=μ σ/\P σ,⟨_,rfl,h0⟩,?_⟩
 rintro m σ ⟨rfl,p⟩
 refine hc σ _ _ (fun t w=>?_) (hs σ p)
 cases t with
 |true =>
  refine hb _ _ _ ?_ w
  exact⟨fun σ' ⟨l,p'⟩=>⟨_,l,rfl,p'⟩,fun _ z=>z,fun _ z=>z,fun σ' ⟨l,p'⟩=>⟨_,l,rfl,p'⟩,fun _ z=>z,fun _ z=>z,fun _ z=>z⟩
 |false=>exact w
theorem whl_by{C:Cfg}{c:Ex}{b:Sm}{K:DE}{σ:Sto}(P:Sto->Prop)(μ:Sto->Nat)(h0:P σ)
 (hs:∀σ,P σ->wpE C c σ (isB fun t=>if t=true then wpS C b { K with nx:=fun σ'=>μ σ'<μ σ/\P σ',ct:=fun σ'=>μ σ'<μ σ/\P σ',bk:=K.nx } σ else K.nx σ)):wpS C (.whl c b) K σ:=by
 unfold wpS
 exact whileW_by P μ h0 hs (fun σ Q Q' h w=>wpE_mono c (fun d=>isB_mono h) w) fun K K' σ h w=>wpS_mono b h w
theorem eq_non_non:eqD .non .non=true:=by unfold eqD;rfl
theorem eq_non_bl{v:Bool}:eqD .non (.bl v)=false:=by unfold eqD;rfl
theorem eq_non_int{v:Int}:eqD .non (.int v)=false:=by unfold eqD;rfl
theorem eq_non_str{v:Str}:eqD .non (.str v)=false:=by unfold eqD;rfl
theorem eq_non_tup{v:List D}:eqD .non (.tup v)=false:=by unfold eqD;rfl
theorem eq_non_lst{v:List D}:eqD .non (.lst v)=false:=by unfold eqD;rfl
theorem eq_bl_non{u:Bool}:eqD (.bl u) .non=false:=by unfold eqD;rfl
theorem eq_bl_bl{u:Bool}{v:Bool}:eqD (.bl u) (.bl v)=(u == v):=by unfold eqD;rfl
theorem eq_bl_int{u:Bool}{v:Int}:eqD (.bl u) (.int v)=((if u then 1 else 0) == v):=by unfold eqD;rfl
theorem eq_bl_str{u:Bool}{v:Str}:eqD (.bl u) (.str v)=false:=by unfold eqD;rfl
theorem eq_bl_tup{u:Bool}{v:List D}:eqD (.bl u) (.tup v)=false:=by unfold eqD;rfl
theorem eq_bl_lst{u:Bool}{v:List D}:eqD (.bl u) (.lst v)=false:=by unfold eqD;rfl
theorem eq_int_non{u:Int}:eqD (.int u) .non=false:=by unfold eqD;rfl
theorem eq_int_bl{u:Int}{v:Bool}:eqD (.int u) (.bl v)=(u == (if v then 1 else 0)):=by unfold eqD;rfl
theorem eq_int_int{u:Int}{v:Int}:eqD (.int u) (.int v)=(u == v):=by unfold eqD;rfl
theorem eq_int_str{u:Int}{v:Str}:eqD (.int u) (.str v)=false:=by unfold eqD;rfl
theorem eq_int_tup{u:Int}{v:List D}:eqD (.int u) (.tup v)=false:=by unfold eqD;rfl
theorem eq_int_lst{u:Int}{v:List D}:eqD (.int u) (.lst v)=false:=by unfold eqD;rfl
theorem eq_str_non{u:Str}:eqD (.str u) .non=false:=by unfold eqD;rfl
theorem eq_str_bl{u:Str}{v:Bool}:eqD (.str u) (.bl v)=false:=by unfold eqD;rfl
theorem eq_str_int{u:Str}{v:Int}:eqD (.str u) (.int v)=false:=by unfold eqD;rfl
theorem eq_str_str{u:Str}{v:Str}:eqD (.str u) (.str v)=(u == v):=by unfold eqD;rfl
theorem eq_str_tup{u:Str}{v:List D}:eqD (.str u) (.tup v)=false:=by unfold eqD;rfl
theorem eq_str_lst{u:Str}{v:List D}:eqD (.str u) (.lst v)=false:=by unfold eqD;rfl
theorem eq_tup_non{u:List D}:eqD (.tup u) .non=false:=by unfold eqD;rfl
theorem eq_tup_bl{u:List D}{v:Bool}:eqD (.tup u) (.bl v)=false:=by unfold eqD;rfl
theorem eq_tup_int{u:List D}{v:Int}:eqD (.tup u) (.int v)=false:=by unfold eqD;rfl
theorem eq_tup_str{u:List D}{v:Str}:eqD (.tup u) (.str v)=false:=by unfold eqD;rfl
theorem eq_tup_tup{u:List D}{v:List D}:eqD (.tup u) (.tup v)=eqDs u v:=by unfold eqD;rfl
theorem eq_tup_lst{u:List D}{v:List D}:eqD (.tup u) (.lst v)=false:=by unfold eqD;rfl
theorem eq_lst_non{u:List D}:eqD (.lst u) .non=false:=by unfold eqD;rfl
theorem eq_lst_bl{u:List D}{v:Bool}:eqD (.lst u) (.bl v)=false:=by unfold eqD;rfl
theorem eq_lst_int{u:List D}{v:Int}:eqD (.lst u) (.int v)=false:=by unfold eqD;rfl
theorem eq_lst_str{u:List D}{v:Str}:eqD (.lst u) (.str v)=false:=by unfold eqD;rfl
theorem eq_lst_tup{u:List D}{v:List D}:eqD (.lst u) (.tup v)=false:=by unfold eqD;rfl
theorem eq_lst_lst{u:List D}{v:List D}:eqD (.lst u) (.lst v)=eqDs u v:=by unfold eqD;rfl
theorem eqs_nn:eqDs [] []=true:=by unfold eqDs;rfl
theorem eqs_nc{y:D}{ys:List D}:eqDs [] (y::ys)=false:=by unfold eqDs;rfl
theorem eqs_cn{y:D}{ys:List D}:eqDs (y::ys) []=false:=by unfold eqDs;rfl
theorem eqs_cc{x y:D}{xs ys:List D}:eqDs (x::xs) (y::ys)=(eqD x y&&eqDs xs ys):=by rw[eqDs]
theorem dep_non:depD .non=0:=by unfold depD;rfl
theorem dep_bl{u:Bool}:depD (.bl u)=0:=by unfold depD;rfl
theorem dep_int{u:Int}:depD (.int u)=0:=by unfold depD;rfl
theorem dep_str{u:Str}:depD (.str u)=0:=by unfold depD;rfl
theorem dep_tup{u:List D}:depD (.tup u)=depDs u+1:=by unfold depD;rfl
theorem dep_lst{u:List D}:depD (.lst u)=depDs u+1:=by unfold depD;rfl
theorem deps_n:depDs []=0:=by unfold depDs;rfl
theorem deps_c{x:D}{xs:List D}:depDs (x::xs)=max (depD x) (depDs xs):=by rw[depDs]
section
variable {Q:D->Prop} {i j:Int}
theorem bin_add:binD .add (.int i) (.int j) Q=Q (.int (i+j)):=rfl
theorem bin_adds{x y:Str}:binD .add (.str x) (.str y) Q=(x.length+y.length<=lim/\Q (.str (x++y))):=rfl
theorem bin_addl{x y:List D}:binD .add (.lst x) (.lst y) Q=(x.length+y.length<=lim/\Q (.lst (x++y))):=rfl
theorem bin_sub:binD .sub (.int i) (.int j) Q=Q (.int (i-j)):=rfl
theorem bin_mul:binD .mul (.int i) (.int j) Q=(MulOk i j/\Q (.int (i*j))):=rfl
theorem bin_mull{x:List D}{k:Int}:binD .mul (.lst x) (.int k) Q=(RepOk x.length k/\Q (.lst (List.replicate k.toNat x).flatten)):=rfl
theorem bin_fdiv:binD .fdiv (.int i) (.int j) Q=((j≠0/\bits j<=9000)/\Q (.int (i.fdiv j))):=rfl
theorem bin_mod:binD .mod (.int i) (.int j) Q=(j≠0/\Q (.int (i.fmod j))):=rfl
theorem bin_shl:binD .shl (.int i) (.int j) Q=(ShlOk i j/\Q (.int (i*2^j.toNat))):=rfl
theorem bin_shr:binD .shr (.int i) (.int j) Q=(0<=j/\Q (.int (i / 2^j.toNat))):=rfl
theorem bin_band:binD .band (.int i) (.int j) Q=Q (.int (Builtin.bitAnd i j)):=rfl
theorem bin_pow:binD .pow (.int i) (.int j) Q=(PowOk i j/\Q (.int (i^j.toNat))):=rfl
theorem cmp_eq{x y:D}:cmpD .eq x y Q=(min (depD x) (depD y)<=100/\Q (.bl (eqD x y))):=rfl
theorem cmp_ne{x y:D}:cmpD .ne x y Q=(min (depD x) (depD y)<=100/\Q (.bl (!eqD x y))):=rfl
theorem cmp_lt:cmpD .lt (.int i) (.int j) Q=Q (.bl (decide (i<j))):=rfl
theorem cmp_le:cmpD .le (.int i) (.int j) Q=Q (.bl (decide (i<=j))):=rfl
theorem cmp_gt:cmpD .gt (.int i) (.int j) Q=Q (.bl (decide (j<i))):=rfl
theorem cmp_ge:cmpD .ge (.int i) (.int j) Q=Q (.bl (decide (j<=i))):=rfl
theorem cmp_isT{b:Bool}:cmpD .isT (.bl b) (.bl true) Q=Q (.bl b):=by cases b<;>rfl
theorem cmp_notT{b:Bool}:cmpD .notT (.bl b) (.bl true) Q=Q (.bl (!b)):=by cases b<;>rfl
theorem ix_lst{xs:List D}:ixD (.lst xs) (.int i) Q=∃d,atD xs i=some d/\Q d:=rfl
theorem ix_tup{xs:List D}:ixD (.tup xs) (.int i) Q=∃d,atD xs i=some d/\Q d:=rfl
theorem bi_abs:biD .abs [.int i] Q=Q (.int (if i<0 then -i else i)):=rfl
theorem bi_max:biD .max [.int i,.int j] Q=Q (.int (if j > i then j else i)):=rfl
theorem bi_min:biD .min [.int i,.int j] Q=Q (.int (if j<i then j else i)):=rfl
theorem bi_lenl{xs:List D}:biD .len [.lst xs] Q=Q (.int xs.length):=rfl
theorem bi_lent{xs:List D}:biD .len [.tup xs] Q=Q (.int xs.length):=rfl
theorem bi_int:biD .int [.int i] Q=Q (.int i):=rfl
theorem bi_intb{b:Bool}:biD .int [.bl b] Q=Q (.int (if b then 1 else 0)):=rfl
theorem bi_listl{xs:List D}:biD .list [.lst xs] Q=Q (.lst xs):=rfl
theorem bi_tupl{xs:List D}:biD .tuple [.lst xs] Q=Q (.tup xs):=rfl
theorem bi_tupt{xs:List D}:biD .tuple [.tup xs] Q=Q (.tup xs):=rfl
theorem bi_listt{xs:List D}:biD .list [.tup xs] Q=Q (.lst xs):=rfl
theorem map_inj{α:Type}{f:α->D}(hf:∀a b,f a=f b->a=b):∀ {xs ys:List α},xs.map f=ys.map f->xs=ys
 |[],[],_=>rfl
 |[],_::_,h=>by simp at h
 |_::_,[],h=>by simp at h
 |x::xs,y::ys,h=>by
  simp only[List.map_cons,List.cons.injEq]at h
  rw[hf _ _ h.1,map_inj hf h.2]
theorem bi_sum{ns:List Int}{Q:D->Prop}:biD .sum [.lst (ns.map .int)] Q ↔ Q (.int ns.sum):=by
 unfold biD one1 listD
 exact⟨fun⟨ms,e,q⟩=>by rw[map_inj (fun a b h=>by injection h) e];exact q,fun q=>⟨ns,rfl,q⟩⟩
theorem bi_all{bs:List Bool}{Q:D->Prop}:biD .all [.lst (bs.map .bl)] Q ↔ Q (.bl (bs.all id)):=by
 unfold biD one1 listD
 exact⟨fun⟨ms,e,q⟩=>by rw[map_inj (fun a b h=>by injection h) e];exact q,fun q=>⟨bs,rfl,q⟩⟩
theorem bi_any{bs:List Bool}{Q:D->Prop}:biD .any [.lst (bs.map .bl)] Q ↔ Q (.bl (bs.any id)):=by
 unfold biD one1 listD
 exact⟨fun⟨ms,e,q⟩=>by rw[map_inj (fun a b h=>by injection h) e];exact q,fun q=>⟨bs,rfl,q⟩⟩
theorem mm_ints{mx:Bool}{ns:List Int}{d:Int}{Q:D->Prop}:mmD mx (.lst (ns.map .int)) (.int d) Q ↔ Q (.int (mmF mx d ns)):=by
 unfold mmD
 exact⟨fun⟨ms,e,q⟩=>by rw[map_inj (fun a b h=>by injection h) e];exact q,fun q=>⟨ns,rfl,q⟩⟩
theorem compL_by{f:D->(D->Prop)->Prop}(hf:∀d {Q Q':D->Prop},(∀y,Q y->Q' y)->f d Q->f d Q')(R:D->D->Prop):∀ {xs:List D} {Q:List D->Prop},(∀d∈xs,f d (R d))->(∀ys:List D,ys.length=xs.length->(∀(i:Nat) (x y:D),xs[i]?=some x->ys[i]?=some y->R x y)->Q ys)->compL f xs Q
 |[],Q,_,q=>q [] rfl fun i x y h=>by simp at h
 |d::ds,Q,h,q=>by
  rw[compL]
  refine hf d (fun y ry=>?_) (h d (List.mem_cons_self ..))
  refine compL_by hf R (fun e he=>h e (List.mem_cons_of_mem _ he)) fun ys hl hr=>q (y::ys) (by simp[hl]) fun i a b h1 h2=>?_
  cases i with
  |zero=>simp at h1 h2;subst h1 h2;exact ry
  |succ i=>exact hr i a b (by simpa using h1) (by simpa using h2)
theorem mt_bits:mtD .bitlen (.int i) Q=Q (.int (bits i)):=rfl
theorem isB_bl{P:Bool->Prop}{b:Bool}:isB P (.bl b)=P b:=rfl
theorem unp_lst{is:List Nat}{K:DE}{σ:Sto}{ds:List D}:unpD is K σ (.lst ds)=∃σ',setAll is ds σ=some σ'/\K.nx σ':=rfl
theorem unp_tup{is:List Nat}{K:DE}{σ:Sto}{ds:List D}:unpD is K σ (.tup ds)=∃σ',setAll is ds σ=some σ'/\K.nx σ':=rfl
theorem rg_1{P:List D->Prop}:rgD [.int i] P=(RgOk i/\P (rangeD 0 1 i.toNat)):=rfl
theorem rg_2{P:List D->Prop}:rgD [.int i,.int j] P=((RgOk i/\RgOk j)/\P (rangeD i 1 (j-i).toNat)):=rfl
theorem rg_3{P:List D->Prop}{k:Int}:rgD [.int i,.int j,.int k] P=((RgOk i/\RgOk j/\0<k/\k<1000)/\P (rangeD i k (if i<j then (j-i-1) / k+1 else 0).toNat)):=rfl
end
theorem atD_0{x:D}{xs:List D}:atD (x::xs) 0=some x:=rfl
theorem atD_1{x y:D}{xs:List D}:atD (x::y::xs) 1=some y:=rfl
theorem atD_2{x y z:D}{xs:List D}:atD (x::y::z::xs) 2=some z:=rfl
theorem atD_3{x y z u:D}{xs:List D}:atD (x::y::z::u::xs) 3=some u:=rfl
theorem aI{a b:Prop}(x:a)(y:b):a/\b:=⟨x,y⟩
noncomputable def zC:=aI @popD_int<|aI @otD_ot<|aI @obD_ot<|aI @obD_sh<|aI @app2D_int<|aI @isL_lst<|aI @insD_int<|aI @appD_ow<|aI @stoD_int<|aI @stoW_ow<|aI @ownD_ow<|aI @ocD_ow<|aI @ocD_ot<|aI @bin_add<|aI @bin_adds<|aI @bin_addl<|aI @bin_sub<|aI @bin_mul<|aI @bin_mull<|aI @bin_fdiv<|aI @bin_mod<|aI @bin_shl<|aI @bin_shr<|aI @bin_band<|aI @bin_pow<|aI @cmp_eq<|aI @cmp_ne<|aI @cmp_lt<|aI @cmp_le<|aI @cmp_gt<|aI @cmp_ge<|aI @cmp_isT<|aI @cmp_notT<|aI @ix_lst<|aI @ix_tup<|aI @bi_abs<|aI @bi_max<|aI @bi_min<|aI @bi_lenl<|aI @bi_lent<|aI @bi_int<|aI @bi_intb<|aI @bi_listl<|aI @bi_listt<|aI @bi_tupl<|aI @bi_tupt<|aI @bi_sum<|aI @bi_all<|aI @bi_any<|aI @mm_ints<|aI @mt_bits<|aI @isB_bl<|aI @unp_tup<|aI @unp_lst<|aI @rg_1<|aI @rg_2<|aI @rg_3<|aI @eq_non_non<|aI @eq_non_bl<|aI @eq_non_int<|aI @eq_non_str<|aI @eq_non_tup<|aI @eq_non_lst<|aI @eq_bl_non<|aI @eq_bl_bl<|aI @eq_bl_int<|aI @eq_bl_str<|aI @eq_bl_tup<|aI @eq_bl_lst<|aI @eq_int_non<|aI @eq_int_bl<|aI @eq_int_int<|aI @eq_int_str<|aI @eq_int_tup<|aI @eq_int_lst<|aI @eq_str_non<|aI @eq_str_bl<|aI @eq_str_int<|aI @eq_str_str<|aI @eq_str_tup<|aI @eq_str_lst<|aI @eq_tup_non<|aI @eq_tup_bl<|aI @eq_tup_int<|aI @eq_tup_str<|aI @eq_tup_tup<|aI @eq_tup_lst<|aI @eq_lst_non<|aI @eq_lst_bl<|aI @eq_lst_int<|aI @eq_lst_str<|aI @eq_lst_tup<|aI @eq_lst_lst<|aI @eqs_nn<|aI @eqs_nc<|aI @eqs_cn<|aI @eqs_cc<|aI @dep_non<|aI @dep_bl<|aI @dep_int<|aI @dep_str<|aI @dep_tup<|aI @dep_lst<|aI @deps_n<|aI @deps_c<|aI @decide_eq_true_eq<|aI @Bool.not_eq_true'<|aI @Bool.and_eq_true<|aI @Bool.not_true<|aI @Bool.not_false<|aI @decide_eq_false_iff_not<|aI @false_implies<|aI @and_true<|aI @true_and<|aI @and_false<|aI @false_and<|aI @Nat.min_self<|aI @Nat.max_self<|aI @Nat.zero_le<|aI @Nat.min_zero<|aI @Nat.zero_min<|aI @Nat.max_zero<|aI @Nat.zero_max<|aI @atD_0<|aI @atD_1<|aI @atD_2<|aI @atD_3<|aI @Bool.true_eq_false<|aI @Bool.false_eq_true<|aI @not_false_eq_true<|aI @not_true_eq_false<|aI @Bool.and_true<|aI @Bool.true_and<|aI @Bool.and_false<|aI @Bool.false_and<|aI @Bool.or_true<|aI @Bool.true_or<|aI @Bool.or_false<|aI @Bool.false_or<|@Int.cast_ofNat_Int
noncomputable def zP:=aI @ws_nop<|aI @ws_seq<|aI @ws_set<|aI @ws_ret<|aI @ws_ite<|aI @ws_brk<|aI @ws_cnt<|aI @ws_never<|aI @ws_new<|aI @ws_app<|@ws_shr
noncomputable def zS:=aI @ws_seq_set<|aI @ws_seq_ret<|aI @ws_seq_new<|aI @ws_seq_app<|aI @ws_seq_shr<|aI @ws_nop<|aI @ws_ret<|aI @ws_brk<|aI @ws_cnt<|@ws_never
def sInt(σ:Sto)(i:Nat):Int:=match getS σ i with|some (.sh (.int k))=>k|_=>0
theorem mulOk_bits{i j:Int}(h:bits i+bits j<=134217728):MulOk i j:=.inr (.inr h)
end Z
local macro_rules | `(tactic|lia)=>`(tactic|lia -abstractProof)
local macro_rules | `(tactic|dsimp! only[$ls,*])=>`(tactic|try simp only[Z.zC,Z.wpE,Z.wpEs,Z.getS,Z.setS,Z.setAll,Z.tyD,Z.itemsD,Z.startS,List.map,List.replicate,Nat.reduceSub,Nat.reduceAdd,reduceIte,Nat.reduceLeDiff,Nat.reduceLT,Int.reduceEq,Int.reduceNeg,Int.reduceLT,Int.reduceLE,Int.reduceSub,Int.reduceAdd,Int.reduceBEq,List.map_cons,List.map_nil,List.replicate_succ,List.replicate_zero,List.length_cons,List.length_nil,List.cons_append,List.nil_append,List.append_nil,forall_eq,forall_eq',implies_true,if_true,if_false,ite_true,ite_false,Option.some.injEq,exists_eq_left',exists_eq_left,ne_eq,beq_iff_eq,beq_self_eq_true,beq_eq_false_iff_ne,Option.isSome_some,$ls,*])
local macro_rules | `(tactic|simp_arith only[$ls,*])=>`(tactic|try simp only[Z.zC,Z.wpE,Z.wpEs,Z.getS,Z.setS,Z.setAll,Z.tyD,Z.itemsD,Z.Ctr.wp,Z.startS,List.map,List.replicate,Nat.reduceSub,Nat.reduceAdd,reduceIte,Nat.reduceLeDiff,Nat.reduceLT,Int.reduceEq,Int.reduceNeg,Int.reduceLT,Int.reduceLE,Int.reduceSub,Int.reduceAdd,Int.reduceBEq,List.map_cons,List.map_nil,List.replicate_succ,List.replicate_zero,List.length_cons,List.length_nil,List.cons_append,List.nil_append,List.append_nil,forall_eq,forall_eq',implies_true,if_true,if_false,ite_true,ite_false,Option.some.injEq,exists_eq_left',exists_eq_left,ne_eq,beq_iff_eq,beq_self_eq_true,beq_eq_false_iff_ne,Option.isSome_some,$ls,*])
local macro_rules | `(tactic|simp_all_arith! only[$ls,*])=>`(tactic|dsimp! only[Z.zP,Z.Ctr.wp,$ls,*])
local macro_rules | `(tactic|simp_all! only[$ls,*])=>`(tactic|dsimp! only[Z.zS,$ls,*])
local macro_rules | `(tactic|simp_arith! only[$ls,*])=>`(tactic|simp_arith only[Z.zS,$ls,*])
namespace Z
open PySem
def b_law_cell:Sm :=
 (.seq (.ite (.cmp .eq (.var 0) (.lst [])) (.seq (.ret (.bin .mul (.var 1) (.cst (.int 7919))))
  .nop) .nop)
 (.seq (.ret (.bin .add (.ix (.var 0) (.bin .mod (.var 1) (.bi .len [(.var 0)]))) (.bin .mul (.bin .fdiv (.var 1) (.bi .len [(.var 0)])) (.cst (.int 104729)))))
 .nop))
def b_law_drawn:Sm :=
 (.seq (.set 2 (.bin .mod (.bin .add (.bin .mul (.var 0) (.cst (.int 6364136223846793005))) (.bin .mul (.bin .add (.var 1) (.cst (.int 1))) (.cst (.int 1442695040888963407)))) (.cst (.int 340282366920938463463374607431768211507))))
 (.seq (.ret (.bin .mod (.bin .mul (.var 2) (.var 2)) (.cst (.int 340282366920938463463374607431768211297))))
 .nop))
theorem atD_some{xs:List D}{i:Int}(h0:0<=i)(h1:i<xs.length):∃d,atD xs i=some d/\d∈xs:=by
 have h:i.toNat<xs.length:=by lia
 refine⟨xs[i.toNat],?_,List.getElem_mem h⟩
 unfold atD
 rw[if_pos h0,List.getElem?_eq_getElem h]
theorem script_at{ns:List Int}{i:Int}(h0:0<=i)(h1:i<ns.length):∃n,atD (ns.map .int) i=some (.int n):=by
 obtain⟨d,e,m⟩:=atD_some (xs:=ns.map .int) h0 (by simpa using h1)
 obtain⟨n,_,rfl⟩:=List.mem_map.mp m
 exact⟨n,e⟩
def c_cell:Ctr where
 pre ds:=∃(ns:List Int) (k:Int),ds=[.lst (ns.map .int),.int k]/\ns.length<=63/\0<=k
 res ds d:=∃i,d=.int i
theorem eqDs_nil(ns:List Int):eqDs (ns.map .int) []=decide (ns=[]):=by
 cases ns<;>simp[eqD,eqDs]
theorem k_cell{C:Cfg}:Keeps C 2 b_law_cell c_cell:=by
 rintro ds ⟨ns,k,rfl,hl,hk⟩
 simp_all_arith! only[b_law_cell,c_cell,List.length_map]
 refine⟨by lia,?_⟩
 rw[eqDs_nil]
 simp only[decide_eq_true_eq]
 by_cases hn:ns=[]
 ·rw[if_pos hn]
  exact⟨.inr (.inl (by decide)),_,rfl⟩
 ·rw[if_neg hn]
  have hp:0<ns.length:=List.length_pos_iff.mpr hn
  have hb:bits (ns.length:Int)<=64:=bits_pow_lt (by lia) (by lia)
  rw[fmod_pos (by lia)]
  obtain⟨n,e⟩:=script_at (ns:=ns) (i:=k%ns.length) (Int.emod_nonneg _ (by lia)) (Int.emod_lt_of_pos _ (by lia))
  refine⟨by lia,_,e,⟨by lia,by lia⟩,.inr (.inl (by decide)),?_⟩
  simp_all_arith! only[]
  exact⟨_,rfl⟩
def c_drawn:Ctr where
 pre ds:=match ds with|[.int _,.int _]=>True|_=>False
 res ds d:=∃i,d=.int i/\0<=i/\i<340282366920938463463374607431768211297
theorem k_drawn{C:Cfg}:Keeps C 3 b_law_drawn c_drawn:=by
 rintro ds h
 simp only[c_drawn]at h
 split at h
 case h_2=>exact h.elim
 next c k =>
 simp_all_arith! only[b_law_drawn,c_drawn]
 rw[fmod_pos (by decide),fmod_pos (by decide)]
 have b1:bits ((c*6364136223846793005+(k+1)*1442695040888963407)%340282366920938463463374607431768211507)<=129:=bits_pow_lt (Int.emod_nonneg _ (by decide)) (Int.lt_trans (Int.emod_lt_of_pos _ (by decide)) (by decide))
 refine⟨.inr (.inl (by decide)),.inr (.inl (by decide)),mulOk_bits (by lia),_,rfl,Int.emod_nonneg _ (by decide),Int.emod_lt_of_pos _ (by decide)⟩
structure Num (n:Nat) (w p:Int):Prop where
 odd:w%2=1\/(w=0/\p=0)
 sz:w.natAbs<2^n
structure Bare (w p w' p':Int):Prop where
 nought:w=0->w'=0/\p'=0
 same:w≠0->∃v:Nat,w=w'*2^v/\p'=p+v/\w'%2=1
theorem Bare.num{w p w' p':Int}{n:Nat}(b:Bare w p w' p')(h:w.natAbs<2^n):Num n w' p':=by
 by_cases hw:w=0
 ·obtain⟨rfl,rfl⟩:=b.nought hw
  exact⟨.inr ⟨rfl,rfl⟩,Nat.two_pow_pos n⟩
 ·obtain⟨v,e,_,ho⟩:=b.same hw
  refine⟨.inl ho,?_⟩
  have:w.natAbs=w'.natAbs*2^v:=by rw[e,Int.natAbs_mul,Int.natAbs_pow];rfl
  have:w'.natAbs*1<=w'.natAbs*2^v:=Nat.mul_le_mul_left _ (Nat.two_pow_pos v)
  lia
theorem abs_eq(i:Int):(if i<0 then -i else i)=i.natAbs:=by split<;>lia
theorem rangeD_all{P:Int->Prop}:∀(n:Nat) (lo st:Int),(∀i:Nat,i<n->P (lo+i*st))->∀d∈rangeD lo st n,∃i,d=.int i/\P i
 |0,lo,st,h,d,hd=>by simp[rangeD]at hd
 |n+1,lo,st,h,d,hd=>by
  simp only[rangeD,List.mem_cons]at hd
  rcases hd with rfl|hd
  ·exact⟨lo,rfl,by simpa using h 0 (by lia)⟩
  ·refine rangeD_all n (lo+st) st (fun i hi=>?_) d hd
   have:=h (i+1) (by lia)
   have e:lo+st+i*st=lo+((i+1:Nat):Int)*st:=by grind
   rw[e];exact this
def c_law:Ctr where
 pre ds:=∃ns:List Int,ds=[.lst (ns.map .int)]/\ns.length<=63
 res ds d:=d=.bl true
end Z
namespace Z
open PySem PySem.Spec PyProof.Rows L2
def dum(N:List Str):Str:=⟨Array.replicate N.length 32⟩
noncomputable def blockN(N:List Str)(x:Str):List Str:=N.map (fun y=>if y=x then dum N else y) ++ [x]
def cellsX(scope:Scope)(x:Str)(cl:List (Str×Addr))(C:Addr):List (Str×Addr):=if scope.names.lookup x=some .cell then (x,C+1)::cl else cl
theorem cellsX_old{scope:Scope}{x y:Str}{cl:List (Str×Addr)}{C:Addr}(h:y≠x):(cellsX scope x cl C).lookup y=cl.lookup y:=by
 unfold cellsX
 split
 ·rw[List.lookup_cons,show (y == x)=false from beq_eq_false_iff_ne.mpr h]
 ·rfl
theorem cellsX_of{scope:Scope}{x y:Str}{cl:List (Str×Addr)}{C c:Addr}(h:(cellsX scope x cl C).lookup y=some c):(y=x/\c=C+1/\scope.names.lookup x=some .cell)\/cl.lookup y=some c:=by
 unfold cellsX at h
 split at h
 ·next hc =>
  by_cases e:y=x
  ·subst e
   rw[List.lookup_cons,show (y == y)=true from beq_self_eq_true y]at h
   cases h
   exact .inl ⟨rfl,rfl,hc⟩
  ·rw[List.lookup_cons,show (y == x)=false from beq_eq_false_iff_ne.mpr e]at h
   exact .inr h
 ·exact .inr h
theorem cellsX_new{scope:Scope}{x:Str}{cl:List (Str×Addr)}{C:Addr}(h:scope.names.lookup x=some .cell):(cellsX scope x cl C).lookup x=some (C+1):=by
 unfold cellsX
 rw[if_pos h,List.lookup_cons,show (x == x)=true from beq_self_eq_true x]
theorem cf_none:∀ {names:List (Str×NameKind)} {n:Nat} {acc:List (Str×Addr)} {h:Heap},(names.filter fun y=>y.2 == .cell)=[]->cellsFrom n names acc=acc/\pushCells h names=h
 |[],n,acc,h,_=>⟨rfl,rfl⟩
 |(m,k)::r,n,acc,h,e=>by
  cases hk:k == NameKind.cell with
  |true=>simp[List.filter_cons,hk]at e
  |false =>
   have e':(r.filter fun y=>y.2 == .cell)=[]:=by simpa[List.filter_cons,hk]using e
   unfold cellsFrom pushCells
   simp only[hk,Bool.false_eq_true,if_false]
   exact cf_none e'
theorem cf_one{x:Str}:∀ {names:List (Str×NameKind)} {n:Nat} {acc:List (Str×Addr)} {h:Heap},(names.filter fun y=>y.2 == .cell)=[(x,.cell)]->cellsFrom n names acc=(x,n)::acc/\pushCells h names=h.push { cls:=.type "cell",data:=.cell none }
 |[],n,acc,h,e=>by simp at e
 |(m,k)::r,n,acc,h,e=>by
  cases hk:k == NameKind.cell with
  |true =>
   have e':m=x/\(r.filter fun y=>y.2 == .cell)=[]:=by
    have:((m,k)::(r.filter fun y=>y.2 == .cell))=[(x,.cell)]:=by rw[<- e];simp[List.filter_cons,hk]
    simp only[List.cons.injEq,Prod.mk.injEq]at this
    exact⟨this.1.1,this.2⟩
   unfold cellsFrom pushCells
   simp only[hk,if_true]
   obtain⟨z1,z2⟩:=cf_none (n:=n+1) (acc:=(m,n)::acc) (h:=h.push { cls:=.type "cell",data:=.cell none }) e'.2
   rw[z1,z2,e'.1]
   exact⟨rfl,rfl⟩
  |false =>
   have e':(r.filter fun y=>y.2 == .cell)=[(x,.cell)]:=by simpa[List.filter_cons,hk]using e
   unfold cellsFrom pushCells
   simp only[hk,Bool.false_eq_true,if_false]
   exact cf_one e'
theorem lookup_relabel_cell{env:Env}:∀ {names:List (Str×NameKind)} {x:Str},names.lookup x=some .cell ->
 (names.map fun(n,k)=>if (k == NameKind.free&&env.scope.kind == .function&&env.kindOf n == some .cell) then (n,NameKind.cell) else (n,k)).lookup x=some .cell
 |[],_,h=>by simp at h
 |(n,k)::r,x,h=>by
  have ih:=@lookup_relabel_cell env r x
  show List.lookup x ((if (k == NameKind.free&&env.scope.kind == .function&&env.kindOf n == some .cell)=true then (n,NameKind.cell) else (n,k))::_)=_
  cases hx:x == n with
  |true =>
   simp only[List.lookup_cons,hx]at h
   cases h
   simp[List.lookup_cons,hx]
  |false =>
   simp only[List.lookup_cons,hx]at h
   by_cases hc:(k == NameKind.free&&env.scope.kind == .function&&env.kindOf n == some .cell)=true
   ·rw[if_pos hc];simp only[List.lookup_cons,hx];exact ih h
   ·rw[if_neg hc];simp only[List.lookup_cons,hx];exact ih h
theorem newEnv_comp{M:Model}{A:Around}{E:Value->Shared->Prop}{s:Shared}{scope:Scope}{globals:Addr}{cl:List (Str×Addr)}{x qual:Str}{env:Env}{bi:Addr}{Q:Env->Shared->Prop}
 (hc:(scope.names.filter fun y=>y.2 == .cell)=if scope.names.lookup x=some .cell then [(x,.cell)] else [])
 (hQ:∀h',h'.Ns s.heap.objs.size (fun _=>none)->(∀b o,s.heap.get? b=some o->h'.get? b=some o)->(scope.names.lookup x=some .cell->h'.IsCell (s.heap.objs.size+1) none) ->
  Q (newEnv scope s.heap.objs.size globals (cellsX scope x cl s.heap.objs.size) qual none .none (some env) bi) { s with heap:=h' }) :
 wpAny M A (newFunctionEnv scope globals cl [] qual none .none (some env) bi) Q E s:=by
 simp only[newFunctionEnv,Option.isSome_some,if_true]
 refine wpAny_bind (wpAny_alloc ?_)
 refine wpAny_bind (wpAny_layCells _ (fun name kind cells=>by cases hkc:kind == NameKind.cell<;>simp[hkc]) _ _ _ _ ?_)
 rw[show ({ s with heap:=s.heap.push { cls:=.type "dict",data:=.dict #[] } }:Shared).heap.objs.size=s.heap.objs.size+1 from Heap.size_push ..]
 refine wpAny_bind ?_
 rw[List.forIn_nil]
 refine wpAny_pure (wpAny_pure ?_)
 have old:∀b o,s.heap.get? b=some o->(s.heap.push { cls:=.type "dict",data:=.dict #[] }).get? b=some o:=fun b o e=>Heap.get?_push_of_some _ e
 by_cases h:scope.names.lookup x=some .cell
 ·rw[if_pos h]at hc
  obtain⟨e1,e2⟩:=cf_one (n:=s.heap.objs.size+1) (acc:=cl) (h:=s.heap.push { cls:=.type "dict",data:=.dict #[] }) hc
  rw[e1,e2]
  have q:=hQ ((s.heap.push { cls:=.type "dict",data:=.dict #[] }).push { cls:=.type "cell",data:=.cell none }) ((Heap.Ns.new s.heap (.type "dict")).keeps fun b o e=>Heap.get?_push_of_some _ e) (fun b o e=>Heap.get?_push_of_some _ (old b o e)) fun _=>by
   have:=Heap.get?_push_size (s.heap.push { cls:=.type "dict",data:=.dict #[] }) (o:={ cls:=.type "cell",data:=.cell none }) rfl
   rw[Heap.size_push]at this
   exact⟨_,this,rfl⟩
  unfold cellsX at q
  rw[if_pos h]at q
  exact q
 ·rw[if_neg h]at hc
  obtain⟨e1,e2⟩:=cf_none (n:=s.heap.objs.size+1) (acc:=cl) (h:=s.heap.push { cls:=.type "dict",data:=.dict #[] }) hc
  rw[e1,e2]
  have q:=hQ (s.heap.push { cls:=.type "dict",data:=.dict #[] }) (Heap.Ns.new s.heap (.type "dict")) old fun z=>absurd z h
  unfold cellsX at q
  rw[if_neg h]at q
  exact q
noncomputable def cxComp(X:Cx)(s:Shared)(H:Hp)(fp:List Addr)(x:Str)(scope:Scope)(cl:List (Str×Addr))(C:Addr):Cx :=
 { X with N:=blockN X.N x,s₀:=s,H₀:=H,env:=compEnvC scope (cellsX scope x cl C) C X.env,outer:=X.stack,stack:=X.stack,ex:=fp,fn:=fun y=>decide (scope.names.lookup x=some .cell)&&decide (y=x),pn:=[],xe:=fun _ _=>False }
structure CompOk (X:Cx) (x:Str) (scope:Scope) (cl:List (Str×Addr)):Prop where
 clos:closureFor scope X.env=pure cl
 kind:scope.kind=.function
 cell:(scope.names.filter fun y=>y.2 == .cell)=if scope.names.lookup x=some .cell then [(x,.cell)] else []
 names:∀y∈scope.names,y.2=.local->scope.names.lookup y.1=some .local
 loc:scope.names.lookup x=some .local\/scope.names.lookup x=some .cell
 only:∀y,(relabel scope X.env).names.lookup y=some .local->y=x\/(y ∉ X.N/\y≠(dum X.N))
 vis:∀y,y≠x->((relabel scope X.env).names.lookup y=some .cell\/(relabel scope X.env).names.lookup y=some .free)->Vis X.env.scope y/\X.env.scope.names.lookup y≠some .local/\∃c,cl.lookup y=some c
 sub:∀y c,cl.lookup y=some c->X.env.cells.lookup y=some c
 ne:x≠(dum X.N)
 noE:X.env.scope.names.lookup (dum X.N)=none
section
variable {X:Cx} {x:Str} {scope:Scope} {cl:List (Str×Addr)}
theorem blockN_last:(blockN X.N x)[X.N.length]?=some x:=by
 unfold blockN
 rw[List.getElem?_append_right (by simp)]
 simp
theorem blockN_at{i:Nat}{y:Str}(h:(blockN X.N x)[i]?=some y)(hy:y≠x):i<X.N.length/\(X.N[i]?=some y\/y=(dum X.N)):=by
 unfold blockN at h
 by_cases hi:i<X.N.length
 ·refine⟨hi,?_⟩
  rw[List.getElem?_append_left (by simpa using hi),List.getElem?_map,List.getElem?_eq_getElem hi]at h
  simp only[Option.map_some,Option.some.injEq]at h
  split at h
  ·exact .inr h.symm
  ·rw[List.getElem?_eq_getElem hi,h];exact .inl rfl
 ·exfalso
  rw[List.getElem?_append_right (by simpa using hi)]at h
  simp only[List.length_map]at h
  rcases Nat.eq_or_lt_of_le (Nat.not_lt.mp hi) with z|z
  ·rw[<- z]at h
   simp at h
   exact hy h.symm
  ·rw[List.getElem?_eq_none (by simp;lia)]at h
   cases h
theorem blockN_nd(nd:X.N.Nodup)(he:(dum X.N) ∉ X.N)(hx:x≠(dum X.N)):(blockN X.N x).Nodup:=by
 unfold blockN
 generalize dum X.N=dm at he hx ⊢
 rw[List.nodup_append]
 refine⟨?_,by simp,?_⟩
 ·generalize X.N=N at nd he
  induction N with
  |nil=>simp
  |cons a r ih =>
   simp only[List.mem_cons,not_or]at he
   have nd':=List.nodup_cons.mp nd
   rw[List.map_cons,List.nodup_cons]
   refine⟨?_,ih nd'.2 he.2⟩
   intro hm
   obtain⟨b,hb,e⟩:=List.mem_map.mp hm
   by_cases h1:a=x
   ·rw[if_pos h1]at e
    by_cases h2:b=x
    ·exact nd'.1 (by rw[h1,<- h2];exact hb)
    ·rw[if_neg h2]at e
     exact he.2 (e ▸ hb)
   ·rw[if_neg h1]at e
    by_cases h2:b=x
    ·rw[if_pos h2]at e
     exact he.1 e
    ·rw[if_neg h2]at e
     exact nd'.1 (e ▸ hb)
 ·intro a ha b hb
  simp only[List.mem_cons,List.not_mem_nil,or_false]at hb
  subst hb
  obtain⟨c,hc,e⟩:=List.mem_map.mp ha
  by_cases h:c=b
  ·rw[if_pos h]at e
   rw[<- e];exact Ne.symm hx
  ·rw[if_neg h]at e
   rw[<- e];exact h
end
section
variable {X:Cx} {x:Str} {scope:Scope} {cl:List (Str×Addr)} {pins:List (Addr×Obj)} {σ:L2.St} {H:Hp} {s:Shared} {fp:List Addr}
theorem comp_ok(I:Inv X pins σ H s)(co:CompOk X x scope cl)(hf:∀b∈fp,FpOk X pins H b){C:Addr}(hC:s.heap.objs.size<=C)(hfp:∀b∈fp,b<s.heap.objs.size):(cxComp X s H fp x scope cl C).Ok where
 mod:=I.ok.mod
 kind:=co.kind
 glob:=I.ok.glob
 blt:=I.ok.blt
 above:=hC
 inj:=fun y z c h1 h2=>by
  have no:∀w,cl.lookup w≠some (C+1):=fun w e=>by
   obtain⟨v,q⟩:=I.cell w _ (co.sub w _ e)
   have:=q.lt
   exact absurd (Nat.lt_of_lt_of_le this hC) (by lia)
  rcases cellsX_of h1 with⟨rfl,rfl,_⟩|k1
  ·rcases cellsX_of h2 with⟨rfl,_,_⟩|k2
   ·rfl
   ·exact absurd k2 (no z)
  ·rcases cellsX_of h2 with⟨rfl,rfl,_⟩|k2
   ·exact absurd k1 (no y)
   ·exact I.ok.inj y z c (co.sub y c k1) (co.sub z c k2)
 has:=fun y hy=>by
  by_cases e:y=x
  ·subst e
   rcases co.loc with z|z
   ·have q:(relabel scope X.env).names.lookup y=some .local:=lookup_relabel_local z
    have hy':(relabel scope X.env).names.lookup y=some .cell\/(relabel scope X.env).names.lookup y=some .free:=hy
    rw[q]at hy'
    rcases hy' with r|r<;>cases r
   ·exact⟨C+1,cellsX_new z⟩
  ·obtain⟨c,hc⟩:=(co.vis y e hy).2.2
   exact⟨c,(cellsX_old e).trans hc⟩
 cab:=fun y c h e=>by
  have h:(decide (scope.names.lookup x=some .cell)&&decide (y=x))=true:=h
  simp only[Bool.and_eq_true,decide_eq_true_eq]at h
  obtain⟨h1,rfl⟩:=h
  have e:(cellsX scope y cl C).lookup y=some c:=e
  rw[cellsX_new h1]at e
  cases e
  show s.heap.objs.size<=C+1
  lia
 hd:=I.ok.hd
 frames:=I.ok.frames
 stk:=.inl rfl
 exf:=fun b hb=>⟨fun e=>by have:=hfp b hb;rw[e]at this;exact absurd (Nat.lt_of_lt_of_le this hC) (Nat.lt_irrefl _),fun y c h=>by
  rcases cellsX_of h with⟨_,rfl,_⟩|h
  ·have:=hfp b hb
   intro z
   rw[<- z]at this
   exact absurd (Nat.lt_of_lt_of_le this hC) (by lia)
  ·exact(hf b hb).2.2.2.2.1 y c (co.sub y c h)⟩
 bs:=I.bs
 bsz:=Nat.le_trans I.ok.bsz I.sz
 noex:=fun b o e hb=>by
  rcases(hf b hb).2.2.2.1 with z|z
  ·exact I.ok.noex b o e z
  ·exact absurd (Nat.lt_of_lt_of_le (Heap.lt_size e) (Nat.le_trans I.ok.bsz z)) (Nat.lt_irrefl _)
 exfs:=fun b hb hb'=>by
  rcases List.mem_cons.mp (I.stkSub b hb') with z|z
  ·exact(hf b hb).2.1 z
  ·exact(hf b hb).2.2.1 z
 funs:=I.stack
 frf:=I.stkFree
theorem comp_inv(I:Inv X pins σ H s)(co:CompOk X x scope cl)(hf:∀b∈fp,FpOk X pins H b){C:Addr}{h':Heap}{tk:Nat}{m:Str->Option Value}(hC:s.heap.objs.size<=C)(hfp:∀b∈fp,b<s.heap.objs.size)
 (hk:∀b o,s.heap.get? b=some o->h'.get? b=some o) (hn:h'.Ns C m) (hce:scope.names.lookup x=some .cell->∃v,h'.IsCell (C+1) v):Inv (cxComp X s H fp x scope cl C) [] (σ ++ [none]) H { s with heap:=h',toks:=tk } where
 ok:=comp_ok I co hf hC hfp
 os:=rfl
 bare:=I.bare
 base:=Un.kept hk
 loc:=by
  refine⟨m,hn,fun i y v h1 h2 h3=>?_⟩
  have hi:i<σ.length:=by
   rcases Nat.lt_or_ge i σ.length with z|z
   ·exact z
   ·rw[List.getElem?_append_right z]at h2
    rcases Nat.eq_or_lt_of_le z with y|y
    ·rw[<- y]at h2;simp at h2
    ·rw[List.getElem?_eq_none (by simp;lia)]at h2;cases h2
  rw[List.getElem?_append_left hi]at h2
  by_cases hyx:y=x
  ·exfalso
   subst hyx
   have h1':(blockN X.N y)[i]?=some y:=h1
   unfold blockN at h1'
   have hi':i<X.N.length:=by rw[<- I.len];exact hi
   rw[List.getElem?_append_left (by simpa using hi'),List.getElem?_map,List.getElem?_eq_getElem hi']at h1'
   simp only[Option.map_some,Option.some.injEq]at h1'
   split at h1'
   ·exact co.ne h1'.symm
   ·next hne=>exact hne h1'
  ·have hvis:(relabel scope X.env).names.lookup y=some .cell\/(relabel scope X.env).names.lookup y=some .free:=by
    rcases h3 with z|z|z
    ·rcases co.only y z with q|⟨q1,q2⟩
     ·exact absurd q hyx
     ·exfalso
      rcases(blockN_at h1 hyx).2 with r|r
      ·exact q1 (List.mem_of_getElem? r)
      ·exact q2 r
    ·exact .inl z
    ·exact .inr z
   obtain⟨v1,v2,c,hc⟩:=co.vis y hyx hvis
   obtain⟨_,hN|hN⟩:=blockN_at h1 hyx
   ·obtain⟨m0,hn0,hl⟩:=I.loc
    obtain⟨u,r,l⟩:=hl i y v hN h2 v1
    refine⟨u,r,.inr ⟨hvis,c,(cellsX_old hyx).trans hc,?_⟩⟩
    rcases l with⟨k,_⟩|⟨_,c',hc',z⟩
    ·exact absurd k v2
    ·rw[co.sub y c hc]at hc'
     cases hc'
     obtain⟨o,ho,hd⟩:=z
     exact⟨o,hk c o ho,hd⟩
   ·exfalso
    subst hN
    rcases v1 with z|z|z<;>(rw[co.noE]at z;cases z)
 cell:=fun y c h=>by
  rcases cellsX_of h with⟨_,rfl,z⟩|h
  ·exact hce z
  ·obtain⟨v,o,ho,hd⟩:=I.cell y c (co.sub y c h)
   exact⟨v,o,hk c o ho,hd⟩
 free:=I.hok.fresh hC
 freeC:=fun y c h=>by
  rcases cellsX_of h with⟨_,rfl,_⟩|h
  ·exact I.hok.fresh (Nat.le_trans hC (Nat.le_succ _))
  ·exact I.freeC y c (co.sub y c h)
 pin:=fun p hp=>nomatch hp
 hok:=I.hok.kept hk
 len:=by
  show (σ ++ [none]).length=(blockN X.N x).length
  unfold blockN
  simp[I.len]
end
noncomputable def tests(ifs:List Expr)(env:Env):Sem Bool:=forIn ifs true fun c r=>if r=true then do let ok <- isTrue c env (eval c env);pure (ForInStep.yield ok) else pure (ForInStep.yield r)
def PTs(X:Cx)(ifs:List Expr)(t:TT):Prop:=∀(pins:List (Addr×Obj)) (s:Shared) (σ:L2.St) (H:Hp) (Q:Bool->Hp->Prop),Inv X pins σ H s->t σ H Q->wpAny (model X.prog X.w) X.A (tests ifs X.env) (TP X pins σ Q) X.xe s
theorem pts_nil{X:Cx}:PTs X [] fun _ H Q=>Q true H:=fun _ _ _ H _ I h=>wpAny_pure ⟨H,I,h⟩
section
variable {prog:Program} {w:World} {A:Around} {R:Result->Shared->Prop} {s:Shared}
theorem comp_loop{elt target iter:Expr}{ifs:List Expr}{scope:Scope}{pos:Pos}{it acc:Value}{env:Env}(I:Nat->Shared->Prop)
 (turn:∀n s,I n s->wpAny (model prog w) A (pyNext it) (fun r s₁=>match r with
  |none=>R (.ok .next) s₁
  |some v=>wpAny (model prog w) A (letOwnedTupleGo target it v) (fun _ s₁=>wpAny (model prog w) A (assign target env v) (fun _ s₂=>wpAny (model prog w) A (tests ifs env) (fun ok s₃ =>
   if ok=true then wpAny (model prog w) A (eval elt env) (fun x s₃ =>
    wpAny (model prog w) A (call (.builtin "list.append") [acc,x]) (fun _ s₄=>∃m,m<n/\I m s₄) (fun _ _=>False) s₃) (fun _ _=>False) s₃
   else ∃m,m<n/\I m s₃) (fun _ _=>False) s₂) (fun _ _=>False) s₁) (fun _ _=>False) s₁) (fun _ _=>False) s)
 (n:Nat) (h:I n s):codeAny (model prog w) A (.compLoop (.ListComp elt [⟨target,iter,ifs,0⟩] scope pos) 0 it acc env) R s:=by
 refine codeAny_loop rfl I (fun n s hI=>?_) n h
 show wpAny _ _ ((compTurn (.ListComp elt [⟨target,iter,ifs,0⟩] scope pos) 0 it acc env).onRaise (fun x=>do noteFrame x env;theTreesLotGoes x)) _ _ s
 refine wpAny_noted ?_
 rw[compTurn_list]
 refine wpAny_bind (wpAny_standAt (wpAny_bind (wpAny_mono (turn n s hI) (fun r s₁ h₁=>?_) fun _ _ z=>z.elim)))
 cases r with
 |none=>exact wpAny_pure h₁
 |some v =>
  refine wpAny_bind (wpAny_mono h₁ (fun _ s₂ h₂=>wpAny_bind (wpAny_mono h₂ (fun _ s₃ h₃=>wpAny_bind (wpAny_mono h₃ (fun ok s₄ h₄=>?_) fun _ _ z=>z.elim)) fun _ _ z=>z.elim)) fun _ _ z=>z.elim)
  cases ok with
  |false=>exact wpAny_pure ⟨rfl,h₄⟩
  |true=>exact wpAny_bind (wpAny_bind (wpAny_mono h₄ (fun x s₄ h₄=>wpAny_bind (wpAny_mono h₄ (fun _ s₅ h₅=>wpAny_pure (wpAny_pure ⟨rfl,h₅⟩)) fun _ _ z=>z.elim)) fun _ _ z=>z.elim))
end
def tCompF(wi:TI)(tt:TT)(te:TE):TE:=fun σ H Q=>wi σ H fun J H1=>∃W:Nat->Nat->List V->Hp->Prop,(∃m,W 0 m [] H1)/\∀i m ys H,W i m ys H ->
 (J.stop i H/\ys.length<=sizeLine/\∀p,H p=none->Q (.ref p) (upd H p (.lst ys)))\/(J.go i H/\ys.length<sizeLine/\∀x H',J.yld i H x H'->tt (σ ++ [some x]) H' fun b H1 =>
  if b=true then te (σ ++ [some x]) H1 fun y H2=>∃m',m'<m/\W (i+1) m' (ys ++ [y]) H2 else ∃m',m'<m/\W (i+1) m' ys H1)
def tYes:TT:=fun _ H Q=>Q true H
section
variable {X:Cx} {x:Str} {scope:Scope} {cl:List (Str×Addr)}
theorem comp_core{px pos:Pos}{iter elt:Expr}{ifs:List Expr}{wi:TI}{tt:TT}{te:TE}{use:Option (Value->Sem Unit)}{Qf:VK}{Qv:Value->Shared->Prop}{pins:List (Addr×Obj)}{s:Shared}{σ:L2.St}{H:Hp}(hc:X.calm=true)(nd:X.N.Nodup)(hE:(dum X.N) ∉ X.N)(co:CompOk X x scope cl)(hi:PI X (.Name x px) iter wi)
 (ht:∀s H fp C,PTs (cxComp X s H fp x scope cl C) ifs tt) (he:∀s H fp C,PE (cxComp X s H fp x scope cl C) elt te) (hs:∀v,foldedSetIterable iter X.env v=pure v) (I:Inv X pins σ H s) (h:tCompF wi tt te σ H Qf)
 (fin:∀(D C:Addr) (H':Hp) (s4:Shared) (m:Str->Option Value),Inv X pins σ H' s4->s4.heap.Ns C m->FpOk X pins H' C->Qf (.ref D) H'->compPost (model X.prog X.w) X.A X.xe use Qv (.ref D) C (.ok .next) s4) :
 wpAny (model X.prog X.w) X.A (comprehension (.ListComp elt [⟨.Name x px,iter,ifs,0⟩] scope pos) scope X.env (firstIterPos [⟨.Name x px,iter,ifs,0⟩] pos) (newList []) (firstAsync [⟨.Name x px,iter,ifs,0⟩]) (firstIter [⟨.Name x px,iter,ifs,0⟩] X.env) use) Qv X.xe s:=by
 refine wpAny_comprehension_free (g:=⟨.Name x px,iter,ifs,0⟩) (gs:=[]) rfl hs co.clos co.kind co.names ?_
 refine thn (hi pins s σ H _ I h) fun v s1 h1=>thn h1 fun itv s2 h2=>?_
 obtain⟨it,fp,tn,J,H2,e,I2,T,st2,f2,W,⟨m0,w0⟩,turn⟩:=h2
 subst e
 have hfp:∀b∈fp,b<s2.heap.objs.size:=fun b hb=>by
  obtain⟨o,e,_⟩:=T.obj _ _ st2 b hb
  exact Heap.lt_size e
 refine wpAny_newObj_type (newEnv_comp (x:=x) co.cell fun h₁ hns₁ hsb₁ hce₁=>?_)
 dsimp only at hns₁ hsb₁ hce₁ ⊢
 generalize hG:s2.heap.push { cls:=.type "list",dict:=none,data:=.seq ([]:List Value).toArray }=G at hns₁ hsb₁ hce₁ ⊢
 have hCs:G.objs.size=s2.heap.objs.size+1:=by rw[<- hG,Heap.size_push]
 obtain⟨D,hD⟩:∃D:Addr,s2.heap.objs.size=D:=⟨_,rfl⟩
 obtain⟨C,hC⟩:∃C:Addr,G.objs.size=C:=⟨_,rfl⟩
 rw[hD]at hCs
 rw[hD]
 rw[hC]at hCs hns₁ hce₁ ⊢
 have hDC:D≠C:=by rw[hCs];exact Nat.ne_of_lt (Nat.lt_succ_self _)
 have old:∀b o,s2.heap.get? b=some o->h₁.get? b=some o:=fun b o e=>hsb₁ b o (hG ▸ Heap.get?_push_of_some _ e)
 have hacc:h₁.PlainList D #[]:=⟨_,hsb₁ _ _ (hG ▸ (hD ▸ Heap.get?_push_size s2.heap rfl))⟩
 let X':=cxComp X s2 H2 fp x scope cl C
 have hCle:s2.heap.objs.size<=C:=by rw[hD,hCs];exact Nat.le_succ _
 have I3:Inv X' [] (σ ++ [none]) H2 { s2 with heap:=h₁ }:=comp_inv I2 co f2 hCle hfp old hns₁ fun z=>⟨_,hce₁ z⟩
 have ndX:X'.N.Nodup:=blockN_nd nd hE co.ne
 have hDL:D≠X.env.locals:=by rw[<- hD];exact Nat.ne_of_gt I2.lt
 have hDf:D ∉ frs X.stack:=fun hb=>by
  rcases List.mem_cons.mp (I2.stkSub D hb) with z|z
  ·exact hDL z
  ·exact I2.nofs (Nat.le_of_eq hD) z
 have hDfp:D ∉ fp:=fun hb=>by have:=hfp D hb;rw[hD]at this;exact absurd this (Nat.lt_irrefl _)
 have hDc:∀y c,(cellsX scope x cl C).lookup y=some c->c≠D:=fun y c e z=>by
  rcases cellsX_of e with⟨_,e,_⟩|e
  ·rw[e,hCs]at z
   have z:(D+1+1:Nat)=D:=z
   lia
  obtain⟨v,q⟩:=I2.cell y c (co.sub y c e)
  have:=q.lt
  rw[z,<- hD]at this
  exact absurd this (Nat.lt_irrefl _)
 have stat:∀ {H':Hp} {ob:Obj},(∀b∈fp,H' b=none)->∀b∈fp,FpOk X' [(D,ob)] H' b:=fun {H' ob} hn b hb=>by
  obtain⟨g0,g1,g2,g3,g4,g5⟩:=f2 b hb
  refine⟨hn b hb,fun z=>?_,fun z=>?_,.inl hb,fun y c e=>?_,fun p hp z=>?_⟩
  rotate_left 2
  ·rcases cellsX_of e with⟨_,rfl,_⟩|e
   ·have:=hfp b hb
    intro z
    rw[<- z]at this
    exact absurd (Nat.lt_of_lt_of_le this hCle) (by lia)
   ·exact g4 y c (co.sub y c e)
  rotate_left
  ·have:=hfp b hb
   rw[show b=C from z]at this
   exact absurd (Nat.lt_of_lt_of_le this hCle) (Nat.lt_irrefl _)
  ·rcases List.mem_cons.mp (I2.stkSub b z) with y|y
   ·exact g1 y
   ·exact g2 y
  ·have hp':p=(D,ob):=by simpa[X',cxComp]using hp
   subst hp'
   have z':D=b:=z
   exact hDfp (z' ▸ hb)
 have pinD:∀ {τ:L2.St} {H':Hp} {s':Shared} {n:Nat} {us:List Value},Inv X' [] τ H' s'->s'.heap.get? D=some { cls:=.type "list",data:=.seq us.toArray n }->H' D=none->Inv X' [(D,{ cls:=.type "list",data:=.seq us.toArray n })] τ H' s':=fun {τ H' s' n us} J e hn =>
  J.pins_of fun p hp=>by
   have hp':p=(D,{ cls:=.type "list",data:=.seq us.toArray n }):=by simpa using hp
   subst hp'
   exact⟨e,hn,hDC,hDf,fun v z=>by cases z⟩
 have loop:codeAny (model X.prog X.w) X.A (.compLoop (.ListComp elt [⟨.Name x px,iter,ifs,0⟩] scope pos) 0 (.ref it) (.ref D) (compEnvC scope (cellsX scope x cl C) C X.env))
  (compPost (model X.prog X.w) X.A X.xe use Qv (.ref D) C) { s2 with heap:=h₁ }:=by
  refine comp_loop (fun n s'=>∃(i:Nat) (o:Option V) (ys:List V) (us:List Value) (H':Hp),Inv X' [] (σ ++ [o]) H' s'/\tn i s'.heap/\(∀b∈fp,H' b=none)/\s'.heap.PlainList D us.toArray/\Vals ys us/\H' D=none/\W i n ys H') ?_ m0
   ⟨0,none,[],[],H2,I3,T.keep _ _ _ st2 fun b hb o e=>old b o e,fun b hb=>(f2 b hb).1,hacc,.nil,I2.hok.fresh (Nat.le_of_eq hD),w0⟩
  rintro n s3 ⟨i,o3,ys,us,H3,J3,st3,fr3,⟨n3,pl3⟩,vl3,hD3,w3⟩
  have J3':=pinD J3 pl3 hD3
  rcases turn i n ys H3 w3 with⟨stop,hl,q⟩|⟨go,hl,step⟩
  ·refine wpAny_mono (T.done X' rfl rfl rfl hc i _ s3 _ H3 (fun _ _=>False) J3' (stat fr3) st3 stop) (fun r s4 ⟨hr,J4⟩=>?_) fun _ _ z=>z
   subst hr
   obtain⟨m4,hn4,_⟩:=J4.loc
   have eD:s4.heap.get? D=some { cls:=.type "list",data:=.seq us.toArray n3 }:=(J4.pin _ (List.mem_append_right _ (List.mem_cons_self ..))).1
   have nC:∀b o,s2.heap.get? b=some o->b≠C:=fun b o e z=>by
    have:=Heap.lt_size e
    rw[z]at this
    exact absurd (Nat.lt_of_lt_of_le this hCle) (Nat.lt_irrefl _)
   have nD:∀b o,s2.heap.get? b=some o->b≠D:=fun b o e z=>by
    have:=Heap.lt_size e
    rw[z,hD]at this
    exact absurd this (Nat.lt_irrefl _)
   have tD:∀b u,H3 b=some u->b≠D:=fun b u e=>ne_of_none e hD3
   have hCn:H3 C=none:=J4.free
   have U4:Un (frs X.stack) fp H2 H3 s2.heap s4.heap:=J4.base
   have U:Un (frs X.stack) fp H2 (upd H3 D (.lst ys)) s2.heap s4.heap:={
    keep:=fun b o e hn hb hx=>U4.keep b o e hn hb hx
    slot:=fun b o e hn hb hx=>by
     obtain⟨sl,q⟩:=U4.slot b o e hn hb hx
     exact⟨sl,q⟩
    free:=fun b o e hn hx=>by rw[upd_ne (nD b o e)];exact U4.free b o e hn hx
    there:=fun b o e hx=>by
     obtain⟨o',q⟩:=U4.there b o e hx
     exact⟨o',q⟩
    tups:=fun b xs e=>by have:=U4.tups b xs e;rw[upd_ne (tD b _ this)];exact this
    frzs:=fun b o u e=>by have:=U4.frzs b o u e;rw[upd_ne (tD b _ this)];exact this
    tbls:=fun b ps e=>by
     obtain⟨more,this⟩:=U4.tbls b ps e
     exact⟨more,by rw[upd_ne (tD b _ this)];exact this⟩ }
   have K:HOk X.prog X.w (upd H3 D (.lst ys)) s4.heap:=fun b u e=>by
    by_cases hb:b=D
    ·subst hb
     rw[upd_same]at e
     cases e
     exact⟨hl,us,n3,vl3,eD⟩
    ·rw[upd_ne hb]at e
     exact(J4.hok b u e).stay (fun c v hc q=>q) (fun c z=>by rw[upd_ne (tD c _ z)];exact z) fun c xs z=>by rw[upd_ne (tD c _ z)];exact z
   have I4:Inv X pins σ (upd H3 D (.lst ys)) s4:=I2.call' J4.os U K J4.bare fun b hb=>by
    obtain⟨g0,g1,g2,g3,g4,g5⟩:=f2 b hb
    exact⟨g3,g1,g4,g5⟩
   exact fin D C _ s4 m4 I4 hn4 (I2.fpOk hCle (by rw[upd_ne (Ne.symm hDC)];exact hCn)) (q D hD3)
  ·refine wpAny_mono (T.item X' rfl rfl rfl hc i _ s3 _ H3 (fun _ _=>False) J3' (stat fr3) st3 go) (fun r s4 ⟨u,hr,h4⟩=>?_) fun _ _ z=>z
   subst hr
   refine wpAny_mono h4 (fun _ s5 ⟨xv,H5,J5,r5,y5,st5,fr5⟩=>?_) fun _ _ z=>z
   have J5':=J5.pinned (stat fr5) (T.obj _ _ st5)
   have hlen:σ.length=X.N.length:=I2.len
   refine wpAny_assign_Name (store_ok J5' ndX (i:=X.N.length) blockN_last (co.loc.elim (fun z=>.inl (lookup_relabel_local z)) fun z=>.inr (lookup_relabel_cell z)) r5 (fun s6 J6=>?_) (co.loc.elim (fun z=>.inr (lookup_relabel_local z)) fun z=>.inl (by show (decide (scope.names.lookup x=some .cell)&&decide (x=x))=true;simp[z])))
   have eσ:(σ ++ [o3]).set X.N.length (some xv)=σ ++ [some xv]:=by rw[<- hlen];simp
   rw[eσ]at J6
   refine thn (ht s2 H2 fp C _ s6 _ H5 _ J6 (step xv H5 y5)) fun b s6 ⟨H6,J6,w6⟩=>?_
   cases b with
   |false =>
    obtain⟨m',hm,w7⟩:=w6
    have pD:=J6.pin (D,_) (List.mem_append_right _ (List.mem_append_left _ (List.mem_cons_self ..)))
    refine⟨m',hm,i+1,some xv,ys,us,H6,J6.pins_of fun p hp=>(nomatch hp),T.keep _ _ _ st5 fun b hb o e=>(J6.pin (b,o) (List.mem_append_right _ (List.mem_append_right _ (mem_pinsAt hb e)))).1,fun b hb=>?_,⟨n3,pD.1⟩,vl3,pD.2.1,w7⟩
    obtain⟨o,e,_⟩:=T.obj _ _ st5 b hb
    exact(J6.pin (b,o) (List.mem_append_right _ (List.mem_append_right _ (mem_pinsAt hb e)))).2.1
   |true =>
   refine thn (he s2 H2 fp C _ s6 _ H6 _ J6 w6) fun y s7 ⟨yv,H7,J7,r7,m',hm,w7⟩=>?_
   have pD:=J7.pin (D,_) (List.mem_append_right _ (List.mem_append_left _ (List.mem_cons_self ..)))
   have pl7:s7.heap.PlainList D us.toArray:=⟨n3,pD.1⟩
   have hsz:us.toArray.size<=sizeLine:=by have:=vl3.length;simp;lia
   refine wpAny_list_append_plain (hsz:=hsz) pl7 fun h₈ pl8 sb8=>?_
   refine⟨m',hm,i+1,some xv,ys ++ [yv],us ++ [y],H7,?_,?_,?_,?_,vl3.append (.cons r7 .nil),pD.2.1,w7⟩
   ·have J7':Inv X' [] (σ ++ [some xv]) H7 s7:=J7.pins_of fun p hp=>nomatch hp
    exact J7'.turned (t':=s7.toks) (it:=D) (fun b o hb e=>(sb8.2 b hb).trans e) pD.2.1 hDC (.inr (Nat.le_of_eq hD)) hDc fun p hp=>nomatch hp
   ·refine T.keep _ _ _ st5 fun b hb o e=>?_
    have:=(J7.pin (b,o) (List.mem_append_right _ (List.mem_append_right _ (mem_pinsAt hb e)))).1
    exact(sb8.2 b fun z=>hDfp (z ▸ hb)).trans this
   ·intro b hb
    obtain⟨o,e,_⟩:=T.obj _ _ st5 b hb
    exact(J7.pin (b,o) (List.mem_append_right _ (List.mem_append_right _ (mem_pinsAt hb e)))).2.1
   ·have e:(us ++ [y]).toArray=us.toArray.push y:=by simp
    rw[e];exact pl8
 exact codeAny_compStart_list loop (T.self _ _ _ _ _ (T.keep _ _ _ st2 fun b hb o e=>old b o e) loop)
theorem pe_comp{px pos:Pos}{iter elt:Expr}{ifs:List Expr}{wi:TI}{tt:TT}{te:TE}(hc:X.calm=true)(nd:X.N.Nodup)(hE:(dum X.N) ∉ X.N)(co:CompOk X x scope cl)(hi:PI X (.Name x px) iter wi)
 (ht:∀s H fp C,PTs (cxComp X s H fp x scope cl C) ifs tt) (he:∀s H fp C,PE (cxComp X s H fp x scope cl C) elt te) (hs:∀v,foldedSetIterable iter X.env v=pure v):PE X (.ListComp elt [⟨.Name x px,iter,ifs,0⟩] scope pos) (tCompF wi tt te):=by
 intro pins s σ H Q I h
 rw[eval_ListComp]
 refine comp_core hc nd hE co hi ht he hs I h fun D C H' s4 m I4 hn hC q=>?_
 obtain⟨g0,g1,g2,g3,g4,g5⟩:=hC
 exact⟨m,hn,fun h' sb=>⟨.ref D,H',I4.turned (t':=s4.toks) (fun b o hb e=>(sb.2 b hb).trans e) g0 g1 g3 g4 g5,rfl,q⟩⟩
theorem ps_comp{px py pos spos:Pos}{y:Str}{i:Nat}{iter elt:Expr}{ifs:List Expr}{wi:TI}{tt:TT}{te:TE}(hc:X.calm=true)(nd:X.N.Nodup)(hE:(dum X.N) ∉ X.N)(co:CompOk X x scope cl)(hi:PI X (.Name x px) iter wi)
 (ht:∀s H fp C,PTs (cxComp X s H fp x scope cl C) ifs tt) (he:∀s H fp C,PE (cxComp X s H fp x scope cl C) elt te) (hs:∀v,foldedSetIterable iter X.env v=pure v)
 (hsw:swapsWith (.ListComp elt [⟨.Name x px,iter,ifs,0⟩] scope pos) (some (.Name y py)) spos.line X.env=pure true) (hy:X.N[i]?=some y) (hl:L2.Loc X.env.scope y) (hf:X.fn y=true\/X.env.scope.names.lookup y=some .local) :
 PS X (.Assign [.Name y py] (.ListComp elt [⟨.Name x px,iter,ifs,0⟩] scope pos) spos) (fun D σ H=>tCompF wi tt te σ H fun v H'=>D.nx (σ.set i (some v)) H'):=by
 intro pins s σ H D I h
 rw[exec_Assign_Name_used _ _ _ _ hsw]
 refine wpAny_bind (wpAny_standAt (wpAny_bind ?_))
 show wpAny _ X.A (do let _ <- comprehension (.ListComp elt [⟨.Name x px,iter,ifs,0⟩] scope pos) scope X.env (firstIterPos [⟨.Name x px,iter,ifs,0⟩] pos) (newList []) (firstAsync [⟨.Name x px,iter,ifs,0⟩]) (firstIter [⟨.Name x px,iter,ifs,0⟩] X.env) (some (assign (.Name y py) X.env))) _ _ s
 refine wpAny_bind (wpAny_mono (comp_core (Qv:=fun _ s'=>SP X pins D .next s') hc nd hE co hi ht he hs I h fun Da C H' s4 m I4 hn hC q=>?_) (fun _ s' hq=>wpAny_pure (wpAny_pure hq)) fun _ _ z=>z)
 refine wpAny_assign_Name (store_ok2 I4 nd hy hl (v:=.ref Da) rfl (fun s5 I5 ⟨a,sb,ha⟩=>?_) hf)
 obtain⟨g0,g1,g2,g3,g4,g5⟩:=hC
 have haC:a≠C:=by
  rcases ha with z|z
  ·rw[z];exact Ne.symm g1
  ·exact g4 y a z
 refine⟨m,hn.sameBut sb (Ne.symm haC),fun h' sb'=>?_⟩
 exact⟨_,H',I5.turned (t':=s5.toks) (fun b o hb e=>(sb'.2 b hb).trans e) g0 g1 g3 g4 g5,q⟩
end
end Z
namespace Z
open PySem PySem.Spec PyProof.Rows L2
def minus(H:Hp)(O:List Addr):Hp:=fun a=>if a∈O then none else H a
theorem minus_same(H:Hp)(O:List Addr):Same (minus H O) H:=fun b o h=>by
 unfold minus at h
 split at h
 ·cases h
 ·exact h
theorem minus_mono{H H':Hp}{O:List Addr}(e:Same H H'):Same (minus H O) (minus H' O):=fun b o h=>by
 unfold minus at *
 split at h
 ·cases h
 ·next hb=>rw[if_neg hb];exact e b o h
theorem minus_less{H:Hp}{O O':List Addr}(e:∀a∈O',a∈O):Same (minus H O) (minus H O'):=fun b o h=>by
 unfold minus at *
 split at h
 ·cases h
 ·next hb=>rw[if_neg fun z=>hb (e b z)];exact h
theorem minus_at{H:Hp}{O:List Addr}{a:Addr}(h:a ∉ O):minus H O a=H a:=by unfold minus;rw[if_neg h]
theorem sqt_mono{K:PySem.W.Frag}{H H':Hp}{a:Addr}{xs:List V}(e:Same H H')(h:SqT K H a xs):SqT K H' a xs:=by
 rcases h with(h|⟨o,h⟩)|h
 ·exact .inl (.inl (e _ _ h))
 ·exact .inl (.inr ⟨o,e _ _ h⟩)
 ·exact .inr h
mutual
def Is(K:PySem.W.Frag)(S:Hp):D->V->Prop
 |.non,v=>v=.non
 |.bl b,v=>v=.bl b
 |.int i,v=>v=.int i
 |.str x,v=>v=.str x/\PyData.strOk x=true
 |.tup xs,v=>∃a vs,v=.ref a/\SqT K S a vs/\Iss K S xs vs
 |.lst xs,v=>∃a vs,v=.ref a/\SqL K S a vs/\Iss K S xs vs
def Iss(K:PySem.W.Frag)(S:Hp):List D->List V->Prop
 |[],vs=>vs=[]
 |d::ds,vs=>∃v r,vs=v::r/\Is K S d v/\Iss K S ds r
end
section
variable {K:PySem.W.Frag} {S S':Hp}
mutual
theorem Is.mono(e:Same S S'):∀(d:D) {v:V},Is K S d v->Is K S' d v
 |.non,v,h=>by unfold Is at *;exact h
 |.bl b,v,h=>by unfold Is at *;exact h
 |.int i,v,h=>by unfold Is at *;exact h
 |.str x,v,h=>by unfold Is at *;exact h
 |.tup xs,v,h=>by
  unfold Is at *
  obtain⟨a,vs,h1,h2,h3⟩:=h
  exact⟨a,vs,h1,sqt_mono e h2,Iss.mono e xs h3⟩
 |.lst xs,v,h=>by
  unfold Is at *
  obtain⟨a,vs,h1,h2,h3⟩:=h
  exact⟨a,vs,h1,e.seq h2,Iss.mono e xs h3⟩
theorem Iss.mono(e:Same S S'):∀(ds:List D) {vs:List V},Iss K S ds vs->Iss K S' ds vs
 |[],vs,h=>by unfold Iss at *;exact h
 |d::ds,vs,h=>by
  unfold Iss at *
  obtain⟨v,r,h1,h2,h3⟩:=h
  exact⟨v,r,h1,Is.mono e d h2,Iss.mono e ds h3⟩
end
theorem Iss.length:∀ {ds:List D} {vs:List V},Iss K S ds vs->vs.length=ds.length
 |[],vs,h=>by unfold Iss at h;subst h;rfl
 |d::ds,vs,h=>by
  unfold Iss at h
  obtain⟨v,r,rfl,_,h3⟩:=h
  simp[Iss.length h3]
theorem Iss.get:∀ {ds:List D} {vs:List V} {i:Nat} {d:D},Iss K S ds vs->ds[i]?=some d->∃v,vs[i]?=some v/\Is K S d v
 |[],vs,i,d,h,e=>by simp at e
 |x::ds,vs,i,d,h,e=>by
  unfold Iss at h
  obtain⟨v,r,rfl,h2,h3⟩:=h
  cases i with
  |zero=>simp at e;subst e;exact⟨v,rfl,h2⟩
  |succ i =>
   obtain⟨w,e1,e2⟩:=Iss.get (i:=i) (d:=d) h3 (by simpa using e)
   exact⟨w,by simpa using e1,e2⟩
theorem Iss.append:∀ {ds es:List D} {vs ws:List V},Iss K S ds vs->Iss K S es ws->Iss K S (ds++es) (vs++ws)
 |[],es,vs,ws,h,g=>by unfold Iss at h;subst h;exact g
 |x::ds,es,vs,ws,h,g=>by
  unfold Iss at h
  obtain⟨v,r,rfl,h2,h3⟩:=h
  show Iss K S (x::(ds++es)) (v::(r++ws))
  unfold Iss
  exact⟨v,_,rfl,h2,h3.append g⟩
theorem is_int{i:Int}{v:V}(h:Is K S (.int i) v):v=.int i:=by unfold Is at h;exact h
theorem is_bl{i:Bool}{v:V}(h:Is K S (.bl i) v):v=.bl i:=by unfold Is at h;exact h
theorem is_non{v:V}(h:Is K S .non v):v=.non:=by unfold Is at h;exact h
theorem is_str{x:Str}{v:V}(h:Is K S (.str x) v):v=.str x/\PyData.strOk x=true:=by unfold Is at h;exact h
theorem is_tup{xs:List D}{v:V}(h:Is K S (.tup xs) v):∃a vs,v=.ref a/\SqT K S a vs/\Iss K S xs vs:=by unfold Is at h;exact h
theorem is_lst{xs:List D}{v:V}(h:Is K S (.lst xs) v):∃a vs,v=.ref a/\SqL K S a vs/\Iss K S xs vs:=by unfold Is at h;exact h
theorem int_is(i:Int):Is K S (.int i) (.int i):=by unfold Is;rfl
theorem bl_is(i:Bool):Is K S (.bl i) (.bl i):=by unfold Is;rfl
theorem non_is:Is K S .non .non:=by unfold Is;rfl
theorem str_is{x:Str}(h:PyData.strOk x=true):Is K S (.str x) (.str x):=by unfold Is;exact⟨rfl,h⟩
theorem tup_is{xs:List D}{a:Addr}{vs:List V}(h:S a=some (.tup vs))(g:Iss K S xs vs):Is K S (.tup xs) (.ref a):=by unfold Is;exact⟨a,vs,rfl,SqT.of h,g⟩
theorem tup_isT{xs:List D}{a:Addr}{vs:List V}(h:SqT K S a vs)(g:Iss K S xs vs):Is K S (.tup xs) (.ref a):=by unfold Is;exact⟨a,vs,rfl,h,g⟩
theorem lst_is{xs:List D}{a:Addr}{vs:List V}(h:SqL K S a vs)(g:Iss K S xs vs):Is K S (.lst xs) (.ref a):=by unfold Is;exact⟨a,vs,rfl,h,g⟩
end
mutual
noncomputable def toPy:D->PyData
 |.non=>.none
 |.bl b=>.bool b
 |.int i=>.int i
 |.str x=>.str x
 |.tup xs=>.tuple (toPys xs)
 |.lst xs=>.list (toPys xs)
noncomputable def toPys:List D->List PyData
 |[]=>[]
 |x::xs=>toPy x::toPys xs
end
mutual
theorem eqv_toPy:∀a b:D,PyData.eqv (toPy a) (toPy b)=eqD a b
 |a,b=>by
  cases a<;>cases b<;>simp only[toPy,PyData.eqv,eqD]
  ·exact eqv_toPys _ _
  ·exact eqv_toPys _ _
theorem eqv_toPys:∀a b:List D,PyData.eqvAll (toPys a) (toPys b)=eqDs a b
 |[],[]=>by simp only[toPys,PyData.eqvAll,eqDs]
 |[],_::_=>by simp only[toPys,PyData.eqvAll,eqDs]
 |_::_,[]=>by simp only[toPys,PyData.eqvAll,eqDs]
 |x::xs,y::ys=>by simp only[toPys,PyData.eqvAll,eqDs];rw[eqv_toPy x y,eqv_toPys xs ys]
end
mutual
theorem dep_toPy:∀a:D,(toPy a).depth=depD a
 |.non=>rfl
 |.bl _=>rfl
 |.int _=>rfl
 |.str _=>rfl
 |.tup xs=>by simp only[toPy,PyData.depth,depD];rw[dep_toPys xs]
 |.lst xs=>by simp only[toPy,PyData.depth,depD];rw[dep_toPys xs]
theorem dep_toPys:∀a:List D,PyData.depthAll (toPys a)=depDs a
 |[]=>rfl
 |x::xs=>by simp only[toPys,PyData.depthAll,depDs];rw[dep_toPy x,dep_toPys xs]
end
section
variable {X:Cx} {pins:List (Addr×Obj)} {σ:L2.St} {H:Hp} {s:Shared}
mutual
theorem Is.reads(I:Inv X pins σ H s):∀(d:D) {v:V} {u:Value},Is X.K H d v->RelV v u->(∃as,Reads s.heap u (toPy d) as)/\(toPy d).canLay0=true
 |.non,v,u,h,r=>by cases is_non h;cases r;exact⟨⟨_,.none⟩,rfl⟩
 |.bl b,v,u,h,r=>by cases is_bl h;cases r;exact⟨⟨_,.bool b⟩,rfl⟩
 |.int i,v,u,h,r=>by cases is_int h;obtain⟨t,rfl⟩:=r;exact⟨⟨_,.int i t⟩,rfl⟩
 |.str x,v,u,h,r=>by obtain⟨rfl,o⟩:=is_str h;obtain⟨t,rfl⟩:=r;exact⟨⟨_,.str x t⟩,o⟩
 |.tup xs,v,u,h,r=>by
  obtain⟨a,vs,rfl,h1,h2⟩:=is_tup h
  cases r
  obtain⟨its,rv,⟨o,e1,e2,n,e3⟩,_⟩:=I.tuple h1
  obtain⟨⟨as,ra⟩,c⟩:=Iss.reads I xs h2 rv
  exact⟨⟨as,.tuple e1 e2 e3 (by simpa using ra)⟩,c⟩
 |.lst xs,v,u,h,r=>by
  obtain⟨a,vs,rfl,h1,h2⟩:=is_lst h
  cases r
  obtain⟨its,rv,pl,_⟩:=I.list h1
  obtain⟨o,e1,e2,n,e3⟩:=pl.isList
  obtain⟨⟨as,ra⟩,c⟩:=Iss.reads I xs h2 rv
  exact⟨⟨_,.list e1 e2 e3 (by simpa using ra)⟩,c⟩
theorem Iss.reads(I:Inv X pins σ H s):∀(ds:List D) {vs:List V} {us:List Value},Iss X.K H ds vs->Vals vs us->(∃as,ReadsAll s.heap us (toPys ds) as)/\PyData.canLayAll0 (toPys ds)=true
 |[],vs,us,h,r=>by
  unfold Iss at h;subst h;cases r
  exact⟨⟨_,.nil⟩,rfl⟩
 |d::ds,vs,us,h,r=>by
  unfold Iss at h
  obtain⟨v,q,rfl,h1,h2⟩:=h
  cases r with
  |cons r1 r2 =>
   obtain⟨⟨as,ra⟩,c1⟩:=Is.reads I d h1 r1
   obtain⟨⟨bs,rb⟩,c2⟩:=Iss.reads I ds h2 r2
   exact⟨⟨_,.cons ra rb⟩,by simp only[toPys,PyData.canLayAll0];rw[c1,c2];rfl⟩
end
end
end Z
namespace Z
open PySem PySem.Spec PyProof.Rows L2
section
variable {prog:Program} {w:World} {A:Around} {E:Value->Shared->Prop}
end
section
variable {prog:Program} {w:World} {A:Around} {R:Result->Shared->Prop} {I S:Addr} {fp wr:List Addr} {G:Array GenState->Array GenState->Prop} {P:Nat->Value->Prop} {St:Nat->Shared->Prop} {ns:List Int}
theorem str_min:(toString "min" ++ toString ".loop":String)="min.loop":=by decide
theorem moved_upd{s s':Shared}(mv:Moved wr G s s')(f:Obj->Obj):Moved (S::wr) G s { s' with heap:=s'.heap.update S f } :=
 ⟨fun b o hb eb=>(Heap.get?_update_other _ _ (fun x=>hb (by rw[x];exact List.mem_cons_self))).trans (mv.heap b o (fun x=>hb (List.mem_cons_of_mem _ x)) eb),mv.gens,mv.drawn,mv.os,mv.toks⟩
theorem drop_at{i:Nat}(h:i<ns.length):ns.drop i=ns.getD i 0::ns.drop (i+1):=by rw[List.drop_eq_getElem_cons h];simp[h]
theorem min_go(W:WalksS prog w A.in1 I fp wr G ns.length P St)(hv:∀i v,P i v->∃t,v=.int (ns.getD i 0) t)(hS:S ∉ fp)(kw:List (Str×Value)):∀(k i:Nat) (s:Shared) (m:Int) (t:Tok) (c:Nat),i+k=ns.length->St i s ->
 s.heap.get? S=some { cls:=.type "list",dict:=none,data:=.seq #[.int m t,.int m t] c,slots:=#[] }->(∀s' t',Moved (S::wr) G s s'->R (.ok (.ret (.int ((ns.drop i).foldl (pick false) m) t'))) s') ->
 codeAny (model prog w) A (.builtin "min.loop" ⟨[.ref I,.none,.ref S],kw⟩) R s
 |0,i,s,m,t,c,e,a1,a2,q=>by
  have Sw:S ∉ wr:=fun z=>hS (W.sub _ z)
  refine codeAny_builtin F.entry_min_loop ?_
  rw[Around.under_plainId F.plain_min_loop _]
  refine wpAny_bind (m:=seqItems? (.ref S)) (wpAny_seqItems a2 rfl ?_)
  refine wpAny_bind (m:=tryCatch (pyNext (.ref I)) _) (wpAny_tryCatch (W.done s _ _ (by rw[<- e];exact a1) ?_))
  intro s' mv
  have b2:=mv.heap S _ Sw a2
  refine wpAny_bind (m:=updateSeq S (fun _=>#[])) (wpAny_updateSeq b2 rfl (wpAny_bind (wpAny_letGo (wpAny_pure ?_))))
  have z:=q _ t (moved_upd mv (Obj.mapSeq fun _=>#[]))
  rw[List.drop_of_length_le (by lia)]at z
  exact z
 |k+1,i,s,m,t,c,e,a1,a2,q=>by
  have Sw:S ∉ wr:=fun z=>hS (W.sub _ z)
  have lt:i<ns.length:=by lia
  rw[drop_at lt,List.foldl_cons]at q
  refine codeAny_builtin F.entry_min_loop ?_
  rw[Around.under_plainId F.plain_min_loop _]
  refine wpAny_bind (m:=seqItems? (.ref S)) (wpAny_seqItems a2 rfl ?_)
  refine wpAny_bind (m:=tryCatch (pyNext (.ref I)) _) (wpAny_tryCatch (W.item i s _ _ lt a1 ?_))
  intro v s' pv b1 mv
  obtain⟨t₁,rfl⟩:=hv i v pv
  have b2:=mv.heap S _ Sw a2
  generalize hn:ns.getD i 0=n at *
  have cmp:=CmpOf.ints_lt (prog:=prog) (w:=w) (A:=A.in1) (P:=fun j v=>∃t,v=.int (if j=0 then n else m) t) (fun j=>if j=0 then n else m) (fun _ _ h=>h)
  refine wpAny_bind (m:=tryCatch (holding [.int n t₁,.int n t₁] (richCompare .Lt (.int n t₁) (.int m t) >>= _)) _) (wpAny_tryCatch (wpAny_holding (wpAny_bind (cmp 0 1 _ _ _ _ _ ⟨t₁,rfl⟩ ⟨t,rfl⟩ ?_))))
  simp only[if_true,Nat.one_ne_zero,if_false]
  refine wpAny_bind (wpAny_holding (wpAny_truthy_bool (wpAny_bind (wpAny_letGo (wpAny_pure ?_)))))
  have moved:Moved (S::wr) G s s':=mv.mono fun b hb=>List.mem_cons_of_mem _ hb
  by_cases lo:n<m
  ·simp only[lo,decide_true,if_true]
   have pk:pick false m n=n:=by unfold pick;simp[lo]
   rw[pk]at q
   refine wpAny_bind (wpAny_updateSeq b2 rfl (wpAny_bind (wpAny_letGo ?_)))
   rw[str_min]
   refine wpAny_pure ⟨plainId_quiet F.plain_min_loop _,min_go W hv hS kw k (i+1) _ n t₁ _ (by lia) (W.frame _ s' _ s'.toks b1 (Nat.le_refl _) ?_) (Heap.get?_update_self _ b2 rfl) ?_⟩
   ·intro b hb o eb
    exact(Heap.get?_update_other _ _ (fun x=>hS (by rw[x];exact hb))).trans eb
   ·intro s₂ t₂ m₂
    exact q s₂ t₂ (Moved.trans W.gtrans (moved_upd mv _) m₂)
  ·simp only[lo,decide_false,Bool.false_eq_true,if_false]
   have pk:pick false m n=m:=by unfold pick;simp[lo]
   rw[pk]at q
   refine wpAny_bind (wpAny_letGo ?_)
   rw[str_min]
   exact wpAny_pure ⟨plainId_quiet F.plain_min_loop _,min_go W hv hS kw k (i+1) s' m t c (by lia) b1 b2 fun s₂ t₂ m₂=>q s₂ t₂ (Moved.trans W.gtrans moved m₂)⟩
end
section
variable {prog:Program} {w:World} {A:Around} {E:Value->Shared->Prop} {I:Addr} {fp wr:List Addr} {G:Array GenState->Array GenState->Prop} {P:Nat->Value->Prop} {St:Nat->Shared->Prop} {ns:List Int}
theorem fn_again{id:String}{b:Builtin}{args:List Value}{kw:List (Str×Value)}{Q:Value->Shared->Prop}{s:Shared}(hk:builtinKind id=none)(hp:plainId id=true)(hb:entryFor table id=some b)(ha:argsOk id ⟨args,kw⟩)
 (hc:wpAny (model prog w) A.in1 (b ⟨args,kw⟩) (fun fin s'=>∃c',fin=.again c'/\c'.quiet=true/\codeAny (model prog w) A c' (fun r s'=>match r with|.ok (.ret v)=>Q v s'|.ok _=>False|.error e=>E e s') s') E s) :
 wpAny (model prog w) A (call (.builtin id) args kw) Q E s:=by
 refine wpAny_call (codeAny_call_builtin hp hb ?_)
 have fin:=wpAny_mono hc (Q':=fun fin s'=>match fin with
  |.done f=>(match (Except.ok f:Result) with|.ok (.ret v)=>Q v s'|.ok _=>False|.error e=>E e s')
  |.again c'=>c'.quiet=true/\codeAny (model prog w) A c' (fun r s'=>match r with|.ok (.ret v)=>Q v s'|.ok _=>False|.error e=>E e s') s')
  (fun _ _ ⟨c',e,z⟩=>by subst e;exact z) fun _ _ z=>z
 simp only[checkBuiltinCall,hk]
 cases hs:Manifest.signature? id with
 |none=>exact wpAny_pure fin
 |some sig =>
  have e:Bind.checkArgs id sig ⟨args,kw⟩=pure ():=by simpa only[argsOk,hs]using ha
  simp only[e]
  exact wpAny_pure fin
end
theorem vals_int_at:∀ {ns:List Int} {us:List Value},Vals (ns.map V.int) us->∀i v,us[i]?=some v->∃t,v=Value.int (ns.getD i 0) t
 |[],us,r,i,v,h=>by cases r;simp at h
 |n::ns,us,r,i,v,h=>by
  cases r with
  |cons r1 r2 =>
   cases i with
   |zero=>simp at h;subst h;obtain⟨t,e⟩:=r1;exact⟨t,by simpa using e⟩
   |succ i=>simpa using vals_int_at r2 i v (by simpa using h)
theorem Inv.moved'{X:Cx}{pins:List (Addr×Obj)}{τ:L2.St}{H:Hp}{s s':Shared}{o:Obj}{tk:Nat}(I:Inv X pins τ H s)(m:Moved [s.heap.objs.size] (fun a b=>b=a) { s with heap:=s.heap.push o,toks:=tk } s'):Inv X pins τ H s':=by
 have k:∀b u,s.heap.get? b=some u->s'.heap.get? b=some u:=fun b u e=>m.heap b u (fun z=>by
  have:b=s.heap.objs.size:=by simpa using z
  exact absurd (Heap.lt_size e) (by rw[this];exact Nat.lt_irrefl _)) (Heap.get?_push_of_some _ e)
 exact I.call' (ch:=[]) m.os (Un.kept k) (I.hok.kept k) (by rw[m.gens];exact I.bare) fun _ z=>nomatch z
section
variable {prog:Program} {w:World} {A:Around} {E:Value->Shared->Prop} {I:Addr} {fp wr:List Addr} {G:Array GenState->Array GenState->Prop} {P:Nat->Value->Prop} {St:Nat->Shared->Prop}
theorem bind_min1:Builtin.Builtins.bindParams "min" ["key","default"] 0 ⟨[],[]⟩=pure [none,none]:=rfl
theorem args_min1(a:Value):argsOk "min" ⟨[a],[]⟩:=by unfold argsOk;kernel_rfl
theorem min_list{x:Value}{n:Int}{ns:List Int}{Q:Value->Shared->Prop}{s:Shared}
 (h:wpAny (model prog w) A.in1 (pyIter x) (fun it s₂=>∃I fp wr G P St,it=.ref I/\WalksS prog w A.in1 I fp wr G (n::ns).length P St/\St 0 s₂/\(∀b∈fp,b<s₂.heap.objs.size)/\(∀i v,P i v->∃t,v=.int ((n::ns).getD i 0) t) /\
  ∀s' t,Moved wr G s₂ s'->Q (.int (mmF false 0 (n::ns)) t) s') E s) :
 wpAny (model prog w) A (call (.builtin "min") [x] []) Q E s:=by
 refine fn_again F.kind_min F.plain_min F.entry_min (args_min1 _) ?_
 refine wpAny_bind (m:=Builtin.Builtins.bindParams "min" ["key","default"] 0 ⟨[],[]⟩) (wpAny_of_eq (bind_min1) ?_)
 refine wpAny_bind (wpAny_pure (wpAny_bind (wpAny_mono h ?_ fun _ _ e=>e)))
 rintro it s₂ ⟨I,fp,wr,G,P,St,rfl,W,st,hf,hv,q⟩
 refine wpAny_bind (wpAny_newObj_type ?_)
 have fresh:s₂.heap.objs.size ∉ fp:=fun z=>Nat.lt_irrefl _ (hf _ z)
 have st':St 0 { s₂ with heap:=s₂.heap.push { cls:=.type "list",dict:=none,data:=.seq #[] 0,slots:=#[] } }:=W.frame 0 s₂ _ s₂.toks st (Nat.le_refl _) fun b _ o e=>Heap.get?_push_of_some _ e
 have hS:=Heap.get?_push_size s₂.heap (show ({ cls:=.type "list",dict:=none,data:=.seq #[] 0,slots:=#[] }:Obj).isFreed=false from rfl)
 rw[str_min]
 refine wpAny_pure ⟨_,rfl,plainId_quiet F.plain_min_loop _,?_⟩
 refine codeAny_builtin F.entry_min_loop ?_
 rw[Around.under_plainId F.plain_min_loop _]
 refine wpAny_bind (m:=seqItems? (.ref s₂.heap.objs.size)) (wpAny_seqItems hS rfl ?_)
 refine wpAny_bind (m:=tryCatch (pyNext (.ref I)) _) (wpAny_tryCatch (W.item 0 _ _ _ (by simp) st' ?_))
 intro v s' pv b1 mv
 obtain⟨t₁,rfl⟩:=hv 0 v pv
 have Sw:s₂.heap.objs.size ∉ wr:=fun z=>fresh (W.sub _ z)
 have b2:=mv.heap _ _ Sw hS
 refine wpAny_bind (m:=updateSeq s₂.heap.objs.size (fun _=>#[.int n t₁,.int n t₁])) (wpAny_updateSeq b2 rfl ?_)
 rw[str_min]
 refine wpAny_pure ⟨plainId_quiet F.plain_min_loop _,min_go W hv fresh _ ns.length 1 _ n t₁ _ (by simp;lia) (W.frame _ s' _ s'.toks b1 (Nat.le_refl _) ?_) (Heap.get?_update_self _ b2 rfl) ?_⟩
 ·intro b hb o eb
  exact(Heap.get?_update_other _ _ (fun x=>fresh (by rw[x];exact hb))).trans eb
 ·intro s₃ t₃ m₃
  exact q s₃ t₃ (Moved.drop_new (tk:=s₂.toks) (Moved.trans W.gtrans (moved_upd mv _) m₃) (Nat.le_refl _))
end
theorem call_min1{X:Cx}(hc:X.calm=true){pins:List (Addr×Obj)}{s:Shared}{τ:L2.St}{H:Hp}{a:Addr}{n:Int}{ns:List Int}{Q:VK}(I:Inv X pins τ H s)(hq:SqL X.K H a ((n::ns).map V.int))(q:Q (.int (mmF false 0 (n::ns))) H) :
 wpAny (model X.prog X.w) X.A (call (.builtin "min") [.ref a] []) (EP X pins τ Q) X.xe s:=by
 obtain⟨its,rv,p,hz⟩:=I.list hq
 have hl:=rv.length
 rw[List.length_map]at hl
 obtain⟨o,n0,ho,_⟩:=id p
 have hne:a≠s.heap.objs.size:=Nat.ne_of_lt (Heap.lt_size ho)
 have W:=(Walks.list (prog:=X.prog) (w:=X.w) (A:=X.A.in1) (I.ok.hd hc) s.heap.objs.size a hne its.toArray).toS
 rw[show its.toArray.size=(n::ns).length by simp[hl]]at W
 have fin:wpAny (model X.prog X.w) X.A.in1 (pyIter (.ref a)) (fun it s₂=>∃I fp wr G P St,it=.ref I/\WalksS X.prog X.w X.A.in1 I fp wr G (n::ns).length P St/\St 0 s₂/\(∀b∈fp,b<s₂.heap.objs.size)/\(∀i v,P i v->∃t,v=.int ((n::ns).getD i 0) t) /\
  ∀s' t,Moved wr G s₂ s'->EP X pins τ Q (.int (mmF false 0 (n::ns)) t) s') X.xe s:=by
  refine wpAny_pyIter_list p.isList ⟨s.heap.objs.size,_,_,_,_,_,rfl,W,⟨⟨_,Heap.get?_push_size _ rfl,rfl,rfl⟩,p.isList.push _⟩,fun b hb=>?_,fun i v hv=>vals_int_at rv i v (by simpa using hv),fun s' t' m=>?_⟩
  ·rw[Heap.size_push]
   simp only[List.mem_cons,List.not_mem_nil,or_false]at hb
   rcases hb with z|z
   ·rw[z];exact Nat.lt_succ_self _
   ·rw[z];exact Nat.lt_succ_of_lt (Heap.lt_size ho)
  ·exact⟨.int (mmF false 0 (n::ns)),H,Inv.moved' (tk:=s.toks) I m,⟨t',rfl⟩,q⟩
 exact min_list fin
end Z
namespace Z
open PySem PySem.Spec PyProof.Rows L2
section
variable {prog:Program} {w:World} {A:Around} {E:Value->Shared->Prop} {s:Shared} {z TI TO i1 i2 l1 l2:Addr}
end
end Z
namespace Z
open PySem PySem.Spec PySem.Calls PyProof.Rows PySem.W L2
section
variable {prog:Program} {w:World} {A:Around} {E:Value->Shared->Prop} {h:Heap} {g:Array GenState} {d:Drawn} {t:Nat} {os:OsState}
variable {nm q:Str} {C N:Addr} {bs bm bmB:List Value} {hdct:Bool} {sn:List Str} {sub:List Value} {ab:Bool} {col:Option Bool} {dd:Option Addr} {k0 k1 k2 k3 k5:Option Value} {B Bn newId nid initId inN:String} {bmN:List Value}
theorem type_initU(Fn:ExcBaseFacts Bn newId inN bmN)(hBn:bmB.contains (.type Bn)=true)(F:ExcBaseFacts B nid initId bmB)(T:OwnTail h bmB bm){mN:Str->Option Value}{rest:List Value}{fI:Addr}{oI:Obj}{Q:PySem.Fin->Shared->Prop}
 (hC:h.get? C=some (excClassObj nm q C N bs bm hdct sn sub ab col dd k0 k1 k2 k3 k5 newId)) (hn:h.Ns N mN) (hi:mN "__init__"=some (.ref fI)) (hfI:h.get? fI=some oI) (hfc:oI.cls=.type "function")
 (hq:∀h' e,Heap.MadeExcOf h h' e (.ref C) rest->wpAny (model prog w) A (call (.ref fI) (.ref e::rest)) (fun r s'=>r=.none/\Q (.done (.ret (.ref e))) s') E ⟨h',g,d,t,os⟩) (hrest:rest.length<=sizeLine) :
 wpAny (model prog w) A (Builtin.«type.__call__» ⟨.ref C::rest,[]⟩) Q E ⟨h,g,d,t,os⟩:=by
 repeat (first|(with_reducible refine wpAny_loadPart_at hC ?_)|(with_reducible refine wpAny_madeBy_exc hC ?_)|wp_step)
 refine codeAny_call_builtin_code (Code.quiet_builtin _ Fn.quiet) (wpAny_check_new_subU Fn hBn T hC (codeAny_exc_new_subU Fn hBn F T hC ?_ hrest))
 show wpAny _ _ _ _ _ _
 generalize hh2:(h.push { cls:=.type "tuple",data:=.seq rest.toArray }).push { cls:=.ref C,data:=.fields #[.ref h.objs.size,.none,.none,.none,.bool false,.none] }=h2
 have kp:∀b o,h.get? b=some o->h2.get? b=some o:=fun b o e=>by rw[<- hh2];exact Heap.get?_push_of_some _ (Heap.get?_push_of_some _ e)
 have he:h2.get? (h.objs.size+1)=some { cls:=.ref C,data:=.fields #[.ref h.objs.size,.none,.none,.none,.bool false,.none] }:=by rw[<- hh2];heap_get
 have ht:h2.get? h.objs.size=some { cls:=.type "tuple",data:=.seq rest.toArray }:=by rw[<- hh2];exact Heap.get?_push_of_some _ (Heap.get?_push_at rfl rfl)
 have hcC:(Value.ref C::bm).contains (.ref C)=true:=by simp
 have hC2:=kp _ _ hC
 have hn2:h2.Ns N mN:=hn.keeps kp
 unfold isInstance
 repeat (first|(with_reducible refine wpAny_loadPart_at he ?_)|(with_reducible refine wpAny_isSubtype_exc hC2 ?_;rw[hcC])|wp_step)
 show wpAny _ _ (typeLookup (.ref C) _) _ _ _
 refine wpAny_typeLookup_tail hC2 hn2 (T.keeps kp) F.mroIs F.init.lookup ?_
 rw[hi]
 refine wpAny_holding (wpAny_bind ?_)
 unfold bindSpecial
 refine wpAny_bind (wpAny_typeOf (T:="function") ⟨_,kp _ _ hfI,hfc⟩ ?_)
 rw[if_pos (by decide)]
 have made:Heap.MadeExcOf h h2 (h.objs.size+1) (.ref C) rest:=⟨kp,Heap.get?_none_of_le (Nat.le_succ _),h.objs.size,he,Heap.get?_none_of_le (Nat.le_refl _),ht⟩
 refine wpAny_pure (wpAny_bind (wpAny_mono (hq h2 _ made) (fun r s' hr=>?_) fun _ _ x=>x))
 obtain⟨rfl,hQ⟩:=hr
 wp_walk
 exact hQ
theorem call_initU(Fn:ExcBaseFacts Bn newId inN bmN)(hBn:bmB.contains (.type Bn)=true)(F:ExcBaseFacts B nid initId bmB)(T:OwnTail h bmB bm){mN:Str->Option Value}{rest:List Value}{fI:Addr}{oI:Obj}{Q:Value->Shared->Prop}
 (hC:h.get? C=some (excClassObj nm q C N bs bm hdct sn sub ab col dd k0 k1 k2 k3 k5 newId)) (hn:h.Ns N mN) (hi:mN "__init__"=some (.ref fI)) (hfI:h.get? fI=some oI) (hfc:oI.cls=.type "function")
 (hq:∀h' e,Heap.MadeExcOf h h' e (.ref C) rest->wpAny (model prog w) (A.under (.builtin "type.__call__" ⟨.ref C::rest,[]⟩)) (call (.ref fI) (.ref e::rest)) (fun r s'=>r=.none/\Q (.ref e) s') E ⟨h',g,d,t,os⟩) (hrest:rest.length<=sizeLine) :
 wpAny (model prog w) A (call (.ref C) rest) Q E ⟨h,g,d,t,os⟩:=by
 have l1:=tc_lookup;have l2:=tc_bind (.ref C)
 have ty:(⟨h,g,d,t,os⟩:Shared).TypeIs (.ref C) "type":=⟨_,hC,rfl⟩
 refine wpAny_call (codeAny_of_tree (show wpAny _ _ (callAny (.ref C) _) _ _ _ from ?_))
 repeat (any_goals (first|assumption|(with_reducible refine wpAny_loadPart_at hC ?_)|wp_step))
 exact⟨rfl,codeAny_call_builtin_at (Code.quiet_builtin _ (by decide +kernel)) entry_typeCall (wpAny_check_type_call_sub hC (type_initU Fn hBn F T hC hn hi hfI hfc hq hrest))⟩
end
section
variable {M:Model} {A:Around} {E:Value->Shared->Prop} {env:Env}
variable {nm q:Str} {C N:Addr} {bs bm:List Value} {hdct:Bool} {sn:List Str} {sub:List Value} {ab:Bool} {col:Option Bool} {dd:Option Addr} {k0 k1 k2 k3 k5:Option Value} {newId:String}
end
end Z
namespace Z
open PySem PySem.Spec PySem.Calls PyProof.Rows PySem.W L2
section
variable {M:Model} {A:Around} {E:Value->Shared->Prop} {s:Shared}
def DictAt(h:Heap)(e:Addr)(dct:Option Addr):Prop:=∃o,h.get? e=some o/\o.dict=dct
theorem dict_mapFields(o:Obj)(f:Array Value->Array Value):(Obj.mapFields f o).dict=o.dict:=by
 unfold Obj.mapFields
 split<;>rfl
theorem noteD{base:Heap}{env:Env}{outer:List Env}{L e:Addr}{oe:Obj}{vs:Array Value}{head a0:Value}{hadNext:Bool}{Q:Unit->Shared->Prop}
 (hfr:A.frames=some (env::outer)) (hl:s.heap.FunFrames base (env::outer)) (hf:env.frame=some L) (he:s.heap.get? e=some oe) (hkb:base.StaysIn s.heap) (hen:base.get? e=none) (hd:oe.data=.fields vs) (hsz:1<vs.size) (h0:vs[0]?=some a0)
 (h:∀h',Heap.NotedW base (env::outer) e oe.cls a0 (rawInt L) s.heap h'->DictAt h' e oe.dict->Q () { s with heap:=h' }) :
 wpAny M A (do let a <- frameOf env;let pl <- entryPlaceOf L hadNext;let b <- EntryCells.newEntry head a .none (rawInt L) .none pl;setField (.ref e) 1 b) Q E s:=by
 have nf:e ∉ (env::outer).filterMap (·.frame):=fun hm=>by
  obtain⟨_,o,ho,hnf⟩:=hl.mem hm
  rw[he]at ho
  cases ho
  exact hnf vs hd
 refine wpAny_bind (wpAny_frameOf_fun hfr hl hf fun h1 hs=>wpAny_bind (wpAny_entryPlaceOf fun pl hpl=>?_))
 unfold EntryCells.newEntry newFields
 refine wpAny_bind (wpAny_newObj_type ?_ (hpl.sizeOk5 _ _ _ _ _))
 generalize htb:({ cls:=.type "traceback",dict:=none,data:=.fields ([head,.ref L,.none,rawInt L,.none]++(if pl.isEmpty then List.replicate 6 Value.none else pl)).toArray }:Obj)=tb
 have he1:h1.get? e=some oe:=(hs.2.1 e nf).trans he
 have hne:h1.objs.size≠e:=Nat.ne_of_gt (Heap.lt_size he1)
 have he2:(h1.push tb).get? e=some oe:=Heap.get?_push_of_some _ he1
 have hT2:(h1.push tb).get? h1.objs.size=some tb:=Heap.get?_push_size h1 (by rw[<- htb];rfl)
 let f1:Obj->Obj:=Obj.mapFields (·.setIfInBounds 1 (Value.ref h1.objs.size))
 have d3:(f1 oe).data=.fields (vs.setIfInBounds 1 (Value.ref h1.objs.size)):=Obj.data_mapFields hd _
 have he3:((h1.push tb).update e f1).get? e=some (f1 oe):=Heap.get?_update_self _ he2 (Obj.isFreed_of_fields d3)
 have hT3:((h1.push tb).update e f1).get? h1.objs.size=some tb:=(Heap.get?_update_other _ _ (Ne.symm hne)).trans hT2
 refine wpAny_setField he2 hd hsz (h _ ?_ ⟨f1 oe,he3,dict_mapFields _ _⟩)
 have kb:base.StaysIn h1:=fun b o hb=>(hs.2.1 b fun hm=>by rw[(hl.mem hm).1]at hb;cases hb).trans (hkb b o hb)
 have keep:∀b o,b≠e->h1.get? b=some o->((h1.push tb).update e f1).get? b=some o:=fun b o hb q=>by
  rw[Heap.get?_update_other _ _ (Ne.symm hb)]
  exact Heap.get?_push_of_some _ q
 have other:∀b o,s.heap.get? b=some o->(∀vs,o.data ≠ .fields vs)->b≠e:=fun b o q n z=>by
  rw[z,he]at q
  cases q
  exact n vs hd
 have fresh:base.get? h1.objs.size=none:=by
  cases q:base.get? h1.objs.size with
  |none=>rfl
  |some o=>exact absurd (Heap.lt_size (kb _ _ q)) (Nat.lt_irrefl _)
 have dT:tb.data=.fields ([head,.ref L,.none,rawInt L,.none]++(if pl.isEmpty then List.replicate 6 Value.none else pl)).toArray:=by rw[<- htb]
 refine⟨fun b o q=>keep b o (fun z=>by rw[z,hen]at q;cases q) (kb b o q),hl.of_keeps fun b o q n=>?_,⟨f1 oe,_,h1.objs.size,tb,_,he3,⟨Obj.cls_mapFields _ _,?_⟩,d3,by simp[hsz],fresh,hne,hT3,dT,?_⟩,fun b o q n=>?_⟩
 ·obtain⟨sl,z⟩:=hs.2.2 b o q
  exact⟨_,keep b _ (other b o q n) z,rfl⟩
 ·rw[Array.getElem?_setIfInBounds_ne (by decide)];exact h0
 ·simp
 ·obtain⟨sl,z⟩:=hs.2.2 b o q
  exact⟨sl,keep b _ (other b o q n) z⟩
theorem landD{base:Heap}{l:List Env}{e:Addr}{cls a0 fl:Value}{dct:Option Addr}{Q:Unit->Shared->Prop}(hkb:base.StaysIn s.heap)(hen:base.get? e=none)(hl:s.heap.FunFrames base l)(ht:s.heap.TracedAtW base e cls a0 fl)(hdc:DictAt s.heap e dct)
 (h:∀h',Heap.FlyingW base l e cls a0 h'->DictAt h' e dct->s.heap.UpToSlots h'->Q () { s with heap:=h' }):wpAny M A (setFlight (.ref e) none) Q E s:=by
 obtain⟨oe,vs,T,oT,ts,he,hc,hd,h1,hnT,hTe,hT,hdT,h3⟩:=ht
 obtain⟨o,ho,hdo⟩:=hdc
 unfold setFlight
 refine wpAny_bind (wpAny_field he hd h1 ?_)
 rw[if_pos (by simp)]
 have sz:3<ts.size:=(Array.getElem?_eq_some_iff.mp h3).1
 have dT:=Obj.data_mapFields hdT (·.setIfInBounds 3 ((none:Option Addr).elim Value.none fun f=>rawInt f))
 refine wpAny_setField hT hdT sz (h _ ?_ ?_ fun b o q n=>?_)
 ·have ot:∀b,b≠T->(s.heap.update T (Obj.mapFields (·.setIfInBounds 3 ((none:Option Addr).elim Value.none fun f=>rawInt f)))).get? b=s.heap.get? b:=fun b hb=>Heap.get?_update_other _ _ (Ne.symm hb)
  refine⟨fun b o q=>(ot b fun z=>by rw[z,hnT]at q;cases q).trans (hkb b o q),hen,hl.of_keeps fun b o q n=>⟨o,(ot b fun z=>?_).trans q,rfl⟩,oe,vs,T,_,_,(ot e (Ne.symm hTe)).trans he,hc,hd,h1,hnT,hTe,Heap.get?_update_self _ hT (Obj.isFreed_of_fields dT),dT,by simp[sz]⟩
  rw[z,hT]at q
  cases q
  exact n ts hdT
 ·exact⟨o,(Heap.get?_update_other _ _ hTe).trans ho,hdo⟩
 ·refine⟨o.slots,(Heap.get?_update_other _ _ fun z=>?_).trans q⟩
  rw[<- z,hT]at q
  cases q
  exact n ts hdT
theorem leaveD1{base:Heap}{env:Env}{outer:List Env}{L e:Addr}{oe:Obj}{vs:Array Value}{a0:Value}{Q:Unit->Shared->Prop}
 (hfr:A.frames=some (env::outer)) (hl:s.heap.FunFrames base (env::outer)) (hf:env.frame=some L) (he:s.heap.get? e=some oe) (hkb:base.StaysIn s.heap) (hen:base.get? e=none) (hd:oe.data=.fields vs) (h1:vs[1]?=some .none) (h0:vs[0]?=some a0)
 (h:∀h',Heap.LeftW base (env::outer) e oe.cls a0 s.heap h'->DictAt h' e oe.dict->Q () { s with heap:=h' }):wpAny M A (leaving env (.ref e)) Q E s:=by
 unfold leaving noteFrame
 simp only[hf]
 refine wpAny_bind (wpAny_bind (wpAny_field he hd h1 ?_))
 rw[if_neg (by decide)]
 exact noteD hfr hl hf he hkb hen hd (Array.getElem?_eq_some_iff.mp h1).1 h0 fun h2 ⟨x1,x2,x3,x4⟩ dd=>landD (s:={ s with heap:=h2 }) x1 hen x2 x3 dd fun h3 ⟨y1,_,y3,y4⟩ d2 us=>h h3 ⟨y1,y3,y4,fun b o q n=>by obtain⟨sl,z⟩:=x4 b o q n;obtain⟨s2,z2⟩:=us b { o with slots:=sl } z n;exact⟨s2,z2⟩⟩ d2
theorem lookD{base:Heap}{env:Env}{outer:List Env}{L e:Addr}{cls a0:Value}{dct:Option Addr}{Q:Unit->Shared->Prop}
 (hfr:A.frames=some (env::outer)) (hf:env.frame=some L) (hfl:Heap.FlyingW base (env::outer) e cls a0 s.heap) (hdc:DictAt s.heap e dct)
 (h:∀h',Heap.HeldW base (env::outer) e cls a0 L h'->DictAt h' e dct->s.heap.UpToSlots h'->Q () { s with heap:=h' }):wpAny M A (noteFrame (.ref e) env) Q E s:=by
 obtain⟨hkb,hen,hl,oe,vs,T,oT,ts,he,⟨hc,h0⟩,hd,h1,hnT,hTe,hT,hdT,h3⟩:=hfl
 obtain⟨o,ho,hdo⟩:=hdc
 rw[he]at ho
 cases ho
 subst hc hdo
 unfold noteFrame
 simp only[hf]
 refine wpAny_bind (wpAny_field he hd h1 ?_)
 rw[if_pos (by simp)]
 refine wpAny_bind (wpAny_field hT hdT h3 ?_)
 rw[if_neg (by simp[rawInt])]
 refine wpAny_bind (wpAny_setField hT hdT (Array.getElem?_eq_some_iff.mp h3).1 ?_)
 generalize hh:s.heap.update T (Obj.mapFields (·.setIfInBounds 3 Value.none))=h2
 have ot:∀b,b≠T->h2.get? b=s.heap.get? b:=fun b hb=>by rw[<- hh];exact Heap.get?_update_other _ _ (Ne.symm hb)
 have nT:∀b o,s.heap.get? b=some o->(∀vs,o.data ≠ .fields vs)->b≠T:=fun b o q n z=>by
  rw[z,hT]at q
  cases q
  exact n ts hdT
 exact noteD (s:={ s with heap:=h2 }) hfr (hl.of_keeps fun b o q n=>⟨o,(ot b (nT b o q n)).trans q,rfl⟩) hf ((ot e (Ne.symm hTe)).trans he) (fun b o q=>(ot b fun z=>by rw[z,hnT]at q;cases q).trans (hkb b o q)) hen hd (Array.getElem?_eq_some_iff.mp h1).1 h0 fun h' ⟨x1,x2,x3,x4⟩ dd=>h h' ⟨x1,hen,x2,x3⟩ dd fun b o q n=>x4 b o ((ot b (nT b o q n)).trans q) n
theorem leaveD2{base:Heap}{env:Env}{outer:List Env}{L e:Addr}{cls a0:Value}{dct:Option Addr}{Q:Unit->Shared->Prop}
 (hfr:A.frames=some (env::outer)) (hf:env.frame=some L) (hfl:Heap.FlyingW base (env::outer) e cls a0 s.heap) (hdc:DictAt s.heap e dct)
 (h:∀h',Heap.FlyingW base outer e cls a0 h'->DictAt h' e dct->s.heap.UpToSlots h'->Q () { s with heap:=h' }):wpAny M A (leaving env (.ref e)) Q E s:=by
 unfold leaving
 refine wpAny_bind (lookD hfr hf hfl hdc fun h2 hd2 dd us=>?_)
 obtain⟨x1,x2,x3,x4⟩:=hd2
 refine landD (s:={ s with heap:=h2 }) x1 x2 x3 x4 dd fun h3 fl d3 us2=>h h3 ?_ d3 (us.trans us2)
 obtain⟨y1,y2,⟨_,_,y3⟩,y4⟩:=fl
 exact⟨y1,y2,y3,y4⟩
end
end Z
namespace Z
open PySem PySem.Spec PySem.Calls PyProof.Rows PySem.W L2
inductive TailN (n:Str) (h:Heap) (bmB:List Value):List Value->Prop
 |base:TailN n h bmB bmB
 |own {a:Addr} {c0:Value} {dd:Option Addr} {cd:ClassData} {sl:Array (Option Value)} {m:Str->Option Value} {tl:List Value} (hA:h.get? a=some { cls:=c0,dict:=dd,data:=.cls cd,slots:=sl }) (hN:h.Ns cd.ns m) (hn:m n=none) (r:TailN n h bmB tl):TailN n h bmB (.ref a::tl)
section
variable {prog:Program} {w:World} {M:Model} {A:Around} {E:Value->Shared->Prop} {h:Heap} {g:Array GenState} {d:Drawn} {t:Nat} {os:OsState} {a dA:Addr} {o:Obj} {vs:Array Value} {t0:Addr}
 {nm q:Str} {C N:Addr} {bs bm bmB:List Value} {hdct:Bool} {sn:List Str} {sub:List Value} {ab:Bool} {col:Option Bool} {dd:Option Addr} {k0 k1 k2 k3 k5:Option Value} {B newId:String} {mN mD:Str->Option Value} {n:Str}
theorem along_name{tl:List Value}{y:Option Value}{Q:Option Value->Shared->Prop}(T:TailN n h bmB tl)(hr:lookupAlong bmB n=pure y)(hq:Q y ⟨h,g,d,t,os⟩):wpAny M A (lookupAlong tl n) Q E ⟨h,g,d,t,os⟩:=by
 induction T with
 |base=>rw[hr];exact wpAny_pure hq
 |own hA hN hn _ ih =>
  rw[lookupAlong_cons]
  exact wpAny_bind (wpAny_classOwn_cls hA hN (by rw[hn];exact ih))
theorem look_name{y:Option Value}{Q:Option Value->Shared->Prop}(hC:h.get? C=some (excClassObj nm q C N bs bm hdct sn sub ab col dd k0 k1 k2 k3 k5 newId))(hn:h.Ns N mN)(T:TailN n h bmB bm)(hbm:mroOf (.type B)=pure bmB)(hB:typeLookup (.type B) n=pure y)(h0:mN n=none)
 (hq:Q y ⟨h,g,d,t,os⟩):wpAny M A (typeLookup (.ref C) n) Q E ⟨h,g,d,t,os⟩:=by
 have hr:lookupAlong bmB n=pure y:=by rw[typeLookup_eq,hbm]at hB;exact hB
 rw[typeLookup_eq]
 refine wpAny_bind (wpAny_mroOf_exc hC ?_)
 rw[lookupAlong_cons]
 exact wpAny_bind (wpAny_classOwn_exc hC hn (by rw[h0];exact along_name T hr hq))
theorem fld_entry{tk:Tok}{v:Value}{Q:PySem.Fin->Shared->Prop}(hC:h.get? C=some (excClassObj nm q C N bs bm true sn sub ab col dd k0 k1 k2 k3 k5 newId))(hN:h.Ns N mN)(T:TailN n h bmB bm)(hbm:mroOf (.type B)=pure bmB)(hB:typeLookup (.type B) n=pure none)(h0:mN n=none)
 (hx:h.get? a=some o) (hc:o.cls=.ref C) (hd:o.data=.fields vs) (hdc:o.dict=some dA) (hD:h.Ns dA mD) (hv:mD n=some v) (hq:Q (.done (.ret v)) ⟨h,g,d,t,os⟩) :
 wpAny (model prog w) A (Builtin.«object.__getattribute__» ⟨[.ref a,.str n tk],[]⟩) Q E ⟨h,g,d,t,os⟩:=by
 repeat (any_goals (first|assumption|(with_reducible refine wpAny_loadPart_at hx ?_;rw[hc])|(with_reducible refine look_name hC hN T hbm hB h0 ?_)|wp_step))
 rw[hd]
 show wpAny _ _ (instanceDict a false) _ _ _
 unfold instanceDict
 refine wpAny_bind (wpAny_loadPart_at hx ?_)
 rw[hc]
 refine wpAny_bind ?_
 unfold classData
 repeat (any_goals (first|assumption|(with_reducible refine wpAny_loadPart_at hC ?_)|wp_step))
 rw[hdc]
 refine wpAny_pure (show wpAny _ _ (nsGet dA n) _ _ _ from wpAny_nsGet hD ?_)
 rw[hv]
 repeat (any_goals (first|assumption|wp_step))
theorem fld_call{tk:Tok}{v:Value}{R:Result->Shared->Prop}(FB:ExcAttrBase B bmB)(hC:h.get? C=some (excClassObj nm q C N bs bm true sn sub ab col dd k0 k1 k2 k3 k5 newId))(hN:h.Ns N mN)(TQ:OwnTailQ h bmB bm)(T:TailN n h bmB bm)(hB:typeLookup (.type B) n=pure none)(h0:mN n=none)
 (hx:h.get? a=some o) (hc:o.cls=.ref C) (hd:o.data=.fields vs) (hdc:o.dict=some dA) (hD:h.Ns dA mD) (hv:mD n=some v) (hq:R (.ok (.ret v)) ⟨h,g,d,t,os⟩) :
 codeAny (model prog w) A (.call (.builtin "BaseException.__getattribute__") ⟨[.ref a,.str n tk],[]⟩) R ⟨h,g,d,t,os⟩ :=
 codeAny_call_builtin FB.ga.plain F.entry_bexc_ga (wpAny_check_ga_own FB hC TQ hx hc (fld_entry hC hN T FB.mro hB h0 hx hc hd hdc hD hv hq))
theorem fld_by{tk:Tok}{v:Value}{fill expr:Bool}{Q:Value->Shared->Prop}(FB:ExcAttrBase B bmB)(hC:h.get? C=some (excClassObj nm q C N bs bm true sn sub ab col dd k0 k1 k2 k3 k5 newId))(hN:h.Ns N mN)(m1:mN "__getattribute__"=none)(m2:mN "__getattr__"=none)(TQ:OwnTailQ h bmB bm)(T1:TailN "__getattribute__" h bmB bm)(T2:TailN "__getattr__" h bmB bm)(T:TailN n h bmB bm)(hB:typeLookup (.type B) n=pure none)(h0:mN n=none)
 (hx:h.get? a=some o) (hc:o.cls=.ref C) (hd:o.data=.fields vs) (hdc:o.dict=some dA) (hD:h.Ns dA mD) (hv:mD n=some v) (nb:∀id,v ≠ .builtin id) (hq:Q v ⟨h,g,d,t,os⟩) :
 wpAny (model prog w) A (getAttrBy (.ref a) (.str n tk) fill expr) Q E ⟨h,g,d,t,os⟩:=by
 have b3:=FB.ga.bind (.ref a)
 have y0:(expr&&onTheHeap (Value.builtin "BaseException.__getattribute__"))=false:=by cases expr<;>rfl
 have y2:(Value.builtin "BaseException.__getattribute__" == Value.builtin "object.__getattribute__")=false:=by decide +kernel
 have y1:(onTheHeap (Value.ref C)&&Value.builtin "BaseException.__getattribute__" == Value.builtin "object.__getattribute__")=false:=by rw[y2];rfl
 repeat (any_goals (first|assumption|(with_reducible refine wpAny_loadPart_at hx ?_;rw[hc])|(with_reducible refine look_name hC hN T1 FB.mro FB.ga.lookup m1 ?_)|(with_reducible refine look_name hC hN T2 FB.mro FB.noGetattr m2 ?_)|wp_step))
 refine fld_call FB hC hN TQ T hB h0 hx hc hd hdc hD hv ?_
 repeat (any_goals (first|assumption|wp_step))
 cases v<;>first|exact wpAny_pure hq|exact absurd rfl (nb _)
theorem fld_attr{v:Value}{expr:Bool}{Q:Value->Shared->Prop}(FB:ExcAttrBase B bmB)(hC:h.get? C=some (excClassObj nm q C N bs bm true sn sub ab col dd k0 k1 k2 k3 k5 newId))(hN:h.Ns N mN)(m1:mN "__getattribute__"=none)(m2:mN "__getattr__"=none)(TQ:OwnTailQ h bmB bm)(T1:TailN "__getattribute__" h bmB bm)(T2:TailN "__getattr__" h bmB bm)(T:TailN n h bmB bm)(hB:typeLookup (.type B) n=pure none)(h0:mN n=none)
 (hx:h.get? a=some o) (hc:o.cls=.ref C) (hd:o.data=.fields vs) (hdc:o.dict=some dA) (hD:h.Ns dA mD) (hv:mD n=some v) (nb:∀id,v ≠ .builtin id) (hq:Q v ⟨h,g,d,t+1,os⟩) :
 wpAny (model prog w) A (getAttr (.ref a) n expr) Q E ⟨h,g,d,t,os⟩:=by
 unfold getAttr
 repeat (any_goals (first|assumption|(with_reducible apply fld_by FB hC hN m1 m2 TQ T1 T2 T hB h0 hx hc hd hdc hD hv nb)|wp_step))
end
end Z
namespace Z
open PySem PySem.Spec PySem.Calls PyProof.Rows PySem.W L2
open Builtin Builtin.ObjectAttr
theorem TailN.has{n:Str}{h:Heap}{bmB tl:List Value}(T:TailN n h bmB tl){x:String}(hb:bmB.contains (.type x)=true):tl.contains (.type x)=true:=by
 induction T with
 |base=>exact hb
 |own _ _ _ _ ih=>rw[List.contains_cons,ih,Bool.or_true]
theorem TailN.pass{n:Str}{h:Heap}{bmB tl:List Value}(T:TailN n h bmB tl){self:Value}(hb:refuseLoop self "__setattr__" bmB=pure ()):refuseLoop self "__setattr__" tl=pure ():=by
 induction T with
 |base=>exact hb
 |own _ _ _ _ ih=>rw[refuseLoop_ref];exact ih
section
variable {prog:Program} {w:World} {A:Around} {E:Value->Shared->Prop} {h:Heap} {g:Array GenState} {d:Drawn} {t:Nat} {os:OsState}
variable {nm q:Str} {C N x:Addr} {bs bm bmB:List Value} {sn:List Str} {sub:List Value} {ab:Bool} {col:Option Bool} {dd:Option Addr} {k0 k1 k2 k3 k5:Option Value} {B newId sa owner:String}
 {mN:Str->Option Value} {name:Str} {v:Value} {o:Obj} {vs:Array Value}
theorem fld_store{tk:Tok}{Q:PySem.Fin->Shared->Prop}(SF:StoreFacts B bmB sa owner)(hC:h.get? C=some (excClassObj nm q C N bs bm true sn sub ab col dd k0 k1 k2 k3 k5 newId))(hn:h.Ns N mN)(hna:mN name=none)(T:TailN name h bmB bm)(hB:typeLookup (.type B) name=pure none)
 (hx:h.get? x=some o) (hc:o.cls=.ref C) (hf:o.data=.fields vs) (hdn:o.dict=none)
 (hq:∀h' tk',h'.get? x=some { cls:=o.cls,dict:=some h.objs.size,data:=o.data,slots:=o.slots }->h'.Ns1 h.objs.size (fun y=>if y=name then some v else none)->(∀b ob,b≠x->h.get? b=some ob->h'.get? b=some ob)->Q (.done (.ret .none)) ⟨h',g,d,tk',os⟩) :
 wpAny (model prog w) A (Builtin.«object.__setattr__» ⟨[.ref x,.str name tk,v],[]⟩) Q E ⟨h,g,d,t,os⟩:=by
 have ps:=T.pass (SF.passes (.ref x))
 have xs:x≠h.objs.size:=Nat.ne_of_lt (Heap.lt_size hx)
 unfold Builtin.«object.__setattr__»
 repeat (first|rw[refuse_eq]|(rw[refuseLoop_ref,ps])|(with_reducible refine wpAny_loadPart_at hx ?_;rw[hc])|(with_reducible refine wpAny_mroOf_exc hC ?_)|(with_reducible refine look_name hC hn T SF.mro hB hna ?_)|wp_step)
 rw[hdn,hf,if_neg (by simp[typeHasDict])]
 have x1:(h.push { cls:=.type "dict",data:=.dict #[] }).get? x=some o:=Heap.get?_push_of_some _ hx
 refine wpAny_bind (wpAny_alloc' (wpAny_bind (wpAny_update' x1 (wpAny_pure ?_))))
 generalize hh:((h.push { cls:=.type "dict",data:=.dict #[] }).update x fun o=>{ cls:=o.cls,dict:=some h.objs.size,data:=o.data,slots:=o.slots })=h2
 have gd:h2.get? h.objs.size=some { cls:=.type "dict",data:=.dict #[] }:=by rw[<- hh];exact(Heap.get?_update_ne _ _ _ _ xs.symm).trans (Heap.get?_push_at rfl rfl)
 have gx:h2.get? x=some { cls:=o.cls,dict:=some h.objs.size,data:=o.data,slots:=o.slots }:=by
  rw[<- hh]
  refine Heap.get?_update_self _ x1 ?_
  have:=(Heap.get?_some_iff.mp hx).2
  obtain⟨oc,od,odt,osl⟩:=o
  cases odt<;>first|rfl|exact this
 have nd:h2.Ns h.objs.size (fun _=>none):=⟨_,#[],_,gd,rfl,fun e he=>absurd he (by simp),fun _=>rfl⟩
 show wpAny _ _ (storeInDict h.objs.size (.str name tk) name v) _ _ _
 unfold storeInDict newKeyGuard
 refine wpAny_bind (wpAny_pure (wpAny_bind (wpAny_nsSet1 (Heap.Ns1.of_empty nd) fun h' hn' hs=>?_)))
 obtain⟨oD,esD,epD,hoD,hdD,hcD⟩:=hn'.count (Within.cons name v Within.nil)
 refine wpAny_bind (wpAny_lookBehind hoD (by rw[hdD];exact pastItsLine_dict (Nat.le_trans hcD (by rw[List.length_cons,List.length_nil,sizeLine_eq];omega))) ?_)
 wp_walk
 exact hq h' _ ((hs.2 x xs).trans gx) hn' fun b ob hb q=>(hs.2 b (Nat.ne_of_lt (Heap.lt_size q))).trans (by rw[<- hh];exact(Heap.get?_update_ne _ _ _ _ hb).trans (Heap.get?_push_of_some _ q))
theorem check_saU{M:Model}{nameV:Value}{Q:Unit->Shared->Prop}{n:Str}(SF:StoreFacts B bmB sa owner)(hC:h.get? C=some (excClassObj nm q C N bs bm true sn sub ab col dd k0 k1 k2 k3 k5 newId))(T:TailN n h bmB bm)(hx:h.get? x=some o)(hc:o.cls=.ref C)(hq:Q () ⟨h,g,d,t,os⟩) :
 wpAny M A (checkBuiltinCall sa ⟨[.ref x,nameV,v],[]⟩) Q E ⟨h,g,d,t,os⟩:=by
 have co:(Value.ref C::bm).contains (.type owner)=true:=by rw[List.contains_cons,T.has SF.hasOwner,Bool.or_true]
 have ar:=SF.args (.ref x) nameV v
 simp only[checkBuiltinCall,SF.kind,SF.split]
 refine wpAny_bind ?_
 unfold isInstance
 repeat (first|(with_reducible refine wpAny_loadPart_at hx ?_;rw[hc])|(with_reducible refine wpAny_isSubtype_exc hC ?_;rw[co])|wp_step)
 cases sg:Manifest.signature? sa with
 |none=>exact wpAny_pure hq
 |some sig =>
  simp only[argsOk,sg]at ar
  show wpAny M A (Bind.checkArgs sa sig ⟨[.ref x,nameV,v],[]⟩) Q E _
  rw[show Bind.checkArgs sa sig ⟨[.ref x,nameV,v],[]⟩=pure () from ar]
  exact wpAny_pure hq
theorem fld_setattr{Q:Unit->Shared->Prop}(SF:StoreFacts B bmB sa owner)(hC:h.get? C=some (excClassObj nm q C N bs bm true sn sub ab col dd k0 k1 k2 k3 k5 newId))(hn:h.Ns N mN)(hns:mN "__setattr__"=none)(TS:TailN "__setattr__" h bmB bm)(hna:mN name=none)(T:TailN name h bmB bm)(hB:typeLookup (.type B) name=pure none)
 (hx:h.get? x=some o) (hc:o.cls=.ref C) (hf:o.data=.fields vs) (hdn:o.dict=none)
 (hq:∀h' tk',h'.get? x=some { cls:=o.cls,dict:=some h.objs.size,data:=o.data,slots:=o.slots }->h'.Ns1 h.objs.size (fun y=>if y=name then some v else none)->(∀b ob,b≠x->h.get? b=some ob->h'.get? b=some ob)->Q () ⟨h',g,d,tk',os⟩) :
 wpAny (model prog w) A (setAttr (.ref x) name v) Q E ⟨h,g,d,t,os⟩:=by
 have b3:=SF.slot.bind (.ref x)
 unfold setAttr callSpecial? specialOf
 repeat (any_goals (first|assumption|(with_reducible refine wpAny_loadPart_at hx ?_;rw[hc])|(with_reducible refine look_name hC hn TS SF.mro SF.slot.lookup hns ?_)|wp_step))
 refine codeAny_call_builtin SF.slot.plain SF.entry (check_saU SF hC T hx hc (fld_store SF hC hn hna T hB hx hc hf hdn fun h' tk' g1 g2 g3=>?_))
 repeat (any_goals (first|assumption|wp_step))
 exact hq h' tk' g1 g2 g3
end
end Z
namespace Z
open PySem PySem.Spec PySem.Calls PyProof.Rows PySem.W L2
section
variable {prog:Program} {w:World} {A:Around} {E:Value->Shared->Prop} {h:Heap} {g:Array GenState} {d:Drawn} {t:Nat} {os:OsState}
variable {nm q:Str} {C N e t0:Addr} {bs bm bmB:List Value} {hdct:Bool} {sn:List Str} {sub:List Value} {ab:Bool} {col:Option Bool} {dd:Option Addr} {k0 k1 k2 k3 k5:Option Value} {B newId nid initId:String}
theorem init_base{rest:List Value}{Q:Value->Shared->Prop}(F:ExcBaseFacts B nid initId bmB)(T:OwnTail h bmB bm)(hC:h.get? C=some (excClassObj nm q C N bs bm hdct sn sub ab col dd k0 k1 k2 k3 k5 newId))
 (he:h.get? e=some { cls:=.ref C,data:=.fields #[.ref t0,.none,.none,.none,.bool false,.none] }) (hrest:rest.length<=sizeLine)
 (hq:∀h',(∀b o,b≠e->h.get? b=some o->h'.get? b=some o)->h'.get? e=some { cls:=.ref C,data:=.fields #[.ref h.objs.size,.none,.none,.none,.bool false,.none] }->h'.get? h.objs.size=some { cls:=.type "tuple",data:=.seq rest.toArray }->Q .none ⟨h',g,d,t,os⟩) :
 wpAny (model prog w) A (call (.builtin initId) (.ref e::rest)) Q E ⟨h,g,d,t,os⟩:=by
 refine wpAny_call (codeAny_call_builtin F.init.plain F.initEntry (wpAny_check_init_subU F T hC he rfl ?_))
 wp_walk
 have ne:e≠h.objs.size:=Nat.ne_of_lt (Heap.lt_size he)
 refine hq _ (fun b o hb q=>?_) ?_ ?_
 ·rw[Heap.get?_update_other _ _ (Ne.symm hb)]
  exact Heap.get?_push_of_some _ q
 ·rw[Heap.get?_update_self _ (Heap.get?_push_of_some _ he) rfl]
  rfl
 ·rw[Heap.get?_update_other _ _ ne]
  exact Heap.get?_push_at rfl rfl
end
end Z
namespace Z
open PySem PySem.Spec PyProof.Rows PySem.W L2
structure Cover (B:Heap) (outer:List Env) (H1:Hp) (h0 h:Heap):Prop where
 trk:∀b u o,H1 b=some u->h.get? b=some o->B.get? b=some o
 old:∀b o o',h0.get? b=some o->b ∉ frs outer->h.get? b=some o'->B.get? b=some o'
def Thrown(P:Program)(w:World)(cls:Addr)(outer:List Env)(H:Hp)(s:Shared)(H1:Hp)(dct:Option Addr)(e:Value)(s':Shared):Prop :=
 ∃ea a0 B,e=.ref ea/\s'.os=s.os/\AllBare s'.gens/\Un (frs outer) [] H H1 s.heap s'.heap/\HOk P w H1 s'.heap/\Same H H1/\Heap.FlyingW B outer ea (.ref cls) a0 s'.heap/\H1 ea=none/\Cover B outer H1 s.heap s'.heap/\(dct=none\/DictAt s'.heap ea dct)
section
variable {P:Program} {w:World} {H H1:Hp} {h0 h h' B B':Heap} {outer l:List Env}
theorem obj_get{a:Addr}{o:HO}(x:ObjOk P w H h a o):∃u,h.get? a=some u:=by
 cases o with
 |lst xs=>obtain⟨_,_,_,_,e⟩:=x;exact⟨_,e⟩
 |tup xs=>obtain⟨_,_,_,o,e,_⟩:=x;exact⟨o,e⟩
 |dK kvs=>obtain⟨_,_,_,_,o,_,_,e,_⟩:=x;exact⟨o,e⟩
 |dT kvs=>obtain⟨_,_,_,_,o,_,_,e,_⟩:=x;exact⟨o,e⟩
 |set S n=>obtain⟨o,_,_,_,e,_⟩:=x;exact⟨o,e⟩
 |ins C dx fs=>obtain⟨_,_,_,e,_⟩:=x;exact⟨_,e⟩
 |own y=>exact x
 |xd fs=>obtain⟨_,⟨o,_,_,e,_⟩,_⟩:=x;exact⟨o,e⟩
 |rng lo hi=>obtain⟨_,_,_,e⟩:=x;exact⟨_,e⟩
 |frz ob u=>obtain⟨e,_⟩:=x;exact⟨_,e⟩
 |tbl ps=>exact⟨_,(show h.get? a=some _ from x)⟩
 |met f y=>exact⟨_,(show h.get? a=some _ from x)⟩
 |ext φ=>obtain⟨_,z,_⟩:=x;exact z
theorem fly_step(u:Un (frs outer) [] H H1 h0 h)(k:HOk P w H1 h)(c:Cover B outer H1 h0 h)(ff:h.FunFrames B' l)(sub:∀b∈frs outer,b∈frs l)(st:B.StaysIn h')(sl:h.UpToSlots h') :
 Un (frs outer) [] H H1 h0 h'/\HOk P w H1 h'/\Cover B outer H1 h0 h':=by
 have up:∀b o,b∈frs outer->h.get? b=some o->∃s,h'.get? b=some { o with slots:=s }:=fun b o hb e=>by
  obtain⟨_,o',e',nf⟩:=ff.mem (sub b hb)
  rw[e]at e'
  cases e'
  exact sl b o e nf
 refine⟨⟨fun b o e n hb hx=>?_,fun b o e n hb hx=>?_,u.free,fun b o e hx=>?_,u.tups,u.frzs,u.tbls⟩,fun a o e=>?_,⟨fun b v o e q=>?_,fun b o o' e hb q=>?_⟩⟩
 ·exact st _ _ (c.old b o o e hb (u.keep b o e n hb hx))
 ·obtain⟨s1,e1⟩:=u.slot b o e n hb hx
  obtain⟨s2,e2⟩:=up b _ hb e1
  exact⟨s2,e2⟩
 ·obtain⟨o',e'⟩:=u.there b o e hx
  by_cases hb:b∈frs outer
  ·obtain⟨s2,e2⟩:=up b _ hb e'
   exact⟨_,e2⟩
  ·exact⟨o',st _ _ (c.old b o o' e hb e')⟩
 ·refine(k a o e).stay (fun b v hb q=>?_) (fun _ z=>z) fun _ _ z=>z
  rcases hb with rfl|hb
  ·exact st _ _ (c.trk _ _ _ e q)
  ·exact st _ _ (c.trk _ _ _ hb q)
 ·obtain⟨o',e'⟩:=obj_get (k b v e)
  have z:=c.trk b v o' e e'
  have:=st _ _ z
  rw[q]at this
  cases this
  exact z
 ·obtain⟨o2,e2⟩:=u.there b o e (by simp)
  have z:=c.old b o o2 e hb e2
  have:=st _ _ z
  rw[q]at this
  cases this
  exact z
end
structure Own (X:Cx):Prop where
 stk:X.stack=X.env::X.outer
 frm:X.env.frame=some X.env.locals
 ex:X.ex=[]
section
variable {X:Cx} {pins:List (Addr×Obj)} {σ:L2.St} {H:Hp} {s s':Shared} {M:Model} {E:Value->Shared->Prop} {Q:Unit->Shared->Prop} {C:Addr}
theorem frs_own(w:Own X):frs X.stack=X.env.locals::frs X.outer:=by
 rw[w.stk]
 unfold frs
 rw[List.filterMap_cons,w.frm]
theorem old_own(I:Inv X pins σ H s)(w:Own X){b:Addr}{o:Obj}(e:X.s₀.heap.get? b=some o)(hb:b ∉ frs X.outer):b ∉ frs X.stack:=by
 rw[frs_own w]
 intro z
 rcases List.mem_cons.mp z with rfl|z
 ·exact absurd (Heap.lt_size e) (Nat.not_lt.mpr I.ok.above)
 ·exact hb z
theorem sub_own(w:Own X):∀b∈frs X.outer,b∈frs X.stack:=fun b hb=>by
 rw[frs_own w];exact List.mem_cons_of_mem _ hb
theorem thrown_made(I:Inv X pins σ H s)(w:Own X)(sm:Same X.H₀ H){h1:Heap}{e:Addr}{args:List Value}(hx:Heap.MadeExcOf s.heap h1 e (.ref C) args)
 (hq:∀s',Thrown X.prog X.w C X.outer X.H₀ X.s₀ H none (.ref e) s'->Q () s'):wpAny M X.A (leaving X.env (.ref e)) Q E { s with heap:=h1 }:=by
 have e0:=I.env0
 have hin:∀env∈X.stack,∀a,env.frame=some a->a∈frs X.stack:=fun env he a ha=>List.mem_filterMap.mpr ⟨env,he,ha⟩
 have ff:=funFrames_hide e0.funs hin
 have bs:(hideAll s.heap (frs X.stack)).StaysIn s.heap:=fun b o q=>of_hideAll _ q
 have hfr:X.A.frames=some (X.env::X.outer):=by rw[<- w.stk];exact e0.frames
 have ff':s.heap.FunFrames (hideAll s.heap (frs X.stack)) (X.env::X.outer):=by rw[<- w.stk];exact ff
 refine wpAny_leaves_madeW (s:={ s with heap:=h1 }) hfr w.frm bs ff' hx fun h' t fl tup _ us=>?_
 have cov:Cover (hideAll s.heap (frs X.stack)) X.outer H X.s₀.heap s.heap:=by
  refine⟨fun b u o e q=>hideAll_get _ q fun z=>?_,fun b o o' e hb q=>hideAll_get _ q (old_own I w e hb)⟩
  have:=e0.frf b z
  rw[e]at this
  cases this
 have ub:Un (frs X.outer) [] X.H₀ H X.s₀.heap s.heap:=by have:=I.base;rw[w.ex]at this;exact this
 obtain⟨u2,k2,c2⟩:=fly_step ub I.hok cov ff (sub_own w) fl.1 ((Heap.UpToSlots.of_keeps hx.keeps).trans us)
 refine hq _ ⟨e,_,_,rfl,I.os,I.bare,u2,k2,sm,fl,?_,c2,.inl rfl⟩
 cases q:H e with
 |none=>rfl
 |some u =>
  obtain⟨o,z⟩:=obj_get (I.hok e u q)
  rw[hx.new]at z;cases z
theorem thrown_on{H1:Hp}(I:Inv X pins σ H s)(w:Own X)(sm:Same X.H₀ H1){e:Value}{dct:Option Addr}(T:Thrown X.prog X.w C X.stack H s H1 dct e s')
 (hq:∀s',Thrown X.prog X.w C X.outer X.H₀ X.s₀ H1 dct e s'->Q () s'):wpAny M X.A (leaving X.env e) Q E s':=by
 obtain⟨ea,a0,B,rfl,ho,hg,u,k,s1,fl,he,c,hdc⟩:=T
 have hfr:X.A.frames=some (X.env::X.outer):=by rw[<- w.stk];exact I.env0.frames
 have fl':Heap.FlyingW B (X.env::X.outer) ea (.ref C) a0 s'.heap:=by rw[<- w.stk];exact fl
 obtain⟨oe,_,e1,_⟩:=id fl.first
 refine leaveD2 hfr w.frm fl' ⟨oe,e1,rfl⟩ fun h' f2 d2 us=>?_
 have J:=I.call' ho u k hg (ch:=[]) (fun b z=>nomatch z)
 have ub:Un (frs X.outer) [] X.H₀ H1 X.s₀.heap s'.heap:=by have:=J.base;rw[w.ex]at this;exact this
 have cov:Cover B X.outer H1 X.s₀.heap s'.heap:=⟨c.trk,fun b o o' e hb q=>by
  obtain⟨o2,e2⟩:=I.base.there b o e (by rw[w.ex];simp)
  exact c.old b o2 o' e2 (old_own I w e hb) q⟩
 obtain⟨u2,k2,c2⟩:=fly_step ub k cov fl.2.2.1 (sub_own w) f2.1 us
 refine hq _ ⟨ea,a0,B,rfl,J.os,hg,u2,k2,sm,f2,he,c2,hdc.imp id fun⟨o,q1,q2⟩=>?_⟩
 rw[e1]at q1
 cases q1
 rw[<- q2]
 exact d2
def del(H:Hp)(a:Addr):Hp:=fun b=>if b=a then none else H b
theorem del_same{H:Hp}{a:Addr}:del H a a=none:=by unfold del;rw[if_pos rfl]
theorem del_ne{H:Hp}{a b:Addr}(h:b≠a):del H a b=H b:=by unfold del;rw[if_neg h]
theorem inv_del{e:Addr}{φ:Heap->Prop}(I:Inv X pins σ H s)(he:H e=some (.ext φ))(h0:X.H₀ e=none):Inv X pins σ (del H e) s:=by
 have nt:∀ {b:Addr} {u:HO},H b=some u->(∀ψ,u ≠ .ext ψ)->b≠e:=fun {b u} q n z=>by rw[z,he]at q;cases q;exact n _ rfl
 refine⟨I.ok,I.os,I.bare,⟨I.base.keep,I.base.slot,fun b o q n hx=>?_,I.base.there,fun b xs q=>?_,fun b o u q=>?_,fun b ps q=>?_⟩,I.loc,I.cell,?_,fun x c q=>?_,fun p hp=>?_,fun b u q=>?_,I.len⟩
 ·have:=I.base.free b o q n hx
  rw[del_ne fun z=>by rw[z,he]at this;cases this];exact this
 ·have:=I.base.tups b xs q;rw[del_ne (nt this fun _ z=>nomatch z)];exact this
 ·have:=I.base.frzs b o u q;rw[del_ne (nt this fun _ z=>nomatch z)];exact this
 ·obtain⟨m,this⟩:=I.base.tbls b ps q;exact⟨m,by rw[del_ne (nt this fun _ z=>nomatch z)];exact this⟩
 ·have:=I.free;rw[del_ne fun z=>by rw[z,he]at this;cases this];exact this
 ·have:=I.freeC x c q;rw[del_ne fun z=>by rw[z,he]at this;cases this];exact this
 ·obtain⟨g1,g2,g3⟩:=I.pin p hp
  exact⟨g1,by rw[del_ne fun z=>by rw[z,he]at g2;cases g2];exact g2,g3⟩
 ·have hb:b≠e:=fun z=>by rw[z,del_same]at q;cases q
  rw[del_ne hb]at q
  exact(I.hok b u q).stay (fun _ _ _ z=>z) (fun c z=>by rw[del_ne (nt z fun _ z=>nomatch z)];exact z) fun c xs z=>by rw[del_ne (nt z fun _ z=>nomatch z)];exact z
theorem thrown_own{e:Addr}{o:Obj}{vs:Array Value}{a0:Value}{dct:Option Addr}(I:Inv X pins σ H s)(w:Own X)(sm:Same X.H₀ H)(ho:s.heap.get? e=some o)(hc:o.cls=.ref C)(hdc:o.dict=dct)(hd:o.data=.fields vs)(h1:vs[1]?=some .none)(ha:vs[0]?=some a0)(he:H e=none)(h0:X.s₀.heap.get? e=none)
 (hq:∀s',Thrown X.prog X.w C X.outer X.H₀ X.s₀ H dct (.ref e) s'->Q () s'):wpAny M X.A (leaving X.env (.ref e)) Q E s:=by
 have e0:=I.env0
 have hin:∀env∈X.stack,∀a,env.frame=some a->a∈e::frs X.stack:=fun env he a ha=>List.mem_cons_of_mem _ (List.mem_filterMap.mpr ⟨env,he,ha⟩)
 have ff:=funFrames_hide e0.funs hin
 have bs:(hideAll s.heap (e::frs X.stack)).StaysIn s.heap:=fun b o q=>of_hideAll _ q
 have hfr:X.A.frames=some (X.env::X.outer):=by rw[<- w.stk];exact e0.frames
 have ff':s.heap.FunFrames (hideAll s.heap (e::frs X.stack)) (X.env::X.outer):=by rw[<- w.stk];exact ff
 refine leaveD1 hfr ff' w.frm ho bs (hideAll_none _ (List.mem_cons_self ..)) hd h1 ha fun h' lf d2=>?_
 obtain⟨y1,y3,y4,us⟩:=lf
 have cov:Cover (hideAll s.heap (e::frs X.stack)) X.outer H X.s₀.heap s.heap:=by
  refine⟨fun b u o q1 q=>hideAll_get _ q fun z=>?_,fun b o o' q1 hb q=>hideAll_get _ q fun z=>?_⟩
  ·rcases List.mem_cons.mp z with rfl|z
   ·rw[he]at q1;cases q1
   ·have:=e0.frf b z
    rw[q1]at this
    cases this
  ·rcases List.mem_cons.mp z with rfl|z
   ·rw[h0]at q1;cases q1
   ·exact old_own I w q1 hb z
 have ub:Un (frs X.outer) [] X.H₀ H X.s₀.heap s.heap:=by have:=I.base;rw[w.ex]at this;exact this
 obtain⟨u2,k2,c2⟩:=fly_step ub I.hok cov ff (sub_own w) y1 us
 obtain⟨_,_,y5⟩:=y3
 rw[hc]at y4
 rw[hdc]at d2
 exact hq _ ⟨e,a0,_,rfl,I.os,I.bare,u2,k2,sm,⟨y1,hideAll_none _ (List.mem_cons_self ..),y5,y4⟩,he,c2,.inr d2⟩
end
end Z
namespace Z
open PySem PySem.Spec PySem.Calls PyProof.Rows PySem.W L2 PySem.Builtin.Getset_descriptor
section
variable {prog:Program} {w:World} {A:Around} {E:Value->Shared->Prop} {s:Shared} {K:Frag} {x D:Addr} {ox:Obj}
structure ExcIn (K:Frag) (D:Addr):Prop where
 ga:findIn K (.ref D) "__getattribute__"=some (some (.builtin "BaseException.__getattribute__"))
 gt:findIn K (.ref D) "__getattr__"=some none
 ca:findIn K (.ref D) "__class__"=some (some (.builtin "object.__class__"))
 cg:specialIn K (.builtin "object.__class__") "__get__"=some (some (.builtin "getset_descriptor.__get__"))
 ct:takesIn K (.builtin "object.__class__")=some true
 mo:mroIn K D (.type "object")=some true
 mb:mroIn K D (.type "BaseException")=some true
def ExAt(h:Heap)(x D:Addr):Prop:=∃o,h.get? x=Option.some o/\o.cls=.ref D
theorem ExAt.type{M:Model}{h:Heap}(I:ExAt h x D):Looks M h (typeOf (.ref x)) (.ref D):=by
 obtain⟨o,e,c⟩:=I
 exact c ▸ (Looks.ld e).andThen .now
theorem ExcIn.looks{M:Model}{h:Heap}(X:K.In h)(e:ExcIn K D):Looks M h (Builtin.ObjectAttr.find (.ref x) (.ref D) "__class__") (.bind (.builtin "getset_descriptor.__get__") (.builtin "object.__class__")):=by
 have l1:=looks_findIn (M:=M) X e.ca
 have l2:=looks_specialIn (M:=M) X e.cg
 have l3:=looks_takesIn (M:=M) X e.ct
 unfold Builtin.ObjectAttr.find
 refine l1.andThen ?_
 refine Looks.andThen (show Looks M h (Builtin.ObjectAttr.getOf _) _ from l2) ?_
 refine Looks.andThen (show Looks M h (Builtin.ObjectAttr.dataDescriptor? (Option.some _) (Option.some _)) (Option.some (_,_)) from l3.andThen .now) ?_
 exact Looks.tag .now
theorem ExcIn.some(e:ExcIn K D):(clsIn K D).isSome=true:=by
 have:=e.mo
 unfold mroIn at this
 cases q:clsIn K D with
 |none=>rw[q]at this;cases this
 |some c=>rfl
theorem ex_class_get{R:Result->Shared->Prop}{hh:Heap}{g:Array GenState}{d:Drawn}{t:Nat}{os:OsState}{tp:Value}(L0:Looks (model prog w) hh (typeOf (.ref x)) (.ref D))(L1:Looks (model prog w) hh (isSubtype (.ref D) (.type "object")) true)
 (h:R (.ok (.ret (.ref D))) ⟨hh,g,d,t,os⟩):codeAny (model prog w) A (.call (.builtin "getset_descriptor.__get__") ⟨[.builtin "object.__class__",.ref x,tp],[]⟩) R ⟨hh,g,d,t,os⟩:=by
 refine codeAny_call_builtin
  KF.slot_gs.plain KF.entry_gs
  (KF.slot_gs.check _ _ _ _ _ _ _ _
   KF.type_class (KF.args_gs _ _ _) ?_)
 unfold Builtin.«getset_descriptor.__get__» Builtin.Getset_descriptor.descrGet
 rw[dga_obj]
 refine(wpAny_bind (wpAny_pure ?_))
 unfold descrGetter descrCheckInstance
 unfold descrNameAndClass isInstance
 simp only[PySem.W.KF.owner_class]
 repeat lk
 refine⟨(Code.quiet_builtin _ (by decide +kernel)),(codeAny_builtin KF.entry_class ?_)⟩
 unfold Builtin.«object.__class__»
 unfold shownTypeOf
 repeat lk
 exact h
theorem exc_class{Q:Option Value->Shared->Prop}(X:K.In s.heap)(I:ExAt s.heap x D)(e:ExcIn K D)(h:Q (some (.ref D)) { s with toks:=s.toks+1 }):wpAny (model prog w) A (getAttr? (.ref x) "__class__") Q E s:=by
 obtain⟨hh,g,d,t,os⟩:=s
 have L0:=I.type (M:=model prog w)
 have L1:=looks_findIn (M:=model prog w) X e.ga
 have L2:=looks_findIn (M:=model prog w) X e.gt
 have L3:=e.looks (x:=x) (M:=model prog w) X
 have L5:=looks_mroIn (M:=model prog w) X e.mo
 have L4:=looks_mroIn (M:=model prog w) X e.mb
 have f3:=PySem.F.attr_ValueError.ga.bind (.ref x)
 unfold getAttr? getAttrBy? getAttrBy
 refine wpAny_bind (wpAny_mkText (wpAny_bind (wpAny_attempt (wpAny_holding (wpAny_bind (L0.at (wpAny_bind (L1.at ?_))))))))
 show wpAny _ _ (getAttrByItsOwn _ _ _ _ _ _) _ _ _
 unfold getAttrByItsOwn hookBefore
 refine wpAny_bind (L2.at ?_)
 refine wpAny_bind (wpAny_attempt (wpAny_holding ?_))
 show wpAny _ _ (boundAndCalled _ _ _) _ _ _
 unfold boundAndCalled
 refine wpAny_bind (wpAny_of_eq f3 ?_)
 refine wpAny_call (codeAny_call_builtin PySem.F.attr_ValueError.ga.plain PySem.F.entry_bexc_ga ?_)
 have hk:builtinKind "BaseException.__getattribute__"=some .slot:=by decide +kernel
 have hsp:splitId "BaseException.__getattribute__"=some ("BaseException","__getattribute__"):=by decide +kernel
 have har:=PySem.F.args_bexc_ga (.ref x) (.str "__class__" t)
 simp only[checkBuiltinCall,hk,hsp]
 refine wpAny_bind ?_
 unfold isInstance
 refine wpAny_bind (L0.at ?_)
 refine L4.at ?_
 rw[if_neg (by decide)]
 refine wpAny_of_eq (show _=pure () from har) ?_
 unfold Builtin.«object.__getattribute__»
 refine wpAny_bind (wpAny_of_eq (show slotArgs "__getattribute__" 1 _=pure (Value.ref x,[Value.str "__class__" t]) from rfl) ?_)
 refine wpAny_bind (wpAny_of_eq (show Builtin.ObjectAttr.attrName (Value.str "__class__" t)=pure "__class__" from rfl) ?_)
 refine wpAny_bind (L0.at (wpAny_bind (L3.at ?_)))
 show wpAny _ _ (do let v <- holding [Value.builtin "object.__class__"] (call (.builtin "getset_descriptor.__get__") [.builtin "object.__class__",.ref x,.ref D]);ret v) _ _ _
 refine wpAny_bind (wpAny_holding (wpAny_call (ex_class_get (tp:=.ref D) L0 L5 ?_)))
 refine wpAny_pure ?_
 show wpAny _ _ (handedOut (.ref D)) _ _ _
 refine wpAny_of_eq (show handedOut (.ref D)=pure (.ref D) from rfl) ?_
 exact wpAny_pure h
theorem kitx_exc(e:ExcIn K D):KitX K (.ref x) (.ref D) (fun h=>ExAt h x D) where
 ty:=fun _ _ _ I=>I.type
 it:=fun _ _ X _=>by
  have hc:=e.some
  unfold clsIn at hc
  split at hc
  ·next ho =>
   intro A' Q' E' s' k q
   unfold isType loadHead
   exact wpAny_bind (wpAny_loadPart (k _ _ (X _ _ ho)) (wpAny_pure q))
  ·cases hc
 ne:=fun h tp dd its n sl X htp=>by
  have hc:=e.some
  refine Bool.eq_false_iff.mpr fun q=>?_
  have e':D=tp:=Value.ref.inj (beq_iff_eq.mp q)
  subst e'
  unfold clsIn at hc
  split at hc
  ·next ho =>
   have z:=(X _ _ ho).symm.trans htp
   cases z
  ·cases hc
 ca:=fun X I k=>exc_class X I e k
end
end Z
namespace Z
open PySem PySem.Spec PySem.Calls PyProof.Rows PySem.W L2
abbrev bmV:List Value:=[.type "ValueError",.type "Exception",.type "BaseException",.type "object"]
abbrev newV:String:="ValueError.__new__"
theorem exc_obj{K:Frag}{h:Heap}{C:Addr}(X:K.In h)(q:excIn K C bmV newV=true) :
 ∃bm N nm qn bs hd sn sub ab col dd k0 k1 k2 k3 k5 mN,h.get? C=some (excClassObj nm qn C N bs bm hd sn sub ab col dd k0 k1 k2 k3 k5 newV)/\h.Ns N mN/\mN "__init__"=none/\OwnTail h bmV bm:=by
 unfold excIn at q
 split at q
 ·next dd cd sl ho =>
  split at q
  ·next C' bm k0 k1 k2 k3 n k5 hm hs =>
   rw[Bool.and_eq_true,Bool.and_eq_true,Bool.and_eq_true,Bool.and_eq_true,Bool.and_eq_true]at q
   obtain⟨⟨⟨⟨⟨q1,q2⟩,q3⟩,q4⟩,q5⟩,q6⟩:=q
   replace q1:=beq_iff_eq.mp q1
   replace q2:=beq_iff_eq.mp q2
   replace q6:=beq_iff_eq.mp q6
   replace q3:cd.hasDel=false:=by simpa using q3
   subst q1 q2
   obtain⟨nm,bs,mro,ns,qn,hd,sn,sub,ab,col,del⟩:=cd
   simp only at hm q3 q5 q6
   subst hm q3
   obtain⟨l⟩:=sl
   simp only at hs
   subst hs
   exact⟨bm,ns,nm,qn,bs,hd,sn,sub,ab,col,dd,k0,k1,k2,k3,k5,_,X _ _ ho,.of_isNs (isNs_of_in X q5),nsMap_none_of_in X q5 q6,tail_of_in X q4⟩
  ·cases q
 ·cases q
abbrev mkX(X:Cx)(e:Addr):Cx:={ X with A:=X.A.mark (some (.ref e)),calm:=false,xe:=fun _ _=>False }
section
variable {X:Cx} {pins:List (Addr×Obj)} {σ:L2.St} {H:Hp} {s s':Shared} {C:Addr}
theorem inv_mkX(I:Inv X pins σ H s)(e:Addr):Inv (mkX X e) pins σ H s :=
 ⟨⟨I.ok.mod,I.ok.kind,I.ok.glob,I.ok.blt,I.ok.above,I.ok.inj,I.ok.has,I.ok.cab,fun z=>(nomatch z),I.ok.frames,I.ok.stk,I.ok.exf,I.ok.bs,I.ok.bsz,I.ok.noex,I.ok.exfs,I.ok.funs,I.ok.frf⟩,I.os,I.bare,I.base,I.loc,I.cell,I.free,I.freeC,I.pin,I.hok,I.len⟩
theorem inv_unX{e:Addr}{σ':L2.St}{H':Hp}(I:Inv X pins σ H s)(J:Inv (Z.mkX X e) pins σ' H' s'):Inv X pins σ' H' s':=⟨I.ok,J.os,J.bare,J.base,J.loc,J.cell,J.free,J.freeC,J.pin,J.hok,J.len⟩
theorem inv_track{a:Addr}{v:HO}(I:Inv X pins σ H s)(h0:X.s₀.heap.get? a=none)(hH:H a=none)(ho:∀H',ObjOk X.prog X.w H' s.heap a v)(hL:a≠X.env.locals)(hc:∀x c,X.env.cells.lookup x=some c->c≠a)(hp:∀p∈X.pn++pins,p.1≠a) :
 Inv X pins σ (upd H a v) s:=by
 have ne:∀ {b:Addr} {u:HO},H b=some u->b≠a:=fun {b u} e z=>by rw[z,hH]at e;cases e
 refine⟨I.ok,I.os,I.bare,⟨I.base.keep,I.base.slot,fun b o' e n hx=>?_,I.base.there,fun b xs e=>?_,fun b o' u e=>?_,fun b ps e=>?_⟩,I.loc,I.cell,?_,fun x c e=>?_,fun p hp'=>?_,fun b u e=>?_,I.len⟩
 ·rw[upd_ne fun z=>by rw[z,h0]at e;cases e];exact I.base.free b o' e n hx
 ·have:=I.base.tups b xs e;rw[upd_ne (ne this)];exact this
 ·have:=I.base.frzs b o' u e;rw[upd_ne (ne this)];exact this
 ·obtain⟨m,this⟩:=I.base.tbls b ps e;exact⟨m,by rw[upd_ne (ne this)];exact this⟩
 ·rw[upd_ne hL.symm];exact I.free
 ·rw[upd_ne (hc x c e)];exact I.freeC x c e
 ·obtain⟨g1,g2,g3⟩:=I.pin p hp'
  exact⟨g1,by rw[upd_ne (hp p hp')];exact g2,g3⟩
 ·by_cases hb:b=a
  ·subst hb
   rw[upd_same]at e
   cases e
   exact ho _
  ·rw[upd_ne hb]at e
   exact(I.hok b u e).stay (fun _ _ _ z=>z) (fun c z=>by rw[upd_ne (ne z)];exact z) fun c xs z=>by rw[upd_ne (ne z)];exact z
theorem thrown_new{e:Addr}{a0:Value}{B:Heap}{H1:Hp}(I:Inv X pins σ H s)(u:Un (frs X.stack) [] H H1 s.heap s'.heap)(fl:Heap.FlyingW B X.stack e (.ref C) a0 s'.heap)(c:Cover B X.stack H1 s.heap s'.heap):s.heap.get? e=none:=by
 cases q:s.heap.get? e with
 |none=>rfl
 |some o =>
  exfalso
  obtain⟨o',e'⟩:=u.there e o q (by simp)
  by_cases hb:e∈frs X.stack
  ·obtain⟨_,o2,e2,nf⟩:=fl.2.2.1.mem hb
   obtain⟨oe,vs,e3,_,d3,_⟩:=fl.first
   rw[e3]at e2;cases e2
   exact nf vs d3
  ·have:=c.old e o o' q hb e'
   rw[fl.2.1]at this;cases this
variable {M:Model} {E:Value->Shared->Prop} {Q:Flow->Shared->Prop} {x n:Str} {np pos:Pos} {b₀:Stmt} {suite:List Stmt} {rest:List ExceptHandler} {i:Nat}
def ExcCl(K:Frag)(C:Addr):Prop:=∀h:Heap,K.In h->∃bm N nm qn bs hd sn sub ab col dd k0 k1 k2 k3 k5,h.get? C=some (excClassObj nm qn C N bs bm hd sn sub ab col dd k0 k1 k2 k3 k5 newV)/\OwnTail h bmV bm
theorem excCl_of{K:Frag}{C:Addr}(q:excIn K C bmV newV=true):ExcCl K C:=fun h X=>by
 obtain⟨bm,N,nm,qn,bs,hd,sn,sub,ab,col,dd,k0,k1,k2,k3,k5',mN,hC,hN,hni,TL⟩:=exc_obj X q
 exact⟨bm,N,nm,qn,bs,hd,sn,sub,ab,col,dd,k0,k1,k2,k3,k5',hC,TL⟩
theorem exc_other{prog:Program}{w:World}{A:Around}{E:Value->Shared->Prop}{h:Heap}{g:Array GenState}{d:Drawn}{t:Nat}{os:OsState}{K:Frag}{e C C':Addr}{oe:Obj}{Q:Bool->Shared->Prop}(X:K.In h)(he:h.get? e=some oe)(hc:oe.cls=.ref C)(q:ExcCl K C')(hs:subIn K (.ref C) (.ref C')=some false)
 (hq:Q false ⟨h,g,d,t,os⟩):wpAny (model prog w) A (excMatches (.ref e) (.ref C')) Q E ⟨h,g,d,t,os⟩:=by
 obtain⟨bm,N,nm,qn,bs,hd,sn,sub,ab,col,dd,k0,k1,k2,k3,k5',hC,TL⟩:=q h X
 have L1:=looks_subIn (M:=model prog w) X hs
 have hcB:(Value.ref C'::bm).contains (.type "BaseException")=true:=by
  have q:bm.contains (.type "BaseException")=true:=TL.hasType (by decide +kernel)
  rw[List.contains_cons,q,Bool.or_true]
 have L0:Looks (model prog w) h (typeOf (.ref C')) (.type "type"):=(Looks.ld hC).andThen .now
 have L2:Looks (model prog w) h (typeOf (.ref e)) (.ref C):=hc ▸ (Looks.ld he).andThen .now
 unfold excMatches
 refine wpAny_bind ?_
 unfold isInstance
 refine wpAny_bind (L0.at ?_)
 refine wpAny_of_eq (show isSubtype (.type "type") (.type "tuple")=pure false from by rfl) ?_
 rw[if_neg (by decide)]
 refine wpAny_bind (wpAny_pure ?_)
 show wpAny _ _ (do forIn [Value.ref C'] PUnit.unit _;_) _ _ _
 simp only[List.forIn_cons,List.forIn_nil]
 unfold isExcClass
 repeat (first|(with_reducible refine wpAny_loadPart_at hC ?_)|(with_reducible refine wpAny_isSubtype_exc hC ?_;rw[hcB])|(with_reducible refine L2.at ?_)|(with_reducible refine L1.at ?_)|wp_step)
 exact hq
def Past(X:Cx)(C:Addr)(hd:ExceptHandler):Prop:=∃y Cy np n b ps,hd=.ExceptHandler (some (.Name y np)) n b ps/\X.mg y=some (.ref Cy)/\ExcCl X.K Cy/\Gl X y/\(y == ("__debug__":Str))=false/\subIn X.K (.ref C) (.ref Cy)=some false
theorem skips{ea:Addr}{oe:Obj}{rest:List ExceptHandler}(I:Inv X pins σ H s)(he:s.heap.get? ea=some oe)(hc:oe.cls=.ref C)(k:wpAny (model X.prog X.w) X.A (handleBy (.ref ea) X.env rest) Q E s) :
 ∀pre:List ExceptHandler,(∀hd∈pre,Past X C hd)->wpAny (model X.prog X.w) X.A (handleBy (.ref ea) X.env (pre++rest)) Q E s
 |[],_=>k
 |hd::pre,hp=>by
  obtain⟨y,Cy,np,n,b,ps,rfl,hm,hq,gl,hdb,hs⟩:=hp hd (List.mem_cons_self ..)
  refine wpAny_handleBy_cons (codeAny_handlers_test (ld_glob (X:=Z.mkX X ea) (inv_mkX I ea) gl hm ?_ hdb)) (by intro q;cases q)
  exact exc_other I.kIn he hc hq hs (skips I he hc k pre fun h q=>hp h (List.mem_cons_of_mem _ q))
theorem caught{dct:Option Addr}{H1:Hp}{pre:List ExceptHandler}(hp:∀hd∈pre,Past X C hd)(I:Inv X pins σ H s)(w:Own X)(nd:X.N.Nodup)(hm:X.mg x=some (.ref C))(hq:ExcCl X.K C)(gl:Gl X x)(hdb:(x == ("__debug__":Str))=false)(hn:X.N[i]?=some n)(hl:X.env.scope.names.lookup n=some .local){e:Value}(T:Thrown X.prog X.w C X.stack H s H1 dct e s')
 (k:∀ea oe vs s7,Same H H1->oe.cls=.ref C->oe.data=.fields vs->(dct=none\/oe.dict=dct)->e=.ref ea->Inv (Z.mkX X ea) pins (σ.set i (some (.ref ea))) (upd H1 ea (.frz oe (.ext fun _=>True))) s7->H1 ea=none ->
  wpAny (model X.prog X.w) (X.A.mark (some (.ref ea))) (execs (b₀::suite) X.env) (fun f s₄=>wpAny (model X.prog X.w) X.A (do bindName X.env n .none;unbindBehindTheSuite X.env n pos) (fun _ s₅=>Q f s₅) E s₄) (fun _ _=>False) s7) :
 wpAny (model X.prog X.w) X.A (noteFrame e X.env) (fun _ s₂=>wpAny (model X.prog X.w) X.A (setFlight e none) (fun _ s₃=>wpAny (model X.prog X.w) X.A (handleBy e X.env (pre ++ .ExceptHandler (some (.Name x np)) (some n) (b₀::suite) pos::rest)) Q E s₃) E s₂) E s':=by
 obtain⟨ea,a0,B,rfl,ho,hg,u,kk,s1,fl,he,c,hdc⟩:=T
 have new:=thrown_new I u fl c
 have hfr:X.A.frames=some (X.env::X.outer):=by rw[<- w.stk];exact I.env0.frames
 have fl':Heap.FlyingW B (X.env::X.outer) ea (.ref C) a0 s'.heap:=by rw[<- w.stk];exact fl
 obtain⟨oe0,_,e00,_⟩:=id fl.first
 refine lookD hfr w.frm fl' ⟨oe0,e00,rfl⟩ fun h4 held d4 us4=>?_
 obtain⟨x1,x2,x3,x4⟩:=held
 refine landD (s:={ s' with heap:=h4 }) x1 x2 x3 x4 d4 fun h5 fl5 d5 us5=>?_
 obtain⟨u5,k5,c5⟩:=fly_step u kk c fl.2.2.1 (fun b hb=>hb) fl5.1 (us4.trans us5)
 have J5:Inv X pins σ H1 { s' with heap:=h5 }:=I.call' (s':={ s' with heap:=h5 }) ho u5 k5 hg (ch:=[]) (fun b z=>nomatch z)
 obtain⟨bm,N,nm,qn,bs,hd,sn,sub,ab,col,dd,k0,k1,k2,k3,k5',hC,TL⟩:=hq _ J5.kIn
 obtain⟨oe5,vs5,e5,c5',_,_⟩:=id fl5.first
 refine skips J5 e5 c5' ?_ pre hp
 refine wpAny_handleBy_cons (codeAny_handlers_test (ld_glob (X:=Z.mkX X ea) (inv_mkX J5 ea) gl hm ?_ hdb)) (by intro q;cases q)
 refine wpAny_excMatches_sub_self hC e5 c5' (TL.hasType (by decide +kernel)) (codeAny_handlers_suite_as ?_)
 obtain⟨z1,z2,z3,z4⟩:=id fl5
 refine landD (s:={ s' with heap:=h5 }) z1 z2 z3 z4 d5 fun h6 fl6 d6 us6=>?_
 obtain⟨u6,k6,c6⟩:=fly_step u5 k5 c5 fl5.2.2.1 (fun b hb=>by rw[w.stk]at hb;exact hb) fl6.1 us6
 have J6:Inv X pins σ H1 { s' with heap:=h6 }:=I.call' (s':={ s' with heap:=h6 }) ho u6 k6 hg (ch:=[]) (fun b z=>nomatch z)
 obtain⟨oe,vs,e6,cl,dd6,_⟩:=fl6.first
 have hdc':dct=none\/oe.dict=dct:=by
  refine hdc.imp id fun⟨o,q1,q2⟩=>?_
  rw[e00]at q1
  cases q1
  obtain⟨o,q3,q4⟩:=d6
  rw[show h6.get? ea=some oe from e6]at q3
  cases q3
  rw[q4,q2]
 have old:∀ {b:Addr} {o:Obj},s.heap.get? b=some o->b≠ea:=fun {b o} z y=>by rw[y,new]at z;cases z
 have h0:X.s₀.heap.get? ea=none:=by
  cases q:X.s₀.heap.get? ea with
  |none=>rfl
  |some o =>
   obtain⟨o',z⟩:=I.base.there ea o q (by rw[w.ex];simp)
   exact absurd rfl (old z)
 have J7:=inv_track (v:=.frz oe (.ext fun _=>True)) J6 h0 he (fun _=>⟨e6,trivial,⟨_,e6⟩,fun _ _ _ _=>trivial⟩) (fun z=>by obtain⟨m,⟨o,_,_,ho',_⟩,_⟩:=I.loc;exact old ho' z.symm) (fun y cc q=>by obtain⟨v,o,ho',_⟩:=I.cell y cc q;exact old ho') (fun p hp=>old (I.pin p hp).1)
 refine store_ok J7 nd hn (.inl hl) (v:=.ref ea) rfl (fun s7 J8=>?_) (.inr hl)
 refine wpAny_mono (k ea oe vs s7 s1 cl dd6 hdc' rfl (inv_mkX J8 ea) he) (fun f s8 z=>z) fun _ _ z=>z.elim
end
def names12:List Str:=["NoRatio","NoNext","NoRoot","Unfit","Dependent","NoLine","BadText","TooGreat","BadRow","NoRow","NoColumn","TooMany"]
structure AloneF (K:Frag) (mg:Str->Option Value) (y:Str) (D:Addr):Prop where
 ex:ExcIn K D
 cls:∀c∈names12,∃Ca,mg c=some (.ref Ca)/\kitOne K (.ref D) (.ref Ca)=some (decide (c=y))
 te:∃Ca,mg "TrueError"=some (.ref Ca)/\kitOne K (.ref D) (.ref Ca)=some true
 ve:kitOne K (.ref D) (.type "ValueError")=some true
 vn:mg "ValueError"=none
 isi:mg "isinstance"=none
 mem:y∈names12
def spA(K:Frag)(mg:Str->Option Value):Sp:=fun vs H Q _=>∃y D ea oe u,AloneF K mg y D/\vs=[.ref ea]/\H ea=some (.frz oe u)/\oe.cls=.ref D/\∀H',Same H H'->Q (.bl true) H'
end Z
namespace Z
open PySem PySem.Spec PyProof.Rows L2
variable {X:Cx}
end Z
namespace PySem.W
open PySem PySem.Calls PySem.NumText PyProof.Rows KIN
theorem maxDigits{M:Model}{A:Around}{E:Value->Shared->Prop}{s:Shared}{Q:Nat->Shared->Prop}(hn:s.heap.NoDigits)(h:Q 4300 s):wpAny M A Builtin.intMaxStrDigits Q E s:=by
 obtain⟨mc,hns,hnone⟩:=hn
 unfold Builtin.intMaxStrDigits
 refine wpAny_bind (wpAny_nsGet hns ?_)
 rw[hnone]
 exact wpAny_pure h
theorem wp_textD{M:Model}{A:Around}{E:Value->Shared->Prop}{s:Shared}{Q:Value->Shared->Prop}{v:Value}{text:List Nat}{n:Int}
 (hn:s.heap.NoDigits) (hs:¬ (text.takeWhile (· != 0)).length<=640) (hr:(int_private% "readNumeral") 4300 10 (text.takeWhile (· != 0))=(int_private% "Numeral.value") n)
 (ha:((text.takeWhile (· != 0)).length == text.length)=true) (h:Q (.int n s.toks) { s with toks:=s.toks+1 }) :
 wpAny M A ((int_private% "intFromText") v text 10) Q E s:=by
 obtain⟨hp,g,d,tk,os⟩:=s
 repeat (any_goals (first
  |assumption
  |((with_reducible show wpAny _ _ Builtin.intMaxStrDigits _ _ _);refine maxDigits hn ?_)
  |(with_reducible refine wpAny_ite_false (decide_eq_false hs) ?_)
  |(with_reducible refine wpAny_ite_true (decide_eq_true ha) ?_)
  |wp_step))
 all_goals (try rw[hr])
 all_goals (try dsimp only)
 repeat (any_goals (first
  |assumption
  |(with_reducible refine wpAny_ite_true (decide_eq_true ha) ?_)
  |wp_step))
set_option maxHeartbeats 4000000 in
theorem meets_textD{x:PySem.Str}{u:Tok}{n:Int}(hl:¬ (numSeenOf x).length<=640)(hx:x.length<=sizeLine)(hn:PySem.intText? x=some n):Meets (Builtin.«int.__new__» ⟨[.type "int",.str x u],[]⟩) (fun _ R s=>s.heap.NoDigits/\R (.ok (.ret (.int n s.toks))) { s with toks:=s.toks+1 }) :=
 .of_wp fun prog w A R s h=>by
  obtain⟨hd,h⟩:=h
  obtain⟨hp,g,d,tk,os⟩:=s
  have ty:=(rfl:typeOf (Value.str x u)=pure (Value.type "str"))
  have ⟨a1,a2,b1,b2,b3⟩:=(⟨F.conv_sub_int,F.madeHere_int,str_int,str_idx,str_trunc⟩:_/\_/\_/\_/\_)
  have hr:(int_private% "readNumeral") 4300 10 (numSeenOf x)=(int_private% "Numeral.value") n/\((numSeenOf x).length == (numTextOf x).length)=true:=by
   rcases read4300 x hx with⟨m,e,al,va⟩|⟨e,_⟩<;>rw[hn]at e
   ·cases e
    exact⟨va,al⟩
   ·cases e
  have hk:=Hid.mk (And.intro hl hr)
  clear hr hl hn
  repeat (any_goals (first
   |assumption
   |((with_reducible show wpAny _ _ ((int_private% "intFromText") _ _ _) _ _ _);refine wp_textD hd hk.out.1 hk.out.2.1 hk.out.2.2 ?_)
   |wp_step))
  all_goals first|exact⟨_,rfl,h⟩|skip
theorem call_textD{prog:Program}{w:World}{A:Around}{E:Value->Shared->Prop}{s:Shared}{Q:Value->Shared->Prop}{x:PySem.Str}{t:Tok}{n:Int}(hd:s.heap.NoDigits)(hl:x.length<=640\/(640<(numSeenOf x).length/\x.length<=sizeLine))(hn:PySem.intText? x=some n)(h:Q (.int n s.toks) { s with toks:=s.toks+1 }):wpAny (model prog w) A (call (.type "int") [.str x t]) Q E s:=by
 rcases hl with hl|⟨hl,hx⟩
 ·exact call_text hn hl h
 ·exact call_int_1 (meets_textD (by lia) hx hn) ⟨hd,rfl,h⟩
end PySem.W
namespace Z
open PySem PySem.Spec PyProof.Rows L2
variable {X:Cx}
theorem call_intS:CallR X (.type "int") (fun xs H Q=>∃z n,xs=[.str z]/\(z.length<=640\/(640<(PySem.numSeenOf z).length/\z.length<=sizeLine))/\PySem.intText? z=some n/\Q (.int n) H):=by
 intro pins s σ H xs us Q I r h
 obtain⟨z,n,rfl,hl,hn,q⟩:=h
 obtain⟨u,rfl,t,rfl⟩:=vals1 r
 exact PySem.W.call_textD (I.ok.mod.nolimit.2.keeps I.bk) hl hn ⟨.int n,H,I.tok _,⟨_,rfl⟩,q⟩
theorem rep_str(z:Str)(k:Int):Txt.mul z k=⟨(List.replicate k.toNat z.cps.toList).flatten.toArray⟩:=by
 unfold Txt.mul
 split
 ·next h=>rw[show k.toNat=0 by lia];rfl
 ·split
  ·next h h1 =>
   simp only[Bool.or_eq_true,beq_iff_eq]at h1
   rcases h1 with rfl|h1
   ·simp
   ·have:z.cps.toList=[]:=by
     have:z.cps.size=0:=h1
     simpa using this
    rw[this]
    have e:z=⟨#[]⟩:=by
     cases z
     simp_all
    rw[e]
    simp
  ·have key:∀(n:Nat) (a:Array Nat),(List.replicate n z.cps).foldl (· ++ ·) a=a++(List.replicate n z.cps.toList).flatten.toArray:=by
    intro n
    induction n with
    |zero=>intro a;simp
    |succ n ih =>
     intro a
     rw[List.replicate_succ,List.foldl_cons,ih,List.replicate_succ,List.flatten_cons]
     apply Array.ext'
     simp
   rw[key]
   simp
theorem op_mulS:OpR X (binaryOp .Mult) (fun x y H Q=>∃z k,x=.str z/\y=.int k/\RepOk z.length k/\Q (.str ⟨(List.replicate k.toNat z.cps.toList).flatten.toArray⟩) H):=by
 intro pins s σ H x y v u Q I rx ry h
 obtain⟨z,k,rfl,rfl,⟨hk,hl⟩,q⟩:=h
 obtain⟨t,rfl⟩:=rx
 obtain⟨t',rfl⟩:=ry
 have h24:lim=16777216:=rfl
 refine SB.mul ⟨?_,?_,?_⟩ fun t'' k'=>?_
 ·have e1:decide (k < -(2^63:Int))=false:=decide_eq_false (by lia)
  have e2:decide (k ≥ 2^63)=false:=decide_eq_false (by lia)
  rw[e1,e2];rfl
 ·intro h1 h2 h3
  have hp:((z.length*k.toNat:Nat):Int)=(z.length:Int)*k:=by
   rw[Int.natCast_mul,Int.toNat_of_nonneg (by lia)]
  have:(z.length:Int)<=(2^63-1) / k:=Int.le_ediv_of_mul_le (by lia) (by rw[<- hp];lia)
  lia
 ·intro h1 h2
  unfold Builtin.Str.tooLong
  rw[sizeLine_eq]
  exact decide_eq_false (by lia)
 ·rw[rep_str]
  exact⟨.str _,H,I.tok _,⟨_,rfl⟩,q⟩
noncomputable def partV(x y:Str):List V:=match Builtin.Str.occurrences x y 0 x.length 1 with
 |i::_=>[.str (Builtin.Str.strSub x 0 i),.str y,.str (Builtin.Str.strSub x (i+y.length) x.length)]
 |[]=>[.str x,.str Str.empty,.str Str.empty]
def rSm(K:PySem.W.Frag):SOp->V->List V->Hp->VK->Prop
 |.idx,x,vs,H,Q=>∃z y i r,x=.str z/\vs=[.str y]/\Builtin.Str.occurrences z y 0 z.length 1=i::r/\Q (.int (i:Nat)) H
 |.join,x,vs,H,Q=>∃(z:Str) (a:Addr) (ss:List Str),x=.str z/\vs=[.ref a]/\z.length=0/\SqL K H a (ss.map .str)/\(ss.map (·.length)).sum<=lim/\Q (.str ⟨(ss.map (·.cps.toList)).flatten.toArray⟩) H
 |.part,x,vs,H,Q=>∃z y,x=.str z/\vs=[.str y]/\y.length≠0/\z.length<=sizeLine/\∀p,H p=none->Q (.ref p) (upd H p (.tup (partV z y)))
theorem strsAre_of:∀ {ss:List Str} {us:List Value},Vals (ss.map V.str) us->StrsAre us ss
 |[],us,h=>by cases h;exact .nil
 |x::ss,us,h=>by
  cases h with
  |cons r t =>
   obtain⟨u,rfl⟩:=r
   exact .cons x u (strsAre_of t)
theorem glue_nil{z:Str}(hz:z.length=0)(ss:List Str):Txt.join z ss=⟨(ss.map (·.cps.toList)).flatten.toArray⟩:=by
 have e:z.cps=#[]:=Array.size_eq_zero_iff.mp hz
 have key:∀(l:List Str) (a:Array Nat),l.foldl (fun acc p=>acc++z.cps++p.cps) a=a++(l.map (·.cps.toList)).flatten.toArray:=by
  intro l
  induction l with
  |nil=>intro a;simp
  |cons x l ih =>
   intro a
   rw[List.foldl_cons,ih,e]
   apply Array.ext'
   simp
 unfold Txt.join Builtin.Str.glued
 rw[key]
 cases ss with
 |nil=>rfl
 |cons x l =>
  congr 1
  apply Array.ext'
  simp
theorem mt_sm(o:SOp):∃id,Slot "str" o.nm id/\typeOf (.builtin id)=pure (.type "method_descriptor")/\MtR X id (rSm X.K o):=by
 cases o with
 |idx =>
  refine⟨"str.index",F.slot_str_index,F.type_str_index,?_⟩
  rintro pins s τ H x xs v us Q I rx rs ⟨z,y,i,r,rfl,rfl,e,q⟩
  obtain⟨t,rfl⟩:=rx
  obtain⟨u,rfl,t',rfl⟩:=vals1 rs
  exact call_gives F.slot_str_index (typeIs_str _ _ _) F.entry_str_index (F.args_str_index_2 _ _) (gives_str_index z y t t' i r e) ⟨.int i,H,I.tok _,⟨_,rfl⟩,q⟩
 |join =>
  refine⟨"str.join",F.slot_str_join,F.type_str_join,?_⟩
  rintro pins s τ H x xs v us Q I rx rs ⟨z,a,ss,rfl,rfl,hz,sq,hl,q⟩
  obtain⟨t,rfl⟩:=rx
  obtain⟨u,rfl,ru⟩:=vals1 rs
  cases ru
  obtain⟨its,r,pl,_⟩:=I.list sq
  refine join_list pl.isList (by rw[List.toList_toArray];exact strsAre_of r) (by rw[hz,Nat.mul_zero];exact hl) fun t' k=>?_
  rw[glue_nil hz]
  exact⟨.str _,H,I.tok _,⟨_,rfl⟩,q⟩
 |part =>
  refine⟨"str.partition",F.slot_str_partition,F.type_str_partition,?_⟩
  rintro pins s τ H x xs v us Q I rx rs ⟨z,y,rfl,rfl,hy,hz,q⟩
  obtain⟨t,rfl⟩:=rx
  obtain⟨u,rfl,t',rfl⟩:=vals1 rs
  have three:∀(a b c:Str) (ta tb tc:Tok) (k:Nat),partV z y=[.str a,.str b,.str c]->EP X pins τ Q (.ref s.heap.objs.size) { s with toks:=k,heap:=s.heap.push { cls:=.type "tuple",data:=.seq [.str a ta,.str b tb,.str c tc].toArray } }:=fun a b c ta tb tc k e=>by
   refine⟨.ref s.heap.objs.size,upd H s.heap.objs.size (.tup (partV z y)),?_,rfl,q _ (I.hok.fresh (Nat.le_refl _))⟩
   rw[e]
   exact I.laid (fun b o e=>Heap.get?_push_of_some _ e) (Nat.le_refl _) (show ObjOk X.prog X.w _ _ _ (.tup _) from ⟨(by show 3<=sizeLine;decide),_,.cons ⟨ta,rfl⟩ (.cons ⟨tb,rfl⟩ (.cons ⟨tc,rfl⟩ .nil)),IsTup.new _ _⟩)
  refine call_meets F.slot_str_partition (typeIs_str _ _ _) F.entry_str_partition (F.args_str_partition_2 _ _) (meets_str_partition z y t t' (by simpa using hy) hz) ?_
  unfold partV at three
  cases ho:Builtin.Str.occurrences z y 0 z.length 1 with
  |nil=>rw[ho]at three;exact three _ _ _ _ _ _ _ rfl
  |cons i r=>rw[ho]at three;exact three _ _ _ _ _ _ _ rfl
end Z
namespace Z
open PySem PySem.W PyProof.Rows
def Pm(n:Nat)(p:Array Nat):Prop:=p.toList.Perm (List.range n)
section
variable {lt:Nat->Nat->Bool} {n:Nat} {p:Array Nat}
theorem Pm.size(h:Pm n p):p.size=n:=by have:=h.length_eq;simpa using this
end
section
variable {lt:Nat->Nat->Bool} {n:Nat}
end
end Z
namespace Z
open PySem PySem.W PySem.Calls PyProof.Rows
section
variable {prog:Program} {w:World} {A:Around} {E:Value->Shared->Prop} {s:Shared} {vs:List Value} {lt:Nat->Nat->Bool}
end
section
variable {prog:Program} {w:World} {A:Around} {E:Value->Shared->Prop} {s:Shared} {vs:List Value}
end
end Z
namespace Z
open PySem PySem.Spec PyProof.Rows L2
section
variable {prog:Program} {w:World} {A:Around} {E:Value->Shared->Prop} {s:Shared} {e it l:Addr}
end
end Z
namespace Z
open PySem PySem.Spec PyProof.Rows L2
structure Ck where
 N:List Str
 names:List (Str×NameKind)
 fns:List (Str×Nat)
 cns:List Str
 cls:List Str:=[]
 rz:Bool:=false
 rs:Bool:=false
 al:Bool:=true
noncomputable def Ck.loc(k:Ck)(i:Nat)(x:Str):Bool :=
 decide (k.N[i]?=some x)&&(decide (k.names.lookup x=some .local) ||decide (k.names.lookup x=some .cell)) && !(x == ("__debug__":Str)) && !(x == ("__classdict__":Str))
noncomputable def Ck.gl(k:Ck)(x:Str):Bool:=decide (k.names.lookup x=some .globalImplicit) && !(x == ("__debug__":Str))&&decide (x≠("__name__":Str))
noncomputable def opOk:BOp->Operator->Bool
 |.add,.Add=>true
 |.sub,.Sub=>true
 |.mul,.Mult=>true
 |.fdiv,.FloorDiv=>true
 |.mod,.Mod=>true
 |.shl,.LShift=>true
 |.shr,.RShift=>true
 |.band,.BitAnd=>true
 |.pow,.Pow=>true
 |_,_=>false
noncomputable def isNoneC:Expr->Bool
 |.Constant .none _ _=>true
 |_=>false
noncomputable def isTrueC:Expr->Bool
 |.Constant (.bool _) _ _=>true
 |_=>false
noncomputable def cOk:COp->CmpOp->Expr->Bool
 |.eq,.Eq,_=>true
 |.ne,.NotEq,_=>true
 |.lt,.Lt,_=>true
 |.le,.LtE,_=>true
 |.gt,.Gt,_=>true
 |.ge,.GtE,_=>true
 |.isN,.Is,e=>isNoneC e
 |.notN,.IsNot,e=>isNoneC e
 |.isT,.Is,e=>isTrueC e
 |.notT,.IsNot,e=>isTrueC e
 |_,_,_=>false
noncomputable def constOk:D->Const->Bool
 |.non,.none=>true
 |.bl b,.bool c=>b == c
 |.int i,.int j=>decide (i=j)
 |.str x,.str y=>decide (x=y)&&PyData.strOk x
 |_,_=>false
noncomputable def Bi.nm:Bi->Str
 |.abs=>"abs"
 |.max=>"max"
 |.min=>"min"
 |.len=>"len"
 |.int=>"int"
 |.list=>"list"
 |.sum=>"sum"
 |.all=>"all"
 |.any=>"any"
 |.tuple=>"tuple"
 |.str=>"str"
noncomputable def Ty.nm:Ty->Str
 |.int=>"int"
 |.bool=>"bool"
 |.tuple=>"tuple"
 |.list=>"list"
 |.str=>"str"
noncomputable def Mt.nm:Mt->Str
 |.bitlen=>"bit_length"
noncomputable def plainO:Expr->Bool
 |.Call (.Name _ _) [] [] _=>false
 |_=>true
noncomputable def isSlice:Expr->Bool
 |.Slice ..=>true
 |_=>false
noncomputable def asName:Expr->Option Str
 |.Name x _=>some x
 |_=>none
noncomputable def asConst:Expr->Option Const
 |.Constant c _ _=>some c
 |_=>none
noncomputable def asBin:Expr->Option (Expr×Operator×Expr)
 |.BinOp l o r _=>some (l,o,r)
 |_=>none
noncomputable def asUn:Expr->Option (UnaryOp×Expr)
 |.UnaryOp o e _=>some (o,e)
 |_=>none
noncomputable def asCmp:Expr->Option (Expr×List CmpOp×List Expr)
 |.Compare l o r _=>some (l,o,r)
 |_=>none
noncomputable def asBool:Expr->Option (BoolOp×List Expr×Pos)
 |.BoolOp o vs p=>some (o,vs,p)
 |_=>none
noncomputable def asIf:Expr->Option (Expr×Expr×Expr)
 |.IfExp t x y _=>some (t,x,y)
 |_=>none
noncomputable def asTup:Expr->Option (List Expr)
 |.Tuple xs _ _=>some xs
 |_=>none
noncomputable def asLst:Expr->Option (List Expr)
 |.List xs _=>some xs
 |_=>none
noncomputable def asSub:Expr->Option (Expr×Expr)
 |.Subscript v i _=>some (v,i)
 |_=>none
noncomputable def asCall:Expr->Option (Expr×List Expr×List Keyword×Pos)
 |.Call f xs ks p=>some (f,xs,ks,p)
 |_=>none
noncomputable def asAttr:Expr->Option (Expr×Str×Pos)
 |.Attribute v x p=>some (v,x,p)
 |_=>none
theorem asName_{e:Expr}{x:Str}(h:asName e=some x):∃p,e=.Name x p:=by cases e<;>cases h;exact⟨_,rfl⟩
theorem asConst_{e:Expr}{x:Const}(h:asConst e=some x):∃j p,e=.Constant x j p:=by cases e<;>cases h;exact⟨_,_,rfl⟩
theorem asBin_{e l r:Expr}{o:Operator}(h:asBin e=some (l,o,r)):∃p,e=.BinOp l o r p:=by cases e<;>cases h;exact⟨_,rfl⟩
theorem asUn_{e l:Expr}{o:UnaryOp}(h:asUn e=some (o,l)):∃p,e=.UnaryOp o l p:=by cases e<;>cases h;exact⟨_,rfl⟩
theorem asCmp_{e l:Expr}{o:List CmpOp}{r:List Expr}(h:asCmp e=some (l,o,r)):∃p,e=.Compare l o r p:=by cases e<;>cases h;exact⟨_,rfl⟩
theorem asBool_{e:Expr}{o:BoolOp}{r:List Expr}{p:Pos}(h:asBool e=some (o,r,p)):e=.BoolOp o r p:=by cases e<;>cases h;rfl
theorem asIf_{e t x y:Expr}(h:asIf e=some (t,x,y)):∃p,e=.IfExp t x y p:=by cases e<;>cases h;exact⟨_,rfl⟩
theorem asTup_{e:Expr}{xs:List Expr}(h:asTup e=some xs):∃j p,e=.Tuple xs j p:=by cases e<;>cases h;exact⟨_,_,rfl⟩
theorem asLst_{e:Expr}{xs:List Expr}(h:asLst e=some xs):∃p,e=.List xs p:=by cases e<;>cases h;exact⟨_,rfl⟩
theorem asSub_{e v i:Expr}(h:asSub e=some (v,i)):∃p,e=.Subscript v i p:=by cases e<;>cases h;exact⟨_,rfl⟩
theorem asCall_{e f:Expr}{xs:List Expr}{ks:List Keyword}{p:Pos}(h:asCall e=some (f,xs,ks,p)):e=.Call f xs ks p:=by cases e<;>cases h;rfl
theorem asAttr_{e v:Expr}{x:Str}{p:Pos}(h:asAttr e=some (v,x,p)):e=.Attribute v x p:=by cases e<;>cases h;rfl
noncomputable def asCallN(e:Expr):Option (Str×List Expr×Pos):=(asCall e).bind fun c=>if c.2.2.1.isEmpty then (asName c.1).map fun x=>(x,c.2.1,c.2.2.2) else none
theorem asCallN_{e:Expr}{x:Str}{xs:List Expr}{p:Pos}(h:asCallN e=some (x,xs,p)):∃q,e=.Call (.Name x q) xs [] p:=by
 unfold asCallN at h
 cases c:asCall e with
 |none=>rw[c]at h;cases h
 |some c' =>
  obtain⟨f,ys,ks,p'⟩:=c'
  rw[c]at h
  have e1:=asCall_ c
  cases ks with
  |nil =>
   cases n:asName f with
   |none=>simp[n]at h
   |some y =>
    simp[n]at h
    obtain⟨q,e2⟩:=asName_ n
    obtain⟨rfl,rfl,rfl⟩:=h
    exact⟨q,by rw[e1,e2]⟩
  |cons _ _=>simp at h
noncomputable def isSet:Expr->Bool
 |.Set ..=>true
 |_=>false
noncomputable def asLC:Expr->Option (Expr×List Comprehension×Scope)
 |.ListComp a b c _=>some (a,b,c)
 |_=>none
theorem asLC_{e a:Expr}{b:List Comprehension}{c:Scope}(h:asLC e=some (a,b,c)):∃p,e=.ListComp a b c p:=by cases e<;>cases h;exact⟨_,rfl⟩
noncomputable def asComp(e:Expr):Option (Expr×Str×Expr×Scope):=(asLC e).bind fun z=>match z.2.1 with
 |[g]=>if g.ifs.isEmpty&&decide (g.is_async=0) then (asName g.target).map fun x=>(z.1,x,g.iter,z.2.2) else none
 |_=>none
theorem asComp_{e a:Expr}{x:Str}{i:Expr}{c:Scope}(h:asComp e=some (a,x,i,c)):∃px p,e=.ListComp a [⟨.Name x px,i,[],0⟩] c p:=by
 unfold asComp at h
 cases z:asLC e with
 |none=>rw[z]at h;cases h
 |some y =>
  obtain⟨a',b,c'⟩:=y
  obtain⟨p,rfl⟩:=asLC_ z
  rw[z]at h
  simp only[Option.bind_some]at h
  split at h
  ·next g =>
   obtain⟨tg,it,ifs,asy⟩:=g
   simp only at h
   split at h
   ·next hc =>
    simp only[Bool.and_eq_true,List.isEmpty_iff,decide_eq_true_eq]at hc
    obtain⟨rfl,rfl⟩:=hc
    cases n:asName tg with
    |none=>rw[n]at h;cases h
    |some y =>
     rw[n]at h
     obtain⟨px,rfl⟩:=asName_ n
     cases h
     exact⟨px,p,rfl⟩
   ·cases h
  ·cases h
noncomputable def relab(names out:List (Str×NameKind)):List (Str×NameKind):=names.map fun(n,k)=>if (k == .free&&out.lookup n == some .cell) then (n,.cell) else (n,k)
noncomputable def Ck.block(k:Ck)(x:Str)(sc:Scope):Ck:={ k with N:=blockN k.N x,names:=relab sc.names k.names }
noncomputable def compCk(k:Ck)(x:Str)(sc:Scope):Bool :=
 (sc.kind == .function)&&decide ((sc.names.filter fun y=>y.2 == .cell)=if sc.names.lookup x=some .cell then [(x,.cell)] else [])&&(sc.names.all fun y=>!(y.2 == .local) ||decide (sc.names.lookup y.1=some .local))&&(decide (sc.names.lookup x=some .local) ||decide (sc.names.lookup x=some .cell)) &&
  (sc.names.all fun y=>!(y.2 == .local) ||decide (y.1=x) ||(!(k.N.contains y.1)&&decide (y.1≠(dum k.N))))&&(sc.names.all fun y=>!(y.2 == .free) ||decide (k.names.lookup y.1=some .cell) ||decide (k.names.lookup y.1=some .free)) &&
  decide (x≠(dum k.N))&&decide (k.names.lookup (dum k.N)=none) && !(k.N.contains (dum k.N))
noncomputable def plainE:Expr->Bool
 |.Starred .. |.Set .. |.SetComp .. |.DictComp .. |.Slice ..=>false
 |_=>true
noncomputable def fmtV:Expr->Option Expr
 |.FormattedValue v (-1) none _=>some v
 |_=>none
theorem fmtV_{e v:Expr}(h:fmtV e=some v):∃p,e=.FormattedValue v (-1) none p:=by
 unfold fmtV at h
 split at h
 ·cases h;exact⟨_,rfl⟩
 ·cases h
noncomputable def cstPart:Ex->Expr->Bool
 |.cst (.str z),.Constant (.str y) _ _=>decide (z=y)
 |_,_=>false
theorem cstPart_{x:Ex}{e:Expr}(h:cstPart x e=true):∃z j p,x=.cst (.str z)/\e=.Constant (.str z) j p:=by
 unfold cstPart at h
 split at h
 ·cases of_decide_eq_true h;exact⟨_,_,_,rfl,rfl⟩
 ·cases h
mutual
noncomputable def chkE:Ck->Ex->Expr->Bool
 |k,.var i,e=>(asName e).any fun x=>k.loc i x
 |k,.cst d,e=>(asConst e).any fun c=>constOk d c
 |k,.con i,e=>(asName e).any fun x=>decide (k.cns[i]?=some x)&&k.gl x
 |k,.bin o a b,e=>(asBin e).any fun z=>opOk o z.2.1&&chkE k a z.1&&chkE k b z.2.2
 |k,.neg a,e=>(asUn e).any fun z=>decide (z.1=.USub)&&chkE k a z.2
 |k,.not a,e=>(asUn e).any fun z=>decide (z.1=.Not)&&chkE k a z.2
 |k,.cmp o a b,e=>(asCmp e).any fun z=>decide (z.2.1.length=1)&&decide (z.2.2.length=1)&&cOk o (z.2.1.getD 0 .Eq) (z.2.2.getD 0 e)&&chkE k a z.1&&chkE k b (z.2.2.getD 0 e)
 |k,.and a b,e=>(asBool e).any fun z=>decide (z.1=.And)&&decide (2<=z.2.1.length)&&chkE k a (z.2.1.getD 0 e)&&(if z.2.1.length=2 then chkE k b (z.2.1.getD 1 e) else chkE k b (.BoolOp .And (z.2.1.drop 1) z.2.2))
 |k,.or a b,e=>(asBool e).any fun z=>decide (z.1=.Or)&&decide (2<=z.2.1.length)&&chkE k a (z.2.1.getD 0 e)&&(if z.2.1.length=2 then chkE k b (z.2.1.getD 1 e) else chkE k b (.BoolOp .Or (z.2.1.drop 1) z.2.2))
 |k,.ife c a b,e=>(asIf e).any fun z=>chkE k c z.1&&chkE k a z.2.1&&chkE k b z.2.2
 |k,.tup es,e=>(asTup e).any fun xs=>decide (xs.length<=1000)&&chkEs k es xs
 |k,.lst es,e=>(asLst e).any fun xs=>decide (xs.length<=1000)&&chkEs k es xs
 |k,.ix a b,e=>(asSub e).any fun z=>!isSlice z.2&&chkE k a z.1&&chkE k b z.2
 |k,.call f es,e=>(asCallN e).any fun z=>decide (k.fns[f]?=some (z.1,z.2.1.length))&&k.gl z.1 && !z.2.1.isEmpty&&chkEs k es z.2.1
 |k,.bi f es,e=>(asCallN e).any fun z=>decide (z.1=f.nm)&&k.gl z.1 && !z.2.1.isEmpty&&chkEs k es z.2.1
 |k,.compR es b,e=>(asComp e).any fun z=>compCk k z.2.1 z.2.2.2&&((asCallN z.2.2.1).any fun c=>decide (c.1=("range":Str))&&k.gl c.1 && !c.2.1.isEmpty&&chkEs k es c.2.1)&&chkE (k.block z.2.1 z.2.2.2) b z.1
 |k,.compE a b,e=>(asComp e).any fun z=>compCk k z.2.1 z.2.2.2 && !isSet z.2.2.1&&chkE k a z.2.2.1&&chkE (k.block z.2.1 z.2.2.2) b z.1
 |k,.sm o a b,e=>(asCall e).any fun z=>z.2.2.1.isEmpty&&decide (z.2.1.length=1)&&((asAttr z.1).any fun y=>decide (y.2.1=o.nm)&&plainO y.1&&(y.2.2.endLine == z.2.2.2.line)&&chkE k a y.1)&&chkE k b (z.2.1.getD 0 e)
noncomputable def chkFs:Ck->List Ex->List Expr->Bool
 |_,[],es=>es.isEmpty
 |k,e::es,xs=>(((fmtV (xs.getD 0 (.Name "" ⟨0,0,0,0⟩))).any fun y=>chkE k e y) ||cstPart e (xs.getD 0 (.Name "" ⟨0,0,0,0⟩)))&&chkFs k es (xs.drop 1)
noncomputable def chkEs:Ck->List Ex->List Expr->Bool
 |_,[],es=>es.isEmpty
 |k,e::es,xs=>!xs.isEmpty&&chkE k e (xs.getD 0 (.Name "" ⟨0,0,0,0⟩))&&chkEs k es (xs.drop 1)
end
theorem two_list{α:Type}{xs:List α}(h:xs.length=2):∃a b,xs=[a,b]:=by
 match xs,h with
 |[a,b],_=>exact⟨a,b,rfl⟩
theorem one_list{α:Type}{xs:List α}(h:xs.length=1):∃a,xs=[a]:=by
 match xs,h with
 |[a],_=>exact⟨a,rfl⟩
theorem cons_list{α:Type}{xs:List α}(h:(!xs.isEmpty)=true):∃a b,xs=a::b:=by
 cases xs with
 |nil=>cases h
 |cons a b=>exact⟨a,b,rfl⟩
theorem opt_any{α:Type}{o:Option α}{f:α->Bool}(h:o.any f=true):∃a,o=some a/\f a=true:=by
 cases o with
 |none=>cases h
 |some a=>exact⟨a,rfl,h⟩
theorem chkEs_nil{k:Ck}{es:List Expr}(h:chkEs k [] es=true):es=[]:=by
 rw[chkEs]at h
 simpa using h
theorem chkEs_cons{k:Ck}{x:Ex}{xs:List Ex}{es:List Expr}(h:chkEs k (x::xs) es=true):∃y ys,es=y::ys/\chkE k x y=true/\chkEs k xs ys=true:=by
 rw[chkEs]at h
 cases es with
 |nil=>simp at h
 |cons y ys =>
  simp only[Bool.and_eq_true,List.drop_succ_cons,List.drop_zero]at h
  exact⟨y,ys,rfl,h.1.2,h.2⟩
theorem chk_plain{k:Ck}{x:Ex}{e:Expr}(h:chkE k x e=true):plainE e=true:=by
 cases x with
 |_ =>
  rw[chkE]at h
  obtain⟨z,hz,_⟩:=opt_any h
  first
   |(obtain⟨_,rfl⟩:=asName_ hz;rfl)
   |(obtain⟨_,_,rfl⟩:=asConst_ hz;rfl)
   |(obtain⟨_,rfl⟩:=asBin_ hz;rfl)
   |(obtain⟨_,rfl⟩:=asUn_ hz;rfl)
   |(obtain⟨_,rfl⟩:=asCmp_ hz;rfl)
   |(have e:=asBool_ hz;subst e;rfl)
   |(obtain⟨_,rfl⟩:=asIf_ hz;rfl)
   |(obtain⟨_,_,rfl⟩:=asTup_ hz;rfl)
   |(obtain⟨_,rfl⟩:=asLst_ hz;rfl)
   |(obtain⟨_,rfl⟩:=asSub_ hz;rfl)
   |(obtain⟨_,rfl⟩:=asCallN_ hz;rfl)
   |(have e:=asCall_ hz;subst e;rfl)
   |(obtain⟨_,rfl⟩:=asJoin_ hz;rfl)
   |(obtain⟨_,_,_,rfl⟩:=asComp_ hz;rfl)
   |(obtain⟨_,_,rfl⟩:=asCompF_ hz;rfl)
   |(obtain⟨_,_,rfl⟩:=asComp_ hz;rfl)
def Rws(K:PySem.W.Frag)(O:List Addr)(H:Hp):List (List D)->List Addr->Prop
 |[],as=>as=[]
 |r::rs,as=>∃b bs vs,as=b::bs/\H b=some (.lst vs)/\Iss K (minus H O) r vs/\Rws K O H rs bs
theorem Rws.imp{K:PySem.W.Frag}{O O':List Addr}{H H':Hp}(s:Same (minus H O) (minus H' O')):∀ {rows:List (List D)} {as:List Addr},(∀b∈as,∀vs,H b=some (.lst vs)->H' b=some (.lst vs))->Rws K O H rows as->Rws K O' H' rows as
 |[],as,_,h=>h
 |r::rs,as,k,h=>by
  obtain⟨b,bs,vs,rfl,h1,h2,h3⟩:=h
  exact⟨b,bs,vs,rfl,k b (List.mem_cons_self ..) vs h1,Iss.mono s r h2,Rws.imp s (fun c hc=>k c (List.mem_cons_of_mem _ hc)) h3⟩
theorem Rws.len{K:PySem.W.Frag}{O:List Addr}{H:Hp}:∀ {rows:List (List D)} {as:List Addr},Rws K O H rows as->as.length=rows.length
 |[],as,h=>by cases h;rfl
 |r::rs,as,h=>by
  obtain⟨b,bs,vs,rfl,_,_,h3⟩:=h
  simp[Rws.len h3]
theorem Rws.isL{K:PySem.W.Frag}{O:List Addr}{H:Hp}:∀ {rows:List (List D)} {as:List Addr},Rws K O H rows as->∀b∈as,∃vs,H b=some (.lst vs)
 |[],as,h,b,hb=>by cases h;cases hb
 |r::rs,as,h,b,hb=>by
  obtain⟨c,bs,vs,rfl,h1,_,h3⟩:=h
  rcases List.mem_cons.mp hb with rfl|hb
  ·exact⟨vs,h1⟩
  ·exact Rws.isL h3 b hb
structure OwT (K:PySem.W.Frag) (O:List Addr) (H:Hp) (rows:List (List D)) (a:Addr) (as:List Addr):Prop where
 top:H a=some (.lst (as.map .ref))
 nd:a ∉ as/\as.Nodup
 inO:a∈O/\∀b∈as,b∈O
 rw:Rws K O H rows as
theorem OwT.mono{K:PySem.W.Frag}{O:List Addr}{H H':Hp}{rows:List (List D)}{a:Addr}{as:List Addr}(e:Same H H')(t:OwT K O H rows a as):OwT K O H' rows a as :=
 ⟨e _ _ t.top,t.nd,t.inO,t.rw.imp (minus_mono e) fun b _ vs h=>e _ _ h⟩
def OT(K:PySem.W.Frag)(O:List Addr)(H:Hp)(σ:Sto)(τ:L2.St):Prop :=
 (∀i rows,getS σ i=some (.ot rows)->∃a as,τ[i]?=some (some (.ref a))/\OwT K O H rows a as/\∀j ds b,getS σ j=some (.ow ds)->τ[j]?=some (some (.ref b))->b≠a/\b ∉ as)/\∀i j rs qs,getS σ i=some (.ot rs)->getS σ j=some (.ot qs)->i=j
theorem OT.step{K:PySem.W.Frag}{O O':List Addr}{H H':Hp}{σ σ':Sto}{τ τ':L2.St}(h:OT K O H σ τ)(hT:∀i rows,getS σ' i=some (.ot rows)->getS σ i=some (.ot rows)/\τ'[i]?=τ[i]?)
 (hO:∀i rows a as,getS σ i=some (.ot rows)->τ[i]?=some (some (.ref a))->(∀j ds b,getS σ j=some (.ow ds)->τ[j]?=some (some (.ref b))->b≠a/\b ∉ as)->OwT K O H rows a as->OwT K O' H' rows a as)
 (hW:∀i rows a as j ds b,getS σ i=some (.ot rows)->OwT K O H rows a as->getS σ' j=some (.ow ds)->τ'[j]?=some (some (.ref b))->(∃ds',getS σ j=some (.ow ds')/\τ[j]?=some (some (.ref b)))\/(b≠a/\b ∉ as)):OT K O' H' σ' τ':=by
 refine⟨fun i rows g=>?_,fun i j rs qs g1 g2=>h.2 i j rs qs (hT i rs g1).1 (hT j qs g2).1⟩
 obtain⟨g0,e0⟩:=hT i rows g
 obtain⟨a,as,e1,t,d⟩:=h.1 i rows g0
 refine⟨a,as,e0.trans e1,hO i rows a as g0 e1 d t,fun j ds b g1 e2=>?_⟩
 rcases hW i rows a as j ds b g0 t g1 e2 with⟨ds',g2,e3⟩|z
 ·exact d j ds' b g2 e3
 ·exact z
structure Reps (K:PySem.W.Frag) (O:List Addr) (H:Hp) (σ:Sto) (τ:L2.St):Prop where
 len:σ.length=τ.length
 own:∀a∈O,H a≠none
 sh:∀i d,getS σ i=some (.sh d)->∃v,τ[i]?=some (some v)/\Is K (minus H O) d v
 ow:∀i ds,getS σ i=some (.ow ds)->∃a vs,τ[i]?=some (some (.ref a))/\a∈O/\H a=some (.lst vs)/\Iss K (minus H O) ds vs
 dj:∀i j ds es,i≠j->getS σ i=some (.ow ds)->getS σ j=some (.ow es)->τ[i]? ≠ τ[j]?
 tt:OT K O H σ τ
theorem Reps.mono{K:PySem.W.Frag}{O:List Addr}{H H':Hp}{σ:Sto}{τ:L2.St}(r:Reps K O H σ τ)(e:Same H H'):Reps K O H' σ τ where
 len:=r.len
 own:=fun a ha z=>by
  cases q:H a with
  |none=>exact r.own a ha q
  |some o=>rw[e a o q]at z;cases z
 sh:=fun i d h=>by
  obtain⟨v,h1,h2⟩:=r.sh i d h
  exact⟨v,h1,Is.mono (minus_mono e) d h2⟩
 ow:=fun i ds h=>by
  obtain⟨a,vs,h1,h2,h3,h4⟩:=r.ow i ds h
  exact⟨a,vs,h1,h2,e _ _ h3,Iss.mono (minus_mono e) ds h4⟩
 dj:=r.dj
 tt:=r.tt.step (fun _ _ g=>⟨g,rfl⟩) (fun _ _ _ _ _ _ _ t=>t.mono e) fun _ _ _ _ j ds b _ _ g q=>.inl ⟨ds,g,q⟩
theorem getS_set':∀(σ:Sto) (i j:Nat) (v:Option Sl),getS (setS σ i v) j=if i=j/\i<σ.length then v else getS σ j
 |[],i,j,v=>by simp[setS,getS]
 |x::r,0,0,v=>by simp[setS,getS]
 |x::r,0,j+1,v=>by simp[setS,getS]
 |x::r,i+1,0,v=>by simp[setS,getS]
 |x::r,i+1,j+1,v=>by
  simp only[setS,getS,List.length_cons]
  rw[getS_set' r i j v]
  by_cases h:i=j/\i<r.length
  ·rw[if_pos h,if_pos (by lia)]
  ·rw[if_neg h,if_neg (by lia)]
theorem setS_len:∀(σ:Sto) (i:Nat) (v:Option Sl),(setS σ i v).length=σ.length
 |[],i,v=>rfl
 |_::_,0,v=>rfl
 |_::r,i+1,v=>by simp[setS,setS_len r i v]
noncomputable def less(O:List Addr)(a:Addr):List Addr:=O.filter fun b=>decide (b≠a)
theorem mem_less{O:List Addr}{a b:Addr}:b∈less O a ↔ b∈O/\b≠a:=by simp[less]
theorem Reps.share{K:PySem.W.Frag}{O:List Addr}{H:Hp}{σ:Sto}{τ:L2.St}(r:Reps K O H σ τ){i:Nat}{ds:List D}{a:Addr}{vs:List V}(g:getS σ i=some (.ow ds))(e1:τ[i]?=some (some (.ref a)))(e3:H a=some (.lst vs))(e4:Iss K (minus H O) ds vs) :
 Reps K (less O a) H (setS σ i (some (.sh (.lst ds)))) τ where
 len:=by rw[setS_len];exact r.len
 own:=fun b hb=>r.own b (mem_less.mp hb).1
 sh:=fun j d h=>by
  have lessS:Same (minus H O) (minus H (less O a)):=minus_less fun b hb=>(mem_less.mp hb).1
  rw[getS_set']at h
  by_cases hj:i=j/\i<σ.length
  ·rw[if_pos hj]at h
   obtain⟨rfl,_⟩:=hj
   cases h
   refine⟨.ref a,e1,lst_is (SqL.of ?_) (Iss.mono lessS ds e4)⟩
   rw[minus_at fun z=>(mem_less.mp z).2 rfl];exact e3
  ·rw[if_neg hj]at h
   obtain⟨v,h1,h2⟩:=r.sh j d h
   exact⟨v,h1,Is.mono lessS d h2⟩
 ow:=fun j es h=>by
  have lessS:Same (minus H O) (minus H (less O a)):=minus_less fun b hb=>(mem_less.mp hb).1
  rw[getS_set']at h
  by_cases hj:i=j/\i<σ.length
  ·rw[if_pos hj]at h;cases h
  ·rw[if_neg hj]at h
   obtain⟨b,ws,h1,h2,h3,h4⟩:=r.ow j es h
   refine⟨b,ws,h1,mem_less.mpr ⟨h2,fun z=>?_⟩,h3,Iss.mono lessS es h4⟩
   subst z
   have hij:i≠j:=fun z=>by
    subst z
    have:i<σ.length:=by
     rcases Nat.lt_or_ge i σ.length with q|q
     ·exact q
     ·rw[r.len]at q;rw[List.getElem?_eq_none q]at e1;cases e1
    exact hj ⟨rfl,this⟩
   exact r.dj i j ds es hij g h (e1.trans h1.symm)
 dj:=fun j l es fs hjl g1 g2=>by
  rw[getS_set']at g1 g2
  by_cases hj:i=j/\i<σ.length
  ·rw[if_pos hj]at g1;cases g1
  ·rw[if_neg hj]at g1
   by_cases hl:i=l/\i<σ.length
   ·rw[if_pos hl]at g2;cases g2
   ·rw[if_neg hl]at g2
    exact r.dj j l es fs hjl g1 g2
 tt:=by
  have old:∀j z,getS (setS σ i (some (.sh (.lst ds)))) j=some z->(∀d,z ≠ .sh d)->getS σ j=some z:=fun j z h n=>by
   rw[getS_set']at h
   by_cases hj:i=j/\i<σ.length
   ·rw[if_pos hj]at h;cases h;exact absurd rfl (n _)
   ·rw[if_neg hj]at h;exact h
  refine r.tt.step (fun j rows h=>⟨old j _ h (fun _ z=>nomatch z),rfl⟩) (fun j rows b as h q d t=>?_) fun _ _ _ _ j es b _ _ h q=>.inl ⟨es,old j _ h (fun _ z=>nomatch z),q⟩
  obtain⟨n1,n2⟩:=d i ds a g e1
  refine⟨t.top,t.nd,⟨mem_less.mpr ⟨t.inO.1,Ne.symm n1⟩,fun c hc=>mem_less.mpr ⟨t.inO.2 c hc,fun z=>n2 (z ▸ hc)⟩⟩,t.rw.imp (minus_less fun b hb=>(mem_less.mp hb).1) fun _ _ _ z=>z⟩
def flD(d:D):V->Prop
 |.non=>d=.non
 |.bl b=>d=.bl b
 |.int i=>d=.int i
 |.str x=>d=.str x
 |.ref _=>(∃xs,d=.tup xs)\/∃xs,d=.lst xs
 |_=>False
theorem Is.fl{K:PySem.W.Frag}{S:Hp}{d:D}{v:V}(g:Is K S d v):flD d v:=by
 cases d with
 |non=>cases is_non g;rfl
 |bl b=>cases is_bl g;rfl
 |int i=>cases is_int g;rfl
 |str x=>obtain⟨rfl,_⟩:=is_str g;rfl
 |tup xs=>obtain⟨a,vs,rfl,_⟩:=is_tup g;exact .inl ⟨xs,rfl⟩
 |lst xs=>obtain⟨a,vs,rfl,_⟩:=is_lst g;exact .inr ⟨xs,rfl⟩
mutual
theorem Is.inj{pins:List (Addr×Obj)}{s:Shared}{τ:L2.St}{H:Hp}(I:Inv X pins τ H s):∀(d:D) {e:D} {v:V},Is X.K H d v->Is X.K H e v->d=e
 |.non,e,v,h,g=>by cases is_non h;exact(show e=.non from g.fl).symm
 |.bl b,e,v,h,g=>by cases is_bl h;exact(show e=.bl b from g.fl).symm
 |.int b,e,v,h,g=>by cases is_int h;exact(show e=.int b from g.fl).symm
 |.str b,e,v,h,g=>by obtain⟨rfl,_⟩:=is_str h;exact(show e=.str b from g.fl).symm
 |.tup xs,e,v,h,g=>by
  obtain⟨a,vs,rfl,h1,h2⟩:=is_tup h
  cases e with
  |tup ys =>
   obtain⟨b,us,eb,g1,g2⟩:=is_tup g
   cases eb
   cases I.tuple_inj h1 g1
   rw[Iss.inj I xs h2 g2]
  |lst ys =>
   obtain⟨b,us,eb,g1,g2⟩:=is_lst g
   cases eb
   obtain⟨_,_,⟨o,e1,e2,_⟩,_⟩:=I.tuple h1
   obtain⟨_,_,p,_⟩:=I.list g1
   obtain⟨o',f1,f2,_⟩:=p.isList
   rw[e1]at f1;cases f1
   rw[e2]at f2
   injection f2 with f2
   exact absurd f2 (by decide)
  |_=>rcases g.fl with⟨_,z⟩|⟨_,z⟩<;>cases z
 |.lst xs,e,v,h,g=>by
  obtain⟨a,vs,rfl,h1,h2⟩:=is_lst h
  cases e with
  |lst ys =>
   obtain⟨b,us,eb,g1,g2⟩:=is_lst g
   cases eb
   cases I.list_inj h1 g1
   rw[Iss.inj I xs h2 g2]
  |tup ys =>
   obtain⟨b,us,eb,g1,g2⟩:=is_tup g
   cases eb
   obtain⟨_,_,⟨o,e1,e2,_⟩,_⟩:=I.tuple g1
   obtain⟨_,_,p,_⟩:=I.list h1
   obtain⟨o',f1,f2,_⟩:=p.isList
   rw[e1]at f1;cases f1
   rw[e2]at f2
   injection f2 with f2
   exact absurd f2 (by decide)
  |_=>rcases g.fl with⟨_,z⟩|⟨_,z⟩<;>cases z
theorem Iss.inj{pins:List (Addr×Obj)}{s:Shared}{τ:L2.St}{H:Hp}(I:Inv X pins τ H s):∀(ds:List D) {es:List D} {vs:List V},Iss X.K H ds vs->Iss X.K H es vs->ds=es
 |[],es,vs,h,g=>by
  unfold Iss at h;subst h
  cases es with
  |nil=>rfl
  |cons _ _=>unfold Iss at g;obtain⟨_,_,g,_⟩:=g;cases g
 |d::ds,es,vs,h,g=>by
  unfold Iss at h
  obtain⟨v,r,rfl,h1,h2⟩:=h
  cases es with
  |nil=>unfold Iss at g;cases g
  |cons e es =>
   unfold Iss at g
   obtain⟨v',r',eq,g1,g2⟩:=g
   cases eq
   rw[Is.inj I d h1 g1,Iss.inj I ds h2 g2]
end
noncomputable def lessT(O as:List Addr):List Addr:=O.filter fun b=>decide (b ∉ as)
theorem mem_lessT{O as:List Addr}{b:Addr}:b∈lessT O as ↔ b∈O/\b ∉ as:=by simp[lessT]
theorem Rws.iss{K:PySem.W.Frag}{O O':List Addr}{H:Hp}(s:Same (minus H O) (minus H O')):∀ {rows:List (List D)} {as:List Addr},(∀b∈as,b ∉ O')->Rws K O H rows as->Iss K (minus H O') (rows.map .lst) (as.map .ref)
 |[],as,_,h=>by cases h;simp only[List.map_nil];unfold Iss;rfl
 |r::rs,as,n,h=>by
  obtain⟨b,bs,vs,rfl,h1,h2,h3⟩:=h
  simp only[List.map_cons]
  unfold Iss
  refine⟨_,_,rfl,lst_is (SqL.of ?_) (Iss.mono s r h2),Rws.iss s (fun c hc=>n c (List.mem_cons_of_mem _ hc)) h3⟩
  rw[minus_at (n b (List.mem_cons_self ..))];exact h1
theorem OwT.is{K:PySem.W.Frag}{O:List Addr}{H:Hp}{rows:List (List D)}{a:Addr}{as:List Addr}(t:OwT K O H rows a as):Is K (minus H (lessT O (a::as))) (rowsD rows) (.ref a):=by
 refine lst_is (SqL.of ?_) (t.rw.iss (minus_less fun b hb=>(mem_lessT.mp hb).1) fun b hb z=>(mem_lessT.mp z).2 (List.mem_cons_of_mem _ hb))
 rw[minus_at fun z=>(mem_lessT.mp z).2 (List.mem_cons_self ..)]
 exact t.top
def Wd(K:PySem.W.Frag)(O:List Addr)(H:Hp)(Q:VK)(d:D):Prop:=∀v H',Same H H'->Is K (minus H' O) d v->Q v H'
def Wds(K:PySem.W.Frag)(O:List Addr)(H:Hp)(Q:List V->Hp->Prop)(ds:List D):Prop:=∀vs H',Same H H'->Iss K (minus H' O) ds vs->Q vs H'
theorem Wd.mono{K:PySem.W.Frag}{O:List Addr}{H H':Hp}{Q:VK}{d:D}(e:Same H H')(w:Wd K O H Q d):Wd K O H' Q d:=fun v H'' e' i=>w v H'' (e.trans e') i
def tD(K:PySem.W.Frag)(C:Cfg)(x:Ex):TE:=fun τ H Q=>∃σ O,Reps K O H σ τ/\wpE C x σ (Wd K O H Q)
def tDs(K:PySem.W.Frag)(C:Cfg)(xs:List Ex):TA:=fun τ H Q=>∃σ O,Reps K O H σ τ/\wpEs C xs σ (Wds K O H Q)
def tDT(K:PySem.W.Frag)(C:Cfg)(x:Ex):TT:=fun τ H Q=>∃σ O,Reps K O H σ τ/\wpE C x σ (isB fun c=>∀H',Same H H'->Q c H')
def WdF(K:PySem.W.Frag)(O:List Addr)(H:Hp)(Q:VK)(d:D):Prop:=∀xs a H' vs,d=.lst xs->Same H H'->H a=none->H' a=some (.lst vs)->Iss K (minus H' (a::O)) xs vs->Q (.ref a) H'
def WdG(K:PySem.W.Frag)(O:List Addr)(H:Hp)(Q:VK)(d:D):Prop:=∀rows a as H',d=rowsD rows->Same H H'->(H a=none/\∀b∈as,H b=none)->OwT K (a::as++O) H' rows a as->Q (.ref a) H'
def Rw(K:PySem.W.Frag)(fr g:Bool)(O:List Addr)(H:Hp)(Q:VK)(d:D):Prop:=if fr=true then WdF K O H Q d else if g=true then (WdG K O H Q d/\(nol d=true->Wd K O H Q d)) else Wd K O H Q d
theorem Wd.rw{K:PySem.W.Frag}{fr g:Bool}{O:List Addr}{H:Hp}{Q:VK}{d:D}(ho:∀a∈O,H a≠none)(w:Wd K O H Q d):Rw K fr g O H Q d:=by
 unfold Rw
 split
 ·intro xs a H' vs e s h0 h1 i
  subst e
  have na:a ∉ O:=fun z=>ho a z h0
  refine w _ _ s (lst_is (SqL.of ?_) (Iss.mono (minus_less fun b hb=>List.mem_cons_of_mem _ hb) xs i))
  rw[minus_at na];exact h1
 split
 ·refine⟨fun rows a as H' e s h0 t=>?_,fun _=>w⟩
  subst e
  refine w _ _ s (Is.mono (minus_less fun b hb=>mem_lessT.mpr ⟨List.mem_append_right _ hb,fun z=>?_⟩) _ t.is)
  rcases List.mem_cons.mp z with rfl|z
  ·exact ho _ hb h0.1
  ·exact ho _ hb (h0.2 _ z)
 ·exact w
def fldN(x:Str):Str:=if x="Dependent" then "weights" else "at"
def Fld(K:PySem.W.Frag)(O:List Addr)(y:XD)(H:Hp)(da:Option Addr):Prop:=∀d∈y.f,∃D v,da=some D/\H D=some (.xd [(fldN y.t,v)])/\Is K (minus H O) d v
theorem Fld.less{K:PySem.W.Frag}{O O':List Addr}{y:XD}{H:Hp}{da:Option Addr}(e:∀a∈O',a∈O)(h:Fld K O y H da):Fld K O' y H da:=fun d hd=>by
 obtain⟨D,v,h1,h2,h3⟩:=h d hd
 exact⟨D,v,h1,h2,Is.mono (minus_less e) d h3⟩
def spD(K:PySem.W.Frag)(n:Nat)(fr g:Bool)(c:Ctr):Sp:=fun vs H Q E=>∃O ds,ds.length=n/\(∀a∈O,H a≠none)/\Iss K (minus H O) ds vs/\c.wp ds (Rw K fr g O H Q) fun y=>∀H' da,Same H H'->Fld K O y H' da->E (.str y.t 0) da H'
def CXz(P:Program)(w:World)(mg:Str->Option Value):CXT:=fun outer H s E e s'=>∃x C H1 da,E (.str x 0) da H1/\mg x=some (.ref C)/\Thrown P w C outer H s H1 da e s'
theorem passZ{X:Cx}:Passes (CXz X.prog X.w X.mg) X E0:=fun _ _ _ _ _ _ _ ⟨_,_,_,_,z,_⟩=>z.elim
theorem PE.imp{X:Cx}{e:Expr}{t t':TE}(h:∀τ H Q,t' τ H Q->t τ H Q)(p:PE X e t):PE X e t':=fun pins s τ H Q I w=>p pins s τ H Q I (h τ H Q w)
theorem PA.imp{X:Cx}{e:List Expr}{t t':TA}(h:∀τ H Q,t' τ H Q->t τ H Q)(p:PA X e t):PA X e t':=fun pos pins s τ H Q I w=>p pos pins s τ H Q I (h τ H Q w)
theorem PT.imp{X:Cx}{e:Expr}{t t':TT}(h:∀τ H Q,t' τ H Q->t τ H Q)(p:PT X e t):PT X e t':=fun pins s τ H Q I w=>p pins s τ H Q I (h τ H Q w)
theorem PS.imp{X:Cx}{e:Stmt}{t t':TS}(h:∀D τ H,t' D τ H->t D τ H)(p:PS X e t):PS X e t':=fun pins s τ H D I w=>p pins s τ H D I (h D τ H w)
theorem PSs.imp{X:Cx}{e:List Stmt}{t t':TS}(h:∀D τ H,t' D τ H->t D τ H)(p:PSs X e t):PSs X e t':=fun pins s τ H D I w=>p pins s τ H D I (h D τ H w)
theorem new_not_own{H:Hp}{O:List Addr}{p:Addr}(h:∀a∈O,H a≠none)(hp:H p=none):p ∉ O:=fun z=>h p z hp
theorem same_upd{H:Hp}{p:Addr}(h:H p=none)(o:HO):Same H (upd H p o):=fun b u q=>by rw[upd_ne (ne_of_none q h)];exact q
section
variable {X:Cx}
def rD(K:PySem.W.Frag)(f:D->D->(D->Prop)->Prop):R2:=fun xv yv H Q=>∃O x y,(∀a∈O,H a≠none)/\Is K (minus H O) x xv/\Is K (minus H O) y yv/\f x y (Wd K O H Q)
theorem fin_ep{pins:List (Addr×Obj)}{τ:L2.St}{H:Hp}{s:Shared}{Q:VK}{O:List Addr}{d:D}{v:V}{u:Value}(I:Inv X pins τ H s)(w:Wd X.K O H Q d)(i:Is X.K (minus H O) d v)(r:RelV v u):EP X pins τ Q u s :=
 ⟨v,H,I,r,w v H (Same.refl H) i⟩
theorem mulOk{i j:Int}(h:MulOk i j):IntMulOk i j:=by
 rcases h with h|h|h
 ·exact .of_left h
 ·exact .of_right h
 ·unfold IntMulOk
  have e:Builtin.Int.intTooBig ((Builtin.Int.intBits i:Int)+(Builtin.Int.intBits j:Int))=false:=by
   unfold Builtin.Int.intTooBig
   rw[bitsLine_eq]
   have h':Builtin.Int.intBits i+Builtin.Int.intBits j<=134217728:=h
   exact decide_eq_false (by lia)
  intro z
  simp[e]at z
theorem divOk{i j:Int}(h:bits j<=9000):Builtin.divisionGoesByPylong i j=false:=by
 refine PyProof.noPylong_of_log2 ?_
 have h':Builtin.Int.intBits j<=9000:=h
 unfold Builtin.Int.intBits at h'
 by_cases e:j=0
 ·subst e;decide +kernel
 ·have e':(j == 0)=false:=by simpa using e
  rw[e']at h'
  simp only[Bool.false_eq_true,if_false]at h'
  lia
theorem Iss.minus_upd{K:PySem.W.Frag}{H:Hp}{O:List Addr}{ds:List D}{vs:List V}{p:Addr}{o:HO}(hp:H p=none)(i:Iss K (minus H O) ds vs):Iss K (minus (upd H p o) O) ds vs:=Iss.mono (minus_mono (same_upd hp o)) ds i
theorem at_upd{H:Hp}{O:List Addr}{p:Addr}{o:HO}(ho:∀a∈O,H a≠none)(hp:H p=none):minus (upd H p o) O p=some o:=by rw[minus_at (new_not_own ho hp),upd_same]
theorem same_fresh{H H':Hp}{O:List Addr}{a:Addr}(s:Same H H')(h:H a=none):Same (minus H O) (minus H' (a::O)):=fun b o hb=>by
 have e:=minus_same _ _ _ _ hb
 have na:b≠a:=fun z=>by subst z;rw[h]at e;cases e
 have nb:b ∉ O:=fun z=>by unfold minus at hb;rw[if_pos z]at hb;cases hb
 rw[minus_at (by simp[na,nb])]
 exact s _ _ e
theorem Wd.wdF{K:PySem.W.Frag}{O:List Addr}{H:Hp}{Q:VK}{d:D}(ho:∀a∈O,H a≠none)(w:Wd K O H Q d):WdF K O H Q d:=by
 have:=w.rw (fr:=true) (g:=false) ho
 unfold Rw at this
 rw[if_pos rfl]at this
 exact this
theorem WdF.mono{K:PySem.W.Frag}{O:List Addr}{H H':Hp}{Q:VK}{d:D}(e:Same H H')(w:WdF K O H Q d):WdF K O H' Q d:=fun xs a H'' vs q s h0 h1 i=>w xs a H'' vs q (e.trans s) (by
 cases z:H a with
 |none=>rfl
 |some o=>rw[e a o z]at h0;cases h0) h1 i
theorem cat_listsF{pins:List (Addr×Obj)}{s:Shared}{τ:L2.St}{H:Hp}{Q:VK}{O:List Addr}{a b:Addr}{vs ws:List V}{xs ys:List D}(I:Inv X pins τ H s)(ho:∀a∈O,H a≠none)(w:xs.length+ys.length<=lim/\WdF X.K O H Q (.lst (xs++ys)))
 (ha:SqL X.K H a vs) (hb:SqL X.K H b ws) (ia:Iss X.K (minus H O) xs vs) (ib:Iss X.K (minus H O) ys ws):wpAny (model X.prog X.w) X.A (binaryOp .Add (.ref a) (.ref b)) (EP X pins τ Q) X.xe s:=by
 obtain⟨its,r1,p1,z1⟩:=I.list ha
 obtain⟨its2,r2,p2,z2⟩:=I.list hb
 obtain⟨⟨cls,dd,data,sl⟩,h1,hc,n,hd⟩:=p1.isList
 obtain⟨⟨cls2,dd2,data2,sl2⟩,h2,hc2,n2,hd2⟩:=p2.isList
 simp only at hc hd hc2 hd2
 subst hc hd hc2 hd2
 have hl:vs.length+ws.length<=sizeLine:=by rw[ia.length,ib.length,sizeLine_eq];exact w.1
 have l1:=r1.length
 have l2:=r2.length
 refine concat_meets ⟨_,h1,rfl⟩ ⟨_,h2,rfl⟩ noFill_list_add seq_list_add PySem.F.slot_list_add PySem.F.entry_list_add (PySem.F.args_list_add_2 _ _) (list_addW a b its.toArray its2.toArray n n2 dd dd2 sl sl2 (by simp only[List.size_toArray];lia)) ⟨h1,h2,?_⟩
 have e:its.toArray++its2.toArray=(its++its2).toArray:=by simp
 rw[e]
 exact⟨.ref _,_,I.lnew (t':=s.toks) (r1.append r2) (by rw[List.length_append];exact hl),rfl,w.2 _ _ _ _ rfl (same_upd I.fresh _) I.fresh (upd_same ..) (Iss.mono (same_fresh (same_upd I.fresh _) I.fresh) _ (ia.append ib))⟩
theorem cat_lists{pins:List (Addr×Obj)}{s:Shared}{τ:L2.St}{H:Hp}{Q:VK}{O:List Addr}{a b:Addr}{vs ws:List V}{xs ys:List D}(I:Inv X pins τ H s)(ho:∀a∈O,H a≠none)(w:xs.length+ys.length<=lim/\Wd X.K O H Q (.lst (xs++ys)))
 (ha:SqL X.K H a vs) (hb:SqL X.K H b ws) (ia:Iss X.K (minus H O) xs vs) (ib:Iss X.K (minus H O) ys ws):wpAny (model X.prog X.w) X.A (binaryOp .Add (.ref a) (.ref b)) (EP X pins τ Q) X.xe s:=cat_listsF I ho ⟨w.1,w.2.wdF ho⟩ ha hb ia ib
theorem Iss.rep{K:PySem.W.Frag}{S:Hp}{ds:List D}{vs:List V}(i:Iss K S ds vs):∀k:Nat,Iss K S (List.replicate k ds).flatten (List.replicate k vs).flatten
 |0=>by simp[Iss]
 |k+1=>by
  rw[List.replicate_succ,List.replicate_succ,List.flatten_cons,List.flatten_cons]
  exact i.append (Iss.rep i k)
theorem rep_list{pins:List (Addr×Obj)}{s:Shared}{τ:L2.St}{H:Hp}{Q:VK}{O:List Addr}{a:Addr}{k:Int}{t:Tok}{vs:List V}{xs:List D}(I:Inv X pins τ H s)(ho:∀a∈O,H a≠none)(w:RepOk xs.length k/\Wd X.K O H Q (.lst (List.replicate k.toNat xs).flatten))
 (ha:SqL X.K H a vs) (ia:Iss X.K (minus H O) xs vs):wpAny (model X.prog X.w) X.A (binaryOp .Mult (.ref a) (.int k t)) (EP X pins τ Q) X.xe s:=by
 obtain⟨its,r1,p1,z1⟩:=I.list ha
 obtain⟨⟨cls,dd,data,sl⟩,h1,hc,n,hd⟩:=p1.isList
 simp only at hc hd
 subst hc hd
 have l1:=r1.length
 have l2:=ia.length
 obtain⟨⟨⟨k1,k2⟩,hz⟩,w⟩:=w
 have hz':vs.length*k.toNat<=sizeLine:=by rw[l2,sizeLine_eq];exact hz
 have hlen:its.toArray.size*k.toNat<=sizeLine:=by rw[List.size_toArray,<- l1];exact hz'
 have hcap:¬ its.toArray.size*k.toNat > (2^63-1) / 8:=by
  have:(sizeLine:Nat)<=(2^63-1) / 8:=by decide
  lia
 have hfit:¬ (!Builtin.List.listFitsIndex k)=true:=by
  rw[fitsIndex_both (by lia) (by lia)]
  exact Bool.false_ne_true
 have hlong:¬ Builtin.List.listTooLong (its.toArray.size*k.toNat)=true:=by
  rw[L2.notLongL hlen]
  exact Bool.false_ne_true
 have hnew:List.foldl (fun x1 x2=>x1++x2) #[] (List.replicate (if its.toArray.isEmpty=true then 0 else k.toNat) its.toArray)=(List.replicate k.toNat its).flatten.toArray:=by
  have f0:∀m:Nat,List.foldl (fun x1 x2=>x1++x2) #[] (List.replicate m its.toArray)=(List.replicate m its).flatten.toArray:=fun m=>by
   have:=L2.foldl_rep its m []
   rw[List.nil_append]at this
   exact this
  rw[f0]
  cases its with
  |nil=>simp
  |cons a r'=>rw[if_neg (by simp)]
 refine wpAny_binaryOp_repeat_ref (T:="list") (U:="int") (by decide) ⟨_,h1,rfl⟩ (fun s'=>typeIs_int s' k t) noFill_list_mul PySem.F.fills_int_mul PySem.F.slot_int_rmul repeat_list PySem.F.slot_int_index.lookup
  (call_meets PySem.F.slot_int_rmul (typeIs_int s k t) PySem.F.entry_int_rmul (PySem.F.args_int_rmul_2 _ _) (lm_int_rmul_list_any k t a its.toArray n dd sl)
   ⟨h1,rfl,⟨_,h1,rfl⟩,call_meets PySem.F.slot_list_mul ⟨_,h1,rfl⟩ PySem.F.entry_list_mul (PySem.F.args_list_mul_2 _ _) (lm_list_mul_any a its.toArray n dd sl k t hfit hcap hlong) ⟨h1,?_⟩⟩)
 rw[hnew]
 exact⟨.ref _,_,I.lnew (t':=s.toks) (r1.rep k.toNat) (by rw[L2.len_rep,Nat.mul_comm];exact hz'),rfl,w _ _ (same_upd I.fresh _) (lst_is (SqL.of (at_upd ho I.fresh)) (Iss.minus_upd I.fresh (ia.rep k.toNat)))⟩
theorem intD_of{f:Int->Int->(D->Prop)->Prop}{x y:D}{Q:D->Prop}(w:intD f x y Q):∃i j,x=.int i/\y=.int j/\f i j Q:=by
 cases x<;>first|exact w.elim|(cases y<;>first|exact w.elim|exact⟨_,_,rfl,rfl,w⟩)
theorem strOk_mem{x:Str}(h:PyData.strOk x=true){c:Nat}(hc:c∈x.cps.toList):c<0x110000:=by
 unfold PyData.strOk at h
 rw[<- Array.all_toList,List.all_eq_true]at h
 simpa using h c hc
theorem strOk_of{l:List Nat}(h:∀c∈l,c<0x110000):PyData.strOk ⟨l.toArray⟩=true:=by
 unfold PyData.strOk
 rw[<- Array.all_toList,List.all_eq_true]
 intro c hc
 exact decide_eq_true (h c (by simpa using hc))
theorem ofString_ok(x:String):PyData.strOk (Str.ofString x)=true:=by
 rw[Str.ofString_eq_toList]
 refine strOk_of fun c hc=>?_
 obtain⟨ch,_,rfl⟩:=List.mem_map.mp hc
 have:=ch.valid
 unfold Char.toNat
 rcases this with h|h<;>lia
theorem op_bin{o:BOp}{op:Operator}(h:opOk o op=true):OpR X (binaryOp op) (rD X.K (binD o)):=by
 intro pins s τ H xv yv v u Q I rx ry w
 obtain⟨O,x,y,ho,ix,iy,w⟩:=w
 cases o with
 |add =>
  cases op<;>first|exact Bool.noConfusion h|skip
  cases x<;>first|exact w.elim|(cases y<;>first|exact w.elim|skip)
  ·cases is_int ix;cases is_int iy;obtain⟨t,rfl⟩:=rx;obtain⟨t',rfl⟩:=ry
   exact add_int (fin_ep (I.tok _) w (int_is _) ⟨_,rfl⟩)
  ·obtain⟨rfl,o1⟩:=is_str ix;obtain⟨rfl,o2⟩:=is_str iy
   refine op_add_str pins s τ H _ _ v u Q I rx ry ⟨_,_,rfl,rfl,w.1,w.2 _ _ (Same.refl H) (str_is ?_)⟩
   unfold PyData.strOk at *
   show (Array.all (_++_) _)=true
   rw[Array.all_append,o1,o2];rfl
  ·obtain⟨a,xs,rfl,hx,jx⟩:=is_lst ix;obtain⟨b,ys,rfl,hy,jy⟩:=is_lst iy
   have hx':=(minus_same H O).seq hx
   have hy':=(minus_same H O).seq hy
   cases rx;cases ry
   exact cat_lists I ho w hx' hy' jx jy
 |mul =>
  cases op<;>first|exact Bool.noConfusion h|skip
  cases x<;>first|exact w.elim|(cases y<;>first|exact w.elim|skip)
  ·cases is_int ix;cases is_int iy;obtain⟨t,rfl⟩:=rx;obtain⟨t',rfl⟩:=ry
   exact mul_int (fin_ep (I.tok _) w.2 (int_is _) ⟨_,rfl⟩) (mulOk w.1)
  ·obtain⟨rfl,o1⟩:=is_str ix;cases is_int iy
   refine op_mulS pins s τ H _ _ v u Q I rx ry ⟨_,_,rfl,rfl,w.1,w.2 _ _ (Same.refl H) (str_is ?_)⟩
   refine strOk_of fun c hc=>?_
   rw[List.mem_flatten]at hc
   obtain⟨l,hl,hc⟩:=hc
   rw[(List.mem_replicate.mp hl).2]at hc
   exact strOk_mem o1 hc
  ·obtain⟨a,xs,rfl,hx,jx⟩:=is_lst ix;cases is_int iy
   have hx':=(minus_same H O).seq hx
   cases rx;obtain⟨t',rfl⟩:=ry
   exact rep_list I ho w hx' jx
 |sub =>
  cases op<;>first|exact Bool.noConfusion h|skip
  obtain⟨i,j,rfl,rfl,w⟩:=intD_of w
  cases is_int ix;cases is_int iy;obtain⟨t,rfl⟩:=rx;obtain⟨t',rfl⟩:=ry
  exact sub_int (fin_ep (I.tok _) w (int_is _) ⟨_,rfl⟩)
 |fdiv =>
  cases op<;>first|exact Bool.noConfusion h|skip
  obtain⟨i,j,rfl,rfl,w⟩:=intD_of w
  cases is_int ix;cases is_int iy;obtain⟨t,rfl⟩:=rx;obtain⟨t',rfl⟩:=ry
  exact floordiv_int w.1.1 (fin_ep (I.tok _) w.2 (int_is _) ⟨_,rfl⟩) (.inl (divOk w.1.2))
 |mod =>
  cases op<;>first|exact Bool.noConfusion h|skip
  obtain⟨i,j,rfl,rfl,w⟩:=intD_of w
  cases is_int ix;cases is_int iy;obtain⟨t,rfl⟩:=rx;obtain⟨t',rfl⟩:=ry
  exact mod_int' w.1 (fin_ep (I.tok _) w.2 (int_is _) ⟨_,rfl⟩)
 |shl =>
  cases op<;>first|exact Bool.noConfusion h|skip
  obtain⟨i,j,rfl,rfl,w⟩:=intD_of w
  cases is_int ix;cases is_int iy;obtain⟨t,rfl⟩:=rx;obtain⟨t',rfl⟩:=ry
  exact lshift_int w.1.1 (by have:=w.1.2;unfold bits at this;lia) (fin_ep (I.tok _) w.2 (int_is _) ⟨_,rfl⟩)
 |shr =>
  cases op<;>first|exact Bool.noConfusion h|skip
  obtain⟨i,j,rfl,rfl,w⟩:=intD_of w
  cases is_int ix;cases is_int iy
  exact op_shr pins s τ H _ _ v u Q I rx ry ⟨_,_,rfl,rfl,w.1,w.2 _ _ (Same.refl H) (int_is _)⟩
 |band =>
  cases op<;>first|exact Bool.noConfusion h|skip
  obtain⟨i,j,rfl,rfl,w⟩:=intD_of w
  cases is_int ix;cases is_int iy
  exact op_and pins s τ H _ _ v u Q I rx ry ⟨_,_,rfl,rfl,w _ _ (Same.refl H) (int_is _)⟩
 |pow =>
  cases op<;>first|exact Bool.noConfusion h|skip
  obtain⟨i,j,rfl,rfl,w⟩:=intD_of w
  cases is_int ix;cases is_int iy;obtain⟨t,rfl⟩:=rx;obtain⟨t',rfl⟩:=ry
  exact PyProof.Rows.pow_int w.1.1 w.1.2 (fin_ep (I.tok _) w.2 (int_is _) ⟨_,rfl⟩)
theorem iss_strs{K:PySem.W.Frag}{S:Hp}:∀ {ss:List Str} {vs:List V},Iss K S (ss.map .str) vs->vs=ss.map V.str
 |[],vs,h=>by unfold Iss at h;exact h
 |x::ss,vs,h=>by
  rw[List.map_cons]at h
  unfold Iss at h
  obtain⟨v,r,rfl,h1,h2⟩:=h
  rw[(is_str h1).1,iss_strs h2]
  rfl
theorem strs_ok{K:PySem.W.Frag}{S:Hp}:∀ {ss:List Str} {vs:List V},Iss K S (ss.map .str) vs->∀x∈ss,PyData.strOk x=true
 |[],vs,h,x,hx=>by cases hx
 |y::ss,vs,h,x,hx=>by
  rw[List.map_cons]at h
  unfold Iss at h
  obtain⟨v,r,rfl,h1,h2⟩:=h
  rcases List.mem_cons.mp hx with rfl|z
  ·exact(is_str h1).2
  ·exact strs_ok h2 x z
theorem sub_ok{x:Str}{i j:Nat}(h:PyData.strOk x=true):PyData.strOk (Builtin.Str.strSub x i j)=true:=by
 have e:Builtin.Str.strSub x i j=⟨(x.cps.extract i j).toList.toArray⟩:=rfl
 rw[e]
 exact strOk_of fun c hc=>strOk_mem h (by
  rw[Array.toList_extract]at hc
  exact List.mem_of_mem_drop (List.mem_of_mem_take hc))
theorem iss_three{K:PySem.W.Frag}{S:Hp}{a b c:D}{u v w:V}(ha:Is K S a u)(hb:Is K S b v)(hc:Is K S c w):Iss K S [a,b,c] [u,v,w]:=by
 unfold Iss;refine⟨u,[v,w],rfl,ha,?_⟩
 unfold Iss;refine⟨v,[w],rfl,hb,?_⟩
 unfold Iss;refine⟨w,[],rfl,hc,?_⟩
 unfold Iss;rfl
theorem part_is{K:PySem.W.Frag}{S:Hp}{x y:Str}(hx:PyData.strOk x=true)(hy:PyData.strOk y=true):Iss K S (partS x y) (partV x y):=by
 have e0:PyData.strOk Str.empty=true:=strOk_of (l:=[]) fun c hc=>by cases hc
 unfold partS partV
 cases Builtin.Str.occurrences x y 0 x.length 1 with
 |cons i r=>exact iss_three (str_is (sub_ok hx)) (str_is hy) (str_is (sub_ok hx))
 |nil=>exact iss_three (str_is hx) (str_is e0) (str_is e0)
theorem iss_ints{K:PySem.W.Frag}{S:Hp}:∀ {ns:List Int} {vs:List V},Iss K S (ns.map D.int) vs->vs=ns.map V.int
 |[],vs,h=>by simp only[List.map_nil]at h;unfold Iss at h;exact h
 |n::ns,vs,h=>by
  simp only[List.map_cons]at h
  unfold Iss at h
  obtain⟨v,r,rfl,i1,i2⟩:=h
  rw[is_int i1,iss_ints i2];rfl
theorem iss1{K:PySem.W.Frag}{S:Hp}{d:D}{vs:List V}(h:Iss K S [d] vs):∃v,vs=[v]/\Is K S d v:=by
 unfold Iss at h
 obtain⟨v,r,rfl,h1,h2⟩:=h
 unfold Iss at h2
 subst h2
 exact⟨v,rfl,h1⟩
theorem iss2{K:PySem.W.Frag}{S:Hp}{d e:D}{vs:List V}(h:Iss K S [d,e] vs):∃v w,vs=[v,w]/\Is K S d v/\Is K S e w:=by
 unfold Iss at h
 obtain⟨v,r,rfl,h1,h2⟩:=h
 obtain⟨w,rfl,h3⟩:=iss1 h2
 exact⟨v,w,rfl,h1,h3⟩
theorem op_cmp{o:COp}{op:CmpOp}{e:Expr}(h:cOk o op e=true)(hu:X.A.units+100<cLine):OpR X (compareOp op) (rD X.K (cmpD o)):=by
 intro pins s τ H xv yv v u Q I rx ry w
 obtain⟨O,x,y,ho,ix,iy,w⟩:=w
 have hu1:X.A.in1.units+2<cLine:=by rw[Around.in1_units];lia
 have reads:∀ {k:Bool},min (depD x) (depD y)<=100->(∀ {as bs:List Addr},Reads s.heap v (toPy x) as->Reads s.heap u (toPy y) bs->(toPy x).canLay0=true->(toPy y).canLay0=true->X.A.units+min (toPy x).depth (toPy y).depth<cLine->wpAny (model X.prog X.w) X.A (compareOp op v u) (EP X pins τ Q) X.xe s)->wpAny (model X.prog X.w) X.A (compareOp op v u) (EP X pins τ Q) X.xe s:=by
  intro k hd f
  obtain⟨⟨as,ra⟩,ca⟩:=Is.reads I x (Is.mono (minus_same H O) x ix) rx
  obtain⟨⟨bs,rb⟩,cb⟩:=Is.reads I y (Is.mono (minus_same H O) y iy) ry
  exact f ra rb ca cb (by rw[dep_toPy,dep_toPy];lia)
 cases o with
 |eq =>
  cases op<;>first|exact Bool.noConfusion h|skip
  have w':min (depD x) (depD y)<=100/\Wd X.K O H Q (.bl (eqD x y)):=w
  refine reads (k:=true) w'.1 fun ra rb ca cb hd=>SeqAt.compareEq_reads ra rb ca cb hd ?_
  rw[eqv_toPy]
  exact fin_ep I w'.2 (bl_is _) rfl
 |ne =>
  cases op<;>first|exact Bool.noConfusion h|skip
  have w':min (depD x) (depD y)<=100/\Wd X.K O H Q (.bl (!eqD x y)):=w
  refine reads (k:=true) w'.1 fun ra rb ca cb hd=>SeqAt.compareNe_reads ra rb ca cb hd ?_
  rw[eqv_toPy]
  exact fin_ep I w'.2 (bl_is _) rfl
 |lt =>
  cases op<;>first|exact Bool.noConfusion h|skip
  obtain⟨i,j,rfl,rfl,w⟩:=intD_of w
  cases is_int ix;cases is_int iy
  exact op_lt pins s τ H _ _ v u Q I rx ry ⟨_,_,rfl,rfl,w _ _ (Same.refl H) (bl_is _)⟩
 |le =>
  cases op<;>first|exact Bool.noConfusion h|skip
  obtain⟨i,j,rfl,rfl,w⟩:=intD_of w
  cases is_int ix;cases is_int iy
  exact op_le pins s τ H _ _ v u Q I rx ry ⟨_,_,rfl,rfl,w _ _ (Same.refl H) (bl_is _)⟩
 |gt =>
  cases op<;>first|exact Bool.noConfusion h|skip
  obtain⟨i,j,rfl,rfl,w⟩:=intD_of w
  cases is_int ix;cases is_int iy
  exact op_gt pins s τ H _ _ v u Q I rx ry ⟨_,_,rfl,rfl,w _ _ (Same.refl H) (bl_is _)⟩
 |ge =>
  cases op<;>first|exact Bool.noConfusion h|skip
  obtain⟨i,j,rfl,rfl,w⟩:=intD_of w
  cases is_int ix;cases is_int iy
  exact op_ge pins s τ H _ _ v u Q I rx ry ⟨_,_,rfl,rfl,w _ _ (Same.refl H) (bl_is _)⟩
 |isN =>
  cases op<;>first|exact Bool.noConfusion h|skip
  cases y<;>first|exact w.elim|skip
  cases is_non iy
  refine op_isN pins s τ H _ _ v u Q I rx ry ⟨rfl,w _ _ (Same.refl H) ?_⟩
  cases x with
  |non=>cases is_non ix;exact bl_is _
  |bl b=>cases is_bl ix;exact bl_is _
  |int i=>cases is_int ix;exact bl_is _
  |str z=>obtain⟨rfl,_⟩:=is_str ix;exact bl_is _
  |tup zs=>obtain⟨_,_,rfl,_⟩:=is_tup ix;exact bl_is _
  |lst zs=>obtain⟨_,_,rfl,_⟩:=is_lst ix;exact bl_is _
 |notN =>
  cases op<;>first|exact Bool.noConfusion h|skip
  cases y<;>first|exact w.elim|skip
  cases is_non iy
  refine op_notN pins s τ H _ _ v u Q I rx ry ⟨rfl,w _ _ (Same.refl H) ?_⟩
  cases x with
  |non=>cases is_non ix;exact bl_is _
  |bl b=>cases is_bl ix;exact bl_is _
  |int i=>cases is_int ix;exact bl_is _
  |str z=>obtain⟨rfl,_⟩:=is_str ix;exact bl_is _
  |tup zs=>obtain⟨_,_,rfl,_⟩:=is_tup ix;exact bl_is _
  |lst zs=>obtain⟨_,_,rfl,_⟩:=is_lst ix;exact bl_is _
 |isT =>
  cases op<;>first|exact Bool.noConfusion h|skip
  cases x<;>cases y<;>first|exact w.elim|skip
  next b b' =>
  cases is_bl ix;cases is_bl iy;cases rx;cases ry
  refine wpAny_is_plain rfl ?_
  have e:(Value.bool b == Value.bool b')=(b == b'):=by cases b<;>cases b'<;>rfl
  rw[e]
  exact fin_ep I w (bl_is _) (by cases b<;>cases b'<;>rfl)
 |notT =>
  cases op<;>first|exact Bool.noConfusion h|skip
  cases x<;>cases y<;>first|exact w.elim|skip
  next b b' =>
  cases is_bl ix;cases is_bl iy;cases rx;cases ry
  refine wpAny_isNot_plain rfl ?_
  have e:(Value.bool b == Value.bool b')=(b == b'):=by cases b<;>cases b'<;>rfl
  rw[e]
  exact fin_ep I w (bl_is _) (by cases b<;>cases b'<;>rfl)
def cD(K:PySem.W.Frag)(f:List D->(D->Prop)->Prop):List V->Hp->VK->Prop:=fun vs H Q=>∃O ds,(∀a∈O,H a≠none)/\Iss K (minus H O) ds vs/\f ds (Wd K O H Q)
noncomputable def Bi.val:Bi->Value
 |.abs=>.builtin "abs"
 |.max=>.builtin "max"
 |.min=>.builtin "min"
 |.len=>.builtin "len"
 |.int=>.type "int"
 |.list=>.type "list"
 |.sum=>.builtin "sum"
 |.all=>.builtin "all"
 |.any=>.builtin "any"
 |.tuple=>.type "tuple"
 |.str=>.type "str"
theorem Inv.moved{pins:List (Addr×Obj)}{τ:L2.St}{H:Hp}{s s':Shared}{o:Obj}{tk:Nat}(I:Inv X pins τ H s)(m:Moved [s.heap.objs.size] (fun a b=>b=a) { s with heap:=s.heap.push o,toks:=tk } s'):Inv X pins τ H s':=by
 have k:∀b u,s.heap.get? b=some u->s'.heap.get? b=some u:=fun b u e=>m.heap b u (fun z=>by
  have:b=s.heap.objs.size:=by simpa using z
  exact absurd (Heap.lt_size e) (by rw[this];exact Nat.lt_irrefl _)) (Heap.get?_push_of_some _ e)
 exact I.call' (ch:=[]) m.os (Un.kept k) (I.hok.kept k) (by rw[m.gens];exact I.bare) fun _ z=>nomatch z
theorem preSum_eq(ns:List Int)(f:Nat->Int)(h:∀i,i<ns.length->ns[i]?=some (f i)):∀k,k<=ns.length->preSum f k=(ns.take k).sum
 |0,_=>by simp[preSum]
 |k+1,hk=>by
  rw[preSum,preSum_eq ns f h k (by lia),List.take_add_one,h k (by lia)]
  simp
theorem vals_ints:∀ {ns:List Int} {us:List Value},Vals (ns.map V.int) us->∀i v,us[i]?=some v->∃t,v=Value.int (ns.getD i 0) t
 |[],us,r,i,v,h=>by cases r;simp at h
 |n::ns,us,r,i,v,h=>by
  cases r with
  |cons r1 r2 =>
   cases i with
   |zero=>simp at h;subst h;obtain⟨t,e⟩:=r1;exact⟨t,by simpa using e⟩
   |succ i=>simpa using vals_ints r2 i v (by simpa using h)
theorem call_sumD(hc:X.calm=true):CallR X (.builtin "sum") (fun vs H Q=>∃(a:Addr) (ns:List Int),vs=[.ref a]/\SqL X.K H a (ns.map V.int)/\Q (.int ns.sum) H):=by
 intro pins s τ H vs us Q I r h
 obtain⟨a,ns,rfl,hq,q⟩:=h
 obtain⟨u,rfl,e⟩:=vals1 r
 cases e
 obtain⟨its,rv,p,hz⟩:=I.list hq
 have hl:=rv.length
 rw[List.length_map]at hl
 obtain⟨o,n,ho,_⟩:=id p
 have hne:a≠s.heap.objs.size:=Nat.ne_of_lt (Heap.lt_size ho)
 have W:=(Walks.list (prog:=X.prog) (w:=X.w) (A:=X.A.in1) (I.ok.hd hc) s.heap.objs.size a hne its.toArray).toS
 refine call_sum_walkAnyS (wpAny_pyIter_list p.isList ⟨s.heap.objs.size,_,_,_,_,_,_,fun i=>ns.getD i 0,rfl,W,⟨⟨_,Heap.get?_push_size _ rfl,rfl,rfl⟩,?_⟩,fun b hb=>?_,fun i v hv=>vals_ints rv i v (by simpa using hv),fun s' t' m=>?_⟩)
 ·obtain⟨o,n,ho,h1,h2,h3⟩:=p
  exact⟨o,Heap.get?_push_of_some _ ho,h1,n,h3⟩
 ·rw[Heap.size_push]
  simp only[List.mem_cons,List.not_mem_nil,or_false]at hb
  rcases hb with z|z
  ·rw[z];exact Nat.lt_succ_self _
  ·rw[z];exact Nat.lt_succ_of_lt (Heap.lt_size ho)
 ·have e:preSum (fun i=>ns.getD i 0) its.toArray.size=ns.sum:=by
   rw[List.size_toArray,<- hl]
   rw[preSum_eq ns _ (fun i hi=>by simp[hi]) _ (Nat.le_refl _),List.take_length]
  exact⟨.int ns.sum,H,Inv.moved (tk:=s.toks) I m,⟨t',by rw[e]⟩,q⟩
theorem iss_bls{K:PySem.W.Frag}{S:Hp}:∀ {ns:List Bool} {vs:List V},Iss K S (ns.map D.bl) vs->vs=ns.map V.bl
 |[],vs,h=>by simp only[List.map_nil]at h;unfold Iss at h;exact h
 |n::ns,vs,h=>by
  simp only[List.map_cons]at h
  unfold Iss at h
  obtain⟨v,r,rfl,i1,i2⟩:=h
  rw[is_bl i1,iss_bls i2];rfl
theorem vals_bls:∀ {ns:List Bool} {us:List Value},Vals (ns.map V.bl) us->∀i v,us[i]?=some v->v=Value.bool (ns.getD i true)
 |[],us,r,i,v,h=>by cases r;simp at h
 |n::ns,us,r,i,v,h=>by
  cases r with
  |cons r1 r2 =>
   cases i with
   |zero=>simp at h;subst h;cases r1;rfl
   |succ i=>exact vals_bls r2 i v (by simpa using h)
theorem all_range(bs:List Bool):(List.range bs.length).all (fun i=>bs.getD i true)=bs.all id:=by
 rw[Bool.eq_iff_iff,List.all_eq_true,List.all_eq_true]
 constructor
 ·intro h b hb
  obtain⟨i,hi,rfl⟩:=List.mem_iff_getElem.mp hb
  have:=h i (by simpa using hi)
  simpa[hi]using this
 ·intro h i hi
  have hi':i<bs.length:=by simpa using hi
  have:=h bs[i] (List.getElem_mem hi')
  simpa[hi']using this
theorem call_allD(hc:X.calm=true):CallR X (.builtin "all") (fun vs H Q=>∃(a:Addr) (ns:List Bool),vs=[.ref a]/\SqL X.K H a (ns.map V.bl)/\Q (.bl (ns.all id)) H):=by
 intro pins s τ H vs us Q I r h
 obtain⟨a,ns,rfl,hq,q⟩:=h
 obtain⟨u,rfl,e⟩:=vals1 r
 cases e
 obtain⟨its,rv,p,hz⟩:=I.list hq
 have hl:=rv.length
 rw[List.length_map]at hl
 obtain⟨o,n,ho,_⟩:=id p
 have hne:a≠s.heap.objs.size:=Nat.ne_of_lt (Heap.lt_size ho)
 have W:=(Walks.list (prog:=X.prog) (w:=X.w) (A:=X.A.in1) (I.ok.hd hc) s.heap.objs.size a hne its.toArray).toS
 refine call_all_walkS (wpAny_pyIter_list p.isList ⟨s.heap.objs.size,_,_,_,_,_,_,fun i=>ns.getD i true,rfl,W,⟨⟨_,Heap.get?_push_size _ rfl,rfl,rfl⟩,?_⟩,fun i v s Q E hv hQ=>?_,fun s' m=>?_⟩)
 ·obtain⟨o,n,ho,h1,h2,h3⟩:=p
  exact⟨o,Heap.get?_push_of_some _ ho,h1,n,h3⟩
 ·rw[vals_bls rv i v (by simpa using hv)]
  exact wpAny_truthy_bool hQ
 ·have e:(List.range its.toArray.size).all (fun i=>ns.getD i true)=ns.all id:=by
   rw[List.size_toArray,<- hl]
   exact all_range ns
  exact⟨.bl (ns.all id),H,Inv.moved (tk:=s.toks) I m,by rw[e];rfl,q⟩
theorem any_range(bs:List Bool):(List.range bs.length).any (fun i=>bs.getD i true)=bs.any id:=by
 rw[Bool.eq_iff_iff,List.any_eq_true,List.any_eq_true]
 constructor
 ·rintro⟨i,hi,h⟩
  have hi':i<bs.length:=by simpa using hi
  exact⟨bs[i],List.getElem_mem hi',by simpa[hi']using h⟩
 ·rintro⟨b,hb,h⟩
  obtain⟨i,hi,rfl⟩:=List.mem_iff_getElem.mp hb
  exact⟨i,by simpa using hi,by simpa[hi]using h⟩
theorem call_anyD(hc:X.calm=true):CallR X (.builtin "any") (fun vs H Q=>∃(a:Addr) (ns:List Bool),vs=[.ref a]/\SqL X.K H a (ns.map V.bl)/\Q (.bl (ns.any id)) H):=by
 intro pins s τ H vs us Q I r h
 obtain⟨a,ns,rfl,hq,q⟩:=h
 obtain⟨u,rfl,e⟩:=vals1 r
 cases e
 obtain⟨its,rv,p,hz⟩:=I.list hq
 have hl:=rv.length
 rw[List.length_map]at hl
 obtain⟨o,n,ho,_⟩:=id p
 have hne:a≠s.heap.objs.size:=Nat.ne_of_lt (Heap.lt_size ho)
 have W:=(Walks.list (prog:=X.prog) (w:=X.w) (A:=X.A.in1) (I.ok.hd hc) s.heap.objs.size a hne its.toArray).toS
 refine call_any_walkS (wpAny_pyIter_list p.isList ⟨s.heap.objs.size,_,_,_,_,_,_,fun i=>ns.getD i true,rfl,W,⟨⟨_,Heap.get?_push_size _ rfl,rfl,rfl⟩,?_⟩,fun i v s Q E hv hQ=>?_,fun s' m=>?_⟩)
 ·obtain⟨o,n,ho,h1,h2,h3⟩:=p
  exact⟨o,Heap.get?_push_of_some _ ho,h1,n,h3⟩
 ·rw[vals_bls rv i v (by simpa using hv)]
  exact wpAny_truthy_bool hQ
 ·have e:(List.range its.toArray.size).any (fun i=>ns.getD i true)=ns.any id:=by
   rw[List.size_toArray,<- hl]
   exact any_range ns
  exact⟨.bl (ns.any id),H,Inv.moved (tk:=s.toks) I m,by rw[e];rfl,q⟩
theorem one1_of{f:D->(D->Prop)->Prop}{xs:List D}{Q:D->Prop}(w:one1 f xs Q):∃x,xs=[x]/\f x Q:=by
 match xs,w with
 |[x],w=>exact⟨x,rfl,w⟩
theorem two2_of{f:D->D->(D->Prop)->Prop}{xs:List D}{Q:D->Prop}(w:two2 f xs Q):∃x y,xs=[x,y]/\f x y Q:=by
 match xs,w with
 |[x,y],w=>exact⟨x,y,rfl,w⟩
theorem listD_of{f:List D->(D->Prop)->Prop}{x:D}{Q:D->Prop}(w:listD f x Q):∃xs,x=.lst xs/\f xs Q:=by
 cases x<;>first|exact w.elim|exact⟨_,rfl,w⟩
theorem minD_of{ds:List D}{Q:D->Prop}(w:minD ds Q):(∃x,ds=[x]/\listD (fun xs Q=>∃ns:List Int,xs=ns.map .int/\ns ≠ []/\Q (.int (mmF false 0 ns))) x Q)\/∃x y,ds=[x,y]/\intD (fun i j Q=>Q (.int (if j<i then j else i))) x y Q:=by
 cases ds with
 |nil=>exact w.elim
 |cons x r=>cases r with
  |nil=>exact .inl ⟨x,rfl,w⟩
  |cons y r=>cases r with
   |nil=>exact .inr ⟨x,y,rfl,w⟩
   |cons z r=>exact w.elim
section
variable {α β:Type}
end
theorem call_bi{f:Bi}(hc:X.calm=true):CallR X f.val (cD X.K (biD f)):=by
 intro pins s τ H vs us Q I r w
 obtain⟨O,ds,ho,is,w⟩:=w
 cases f with
 |abs =>
  obtain⟨x,rfl,w⟩:=one1_of w
  obtain⟨v,rfl,i1⟩:=iss1 is
  cases x<;>first|exact w.elim|skip
  cases is_int i1
  exact call_abs pins s τ H _ us Q I r ⟨_,rfl,w _ _ (Same.refl H) (int_is _)⟩
 |max =>
  obtain⟨x,y,rfl,w⟩:=two2_of w
  obtain⟨i,j,rfl,rfl,w⟩:=intD_of w
  obtain⟨v,v',rfl,i1,i2⟩:=iss2 is;cases is_int i1;cases is_int i2
  exact call_max2 hc pins s τ H _ us Q I r ⟨_,_,rfl,w _ _ (Same.refl H) (int_is _)⟩
 |min =>
  rcases minD_of w with⟨x,rfl,w⟩|⟨x,y,rfl,w⟩
  ·obtain⟨xs,rfl,ns,rfl,hn,w⟩:=listD_of w
   obtain⟨v,rfl,i1⟩:=iss1 is
   obtain⟨a,vs,rfl,h1,h2⟩:=is_lst i1
   cases ns with
   |nil=>exact absurd rfl hn
   |cons n ns =>
    obtain⟨u,rfl,e1⟩:=vals1 r
    cases e1
    cases iss_ints h2
    exact call_min1 hc I ((minus_same H O).seq h1) (w _ _ (Same.refl H) (int_is _))
  ·obtain⟨i,j,rfl,rfl,w⟩:=intD_of w
   obtain⟨v,v',rfl,i1,i2⟩:=iss2 is;cases is_int i1;cases is_int i2
   exact call_min2 hc pins s τ H _ us Q I r ⟨_,_,rfl,w _ _ (Same.refl H) (int_is _)⟩
 |len =>
  obtain⟨x,rfl,w⟩:=one1_of w
  obtain⟨v,rfl,i1⟩:=iss1 is
  cases x<;>first|exact w.elim|skip
  ·obtain⟨rfl,o1⟩:=is_str i1
   exact call_len_str pins s τ H _ us Q I r ⟨_,rfl,by rw[sizeLine_eq];exact w.1,w.2 _ _ (Same.refl H) (int_is _)⟩
  ·obtain⟨a,vs,rfl,h1,h2⟩:=is_tup i1
   refine call_len_seq pins s τ H _ us Q I r ⟨a,vs,rfl,.inr ((sqt_mono (minus_same H O) h1)),?_⟩
   rw[h2.length]
   exact w _ _ (Same.refl H) (int_is _)
  ·obtain⟨a,vs,rfl,h1,h2⟩:=is_lst i1
   refine call_len_seq pins s τ H _ us Q I r ⟨a,vs,rfl,.inl ((minus_same H O).seq h1),?_⟩
   rw[h2.length]
   exact w _ _ (Same.refl H) (int_is _)
 |int =>
  obtain⟨x,rfl,w⟩:=one1_of w
  obtain⟨v,rfl,i1⟩:=iss1 is
  cases x<;>first|exact w.elim|skip
  ·cases is_bl i1
   exact call_int1 pins s τ H _ us Q I r (.inr ⟨_,rfl,w _ _ (Same.refl H) (int_is _)⟩)
  ·cases is_int i1
   exact call_int1 pins s τ H _ us Q I r (.inl ⟨_,rfl,w _ _ (Same.refl H) (int_is _)⟩)
  ·obtain⟨rfl,o1⟩:=is_str i1
   obtain⟨n,⟨hl,hn⟩,w⟩:=w
   exact call_intS pins s τ H _ us Q I r ⟨_,n,rfl,by rw[sizeLine_eq];exact hl,hn,w _ _ (Same.refl H) (int_is _)⟩
 |str =>
  obtain⟨x,rfl,w⟩:=one1_of w
  obtain⟨v,rfl,i1⟩:=iss1 is
  cases x<;>first|exact w.elim|skip
  cases is_int i1
  exact call_str_int pins s τ H _ us Q I r ⟨_,rfl,w.1,w.2 _ _ (Same.refl H) (str_is (ofString_ok _))⟩
 |list =>
  obtain⟨x,rfl,w⟩:=one1_of w
  obtain⟨v,rfl,i1⟩:=iss1 is
  cases x<;>first|exact w.elim|skip
  ·obtain⟨a,vs,rfl,h1,h2⟩:=is_tup i1
   exact call_list_of pins s τ H _ us Q I r ⟨a,vs,rfl,.inr ((sqt_mono (minus_same H O) h1)),fun l hl=>w _ _ (same_upd hl _) (lst_is (SqL.of (at_upd ho hl)) (Iss.minus_upd hl h2))⟩
  ·obtain⟨a,vs,rfl,h1,h2⟩:=is_lst i1
   exact call_list_of pins s τ H _ us Q I r ⟨a,vs,rfl,.inl ((minus_same H O).seq h1),fun l hl=>w _ _ (same_upd hl _) (lst_is (SqL.of (at_upd ho hl)) (Iss.minus_upd hl h2))⟩
 |tuple =>
  obtain⟨x,rfl,w⟩:=one1_of w
  obtain⟨v,rfl,i1⟩:=iss1 is
  cases x<;>first|exact w.elim|skip
  ·obtain⟨a,vs,rfl,h1,h2⟩:=is_tup i1
   exact call_tuple_of pins s τ H _ us Q I r ⟨a,vs,rfl,.inr ⟨(sqt_mono (minus_same H O) h1),w _ _ (Same.refl H) (tup_isT h1 h2)⟩⟩
  ·obtain⟨a,vs,rfl,h1,h2⟩:=is_lst i1
   exact call_tuple_of pins s τ H _ us Q I r ⟨a,vs,rfl,.inl ⟨(minus_same H O).seq h1,fun l hl=>w _ _ (same_upd hl _) (tup_is (at_upd ho hl) (Iss.minus_upd hl h2))⟩⟩
 |sum =>
  obtain⟨x,rfl,w⟩:=one1_of w
  obtain⟨xs,rfl,w1⟩:=listD_of w
  obtain⟨v,rfl,i1⟩:=iss1 is;obtain⟨a,vs,rfl,h1,h2⟩:=is_lst i1
  obtain⟨ns,rfl,w2⟩:=w1
  cases iss_ints h2
  exact call_sumD hc pins s τ H _ us Q I r ⟨a,ns,rfl,(minus_same H O).seq h1,w2 _ _ (Same.refl H) (int_is _)⟩
 |all =>
  obtain⟨x,rfl,w⟩:=one1_of w
  obtain⟨xs,rfl,w1⟩:=listD_of w
  obtain⟨v,rfl,i1⟩:=iss1 is;obtain⟨a,vs,rfl,h1,h2⟩:=is_lst i1
  obtain⟨ns,rfl,w2⟩:=w1
  cases iss_bls h2
  exact call_allD hc pins s τ H _ us Q I r ⟨a,ns,rfl,(minus_same H O).seq h1,w2 _ _ (Same.refl H) (bl_is _)⟩
 |any =>
  obtain⟨x,rfl,w⟩:=one1_of w
  obtain⟨xs,rfl,w1⟩:=listD_of w
  obtain⟨v,rfl,i1⟩:=iss1 is;obtain⟨a,vs,rfl,h1,h2⟩:=is_lst i1
  obtain⟨ns,rfl,w2⟩:=w1
  cases iss_bls h2
  exact call_anyD hc pins s τ H _ us Q I r ⟨a,ns,rfl,(minus_same H O).seq h1,w2 _ _ (Same.refl H) (bl_is _)⟩
theorem at_of{K:PySem.W.Frag}{S:Hp}{xs:List D}{vs:List V}{i:Int}{d:D}(is:Iss K S xs vs)(e:atD xs i=some d):∃v,atI vs i=some v/\Is K S d v:=by
 have hl:=is.length
 unfold atD at e
 unfold atI ixN
 by_cases h0:0<=i
 ·rw[if_pos h0]at e ⊢
  have hlt:i.toNat<xs.length:=by
   rcases Nat.lt_or_ge i.toNat xs.length with z|z
   ·exact z
   ·rw[List.getElem?_eq_none z]at e;cases e
  rw[if_pos (by lia)]
  exact is.get e
 ·rw[if_neg h0]at e ⊢
  by_cases h1:-(xs.length:Int)<=i
  ·rw[if_pos h1]at e
   rw[if_pos (by lia),hl]
   exact is.get e
  ·rw[if_neg h1]at e;cases e
theorem ix_D:IxR X (rD X.K ixD):=by
 intro value slice pins s τ H xv yv v u Q I rx ry w hs
 obtain⟨O,x,y,ho,ix,iy,w⟩:=w
 unfold ixD at w
 split at w
 ·obtain⟨a,vs,rfl,h1,h2⟩:=is_lst ix
  cases is_int iy
  obtain⟨d,e,w⟩:=w
  obtain⟨z,e1,e2⟩:=at_of h2 e
  exact L2.ix_list value slice pins s τ H _ _ v u Q I rx ry ⟨a,vs,_,z,rfl,rfl,(minus_same H O).seq h1,e1,w _ _ (Same.refl H) e2⟩ hs
 ·obtain⟨a,vs,rfl,h1,h2⟩:=is_tup ix
  cases is_int iy
  obtain⟨d,e,w⟩:=w
  obtain⟨z,e1,e2⟩:=at_of h2 e
  exact L2.ix_tup value slice pins s τ H _ _ v u Q I rx ry ⟨a,vs,_,z,rfl,rfl,(sqt_mono (minus_same H O) h1),e1,w _ _ (Same.refl H) e2⟩ hs
 ·next z j =>
  obtain⟨rfl,o1⟩:=is_str ix
  cases is_int iy
  obtain⟨c,⟨hl,h0,hc⟩,w⟩:=w
  have hc':z.cps.toList[j.toNat]?=some c:=by simpa using hc
  refine L2.ix_str value slice pins s τ H _ _ v u Q I rx ry ⟨_,_,c,rfl,rfl,by rw[sizeLine_eq];exact hl,?_,w _ _ (Same.refl H) (str_is ?_)⟩ hs
  ·have hj:=(List.getElem?_eq_some_iff.mp hc').1
   unfold atI ixN
   rw[if_pos h0,if_pos (by lia)]
   exact hc'
  ·refine strOk_of (l:=[c]) fun d hd=>?_
   rw[List.mem_singleton.mp hd]
   exact strOk_mem o1 (List.mem_of_getElem? hc')
 ·exact w.elim
noncomputable def tyName:D->String
 |.non=>"NoneType"
 |.bl _=>"bool"
 |.int _=>"int"
 |.str _=>"str"
 |.tup _=>"tuple"
 |.lst _=>"list"
noncomputable def Ty.val:Ty->Value
 |.int=>.type "int"
 |.bool=>.type "bool"
 |.tuple=>.type "tuple"
 |.list=>.type "list"
 |.str=>.type "str"
theorem kit_ty(K:PySem.W.Frag)(d:D)(t:Ty):PySem.W.kitOne K (.type (tyName d)) t.val=some (tyD t d):=by
 cases d<;>cases t<;>with_unfolding_all rfl
theorem call_isi{t:Ty}{pins:List (Addr×Obj)}{s:Shared}{τ:L2.St}{H:Hp}{d:D}{v:V}{u:Value}{Q:Value->Shared->Prop}{E:Value->Shared->Prop}(I:Inv X pins τ H s)(i:Is X.K H d v)(r:RelV v u)(h:∀tk,Q (.bool (tyD t d)) { s with toks:=tk }) :
 wpAny (model X.prog X.w) X.A (call (.builtin "isinstance") [u,t.val]) Q E s:=by
 have e:=kit_ty X.K d t
 cases d with
 |non=>cases is_non i;cases r;exact PySem.W.kia_one PySem.W.kitx_none I.kIn True.intro e (fun z=>nomatch z) h
 |bl b=>cases is_bl i;cases r;exact PySem.W.kia_one PySem.W.kitx_bool I.kIn True.intro e (fun z=>nomatch z) h
 |int n=>cases is_int i;obtain⟨t,rfl⟩:=r;exact PySem.W.kia_one PySem.W.kitx_int I.kIn True.intro e (fun z=>nomatch z) h
 |str x=>obtain⟨rfl,_⟩:=is_str i;obtain⟨t,rfl⟩:=r;exact PySem.W.kia_one PySem.W.kitx_str I.kIn True.intro e (fun z=>nomatch z) h
 |tup xs =>
  obtain⟨a,vs,rfl,h1,h2⟩:=is_tup i
  cases r
  obtain⟨its,rv,⟨o,e1,e2,n,e3⟩,_⟩:=I.tuple h1
  exact PySem.W.kia_one PySem.W.kitx_tuple I.kIn ⟨o,e1,e2⟩ e (fun z=>nomatch z) h
 |lst xs =>
  obtain⟨a,vs,rfl,h1,h2⟩:=is_lst i
  cases r
  obtain⟨its,rv,pl,_⟩:=I.list h1
  obtain⟨o,e1,e2,n,e3⟩:=pl.isList
  exact PySem.W.kia_one PySem.W.kitx_list I.kIn ⟨o,e1,e2⟩ e (fun z=>nomatch z) h
end
end Z
namespace Z
open PySem PySem.Spec PyProof.Rows L2
section
variable {X:Cx} {k:Ck} {C:Cfg}
theorem folded_of{e:Expr}(h:isSet e=false)(env:Env)(v:Value):foldedSetIterable e env v=pure v:=by
 cases e<;>first|rfl|exact Bool.noConfusion h
def Its(lo st:Int)(n:Nat):It:=⟨fun i _=>i<n,fun i H x H'=>H'=H/\x=.int (lo+i*st),fun i _=>n<=i⟩
theorem turn_step{P:Program}{w:World}{K:PySem.W.Frag}{tg:Expr}(it:Addr)(lo st:Int)(n:Nat):Turn P w K tg (Its lo st n) [it] it (fun i h=>IsRangeIter h it (lo+(i:Nat)*st) ((n:Int)-(i:Nat)) st) where
 mem:=by simp
 obj:=fun i h s b hb=>by
  have e:b=it:=by simpa using hb
  subst e
  exact⟨_,s,fun v z=>by
   have z':Data.fields _=Data.cell v:=z
   cases z'⟩
 keep:=fun i h h' s k=>k it (by simp) _ s
 item:=by
  intro X hP hw hK hc i pins s σ H E I hf s1 hg
  subst hP hw hK
  obtain⟨f0,f1,f2,f3,f4,f5⟩:=hf it (by simp)
  have W:=Walks.range (prog:=X.prog) (w:=X.w) (I.ok.hd hc) it lo st n
  refine W.item i s _ _ hg s1 fun v h' tk hv s2 kk=>?_
  obtain⟨t,rfl⟩:=hv
  have I1:Inv X pins σ H { s with heap:=h',toks:=tk }:=I.turned (fun b o hb e=>kk b o (by simpa using hb) e) f0 f1 f3 f4 f5
  exact⟨_,rfl,go_of (s:={ s with heap:=h',toks:=tk }) (n:="range_iterator") s2 rfl rfl (by decide) ⟨.int (lo+i*st),H,I1,⟨t,rfl⟩,⟨rfl,rfl⟩,s2,fun b hb=>(hf b hb).1⟩⟩
 done:=by
  intro X hP hw hK hc i pins s σ H E I hf s1 hg
  subst hP hw hK
  obtain⟨f0,f1,f2,f3,f4,f5⟩:=hf it (by simp)
  exact wpAny_pyNext_range_end (I.ok.hd hc) s1 (by have:n<=i:=hg;lia) fun h' eb=>⟨rfl,I.turned (t':=s.toks) (fun b o hb e=>eb b o hb e) f0 f1 f3 f4 f5⟩
 self:=fun _ _ _ _ _ s h=>wpAny_pyIter_rangeiter s h
theorem small_step{a b c:Int}(ha:RgOk a)(hb:RgOk b)(hc:0<c)(hc2:c<1000):Builtin.Range.small a b c=true:=by
 unfold Builtin.Range.small Builtin.Range.rangeSize
 unfold RgOk at ha hb
 have h1:(b-a-1) / c*c<=b-a-1:=Int.ediv_mul_le _ (by lia)
 have h2:a<b->0<=(b-a-1) / c:=fun h=>Int.ediv_nonneg (by lia) (by lia)
 have h3:a<b->(b-a-1) / c<=b-a-1:=fun h=>Int.ediv_le_self _ (by lia)
 simp only[Builtin.Range.rangeFitsLong,Bool.and_eq_true,Bool.or_eq_true,decide_eq_true_eq,beq_iff_eq,show c > 0 from hc,if_true]
 by_cases h:a<b
 ·rw[if_pos h]
  generalize hq:(b-a-1) / c=q at *
  have e:(q+1)*c=q*c+c:=by rw[Int.add_mul,Int.one_mul]
  have h2':=h2 h
  have h3':=h3 h
  lia
 ·rw[if_neg h]
  lia
theorem step_it{tg:Expr}{pins:List (Addr×Obj)}{σ:L2.St}{H:Hp}{s:Shared}{R:It->Hp->Prop}{E:Value->Shared->Prop}{lo hi st:Int}{t u v:Tok}{tk:Nat}(I:Inv X pins σ H s)(h1:RgOk lo)(h2:RgOk hi)(h3:0<st)(h4:st<1000)
 (q:R (Its lo st (if lo<hi then (hi-lo-1) / st+1 else 0).toNat) H):wpAny (model X.prog X.w) X.A (pyIter (.ref s.heap.objs.size)) (PIE X pins σ tg R) E { s with heap:=s.heap.push { cls:=.type "range",data:=.fields #[.int lo t,.int hi u,.int st v] },toks:=tk }:=by
 refine wpAny_pyIter_range (IsRange.new ..) (small_step h1 h2 h3 h4) ?_
 have I1:Inv X pins σ H { s with heap:=s.heap.push { cls:=.type "range",data:=.fields #[.int lo t,.int hi u,.int st v] },toks:=tk }:=I.kept fun b o e=>Heap.get?_push_of_some _ e
 refine⟨(s.heap.push { cls:=.type "range",data:=.fields #[.int lo t,.int hi u,.int st v] }).objs.size,[(s.heap.push { cls:=.type "range",data:=.fields #[.int lo t,.int hi u,.int st v] }).objs.size],_,_,H,rfl,
  I1.kept (t':=tk) fun b o e=>Heap.get?_push_of_some _ e,turn_step _ lo st (if lo<hi then (hi-lo-1) / st+1 else 0).toNat,?_,fun b hb=>?_,q⟩
 ·have e1:lo+((0:Nat):Int)*st=lo:=by simp
  have e2:(((if lo<hi then (hi-lo-1) / st+1 else 0).toNat:Nat):Int)-((0:Nat):Int)=Builtin.Range.rangeSize lo hi st:=by
   unfold Builtin.Range.rangeSize
   rw[if_pos h3]
   have:lo<hi->0<=(hi-lo-1) / st:=fun h=>Int.ediv_nonneg (by lia) (by lia)
   split<;>lia
  show IsRangeIter _ _ (lo+((0:Nat):Int)*st) ((((if lo<hi then (hi-lo-1) / st+1 else 0).toNat:Nat):Int)-((0:Nat):Int)) st
  rw[e1,e2]
  exact Heap.get?_push_size _ rfl
 ·have e:b=(s.heap.push { cls:=.type "range",data:=.fields #[.int lo t,.int hi u,.int st v] }).objs.size:=by simpa using hb
  subst e
  exact I1.fpOk (Nat.le_refl _) (I1.hok.fresh (Nat.le_refl _))
def iRg(ta:TA):TI:=fun σ H R=>ta σ H fun vs H1=>∃lo hi st:Int,(vs=[.int hi]/\lo=0/\st=1\/vs=[.int lo,.int hi]/\st=1\/vs=[.int lo,.int hi,.int st])/\(RgOk lo/\RgOk hi/\0<st/\st<1000)/\R (Its lo st (if lo<hi then (hi-lo-1) / st+1 else 0).toNat) H1
theorem pi_rg{tg a:Expr}{as:List Expr}{ta:TA}{p pos:Pos}(hg:Gl X "range")(hm:X.mg "range"=none)(ha:PA X (a::as) ta)(hs:starEach (a::as) X.env=(false,eval a X.env)::starEach as X.env)(hpl:(backTo pos (starEach as X.env)).any (·.1)=false):PI X tg (.Call (.Name "range" p) (a::as) [] pos) (iRg ta):=by
 intro pins s σ H R I h
 refine Call_ (ld_blt I hg hm boot_range (PyProof.Rows.callWith_type1 (thn (ha pos pins s σ H _ I h) fun us s1 ⟨vs,H1,I1,r1,q1⟩=>?_) hs hpl))
 obtain⟨lo,hi,st,e,⟨q1,q2,q3,q4⟩,q⟩:=q1
 rcases e with⟨rfl,rfl,rfl⟩|⟨rfl,rfl⟩|rfl
 ·cases r1 with
  |cons r rr =>
   cases rr
   obtain⟨t,rfl⟩:=r
   exact call_range_1 (step_it I1 q1 q2 q3 q4 q)
 ·cases r1 with
  |cons r rr =>
   cases rr with
   |cons r' rr =>
    cases rr
    obtain⟨t,rfl⟩:=r
    obtain⟨t',rfl⟩:=r'
    exact call_range_2 (step_it I1 q1 q2 q3 q4 q)
 ·cases r1 with
  |cons r rr =>
   cases rr with
   |cons r' rr =>
    cases rr with
    |cons r'' rr =>
     cases rr
     obtain⟨t,rfl⟩:=r
     obtain⟨t',rfl⟩:=r'
     obtain⟨t'',rfl⟩:=r''
     exact call_range_3 (by lia) (step_it I1 q1 q2 q3 q4 q) (.inl (PyProof.noPylong_small (by lia)))
theorem rangeD_get:∀(n:Nat) (lo st:Int) (i:Nat),i<n->(rangeD lo st n)[i]?=some (.int (lo+i*st))
 |0,lo,st,i,h=>by lia
 |n+1,lo,st,0,h=>by simp[rangeD]
 |n+1,lo,st,i+1,h=>by
  simp only[rangeD,List.getElem?_cons_succ]
  rw[rangeD_get n (lo+st) st i (by lia)]
  congr 2
  have:((i+1:Nat):Int)*st=i*st+st:=by rw[Int.natCast_add,Int.add_mul];simp
  lia
theorem rangeD_length:∀(n:Nat) (lo st:Int),(rangeD lo st n).length=n
 |0,lo,st=>rfl
 |n+1,lo,st=>by simp[rangeD,rangeD_length n]
theorem rgD_of{K:PySem.W.Frag}{S:Hp}{ds:List D}{vs:List V}{P:List D->Prop}(i:Iss K S ds vs)(w:rgD ds P) :
 ∃lo hi st:Int,(vs=[.int hi]/\lo=0/\st=1\/vs=[.int lo,.int hi]/\st=1\/vs=[.int lo,.int hi,.int st])/\(RgOk lo/\RgOk hi/\0<st/\st<1000)/\P (rangeD lo st (if lo<hi then (hi-lo-1) / st+1 else 0).toNat):=by
 unfold rgD at w
 split at w
 ·next hi =>
  obtain⟨v,rfl,i1⟩:=iss1 i
  cases is_int i1
  refine⟨0,hi,1,.inl ⟨rfl,rfl,rfl⟩,⟨by unfold RgOk;lia,w.1,by decide,by decide⟩,?_⟩
  have e:(if (0:Int)<hi then (hi-0-1) / 1+1 else 0).toNat=hi.toNat:=by
   rw[Int.ediv_one];split<;>lia
  rw[e];exact w.2
 ·next lo hi =>
  obtain⟨v,v',rfl,i1,i2⟩:=iss2 i
  cases is_int i1;cases is_int i2
  refine⟨lo,hi,1,.inr (.inl ⟨rfl,rfl⟩),⟨w.1.1,w.1.2,by decide,by decide⟩,?_⟩
  have e:(if lo<hi then (hi-lo-1) / 1+1 else 0).toNat=(hi-lo).toNat:=by
   rw[Int.ediv_one];split<;>lia
  rw[e];exact w.2
 ·next lo hi st =>
  unfold Iss at i
  obtain⟨v,r,rfl,i1,i⟩:=i
  obtain⟨v',v'',rfl,i2,i3⟩:=iss2 i
  cases is_int i1;cases is_int i2;cases is_int i3
  exact⟨lo,hi,st,.inr (.inr rfl),w.1,w.2⟩
 ·exact w.elim
def Itx(z:Str):It:=⟨fun i _=>i<z.cps.size,fun i H x H'=>H'=H/\∃c,z.cps[i]?=some c/\x=.str ⟨#[c]⟩,fun i _=>z.cps.size<=i⟩
theorem turn_text{P:Program}{w:World}{K:PySem.W.Frag}{tg:Expr}(it:Addr)(z:Str)(t:Tok){n:String}(hn:n="str_ascii_iterator" \/ n="str_iterator"):Turn P w K tg (Itx z) [it] it (fun i h=>h.IsStrIter it n z t i) where
 mem:=by simp
 obj:=fun i h st b hb=>by
  have e:b=it:=by simpa using hb
  subst e
  obtain⟨o,e,c,d⟩:=st
  exact⟨o,e,fun v z=>by rw[d]at z;cases z⟩
 keep:=fun i h h' st k=>by
  obtain⟨o,e,r⟩:=st
  exact⟨o,k it (by simp) o e,r⟩
 item:=by
  intro X hP hw hK hc i pins s σ H E I hf st hg
  subst hP hw hK
  obtain⟨f0,f1,f2,f3,f4,f5⟩:=hf it (by simp)
  have W:Walks X.prog X.w X.A it [it] [it] z.cps.size (SignAt z) (fun i h=>h.IsStrIter it n z t i):=by
   rcases hn with rfl|rfl
   ·exact Walks.strAscii (I.ok.hd hc) it z t
   ·exact Walks.strWide (I.ok.hd hc) it z t
  refine W.item i s _ _ hg st fun v h' tk hv st' kk=>?_
  obtain⟨c,u,hc',rfl⟩:=hv
  have I1:Inv X pins σ H { s with heap:=h',toks:=tk }:=I.turned (fun b o hb e=>kk b o (by simpa using hb) e) f0 f1 f3 f4 f5
  obtain⟨o,e,cl,d⟩:=id st'
  exact⟨_,rfl,go_of (s:={ s with heap:=h',toks:=tk }) e cl d (by rcases hn with rfl|rfl<;>decide) ⟨.str ⟨#[c]⟩,H,I1,⟨_,rfl⟩,⟨rfl,c,hc',rfl⟩,st',fun b hb=>(hf b hb).1⟩⟩
 done:=by
  intro X hP hw hK hc i pins s σ H E I hf st hg
  subst hP hw hK
  obtain⟨f0,f1,f2,f3,f4,f5⟩:=hf it (by simp)
  have hg':z.cps[i]?=none:=Array.getElem?_eq_none hg
  rcases hn with rfl|rfl
  ·exact wpAny_pyNext_ascii_end (I.ok.hd hc) st hg' fun h' eb=>⟨rfl,I.turned (t':=s.toks) (fun b o hb e=>eb b o hb e) f0 f1 f3 f4 f5⟩
  ·exact wpAny_pyNext_wide_end (I.ok.hd hc) st hg' fun h' eb=>⟨rfl,I.turned (t':=s.toks) (fun b o hb e=>eb b o hb e) f0 f1 f3 f4 f5⟩
 self:=fun _ _ _ _ _ st h=>by
  rcases hn with rfl|rfl
  ·exact wpAny_pyIter_striter_ascii st h
  ·exact wpAny_pyIter_striter_wide st h
def Wlk(K:PySem.W.Frag)(x:V)(H:Hp)(J:It):Prop:=(∃a,x=.ref a/\((∃xs,SqL K H a xs)/\J=Itl K a\/(∃xs,SqT K H a xs)/\J=Itt K a))\/∃z,x=.str z/\J=Itx z
def iSeq(K:PySem.W.Frag)(tl:TE):TI:=fun σ H R=>tl σ H fun x H1=>∃J,Wlk K x H1 J/\R J H1
theorem pi_seq{tg l:Expr}{tl:TE}(hl:PE X l tl):PI X tg l (iSeq X.K tl):=by
 intro pins s σ H R I h
 refine thn (hl pins s σ H _ I h) fun v s1 ⟨x,H1,I1,r1,J,hw,q⟩=>?_
 have fp:∀b ∈ [s1.heap.objs.size],FpOk X pins H1 b:=fun b hb=>by
  have e:b=s1.heap.objs.size:=by simpa using hb
  subst e
  exact I1.fpOk (Nat.le_refl _) (I1.hok.fresh (Nat.le_refl _))
 rcases hw with⟨a,rfl,⟨⟨xs,hq⟩,rfl⟩|⟨⟨xs,hq⟩,rfl⟩⟩|⟨z,rfl,rfl⟩
 ·cases r1
  obtain⟨its,rv,p,hz⟩:=I1.list hq
  exact wpAny_pyIter_list p.isList ⟨s1.heap.objs.size,[s1.heap.objs.size],_,_,H1,rfl,I1.kept (t':=s1.toks) fun b o e=>Heap.get?_push_of_some _ e,turn_list a _,⟨_,Heap.get?_push_size _ rfl,rfl,rfl⟩,fp,q⟩
 ·cases r1
  obtain⟨its,rv,p,hz⟩:=I1.tuple hq
  exact wpAny_pyIter_tuple (show s1.heap.IsTuple a its.toArray from p) ⟨s1.heap.objs.size,[s1.heap.objs.size],_,_,H1,rfl,I1.kept (t':=s1.toks) fun b o e=>Heap.get?_push_of_some _ e,turn_tuple a _,⟨_,Heap.get?_push_size _ rfl,rfl,rfl⟩,fp,q⟩
 ·obtain⟨t,rfl⟩:=r1
  cases ha:z.cps.all (· < 128)
  ·exact wpAny_pyIter_wide ha ⟨s1.heap.objs.size,[s1.heap.objs.size],_,_,H1,rfl,I1.kept (t':=s1.toks) fun b o e=>Heap.get?_push_of_some _ e,turn_text _ z t (.inr rfl),⟨_,Heap.get?_push_size _ rfl,rfl,rfl⟩,fp,q⟩
  ·exact wpAny_pyIter_ascii ha ⟨s1.heap.objs.size,[s1.heap.objs.size],_,_,H1,rfl,I1.kept (t':=s1.toks) fun b o e=>Heap.get?_push_of_some _ e,turn_text _ z t (.inl rfl),⟨_,Heap.get?_push_size _ rfl,rfl,rfl⟩,fp,q⟩
theorem walk_of{K:PySem.W.Frag}{d:D}{xs:List D}{v:V}{H1:Hp}{O:List Addr}(e:itemsD d=some xs)(i:Is K (minus H1 O) d v):∃J,Wlk K v H1 J /\
 (∀j H O',Same (minus H1 O) (minus H O')->j<xs.length->J.go j H)/\(∀j H O',Same (minus H1 O) (minus H O')->xs.length<=j->J.stop j H) /\
 (∀j H O' v H' d,Same (minus H1 O) (minus H O')->J.yld j H v H'->xs[j]?=some d->H'=H/\Is K (minus H O') d v):=by
 cases d with
 |lst ys =>
  cases e
  obtain⟨a,vs,rfl,h5,h6⟩:=is_lst i
  have hl:=h6.length
  have sq:∀ {H:Hp} {O':List Addr},Same (minus H1 O) (minus H O')->SqL K H a vs:=fun sm=>(minus_same _ _).seq (sm.seq h5)
  refine⟨_,.inl ⟨a,rfl,.inl ⟨⟨vs,(minus_same _ _).seq h5⟩,rfl⟩⟩,?_,?_,?_⟩
  ·intro j H O' sm hj
   exact⟨vs,vs[j],sq sm,List.getElem?_eq_getElem (by omega)⟩
  ·intro j H O' sm hj
   exact⟨vs,sq sm,by omega⟩
  ·intro j H O' v H' d sm y hd
   obtain⟨e2,y⟩:=y
   obtain⟨z,e3,e4⟩:=h6.get hd
   have:=y vs (sq sm)
   rw[e3]at this
   cases this
   exact⟨e2,Is.mono sm d e4⟩
 |tup ys =>
  cases e
  obtain⟨a,vs,rfl,h5,h6⟩:=is_tup i
  have hl:=h6.length
  have sq:∀ {H:Hp} {O':List Addr},Same (minus H1 O) (minus H O')->SqT K H a vs:=fun sm=>sqt_mono (minus_same _ _) (sqt_mono sm h5)
  refine⟨_,.inl ⟨a,rfl,.inr ⟨⟨vs,(sqt_mono (minus_same _ _) h5)⟩,rfl⟩⟩,?_,?_,?_⟩
  ·intro j H O' sm hj
   exact⟨vs,vs[j],sq sm,List.getElem?_eq_getElem (by omega)⟩
  ·intro j H O' sm hj
   exact⟨vs,sq sm,by omega⟩
  ·intro j H O' v H' d sm y hd
   obtain⟨e2,y⟩:=y
   obtain⟨z,e3,e4⟩:=h6.get hd
   have:=y vs (sq sm)
   rw[e3]at this
   cases this
   exact⟨e2,Is.mono sm d e4⟩
 |str x =>
  cases e
  obtain⟨rfl,ok⟩:=is_str i
  refine⟨_,.inr ⟨x,rfl,rfl⟩,?_,?_,?_⟩
  ·intro j H O' sm hj
   rw[List.length_map]at hj
   exact hj
  ·intro j H O' sm hj
   rw[List.length_map]at hj
   exact hj
  ·rintro j H O' v H' d sm ⟨e2,c,hc,rfl⟩ hd
   rw[List.getElem?_map,Array.getElem?_toList,hc]at hd
   cases hd
   exact⟨e2,str_is (strOk_of (l:=[c]) fun c' h'=>by rw[List.mem_singleton.mp h'];exact strOk_mem ok (Array.mem_toList_iff.mpr (Array.mem_of_getElem? hc)))⟩
 |_=>cases e
theorem getS_append{σ:Sto}{z:Option Sl}:∀(i:Nat),getS (σ ++ [z]) i=if i<σ.length then getS σ i else if i=σ.length then z else none:=by
 induction σ with
 |nil =>
  intro i
  cases i with
  |zero=>rfl
  |succ i=>simp[getS]
 |cons a r ih =>
  intro i
  cases i with
  |zero=>simp[getS]
  |succ i =>
   show getS (r ++ [z]) i=_
   rw[ih i]
   simp only[List.length_cons,Nat.add_lt_add_iff_right,Nat.add_right_cancel_iff]
   rfl
theorem Reps.snoc{K:PySem.W.Frag}{O:List Addr}{H:Hp}{σ:Sto}{τ:L2.St}{d:D}{v:V}(R:Reps K O H σ τ)(h:Is K (minus H O) d v):Reps K O H (σ ++ [some (.sh d)]) (τ ++ [some v]) where
 len:=by simp[R.len]
 own:=R.own
 sh:=fun i e g=>by
  rw[getS_append]at g
  split at g
  ·next hi =>
   obtain⟨u,e1,e2⟩:=R.sh i e g
   exact⟨u,by rw[List.getElem?_append_left (by rw[<- R.len];exact hi)];exact e1,e2⟩
  ·split at g
   ·next hi =>
    cases g
    subst hi
    exact⟨v,by rw[List.getElem?_append_right (by rw[R.len];exact Nat.le_refl _),R.len];simp,h⟩
   ·cases g
 ow:=fun i ds g=>by
  rw[getS_append]at g
  split at g
  ·next hi =>
   obtain⟨a,vs,e1,e2⟩:=R.ow i ds g
   exact⟨a,vs,by rw[List.getElem?_append_left (by rw[<- R.len];exact hi)];exact e1,e2⟩
  ·split at g<;>cases g
 dj:=fun i j ds es hij g1 g2=>by
  rw[getS_append]at g1 g2
  split at g1
  ·next hi =>
   split at g2
   ·next hj =>
    rw[List.getElem?_append_left (by rw[<- R.len];exact hi),List.getElem?_append_left (by rw[<- R.len];exact hj)]
    exact R.dj i j ds es hij g1 g2
   ·split at g2<;>cases g2
  ·split at g1<;>cases g1
 tt:=by
  have old:∀j z,getS (σ ++ [some (.sh d)]) j=some z->(∀d,z ≠ .sh d)->getS σ j=some z/\(τ ++ [some v])[j]?=τ[j]?:=fun j z g n=>by
   rw[getS_append]at g
   split at g
   ·next hj=>exact⟨g,List.getElem?_append_left (by rw[<- R.len];exact hj)⟩
   ·split at g
    ·cases g;exact absurd rfl (n _)
    ·cases g
  exact R.tt.step (fun j rows g=>old j _ g fun _ z=>nomatch z) (fun _ _ _ _ _ _ _ t=>t) fun _ _ _ _ j ds b _ _ g q=>by
   obtain⟨g1,e⟩:=old j _ g fun _ z=>nomatch z
   exact .inl ⟨ds,g1,by rw[<- e];exact q⟩
theorem Iss.snoc{K:PySem.W.Frag}{S:Hp}{ds:List D}{vs:List V}{d:D}{v:V}(h:Iss K S ds vs)(g:Is K S d v):Iss K S (ds ++ [d]) (vs ++ [v]) :=
 h.append (by unfold Iss;exact⟨v,[],rfl,g,by unfold Iss;rfl⟩)
theorem comp_turnsGF{K:PySem.W.Frag}{J:It}{xs:List D}{e:Ex}{τ:L2.St}{H1:Hp}{σ:Sto}{O:List Addr}{Q:VK}(R1:Reps K O H1 σ τ)(hx:xs.length<=lim)
 (hgo:∀j H,Same H1 H->j<xs.length->J.go j H) (hst:∀j H,Same H1 H->xs.length<=j->J.stop j H)
 (hy:∀j H v H' d,Same H1 H->J.yld j H v H'->xs[j]?=some d->Same H H'/\Is K (minus H' O) d v)
 (w:compL (fun d Q=>wpE C e (σ ++ [some (.sh d)]) Q) xs fun ys=>WdF K O H1 Q (.lst ys)) :
 ∃W:Nat->Nat->List V->Hp->Prop,(∃m,W 0 m [] H1)/\∀i m ys H,W i m ys H ->
  (J.stop i H/\ys.length<=sizeLine/\∀p,H p=none->Q (.ref p) (upd H p (.lst ys)))\/(J.go i H/\ys.length<sizeLine/\∀x H',J.yld i H x H'->tD K C e (τ ++ [some x]) H' fun y H2=>∃m',m'<m/\W (i+1) m' (ys ++ [y]) H2):=by
 refine⟨fun j m ys H=>m=xs.length-j/\j<=xs.length/\Same H1 H/\∃ds,ds.length=j/\Iss K (minus H O) ds ys/\compL (fun d Q=>wpE C e (σ ++ [some (.sh d)]) Q) (xs.drop j) fun rest=>WdF K O H1 Q (.lst (ds++rest)),
  ⟨_,rfl,Nat.zero_le _,Same.refl _,[],rfl,by unfold Iss;rfl,by simpa using w⟩,?_⟩
 rintro j m ys H ⟨rfl,hj,sm,ds,hd,is,w⟩
 have hl:ys.length=j:=by rw[is.length,hd]
 have R:=R1.mono sm
 have hlim:lim<=sizeLine:=by decide
 by_cases hlt:j<xs.length
 ·refine .inr ⟨hgo j H sm hlt,by lia,fun x H' y=>?_⟩
  obtain⟨e1,ix⟩:=hy j H x H' xs[j] sm y (List.getElem?_eq_getElem hlt)
  rw[List.drop_eq_getElem_cons hlt]at w
  rw[compL]at w
  refine⟨_,O,(R.mono e1).snoc ix,wpE_mono e (fun yd wy v H2 s2 i2=>?_) w⟩
  refine⟨xs.length-(j+1),by lia,rfl,hlt,(sm.trans e1).trans s2,ds ++ [yd],by simp[hd],(Iss.mono (minus_mono (e1.trans s2)) ds is).snoc i2,?_⟩
  simpa using wy
 ·have e1:j=xs.length:=by lia
  refine .inl ⟨hst _ H sm (by lia),by lia,fun p hp=>?_⟩
  rw[List.drop_eq_nil_of_le (by lia)]at w
  rw[compL]at w
  rw[List.append_nil]at w
  have h1:H1 p=none:=by
   cases q:H1 p with
   |none=>rfl
   |some o=>rw[sm p o q]at hp;cases hp
  exact w ds p _ ys rfl (sm.trans (same_upd hp _)) h1 (upd_same ..) (Iss.mono (same_fresh (same_upd hp _) hp) ds is)
theorem comp_turnsG{K:PySem.W.Frag}{J:It}{xs:List D}{e:Ex}{τ:L2.St}{H1:Hp}{σ:Sto}{O:List Addr}{Q:VK}(R1:Reps K O H1 σ τ)(hx:xs.length<=lim)
 (hgo:∀j H,Same H1 H->j<xs.length->J.go j H) (hst:∀j H,Same H1 H->xs.length<=j->J.stop j H)
 (hy:∀j H v H' d,Same H1 H->J.yld j H v H'->xs[j]?=some d->Same H H'/\Is K (minus H' O) d v)
 (w:compL (fun d Q=>wpE C e (σ ++ [some (.sh d)]) Q) xs fun ys=>Wd K O H1 Q (.lst ys)) :
 ∃W:Nat->Nat->List V->Hp->Prop,(∃m,W 0 m [] H1)/\∀i m ys H,W i m ys H ->
  (J.stop i H/\ys.length<=sizeLine/\∀p,H p=none->Q (.ref p) (upd H p (.lst ys)))\/(J.go i H/\ys.length<sizeLine/\∀x H',J.yld i H x H'->tD K C e (τ ++ [some x]) H' fun y H2=>∃m',m'<m/\W (i+1) m' (ys ++ [y]) H2) :=
 comp_turnsGF R1 hx hgo hst hy (compL_mono (f:=fun d Q=>wpE C e (σ ++ [some (.sh d)]) Q) (fun d _ _ hq=>wpE_mono e hq) _ (fun ys wy=>wy.wdF R1.own) w)
theorem comp_turns{K:PySem.W.Frag}{J:It}{xs:List D}{e:Ex}{τ:L2.St}{H1:Hp}{σ:Sto}{O:List Addr}{Q:VK}(R1:Reps K O H1 σ τ)(hx:xs.length<=lim)
 (hgo:∀j H,Same H1 H->j<xs.length->J.go j H) (hst:∀j H,Same H1 H->xs.length<=j->J.stop j H)
 (hy:∀j H v H' d,Same H1 H->J.yld j H v H'->xs[j]?=some d->H'=H/\Is K (minus H O) d v)
 (w:compL (fun d Q=>wpE C e (σ ++ [some (.sh d)]) Q) xs fun ys=>Wd K O H1 Q (.lst ys)) :
 ∃W:Nat->Nat->List V->Hp->Prop,(∃m,W 0 m [] H1)/\∀i m ys H,W i m ys H ->
  (J.stop i H/\ys.length<=sizeLine/\∀p,H p=none->Q (.ref p) (upd H p (.lst ys)))\/(J.go i H/\ys.length<sizeLine/\∀x H',J.yld i H x H'->tD K C e (τ ++ [some x]) H' fun y H2=>∃m',m'<m/\W (i+1) m' (ys ++ [y]) H2) :=
 comp_turnsG R1 hx hgo hst (fun j H v H' d s y e=>by obtain⟨q,i⟩:=hy j H v H' d s y e;subst q;exact⟨Same.refl _,i⟩) w
end
end Z
namespace Z
open PySem PySem.Spec PyProof.Rows L2
def blts:List Str:=["abs","max","min","len","int","list","isinstance","range","bool","tuple","str","sum","all","zip","any","divmod","reversed","sorted","enumerate"]
structure Ok (X:Cx) (k:Ck) (C:Cfg):Prop where
 N:X.N=k.N
 nd:X.N.Nodup
 names:X.env.scope.names=k.names
 kd:X.env.scope.kind=.function
 calm:X.calm=true
 xe:X.xe=fun _ _=>False
 units:X.A.units+100<cLine
 fns:∀i x n,k.fns[i]?=some (x,n)->∃f fd ps lv,FnOk X.prog X.w X.K X.mg X.base (CXz X.prog X.w X.mg) lv f fd ps (spD X.K n (C.fr i) (C.f2 i) (C.ct i))/\Room lv X.A/\X.mg x=some (.ref f)/\PySem.W.keepIn X.K (.ref f)=true/\Binds X.K fd ps []
 cns:∀i x,k.cns[i]?=some x->∃u v,X.mg x=some u/\RelV v u/\∀S,Is X.K S (C.cn i) v
 blt:∀x∈blts,X.mg x=none
 E:∀x,¬ C.E x
def PJ(X:Cx)(C:Cfg)(xs:List Ex)(es:List Expr):Prop:=∀(pins:List (Addr×Obj)) (s:Shared) (τ:L2.St) (H:Hp) (out:List Nat) (Q:VK),Inv X pins τ H s->out.length<=sizeLine ->
 (∃σ O,Reps X.K O H σ τ/\wpFs C xs out σ fun l=>∀H',Same H H'->Q (.str ⟨l.toArray⟩) H')->wpAny (model X.prog X.w) X.A (joinParts ⟨out.toArray⟩ (evalEach es X.env)) (EP X pins τ Q) X.xe s
section
variable {X:Cx} {k:Ck} {C:Cfg}
theorem star_of{x:Ex}{e:Expr}(h:chkE k x e=true)(es:List Expr)(env:Env):starEach (e::es) env=(false,eval e env)::starEach es env:=by
 have p:=chk_plain h
 cases e<;>first|rfl|exact Bool.noConfusion p
theorem plain_of:∀ {xs:List Ex} {es:List Expr} (h:chkEs k xs es=true) (pos:Pos) (env:Env),(backTo pos (starEach es env)).any (·.1)=false
 |[],es,h,pos,env=>by rw[chkEs_nil h];rfl
 |x::xs,es,h,pos,env=>by
  obtain⟨y,ys,rfl,h1,h2⟩:=chkEs_cons h
  rw[star_of h1]
  have:=plain_of h2 pos env
  simpa[backTo]using this
theorem len_of:∀ {xs:List Ex} {es:List Expr} (h:chkEs k xs es=true),xs.length=es.length
 |[],es,h=>by rw[chkEs_nil h];rfl
 |x::xs,es,h=>by
  obtain⟨y,ys,rfl,h1,h2⟩:=chkEs_cons h
  simp[len_of h2]
theorem wpEs_len{C:Cfg}:∀(es:List Ex) {σ:Sto} {Q:List D->Prop},wpEs C es σ Q->wpEs C es σ fun ds=>ds.length=es.length/\Q ds
 |[],σ,Q,w=>by unfold wpEs at *;exact⟨rfl,w⟩
 |e::es,σ,Q,w=>by
  unfold wpEs at *
  exact wpE_mono e (fun d wd=>wpEs_mono es (fun ds ⟨h1,h2⟩=>⟨by simp[h1],h2⟩) (wpEs_len es wd)) w
theorem Ok.vis(ok:Ok X k C){i:Nat}{x:Str}(h:k.loc i x=true):X.N[i]?=some x/\L2.Loc X.env.scope x/\(x == ("__debug__":Str))=false/\(x == ("__classdict__":Str))=false:=by
 unfold Ck.loc at h
 simp only[Bool.and_eq_true,Bool.or_eq_true,decide_eq_true_eq,Bool.not_eq_true']at h
 obtain⟨⟨⟨h1,h2⟩,h3⟩,h4⟩:=h
 refine⟨by rw[ok.N];exact h1,?_,h3,h4⟩
 unfold L2.Loc
 rw[ok.names]
 exact h2
theorem Ok.gl(ok:Ok X k C){x:Str}(h:k.gl x=true):Gl X x/\(x == ("__debug__":Str))=false/\x≠("__name__":Str):=by
 unfold Ck.gl at h
 simp only[Bool.and_eq_true,decide_eq_true_eq,Bool.not_eq_true']at h
 exact⟨by unfold Gl Env.kindOf;rw[ok.names];exact h.1.1,h.1.2,h.2⟩
theorem loc_vis{sc:Scope}{x:Str}(h:L2.Loc sc x):Vis sc x:=h.elim .inl fun z=>.inr (.inl z)
theorem tD_two{a b:Ex}{f:D->D->(D->Prop)->Prop}(hm:∀ {x y:D} {Q Q':D->Prop},(∀d,Q d->Q' d)->f x y Q->f x y Q'){τ:L2.St}{H:Hp}{Q:VK}{σ:Sto}{O:List Addr}{K:PySem.W.Frag}(R:Reps K O H σ τ)
 (w:wpE C a σ fun x=>wpE C b σ fun y=>f x y (Wd K O H Q)):tOp (rD K f) (tD K C a) (tD K C b) τ H Q :=
 ⟨σ,O,R,wpE_mono a (fun x wx xv H1 s1 i1=>⟨σ,O,R.mono s1,wpE_mono b (fun y wy yv H2 s2 i2=>⟨O,x,y,(R.mono (s1.trans s2)).own,Is.mono (minus_mono s2) x i1,i2,hm (fun d=>Wd.mono (s1.trans s2)) wy⟩) wx⟩) w⟩
theorem tD_test{x:Ex}{τ:L2.St}{H:Hp}{Q:Bool->Hp->Prop}{K:PySem.W.Frag}(h:tDT K C x τ H Q):tB (tD K C x) τ H Q:=by
 obtain⟨σ,O,R,w⟩:=h
 refine⟨σ,O,R,wpE_mono x (fun d wd v H1 s1 i1=>?_) w⟩
 cases d with
 |bl c=>exact⟨c,is_bl i1,wd H1 s1⟩
 |_=>exact wd.elim
def isiR(K:PySem.W.Frag)(t:Ty)(n:String)(vs:List V)(H:Hp)(Q:VK):Prop:=∃O d v,vs=[v,.ty n]/\Is K (minus H O) d v/\Wd K O H Q (.bl (tyD t d))
noncomputable def Ty.s:Ty->String
 |.int=>"int"
 |.bool=>"bool"
 |.tuple=>"tuple"
 |.list=>"list"
 |.str=>"str"
theorem call_isiR{t:Ty}:CallR X (.builtin "isinstance") (isiR X.K t t.s):=by
 rintro pins s τ H vs us Q I r ⟨O,d,v,rfl,i,w⟩
 obtain⟨u,w',rfl,r1,r2⟩:=vals2 r
 have e:w'=t.val:=by
  have r2':w'=Value.type t.s:=r2
  rw[r2'];cases t<;>rfl
 subst e
 exact call_isi I (Is.mono (minus_same H O) d i) r1 fun tk=>fin_ep (I.tok tk) w (bl_is _) rfl
theorem bi_blt(f:Bi):f.nm∈blts:=by cases f<;>decide
theorem noMark{op:CmpOp}{x:Ex}{e:Expr}(h:chkE k x e=true):behindInMarks op e=false:=by
 have p:=chk_plain h
 cases e<;>first|rfl|exact Bool.noConfusion p
theorem ixPlain{e:Expr}(h:isSlice e=false):PlainIx e:=by
 intro o i
 cases e<;>first|rfl|(exact Bool.noConfusion h)
theorem basePlain{o:Expr}{n:Str}{env:Env}(h:plainO o=true):attributeBase o n env (eval o env)=eval o env:=by
 unfold attributeBase
 split
 ·exact Bool.noConfusion h
 ·rfl
theorem pt_leaf{x:Ex}{e:Expr}(p:PE X e (tD X.K C x))(he:∀whole,isTrue e X.env whole=(do let v <- whole;standAt e.pos;holding [v] (truthy v))):PT X e (tDT X.K C x):=PT.imp (fun _ _ _=>tD_test) (pt_val p he)
theorem pw_of{op:BoolOp}{vs:List Expr}{pos:Pos}{t:TT}(h:PT X (.BoolOp op vs pos) t):PW X (.BoolOp op vs pos) t:=fun whole pins s τ H Q I w=>h pins s τ H Q I w
noncomputable def clOf(cells:List (Str×Addr)):List (Str×NameKind)->List (Str×Addr)->List (Str×Addr)
 |[],cs=>cs
 |(n,kd)::r,cs=>clOf cells r (if kd == .free then (match cells.lookup n with|some c=>(n,c)::cs|none=>cs) else cs)
theorem clOf_sub{cells:List (Str×Addr)}:∀(l:List (Str×NameKind)) (cs:List (Str×Addr)),(∀y c,(y,c)∈cs->cells.lookup y=some c)->∀y c,(y,c)∈clOf cells l cs->cells.lookup y=some c
 |[],cs,h,y,c,m=>h y c m
 |(n,kd)::r,cs,h,y,c,m=>by
  refine clOf_sub r _ (fun z d hz=>?_) y c m
  split at hz
  ·split at hz
   ·next q =>
    rcases List.mem_cons.mp hz with e|e
    ·cases e;exact q
    ·exact h z d e
   ·exact h z d hz
  ·exact h z d hz
theorem clOf_old{cells:List (Str×Addr)}:∀(l:List (Str×NameKind)) (cs:List (Str×Addr)) (z:Str×Addr),z∈cs->z∈clOf cells l cs
 |[],cs,z,h=>h
 |(n,kd)::r,cs,z,h=>by
  refine clOf_old r _ z ?_
  split
  ·split
   ·exact List.mem_cons_of_mem _ h
   ·exact h
  ·exact h
theorem clOf_has{cells:List (Str×Addr)}:∀(l:List (Str×NameKind)) (cs:List (Str×Addr)) (y:Str) (c:Addr),(y,.free)∈l->cells.lookup y=some c->(y,c)∈clOf cells l cs
 |[],cs,y,c,h,e=>nomatch h
 |(n,kd)::r,cs,y,c,h,e=>by
  rcases List.mem_cons.mp h with z|z
  ·cases z
   refine clOf_old r _ _ ?_
   simp only[beq_self_eq_true,if_true,e]
   exact List.mem_cons_self ..
  ·exact clOf_has r _ y c z e
theorem lookup_mem{α:Type}{l:List (Str×α)}{y:Str}{c:α}(h:l.lookup y=some c):(y,c)∈l:=PySem.mem_of_lookup h
theorem mem_lookup{α:Type}{l:List (Str×α)}{y:Str}{c:α}(h:(y,c)∈l):∃d,l.lookup y=some d:=by
 induction l with
 |nil=>cases h
 |cons a r ih =>
  obtain⟨n,b⟩:=a
  by_cases e:y=n
  ·subst e;exact⟨b,by simp[List.lookup_cons]⟩
  ·rcases List.mem_cons.mp h with z|z
   ·cases z;exact absurd rfl e
   ·obtain⟨d,q⟩:=ih z
    refine⟨d,?_⟩
    have:(y == n)=false:=by simpa using e
    rw[List.lookup_cons,this];exact q
theorem clos_of{env:Env}{sc:Scope}(h:∀y∈sc.names,y.2=.free->∃c,env.cells.lookup y.1=some c):closureFor sc env=pure (clOf env.cells sc.names []):=by
 simp only[closureFor]
 generalize ([]:List (Str×Addr))=cs
 generalize sc.names=l at h
 induction l generalizing cs with
 |nil=>rfl
 |cons a r ih =>
  obtain⟨n,kd⟩:=a
  have ih':=fun cs=>ih cs fun y hy=>h y (List.mem_cons_of_mem _ hy)
  rw[List.forIn_cons]
  by_cases e:kd=.free
  ·subst e
   obtain⟨c,hc⟩:=h (n,.free) (List.mem_cons_self ..) rfl
   have e1:cellOf env n=pure c:=by unfold cellOf;rw[hc]
   simp only[beq_self_eq_true,if_true,e1,clOf]
   rw[hc]
   exact ih' _
  ·have e1:(kd == NameKind.free)=false:=by simpa using e
   simp only[e1,Bool.false_eq_true,if_false,clOf]
   exact ih' _
theorem Ok.rel(ok:Ok X k C)(sc:Scope):(relabel sc X.env).names=relab sc.names k.names:=by
 unfold relabel relab Env.kindOf
 rw[ok.names,ok.kd]
 simp
theorem Ok.comp_nE(ok:Ok X k C){x:Str}{sc:Scope}(h:compCk k x sc=true):dum X.N ∉ X.N:=by
 unfold compCk at h
 simp only[Bool.and_eq_true,Bool.not_eq_true',List.contains_eq_mem,decide_eq_false_iff_not]at h
 rw[ok.N]
 exact h.2
theorem relab_of{names out:List (Str×NameKind)}{y:Str}{kd:NameKind}(h:(relab names out).lookup y=some kd):∃kd',(y,kd')∈names/\(kd=kd'\/(kd'=.free/\kd=.cell)):=by
 have m:=lookup_mem h
 unfold relab at m
 obtain⟨⟨n,q⟩,hq,e⟩:=List.mem_map.mp m
 simp only at e
 split at e
 ·next hc =>
  simp only[Bool.and_eq_true,beq_iff_eq]at hc
  cases e
  exact⟨q,hq,.inr ⟨hc.1,rfl⟩⟩
 ·cases e
  exact⟨kd,hq,.inl rfl⟩
theorem Ok.comp(ok:Ok X k C){x:Str}{sc:Scope}(h:compCk k x sc=true)(xo:X.Ok):∃cl,CompOk X x sc cl:=by
 unfold compCk at h
 simp only[Bool.and_eq_true,Bool.not_eq_true',List.all_eq_true,decide_eq_true_eq,Bool.or_eq_true,beq_iff_eq,beq_eq_false_iff_ne,ne_eq]at h
 obtain⟨⟨⟨⟨⟨⟨⟨⟨h1,h2⟩,h3⟩,h4⟩,h5⟩,h6⟩,h7⟩,h8⟩,h9⟩:=h
 have hc:∀y∈sc.names,y.2=.free->∃c,X.env.cells.lookup y.1=some c:=fun y hy e=>by
  refine xo.has y.1 ?_
  unfold Env.kindOf
  rw[ok.names]
  rcases h6 y hy with(z|z)|z
  ·exact absurd e z
  ·exact .inl z
  ·exact .inr z
 have sub:∀y c,(clOf X.env.cells sc.names []).lookup y=some c->X.env.cells.lookup y=some c:=fun y c e=>clOf_sub _ _ (fun _ _ z=>absurd z (by simp)) y c (lookup_mem e)
 refine⟨clOf X.env.cells sc.names [],clos_of hc,h1,h2,fun y hy e=>?_,h4,fun y e=>?_,fun y hyx e=>?_,sub,by rw[ok.N];exact h7,by rw[ok.names,ok.N];exact h8⟩
 ·rcases h3 y hy with z|z
  ·exact absurd e z
  ·exact z
 ·rw[ok.rel]at e
  obtain⟨kd,m,z|⟨_,z⟩⟩:=relab_of e
  ·rcases h5 _ m with(q|q)|q
   ·exact absurd z.symm q
   ·exact .inl q
   ·refine .inr ⟨?_,by rw[ok.N];exact q.2⟩
    rw[ok.N]
    simpa using q.1
  ·cases z
 ·rw[ok.rel]at e
  have m:(y,NameKind.free)∈sc.names:=by
   rcases e with e|e
   ·obtain⟨kd,m,z|⟨z,_⟩⟩:=relab_of e
    ·exfalso
     rw[<- z]at m
     have q:(y,NameKind.cell)∈sc.names.filter fun y=>y.2 == .cell:=List.mem_filter.mpr ⟨m,rfl⟩
     rw[h2]at q
     split at q
     ·simp only[List.mem_cons,Prod.mk.injEq,List.not_mem_nil,or_false]at q
      exact hyx q.1
     ·cases q
    ·rw[<- z];exact m
   ·obtain⟨kd,m,z|⟨_,z⟩⟩:=relab_of e
    ·rw[z];exact m
    ·cases z
  obtain⟨c,hcc⟩:=hc _ m rfl
  have k6:=h6 _ m
  refine⟨?_,?_,mem_lookup (clOf_has _ _ y c m hcc)⟩
  ·unfold Vis
   rw[ok.names]
   rcases k6 with(z|z)|z
   ·exact absurd rfl z
   ·exact .inr (.inl z)
   ·exact .inr (.inr z)
  ·rw[ok.names]
   rcases k6 with(z|z)|z
   ·exact absurd rfl z
   ·intro q;simp only at z;rw[z]at q;cases q
   ·intro q;simp only at z;rw[z]at q;cases q
theorem Ok.block(ok:Ok X k C){x:Str}{sc:Scope}{cl:List (Str×Addr)}(h:compCk k x sc=true)(co:CompOk X x sc cl)(s:Shared)(H:Hp)(fp:List Addr)(Ca:Addr):Ok (cxComp X s H fp x sc cl Ca) (k.block x sc) C where
 N:=by show blockN X.N x=blockN k.N x;rw[ok.N]
 nd:=blockN_nd ok.nd (ok.comp_nE h) co.ne
 names:=ok.rel sc
 kd:=co.kind
 calm:=ok.calm
 xe:=rfl
 units:=ok.units
 fns:=ok.fns
 cns:=ok.cns
 blt:=ok.blt
 E:=ok.E
mutual
theorem sB:∀ {X:Cx} {k:Ck} (ok:Ok X k C) (x:Ex) (e:Expr),chkE k x e=true->PE X e (tD X.K C x)/\PT X e (tDT X.K C x)
 |X,k,ok,.var i,e,h=>by
  rw[chkE]at h
  replace h:=opt_any h
  obtain⟨x,hx,h⟩:=h
  obtain⟨pos,rfl⟩:=asName_ hx
  obtain⟨h1,h2,h3,h4⟩:=ok.vis h
  have p:PE X (.Name x pos) (tD X.K C (.var i)):=by
   refine PE.imp (fun τ H Q w=>?_) (pe_var h1 (loc_vis h2) h3 h4)
   obtain⟨σ,O,R,w⟩:=w
   unfold wpE at w
   cases g:getS σ i with
   |none=>rw[g]at w;exact w.elim
   |some z =>
    rw[g]at w
    cases z with
    |sh d =>
     obtain⟨v,e1,e2⟩:=R.sh i d g
     exact⟨v,e1,w v H (Same.refl H) e2⟩
    |ow ds=>exact w.elim
    |ot _=>exact w.elim
  exact⟨p,pt_leaf p fun _=>rfl⟩
 |X,k,ok,.cst d,e,h=>by
  rw[chkE]at h
  replace h:=opt_any h
  obtain⟨c,hx,h⟩:=h
  obtain⟨j,pos,rfl⟩:=asConst_ hx
  have p:PE X (.Constant c j pos) (tD X.K C (.cst d)):=by
   cases d with
   |non =>
    cases c<;>first|exact Bool.noConfusion h|skip
    exact PE.imp (fun τ H Q ⟨σ,O,R,w⟩=>by unfold wpE at w;exact w _ _ (Same.refl H) non_is) pe_non
   |bl b =>
    cases c<;>first|exact Bool.noConfusion h|skip
    have e:_=_:=eq_of_beq h
    subst e
    exact PE.imp (fun τ H Q ⟨σ,O,R,w⟩=>by unfold wpE at w;exact w _ _ (Same.refl H) (bl_is _)) pe_bl
   |int i =>
    cases c<;>first|exact Bool.noConfusion h|skip
    have e:_=_:=of_decide_eq_true h
    subst e
    exact PE.imp (fun τ H Q ⟨σ,O,R,w⟩=>by unfold wpE at w;exact w _ _ (Same.refl H) (int_is _)) pe_int
   |str x =>
    cases c<;>first|exact Bool.noConfusion h|skip
    have h':=(Bool.and_eq_true _ _).mp h
    have e:_=_:=of_decide_eq_true h'.1
    subst e
    exact PE.imp (fun τ H Q ⟨σ,O,R,w⟩=>by unfold wpE at w;exact w _ _ (Same.refl H) (str_is h'.2)) pe_str
   |tup xs=>cases c<;>exact Bool.noConfusion h
   |lst xs=>cases c<;>exact Bool.noConfusion h
  exact⟨p,pt_leaf p fun _=>rfl⟩
 |X,k,ok,.con i,e,h=>by
  rw[chkE]at h
  replace h:=opt_any h
  obtain⟨x,hx,h⟩:=h
  obtain⟨pos,rfl⟩:=asName_ hx
  rw[Bool.and_eq_true,decide_eq_true_eq]at h
  obtain⟨u,v,h1,h2,h3⟩:=ok.cns i x h.1
  obtain⟨g1,g2,g3⟩:=ok.gl h.2
  have p:PE X (.Name x pos) (tD X.K C (.con i)):=PE.imp (fun τ H Q ⟨σ,O,R,w⟩=>by unfold wpE at w;exact w _ _ (Same.refl H) (h3 _)) (pe_glob g1 h1 h2 g2)
  exact⟨p,pt_leaf p fun _=>rfl⟩
 |X,k,ok,.bin o a b,e,h=>by
  rw[chkE]at h
  replace h:=opt_any h
  obtain⟨⟨l,op,r⟩,hx,h⟩:=h
  obtain⟨pos,rfl⟩:=asBin_ hx
  rw[Bool.and_eq_true,Bool.and_eq_true]at h
  have p:PE X (.BinOp l op r pos) (tD X.K C (.bin o a b)):=PE.imp (t':=tD X.K C (.bin o a b)) (fun τ H Q ⟨σ,O,R,w⟩=>by unfold wpE at w;exact tD_two (f:=binD o) binD_mono R w) (pe_op (op_bin h.1.1) (sB ok a _ h.1.2).1 (sB ok b _ h.2).1)
  exact⟨p,pt_leaf p fun _=>rfl⟩
 |X,k,ok,.neg a,e,h=>by
  rw[chkE]at h
  replace h:=opt_any h
  obtain⟨⟨op,x⟩,hx,h⟩:=h
  obtain⟨pos,rfl⟩:=asUn_ hx
  rw[Bool.and_eq_true,decide_eq_true_eq]at h
  obtain⟨ho,h⟩:=h
  simp only at ho h
  subst ho
  have p:PE X (.UnaryOp .USub x pos) (tD X.K C (.neg a)):=by
   refine PE.imp (fun τ H Q w=>?_) (pe_un un_neg (sB ok a _ h).1)
   obtain⟨σ,O,R,w⟩:=w
   unfold wpE at w
   refine⟨σ,O,R,wpE_mono a (fun d wd v H1 s1 i1=>?_) w⟩
   cases d with
   |int i=>exact⟨i,is_int i1,wd _ _ s1 (int_is _)⟩
   |_=>exact wd.elim
  exact⟨p,pt_leaf p fun _=>rfl⟩
 |X,k,ok,.not a,e,h=>by
  rw[chkE]at h
  replace h:=opt_any h
  obtain⟨⟨op,x⟩,hx,h⟩:=h
  obtain⟨pos,rfl⟩:=asUn_ hx
  rw[Bool.and_eq_true,decide_eq_true_eq]at h
  obtain⟨ho,h⟩:=h
  simp only at ho h
  subst ho
  obtain⟨pa,ta⟩:=sB ok a _ h
  refine⟨PE.imp (fun τ H Q w=>?_) (pe_not pa),PT.imp (fun τ H Q w=>?_) (pt_not ta)⟩
  ·obtain⟨σ,O,R,w⟩:=w
   unfold wpE at w
   refine⟨σ,O,R,wpE_mono a (fun d wd v H1 s1 i1=>?_) w⟩
   cases d with
   |bl c=>exact⟨c,is_bl i1,wd _ _ s1 (bl_is _)⟩
   |_=>exact wd.elim
  ·obtain⟨σ,O,R,w⟩:=w
   unfold wpE at w
   refine⟨σ,O,R,wpE_mono a (fun d wd=>?_) w⟩
   cases d with
   |bl c=>exact fun H' s'=>wd H' s'
   |_=>exact wd.elim
 |X,k,ok,.cmp o a b,e,h=>by
  rw[chkE]at h
  replace h:=opt_any h
  obtain⟨⟨l,ops,cs⟩,hx,h⟩:=h
  obtain⟨pos,rfl⟩:=asCmp_ hx
  simp only[Bool.and_eq_true,decide_eq_true_eq]at h
  obtain⟨⟨⟨⟨n1,n2⟩,h1⟩,h2⟩,h3⟩:=h
  match ops,n1,cs,n2,h1,h3 with
  |[op],_,[r],_,h1,h3 =>
   have h:(cOk o op r=true/\chkE k a l=true)/\chkE k b r=true:=⟨⟨h1,h2⟩,h3⟩
   have pa:=(sB ok a _ h.1.2).1
   have pb:=(sB ok b _ h.2).1
   refine⟨PE.imp (fun τ H Q w=>?_) (pe_cmpR (op_cmp h.1.1 ok.units) pa pb (noMark h.2)),PT.imp (fun τ H Q w=>?_) (pt_cmpR (op_cmp h.1.1 ok.units) pa pb (noMark h.2))⟩
   ·obtain⟨σ,O,R,w⟩:=w
    unfold wpE at w
    exact tD_two (f:=cmpD o) cmpD_mono R w
   ·obtain⟨σ,O,R,w⟩:=w
    unfold wpE at w
    refine tD_two (f:=cmpD o) cmpD_mono R (wpE_mono a (fun x wx=>wpE_mono b (fun y wy=>cmpD_mono (o:=o) (fun d wd v H1 s1 i1=>?_) wy) wx) w)
    cases d with
    |bl c=>exact⟨c,is_bl i1,wd H1 s1⟩
    |_=>exact wd.elim
 |X,k,ok,.and a b,e,h=>by
  rw[chkE]at h
  replace h:=opt_any h
  obtain⟨⟨op,vs,pos⟩,hx,h⟩:=h
  have ee:=asBool_ hx
  subst ee
  simp only[Bool.and_eq_true,decide_eq_true_eq]at h
  obtain⟨⟨⟨ho,n1⟩,h1⟩,h2⟩:=h
  subst ho
  match vs,n1,h1,h2 with
  |x::y::r,_,h1,h2 =>
   have h:chkE k a x=true/\(if r.isEmpty then chkE k b y else chkE k b (.BoolOp .And (y::r) pos))=true:=by
    refine⟨h1,?_⟩
    cases r with
    |nil=>simpa using h2
    |cons z r=>simpa using h2
   obtain⟨pa,ta⟩:=sB ok a _ h.1
   have hb:PE X (.BoolOp .And (y::r) pos) (tD X.K C b)/\PW X (.BoolOp .And (y::r) pos) (tDT X.K C b):=by
    cases r with
    |nil =>
     have:=sB ok b y h.2
     exact⟨pe_one this.1,pw_and1 this.2⟩
    |cons z r =>
     have:=sB ok b (.BoolOp .And (y::z::r) pos) h.2
     exact⟨this.1,pw_of this.2⟩
   refine⟨PE.imp (fun τ H Q w=>?_) (pe_and pa hb.1),PT.imp (fun τ H Q w=>?_) (pw_and ta hb.2).pt⟩
   ·obtain⟨σ,O,R,w⟩:=w
    unfold wpE at w
    refine⟨σ,O,R,wpE_mono a (fun d wd v H1 s1 i1=>?_) w⟩
    cases d with
    |bl c =>
     refine⟨c,is_bl i1,?_⟩
     cases c with
     |true=>exact⟨σ,O,R.mono s1,wpE_mono b (fun d=>Wd.mono s1) wd⟩
     |false=>exact wd _ _ s1 (bl_is _)
    |_=>exact wd.elim
   ·obtain⟨σ,O,R,w⟩:=w
    unfold wpE at w
    refine⟨σ,O,R,wpE_mono a (fun d wd=>?_) w⟩
    cases d with
    |bl c =>
     intro H1 s1
     cases c with
     |true=>exact⟨σ,O,R.mono s1,wpE_mono b (fun d=>isB_mono fun c q H' s'=>q H' (s1.trans s')) wd⟩
     |false=>exact wd H1 s1
    |_=>exact wd.elim
 |X,k,ok,.or a b,e,h=>by
  rw[chkE]at h
  replace h:=opt_any h
  obtain⟨⟨op,vs,pos⟩,hx,h⟩:=h
  have ee:=asBool_ hx
  subst ee
  simp only[Bool.and_eq_true,decide_eq_true_eq]at h
  obtain⟨⟨⟨ho,n1⟩,h1⟩,h2⟩:=h
  subst ho
  match vs,n1,h1,h2 with
  |x::y::r,_,h1,h2 =>
   have h:chkE k a x=true/\(if r.isEmpty then chkE k b y else chkE k b (.BoolOp .Or (y::r) pos))=true:=by
    refine⟨h1,?_⟩
    cases r with
    |nil=>simpa using h2
    |cons z r=>simpa using h2
   obtain⟨pa,ta⟩:=sB ok a _ h.1
   have hb:PE X (.BoolOp .Or (y::r) pos) (tD X.K C b)/\PW X (.BoolOp .Or (y::r) pos) (tDT X.K C b):=by
    cases r with
    |nil =>
     have:=sB ok b y h.2
     exact⟨pe_one this.1,pw_or1 this.2⟩
    |cons z r =>
     have:=sB ok b (.BoolOp .Or (y::z::r) pos) h.2
     exact⟨this.1,pw_of this.2⟩
   refine⟨PE.imp (fun τ H Q w=>?_) (pe_or pa hb.1),PT.imp (fun τ H Q w=>?_) (pw_or ta hb.2).pt⟩
   ·obtain⟨σ,O,R,w⟩:=w
    unfold wpE at w
    refine⟨σ,O,R,wpE_mono a (fun d wd v H1 s1 i1=>?_) w⟩
    cases d with
    |bl c =>
     refine⟨c,is_bl i1,?_⟩
     cases c with
     |false=>exact⟨σ,O,R.mono s1,wpE_mono b (fun d=>Wd.mono s1) wd⟩
     |true=>exact wd _ _ s1 (bl_is _)
    |_=>exact wd.elim
   ·obtain⟨σ,O,R,w⟩:=w
    unfold wpE at w
    refine⟨σ,O,R,wpE_mono a (fun d wd=>?_) w⟩
    cases d with
    |bl c =>
     intro H1 s1
     cases c with
     |false=>exact⟨σ,O,R.mono s1,wpE_mono b (fun d=>isB_mono fun c q H' s'=>q H' (s1.trans s')) wd⟩
     |true=>exact wd H1 s1
    |_=>exact wd.elim
 |X,k,ok,.ife c a b,e,h=>by
  rw[chkE]at h
  replace h:=opt_any h
  obtain⟨⟨t,x,y⟩,hx,h⟩:=h
  obtain⟨pos,rfl⟩:=asIf_ hx
  simp only[Bool.and_eq_true]at h
  obtain⟨pc,tc⟩:=sB ok c _ h.1.1
  obtain⟨pa,ta⟩:=sB ok a _ h.1.2
  obtain⟨pb,tb⟩:=sB ok b _ h.2
  refine⟨PE.imp (fun τ H Q w=>?_) (pe_ifExp tc pa pb),fun pins s τ H Q I w=>?_⟩
  ·obtain⟨σ,O,R,w⟩:=w
   unfold wpE at w
   refine⟨σ,O,R,wpE_mono c (fun d wd=>?_) w⟩
   cases d with
   |bl k =>
    intro H1 s1
    cases k with
    |true=>exact⟨σ,O,R.mono s1,wpE_mono a (fun d=>Wd.mono s1) wd⟩
    |false=>exact⟨σ,O,R.mono s1,wpE_mono b (fun d=>Wd.mono s1) wd⟩
   |_=>exact wd.elim
  ·obtain⟨σ,O,R,w⟩:=w
   unfold wpE at w
   refine isTrue_IfExp (thn (tc pins s τ H (fun d H1=>if d=true then tDT X.K C a τ H1 Q else tDT X.K C b τ H1 Q) I ⟨σ,O,R,wpE_mono c (fun d wd=>?_) w⟩) fun d s1 ⟨H1,I1,q1⟩=>?_)
   ·cases d with
    |bl k =>
     intro H1 s1
     cases k with
     |true=>exact⟨σ,O,R.mono s1,wpE_mono a (fun d=>isB_mono fun c q H' s'=>q H' (s1.trans s')) wd⟩
     |false=>exact⟨σ,O,R.mono s1,wpE_mono b (fun d=>isB_mono fun c q H' s'=>q H' (s1.trans s')) wd⟩
    |_=>exact wd.elim
   ·cases d with
    |true=>exact ta pins s1 τ H1 Q I1 q1
    |false=>exact tb pins s1 τ H1 Q I1 q1
 |X,k,ok,.tup es,e,h=>by
  rw[chkE]at h
  replace h:=opt_any h
  obtain⟨xs,hx,h⟩:=h
  obtain⟨j,pos,rfl⟩:=asTup_ hx
  rw[Bool.and_eq_true,decide_eq_true_eq]at h
  have p:PE X (.Tuple xs j pos) (tD X.K C (.tup es)):=by
   refine PE.imp (fun τ H Q w=>?_) (pe_tup (sA ok es xs h.2))
   obtain⟨σ,O,R,w⟩:=w
   unfold wpE at w
   refine⟨σ,O,R,wpEs_mono es (fun ds ⟨hl,wd⟩ vs H1 s1 i1=>⟨?_,fun p hp=>?_⟩) (wpEs_len es w)⟩
   ·rw[i1.length,hl,len_of h.2,sizeLine_eq];lia
   ·exact wd _ _ (s1.trans (same_upd hp _)) (tup_is (at_upd (R.mono s1).own hp) (Iss.minus_upd hp i1))
  exact⟨p,pt_leaf p fun _=>rfl⟩
 |X,k,ok,.lst es,e,h=>by
  rw[chkE]at h
  replace h:=opt_any h
  obtain⟨xs,hx,h⟩:=h
  obtain⟨pos,rfl⟩:=asLst_ hx
  rw[Bool.and_eq_true,decide_eq_true_eq]at h
  have p:PE X (.List xs pos) (tD X.K C (.lst es)):=by
   refine PE.imp (fun τ H Q w=>?_) (pe_lst (sA ok es xs h.2))
   obtain⟨σ,O,R,w⟩:=w
   unfold wpE at w
   refine⟨σ,O,R,wpEs_mono es (fun ds ⟨hl,wd⟩ vs H1 s1 i1=>⟨?_,fun p hp=>?_⟩) (wpEs_len es w)⟩
   ·rw[i1.length,hl,len_of h.2,sizeLine_eq];lia
   ·exact wd _ _ (s1.trans (same_upd hp _)) (lst_is (SqL.of (at_upd (R.mono s1).own hp)) (Iss.minus_upd hp i1))
  exact⟨p,pt_leaf p fun _=>rfl⟩
 |X,k,ok,.sm o a b,e,h=>by
  rw[chkE]at h
  replace h:=opt_any h
  obtain⟨⟨fe,xs,ks,cp⟩,hc,h⟩:=h
  have ee:=asCall_ hc
  subst ee
  simp only[Bool.and_eq_true,decide_eq_true_eq,List.isEmpty_iff]at h
  obtain⟨⟨⟨hk,hl1⟩,hat⟩,he⟩:=h
  replace hat:=opt_any hat
  obtain⟨⟨ob,at',ap⟩,hy,hat⟩:=hat
  have ee:=asAttr_ hy
  subst ee
  simp only[Bool.and_eq_true,decide_eq_true_eq]at hat
  obtain⟨⟨⟨ha1,ha2⟩,ha3⟩,ha4⟩:=hat
  subst ha1 hk
  obtain⟨y,rfl⟩:=one_list hl1
  have he:chkE k b y=true:=he
  have p:PE X (.Call (.Attribute ob o.nm ap) [y] [] cp) (tD X.K C (.sm o a b)):=by
   obtain⟨id,m1,m2,m3⟩:=mt_sm (X:=X) o
   refine PE.imp (fun τ H Q w=>?_) (pe_bm PySem.F.plainAttrs_str m1 m2 m3 (sB ok a ob ha4).1 (pa_cons (sB ok b y he).1 pa_nil (star_of he _ _)) (basePlain ha2) (by rw[star_of he];rfl) ha3 (star_of he _ _) rfl)
   obtain⟨σ,O,R,w⟩:=w
   unfold wpE at w
   refine⟨σ,O,R,wpE_mono a (fun d wd x H1 s1 i1=>?_) w⟩
   cases d<;>first|exact wd.elim|skip
   obtain⟨rfl,ox⟩:=is_str i1
   refine⟨rfl,σ,O,R.mono s1,wpE_mono b (fun d2 wd2 x2 H2 s2 i2=>?_) wd⟩
   cases o<;>cases d2<;>first|exact wd2.elim|skip
   ·obtain⟨i,r,e,q⟩:=wd2
    obtain⟨rfl,oy⟩:=is_str i2
    exact⟨_,_,i,r,rfl,rfl,e,q _ _ (s1.trans s2) (int_is _)⟩
   ·obtain⟨ss,⟨hx,rfl,hl⟩,q⟩:=wd2
    obtain⟨c,vs,rfl,h1,h2⟩:=is_lst i2
    have hs:=strs_ok h2
    cases iss_strs h2
    exact⟨_,c,ss,rfl,rfl,hx,(minus_same _ _).seq h1,hl,q _ _ (s1.trans s2) (str_is (strOk_of fun z hz=>by
     obtain⟨l,hl,hz⟩:=List.mem_flatten.mp hz
     obtain⟨t,ht,rfl⟩:=List.mem_map.mp hl
     exact strOk_mem (hs t ht) hz))⟩
   ·obtain⟨⟨h1,h2⟩,q⟩:=wd2
    obtain⟨rfl,oy⟩:=is_str i2
    exact⟨_,_,rfl,rfl,h1,by rw[sizeLine_eq];exact h2,fun p hp=>q _ _ ((s1.trans s2).trans (same_upd hp _)) (tup_is (at_upd ((R.mono s1).mono s2).own hp) (part_is ox oy))⟩
  exact⟨p,pt_leaf p fun _=>rfl⟩
 |X,k,ok,.ix a b,e,h=>by
  rw[chkE]at h
  replace h:=opt_any h
  obtain⟨⟨v,i⟩,hx,h⟩:=h
  obtain⟨pos,rfl⟩:=asSub_ hx
  simp only[Bool.and_eq_true,Bool.not_eq_true']at h
  have p:PE X (.Subscript v i pos) (tD X.K C (.ix a b)):=PE.imp (t':=tD X.K C (.ix a b)) (fun τ H Q ⟨σ,O,R,w⟩=>by unfold wpE at w;exact tD_two (f:=ixD) ixD_mono R w) (pe_ix ix_D (sB ok a _ h.1.2).1 (sB ok b _ h.2).1 (ixPlain h.1.1))
  exact⟨p,pt_leaf p fun _=>rfl⟩
 |X,k,ok,.call f es,e,h=>by
  rw[chkE]at h
  replace h:=opt_any h
  obtain⟨⟨x,xs,pos⟩,hx,h⟩:=h
  obtain⟨q,rfl⟩:=asCallN_ hx
  simp only[Bool.and_eq_true,decide_eq_true_eq]at h
  obtain⟨⟨⟨h1,h2⟩,hne⟩,h4⟩:=h
  obtain⟨y,ys,rfl⟩:=cons_list hne
  obtain⟨g1,g2,g3⟩:=ok.gl h2
  obtain⟨fa,fd,ps,lv,F,hr,hm,hk,hb⟩:=ok.fns f x _ h1
  have hs:starEach (y::ys) X.env=(false,eval y X.env)::starEach ys X.env/\(backTo pos (starEach ys X.env)).any (·.1)=false:=by
   cases es with
   |nil=>have:=chkEs_nil h4;cases this
   |cons z zs =>
    obtain⟨y',ys',e',h5,h6⟩:=chkEs_cons h4
    cases e'
    exact⟨star_of h5 _ _,plain_of h6 _ _⟩
  have p:PE X (.Call (.Name x q) (y::ys) [] pos) (tD X.K C (.call f es)):=by
   refine PE.imp (fun τ H Q w=>?_) (pe_call (CX:=CXz X.prog X.w X.mg) (E:=E0) (dvs:=[]) F hr g1 hm hk hb .nil passZ (sA ok es _ h4) g2 hs.1 hs.2)
   obtain⟨σ,O,R,w⟩:=w
   unfold wpE at w
   refine⟨σ,O,R,wpEs_mono es (fun ds ⟨hl,wd⟩ vs H1 s1 i1=>?_) (wpEs_len es w)⟩
   show spD X.K (y::ys).length (C.fr f) (C.f2 f) (C.ct f) (vs ++ []) H1 Q E0
   rw[List.append_nil]
   exact⟨O,ds,by rw[hl,len_of h4],(R.mono s1).own,i1,wd.1,fun d r=>((wd.2.1 d r).mono s1).rw (R.mono s1).own,fun x hx=>(ok.E x (wd.2.2 x hx)).elim⟩
  exact⟨p,pt_leaf p fun _=>rfl⟩
 |X,k,ok,.bi f es,e,h=>by
  rw[chkE]at h
  replace h:=opt_any h
  obtain⟨⟨x,xs,pos⟩,hx,h⟩:=h
  obtain⟨q,rfl⟩:=asCallN_ hx
  simp only[Bool.and_eq_true,decide_eq_true_eq]at h
  obtain⟨⟨⟨h1,h2⟩,hne⟩,h4⟩:=h
  obtain⟨y,ys,rfl⟩:=cons_list hne
  subst h1
  obtain⟨g1,g2,g3⟩:=ok.gl h2
  have hm:=ok.blt _ (bi_blt f)
  have hs:starEach (y::ys) X.env=(false,eval y X.env)::starEach ys X.env/\(backTo pos (starEach ys X.env)).any (·.1)=false:=by
   cases es with
   |nil=>have:=chkEs_nil h4;cases this
   |cons z zs =>
    obtain⟨y',ys',e',h5,h6⟩:=chkEs_cons h4
    cases e'
    exact⟨star_of h5 _ _,plain_of h6 _ _⟩
  have w':∀τ H Q,tD X.K C (.bi f es) τ H Q->tCB (cD X.K (biD f)) (tDs X.K C es) τ H Q:=by
   rintro τ H Q ⟨σ,O,R,w⟩
   unfold wpE at w
   exact⟨σ,O,R,wpEs_mono es (fun ds wd vs H1 s1 i1=>⟨O,ds,(R.mono s1).own,i1,biD_mono (fun d=>Wd.mono s1) wd⟩) w⟩
  have cb:CallR X f.val (cD X.K (biD f)):=call_bi ok.calm
  have p:PE X (.Call (.Name f.nm q) (y::ys) [] pos) (tD X.K C (.bi f es)):=by
   cases f with
   |abs=>exact PE.imp w' (pe_callB (id:="abs") cb g1 hm PyProof.Rows.boot_abs (sA ok es _ h4) g3 g2 hs.1 hs.2)
   |max=>exact PE.imp w' (pe_callB (id:="max") cb g1 hm PyProof.Rows.boot_max (sA ok es _ h4) g3 g2 hs.1 hs.2)
   |min=>exact PE.imp w' (pe_callB (id:="min") cb g1 hm PyProof.Rows.boot_min (sA ok es _ h4) g3 g2 hs.1 hs.2)
   |len=>exact PE.imp w' (pe_callB (id:="len") cb g1 hm PySem.boot_len (sA ok es _ h4) g3 g2 hs.1 hs.2)
   |int=>exact PE.imp w' (pe_callTy (T:="int") cb g1 hm PyProof.Rows.boot_int (sA ok es _ h4) g3 g2 hs.1 hs.2)
   |list=>exact PE.imp w' (pe_callTy (T:="list") cb g1 hm PyProof.Rows.boot_list (sA ok es _ h4) g3 g2 hs.1 hs.2)
   |sum=>exact PE.imp w' (pe_callB (id:="sum") cb g1 hm PyProof.Rows.boot_sum (sA ok es _ h4) g3 g2 hs.1 hs.2)
   |all=>exact PE.imp w' (pe_callB (id:="all") cb g1 hm PyProof.Rows.boot_all (sA ok es _ h4) g3 g2 hs.1 hs.2)
   |str=>exact PE.imp w' (pe_callTy (T:="str") cb g1 hm PyProof.Rows.boot_str (sA ok es _ h4) g3 g2 hs.1 hs.2)
   |tuple=>exact PE.imp w' (pe_callTy (T:="tuple") cb g1 hm PyProof.Rows.boot_tuple (sA ok es _ h4) g3 g2 hs.1 hs.2)
   |any=>exact PE.imp w' (pe_callB (id:="any") cb g1 hm PyProof.Rows.boot_any (sA ok es _ h4) g3 g2 hs.1 hs.2)
  exact⟨p,pt_leaf p fun _=>rfl⟩
 |X,k,ok,.compR es b,e,h=>by
  rw[chkE]at h
  replace h:=opt_any h
  obtain⟨⟨elt,x,iter,sc⟩,hz,h⟩:=h
  obtain⟨px,pos,rfl⟩:=asComp_ hz
  simp only[Bool.and_eq_true]at h
  obtain⟨⟨h1,h2⟩,h3⟩:=h
  replace h2:=opt_any h2
  obtain⟨⟨f,args,p2⟩,hcn,h2⟩:=h2
  obtain⟨q,e2⟩:=asCallN_ hcn
  subst e2
  simp only[Bool.and_eq_true,decide_eq_true_eq,Bool.not_eq_true']at h2
  obtain⟨⟨⟨hf,hg⟩,hne⟩,ha⟩:=h2
  subst hf
  obtain⟨g1,_,_⟩:=ok.gl hg
  have p:PE X (.ListComp elt [⟨.Name x px,.Call (.Name "range" q) args [] p2,[],0⟩] sc pos) (tD X.K C (.compR es b)):=by
   cases args with
   |nil=>simp at hne
   |cons y ys =>
    have hs:starEach (y::ys) X.env=(false,eval y X.env)::starEach ys X.env/\(backTo p2 (starEach ys X.env)).any (·.1)=false:=by
     cases es with
     |nil=>have:=chkEs_nil ha;cases this
     |cons z zs =>
      obtain⟨y',ys',e',h5,h6⟩:=chkEs_cons ha
      cases e'
      exact⟨star_of h5 _ _,plain_of h6 _ _⟩
    intro pins s τ H Q I w
    obtain⟨cl,co⟩:=ok.comp h1 I.ok
    refine pe_comp (te:=tD X.K C b) ok.calm ok.nd (ok.comp_nE h1) co (pi_rg g1 (ok.blt _ (by decide)) (sA ok es _ ha) hs.1 hs.2) (fun _ _ _ _=>pts_nil) (fun s H fp Ca=>(sB (ok.block h1 co s H fp Ca) b elt h3).1) (fun _=>rfl) pins s τ H Q I ?_
    obtain⟨σ,O,R,w⟩:=w
    unfold wpE at w
    refine⟨σ,O,R,wpEs_mono es (fun ds wd vs H1 s1 i1=>?_) w⟩
    obtain⟨lo,hi,st,e,c,hx,wd⟩:=rgD_of i1 wd
    refine⟨lo,hi,st,e,c,?_⟩
    refine comp_turns (R.mono s1) hx ?_ ?_ ?_ (compL_mono (f:=fun d Q=>wpE C b (σ ++ [some (.sh d)]) Q) (fun d _ _ hq=>wpE_mono b hq) _ (fun ys wy=>wy.mono s1) wd)
    ·intro j H _ hj
     rw[rangeD_length]at hj
     exact hj
    ·intro j H _ hj
     rw[rangeD_length]at hj
     exact hj
    ·intro j H v H' d _ y hd
     obtain⟨e1,e2⟩:=y
     have hj:j<(if lo<hi then (hi-lo-1) / st+1 else 0).toNat:=by
      rcases Nat.lt_or_ge j (if lo<hi then (hi-lo-1) / st+1 else 0).toNat with z|z
      ·exact z
      ·rw[List.getElem?_eq_none (by rw[rangeD_length];exact z)]at hd;cases hd
     rw[rangeD_get _ _ _ _ hj]at hd
     cases hd
     exact⟨e1,by rw[e2];exact int_is _⟩
  exact⟨p,pt_leaf p fun _=>rfl⟩
 |X,k,ok,.compE a b,e,h=>by
  rw[chkE]at h
  replace h:=opt_any h
  obtain⟨⟨elt,x,iter,sc⟩,hz,h⟩:=h
  obtain⟨px,pos,rfl⟩:=asComp_ hz
  simp only[Bool.and_eq_true,Bool.not_eq_true']at h
  obtain⟨⟨⟨h1,hn⟩,ha⟩,h3⟩:=h
  have p:PE X (.ListComp elt [⟨.Name x px,iter,[],0⟩] sc pos) (tD X.K C (.compE a b)):=by
   intro pins s τ H Q I w
   obtain⟨cl,co⟩:=ok.comp h1 I.ok
   refine pe_comp (te:=tD X.K C b) ok.calm ok.nd (ok.comp_nE h1) co (pi_seq (sB ok a iter ha).1) (fun _ _ _ _=>pts_nil) (fun s H fp Ca=>(sB (ok.block h1 co s H fp Ca) b elt h3).1) (folded_of hn _) pins s τ H Q I ?_
   obtain⟨σ,O,R,w⟩:=w
   unfold wpE at w
   refine⟨σ,O,R,wpE_mono a (fun d wd v H1 s1 i1=>?_) w⟩
   obtain⟨xs,e1,hx,wd⟩:=wd
   have wd':=compL_mono (f:=fun d Q=>wpE C b (σ ++ [some (.sh d)]) Q) (fun d _ _ hq=>wpE_mono b hq) _ (fun ys (wy:Wd X.K O H Q (.lst ys))=>wy.mono s1) wd
   obtain⟨J,hw,g1,g2,g3⟩:=walk_of e1 i1
   exact⟨J,hw,comp_turns (R.mono s1) hx (fun j H2 s2=>g1 j H2 O (minus_mono s2)) (fun j H2 s2=>g2 j H2 O (minus_mono s2)) (fun j H2 v H' d s2=>g3 j H2 O v H' d (minus_mono s2)) wd'⟩
  exact⟨p,pt_leaf p fun _=>rfl⟩
theorem sJ:∀ {X:Cx} {k:Ck} (ok:Ok X k C) (xs:List Ex) (es:List Expr),chkFs k xs es=true->PJ X C xs es
 |X,k,ok,[],es,h=>by
  have e:es=[]:=by rw[chkFs]at h;simpa using h
  subst e
  intro pins s τ H out Q I hl w
  obtain⟨σ,O,R,w⟩:=w
  unfold wpFs at w
  exact joinParts_nil ⟨.str _,H,I.tok _,⟨_,rfl⟩,w H (Same.refl H)⟩ (by show out.toArray.size<=_;rw[List.size_toArray];exact hl)
 |X,k,ok,x::xs,es,h=>by
  rw[chkFs,Bool.and_eq_true,Bool.or_eq_true]at h
  obtain⟨h1,h2⟩:=h
  cases es with
  |nil =>
   rcases h1 with h1|h1
   ·cases h1
   ·obtain⟨_,_,_,_,e⟩:=cstPart_ h1
    cases e
  |cons y ys =>
   have h1:((fmtV y).any fun y=>chkE k x y)=true\/cstPart x y=true:=h1
   have h2:chkFs k xs ys=true:=h2
   intro pins s τ H out Q I hl w
   obtain⟨σ,O,R,w⟩:=w
   unfold wpFs at w
   have h24:lim=sizeLine:=by rw[sizeLine_eq];rfl
   have ap:∀z:Str,((⟨out.toArray⟩:Str)++z)=⟨(out++z.cps.toList).toArray⟩:=fun z=>by
    show (⟨out.toArray++z.cps⟩:Str)=_
    congr 1
    apply Array.ext'
    simp
   have go:∀(z:Str) (u:Tok) (s1:Shared) (H1:Hp),Inv X pins τ H1 s1->Same H H1->out.length+z.length<=lim->wpFs C xs (out++z.cps.toList) σ (fun l=>∀H',Same H H'->Q (.str ⟨l.toArray⟩) H') ->
    (((⟨out.toArray⟩:Str)++z).length<=sizeLine/\wpAny (model X.prog X.w) X.A (joinParts ((⟨out.toArray⟩:Str)++z) (evalEach ys X.env)) (EP X pins τ Q) X.xe s1):=fun z u s1 H1 I1 sm hz wz=>by
    have hlen:(out++z.cps.toList).length<=sizeLine:=by
     have e:(out++z.cps.toList).length=out.length+z.length:=by simp[Str.length]
     lia
    rw[ap]
    refine⟨by show (out++z.cps.toList).toArray.size<=_;rw[List.size_toArray];exact hlen,?_⟩
    exact sJ ok xs ys h2 pins s1 τ H1 _ Q I1 hlen ⟨σ,O,R.mono sm,wpFs_mono xs (fun l q H' s'=>q H' (sm.trans s')) wz⟩
   show wpAny _ _ (joinParts _ (eval y X.env::evalEach ys X.env)) _ _ _
   refine joinParts_cons ?_
   rcases h1 with h1|h1
   ·obtain⟨v,hv,h3⟩:=opt_any h1
    obtain⟨p,rfl⟩:=fmtV_ hv
    let Q1:VK:=fun vv H1=>Same H H1/\((∃z,vv=.str z/\out.length+z.length<=lim/\wpFs C xs (out++z.cps.toList) σ fun l=>∀H',Same H H'->Q (.str ⟨l.toArray⟩) H')\/∃i:Int,vv=.int i/\i.natAbs.log2<1920/\out.length+(Str.ofString (toString i)).length<=lim/\wpFs C xs (out++(Str.ofString (toString i)).cps.toList) σ fun l=>∀H',Same H H'->Q (.str ⟨l.toArray⟩) H')
    have t1:tD X.K C x τ H Q1:=by
     refine⟨σ,O,R,wpE_mono x (fun d wd vv H1 s1 i1=>⟨s1,?_⟩) w⟩
     obtain⟨z,⟨e1,e2⟩,wd⟩:=wd
     unfold fmtS at e1
     split at e1
     ·cases e1
      exact .inl ⟨_,(is_str i1).1,e2,wd⟩
     ·split at e1
      ·next hb =>
       cases e1
       exact .inr ⟨_,is_int i1,hb,e2,wd⟩
      ·cases e1
     ·cases e1
    refine FormattedValue_plain (thn ((sB ok x v h3).1 pins s τ H Q1 I t1) fun u s1 q=>?_)
    obtain⟨vv,H1,I1,r1,sm,q1⟩:=q
    rcases q1 with⟨z,rfl,hz,wz⟩|⟨i,rfl,hb,hz,wz⟩
    ·obtain⟨t,rfl⟩:=r1
     exact formatField_str (fun t' tk=>go z t' _ H1 (I1.tok _) sm hz wz) (by lia)
    ·obtain⟨t,rfl⟩:=r1
     exact formatField_int_small hb (go _ 0 _ H1 (I1.tok _) sm hz wz)
   ·obtain⟨z,j,p,rfl,rfl⟩:=cstPart_ h1
    unfold wpE at w
    obtain⟨z',⟨e1,e2⟩,wz⟩:=w
    have e1:some z=some z':=e1
    cases e1
    exact Calls.Constant_str (go z 0 _ H (I.tok _) (Same.refl H) e2 wz)
theorem sA:∀ {X:Cx} {k:Ck} (ok:Ok X k C) (xs:List Ex) (es:List Expr),chkEs k xs es=true->PA X es (tDs X.K C xs)
 |X,k,ok,[],es,h=>by
  rw[chkEs_nil h]
  exact PA.imp (fun τ H Q ⟨σ,O,R,w⟩=>by unfold wpEs at w;exact w _ _ (Same.refl H) (by unfold Iss;rfl)) pa_nil
 |X,k,ok,x::xs,es,h=>by
  obtain⟨e,es,rfl,h1,h2⟩:=chkEs_cons h
  refine PA.imp (fun τ H Q w=>?_) (pa_cons (sB ok x e h1).1 (sA ok xs es h2) (star_of h1 _ _))
  obtain⟨σ,O,R,w⟩:=w
  unfold wpEs at w
  exact⟨σ,O,R,wpE_mono x (fun d wd v H1 s1 i1=>⟨σ,O,R.mono s1,wpEs_mono xs (fun ds wds vs H2 s2 i2=>wds _ _ (s1.trans s2) (by unfold Iss;exact⟨v,vs,rfl,Is.mono (minus_mono s2) d i1,i2⟩)) wd⟩) w⟩
end
noncomputable def isComp(e:Expr):Bool:=(asLC e).isSome
theorem comp_parts(ok:Ok X k C)(z:Ex)(e:Expr)(h:chkE k z e=true)(hc:isComp e=true):∃(x:Str) (px:Pos) (iter elt:Expr) (ifs:List Expr) (sc:Scope) (pos:Pos) (wi:TI) (tt:TT) (te:TE),e=.ListComp elt [⟨.Name x px,iter,ifs,0⟩] sc pos/\compCk k x sc=true/\PI X (.Name x px) iter wi/\(∀v,foldedSetIterable iter X.env v=pure v) /\
 (∀cl,CompOk X x sc cl->(∀s H fp Ca,PTs (cxComp X s H fp x sc cl Ca) ifs tt)/\∀s H fp Ca,PE (cxComp X s H fp x sc cl Ca) elt te)/\∀τ H Q,tD X.K C z τ H Q->tCompF wi tt te τ H Q:=by
 cases z with
 |compR es b =>
  rw[chkE]at h
  replace h:=opt_any h
  obtain⟨⟨elt,x,iter,sc⟩,hz,h⟩:=h
  obtain⟨px,pos,rfl⟩:=asComp_ hz
  simp only[Bool.and_eq_true]at h
  obtain⟨⟨h1,h2⟩,h3⟩:=h
  replace h2:=opt_any h2
  obtain⟨⟨f,args,p2⟩,hcn,h2⟩:=h2
  obtain⟨q,e2⟩:=asCallN_ hcn
  subst e2
  simp only[Bool.and_eq_true,decide_eq_true_eq,Bool.not_eq_true']at h2
  obtain⟨⟨⟨hf,hg⟩,hne⟩,ha⟩:=h2
  subst hf
  obtain⟨g1,_,_⟩:=ok.gl hg
  cases args with
  |nil=>simp at hne
  |cons y ys =>
   have hs:starEach (y::ys) X.env=(false,eval y X.env)::starEach ys X.env/\(backTo p2 (starEach ys X.env)).any (·.1)=false:=by
    cases es with
    |nil=>have:=chkEs_nil ha;cases this
    |cons z zs =>
     obtain⟨y',ys',e',h5,h6⟩:=chkEs_cons ha
     cases e'
     exact⟨star_of h5 _ _,plain_of h6 _ _⟩
   refine⟨x,px,_,elt,[],sc,pos,_,tYes,tD X.K C b,rfl,h1,pi_rg g1 (ok.blt _ (by decide)) (sA ok es _ ha) hs.1 hs.2,fun _=>rfl,fun cl co=>⟨fun _ _ _ _=>pts_nil,fun s H fp Ca=>(sB (ok.block h1 co s H fp Ca) b elt h3).1⟩,fun τ H Q w=>?_⟩
   obtain⟨σ,O,R,w⟩:=w
   unfold wpE at w
   refine⟨σ,O,R,wpEs_mono es (fun ds wd vs H1 s1 i1=>?_) w⟩
   obtain⟨lo,hi,st,e,c,hx,wd⟩:=rgD_of i1 wd
   refine⟨lo,hi,st,e,c,?_⟩
   refine comp_turns (R.mono s1) hx ?_ ?_ ?_ (compL_mono (f:=fun d Q=>wpE C b (σ ++ [some (.sh d)]) Q) (fun d _ _ hq=>wpE_mono b hq) _ (fun ys wy=>wy.mono s1) wd)
   ·intro j H _ hj
    rw[rangeD_length]at hj
    exact hj
   ·intro j H _ hj
    rw[rangeD_length]at hj
    exact hj
   ·intro j H v H' d _ y hd
    obtain⟨e1,e2⟩:=y
    have hj:j<(if lo<hi then (hi-lo-1) / st+1 else 0).toNat:=by
     rcases Nat.lt_or_ge j (if lo<hi then (hi-lo-1) / st+1 else 0).toNat with z|z
     ·exact z
     ·rw[List.getElem?_eq_none (by rw[rangeD_length];exact z)]at hd;cases hd
    rw[rangeD_get _ _ _ _ hj]at hd
    cases hd
    exact⟨e1,by rw[e2];exact int_is _⟩
 |compE a b =>
  rw[chkE]at h
  replace h:=opt_any h
  obtain⟨⟨elt,x,iter,sc⟩,hz,h⟩:=h
  obtain⟨px,pos,rfl⟩:=asComp_ hz
  simp only[Bool.and_eq_true,Bool.not_eq_true']at h
  obtain⟨⟨⟨h1,hn⟩,ha⟩,h3⟩:=h
  refine⟨x,px,iter,elt,[],sc,pos,_,tYes,tD X.K C b,rfl,h1,pi_seq (sB ok a iter ha).1,folded_of hn _,fun cl co=>⟨fun _ _ _ _=>pts_nil,fun s H fp Ca=>(sB (ok.block h1 co s H fp Ca) b elt h3).1⟩,fun τ H Q w=>?_⟩
  obtain⟨σ,O,R,w⟩:=w
  unfold wpE at w
  refine⟨σ,O,R,wpE_mono a (fun d wd v H1 s1 i1=>?_) w⟩
  obtain⟨xs,e1,hx,wd⟩:=wd
  have wd':=compL_mono (f:=fun d Q=>wpE C b (σ ++ [some (.sh d)]) Q) (fun d _ _ hq=>wpE_mono b hq) _ (fun ys (wy:Wd X.K O H Q (.lst ys))=>wy.mono s1) wd
  obtain⟨J,hw,g1,g2,g3⟩:=walk_of e1 i1
  exact⟨J,hw,comp_turns (R.mono s1) hx (fun j H2 s2=>g1 j H2 O (minus_mono s2)) (fun j H2 s2=>g2 j H2 O (minus_mono s2)) (fun j H2 v H' d s2=>g3 j H2 O v H' d (minus_mono s2)) wd'⟩
 |_ =>
  exfalso
  obtain⟨⟨a,b,c⟩,q⟩:=Option.isSome_iff_exists.mp hc
  obtain⟨p,rfl⟩:=asLC_ q
  first|exact Bool.noConfusion (show false=true from h)|(rw[chkE]at h;obtain⟨y,hy,_⟩:=opt_any h;first|cases hy|(simp[asCallN,asCall]at hy))
end
end Z
namespace Z
open PySem PySem.Spec PyProof.Rows L2
noncomputable def asAsg:Stmt->Option (List Expr×Expr)
 |.Assign ts v _=>some (ts,v)
 |_=>none
noncomputable def asRet:Stmt->Option (Option Expr)
 |.Return v _=>some v
 |_=>none
noncomputable def asIfS:Stmt->Option (Expr×List Stmt×List Stmt)
 |.If t x y _=>some (t,x,y)
 |_=>none
noncomputable def asWhl:Stmt->Option (Expr×List Stmt×List Stmt)
 |.While t x y _=>some (t,x,y)
 |_=>none
noncomputable def asFor:Stmt->Option (Expr×Expr×List Stmt×List Stmt)
 |.For t i x y _=>some (t,i,x,y)
 |_=>none
noncomputable def isBrk:Stmt->Bool
 |.Break _=>true
 |_=>false
noncomputable def isCnt:Stmt->Bool
 |.Continue _=>true
 |_=>false
noncomputable def asExp:Stmt->Option Expr
 |.Expr e _=>some e
 |_=>none
theorem asExp_{s:Stmt}{e:Expr}(h:asExp s=some e):∃p,s=.Expr e p:=by cases s<;>cases h;exact⟨_,rfl⟩
noncomputable def isShr:Sm->Bool
 |.shr _=>true
 |_=>false
theorem isShr_{s:Sm}(h:isShr s=true):∃i,s=.shr i:=by cases s<;>first|exact⟨_,rfl⟩|exact Bool.noConfusion h
theorem asAsg_{s:Stmt}{ts:List Expr}{v:Expr}(h:asAsg s=some (ts,v)):∃p,s=.Assign ts v p:=by cases s<;>cases h;exact⟨_,rfl⟩
theorem asRet_{s:Stmt}{v:Option Expr}(h:asRet s=some v):∃p,s=.Return v p:=by cases s<;>cases h;exact⟨_,rfl⟩
theorem asIfS_{s:Stmt}{t:Expr}{x y:List Stmt}(h:asIfS s=some (t,x,y)):∃p,s=.If t x y p:=by cases s<;>cases h;exact⟨_,rfl⟩
theorem asWhl_{s:Stmt}{t:Expr}{x y:List Stmt}(h:asWhl s=some (t,x,y)):∃p,s=.While t x y p:=by cases s<;>cases h;exact⟨_,rfl⟩
theorem asFor_{s:Stmt}{t i:Expr}{x y:List Stmt}(h:asFor s=some (t,i,x,y)):∃p,s=.For t i x y p:=by cases s<;>cases h;exact⟨_,rfl⟩
theorem isBrk_{s:Stmt}(h:isBrk s=true):∃p,s=.Break p:=by cases s<;>first|exact Bool.noConfusion h|exact⟨_,rfl⟩
theorem isCnt_{s:Stmt}(h:isCnt s=true):∃p,s=.Continue p:=by cases s<;>first|exact Bool.noConfusion h|exact⟨_,rfl⟩
noncomputable def sole(ts:List Expr):Option Expr:=if ts.length=1 then ts[0]? else none
theorem sole_{ts:List Expr}{t:Expr}(h:sole ts=some t):ts=[t]:=by
 unfold sole at h
 match ts with
 |[]=>simp at h
 |[a]=>simp at h;rw[h]
 |_::_::_=>simp at h
noncomputable def frE:Ex->Bool
 |.bin .add _ _=>true
 |.bi .list _=>true
 |_=>false
def frL:Ex->Bool
 |.compR _ _=>true
 |.compE _ _=>true
 |x=>frE x
mutual
noncomputable def chkS(k:Ck):Sm->Stmt->Bool
 |.set i e,s=>(asAsg s).any fun z=>(sole z.1).any fun t=>(asName t).any fun x=>k.loc i x&&chkE k e z.2
 |.ret e,s=>(asRet s).any fun v=>v.any fun v=>chkE k e v
 |.ite c a b,s=>(asIfS s).any fun z=>chkE k c z.1&&chkB k a z.2.1&&chkB k b z.2.2
 |.whl c b,s=>(asWhl s).any fun z=>z.2.2.isEmpty&&chkE k c z.1&&chkB k b z.2.1
 |.forR i es b,s=>(asFor s).any fun z=>(asName z.1).any fun x=>(asCallN z.2.1).any fun c=>z.2.2.2.isEmpty&&k.loc i x&&decide (c.1=("range":Str))&&k.gl c.1 && !c.2.1.isEmpty&&chkEs k es c.2.1&&chkB k b z.2.2.1
 |.brk,s=>isBrk s
 |.cnt,s=>isCnt s
 |.never,_=>true
 |.new i,s=>(asAsg s).any fun z=>(sole z.1).any fun t=>(asName t).any fun x=>k.loc i x&&(asLst z.2).any (·.isEmpty)
 |.app i e,s=>(asExp s).any fun z=>(asCall z).any fun c=>c.2.2.1.isEmpty&&decide (c.2.1.length=1)&&((asAttr c.1).any fun y=>decide (y.2.1=("append":Str))&&((asName y.1).any fun x=>k.loc i x)&&(y.2.2.endLine == c.2.2.2.line))&&chkE k e (c.2.1.getD 0 z)
 |.shr _,_=>false
 |.raise _,_=>false
 |.nop,_=>false
 |.seq _ _,_=>false
noncomputable def chkB(k:Ck):Sm->List Stmt->Bool
 |.nop,ss=>ss.isEmpty
 |.seq a b,ss=>if isShr a then chkB k b ss else !ss.isEmpty&&chkS k a (ss.getD 0 (.Pass ⟨0,0,0,0⟩))&&chkB k b (ss.drop 1)
 |_,_=>false
end
theorem chkB_shr{k:Ck}{a b:Sm}{ss:List Stmt}(hs:isShr a=true)(h:chkB k (.seq a b) ss=true):chkB k b ss=true:=by
 rw[chkB,if_pos hs]at h
 exact h
theorem chkB_cons{k:Ck}{a b:Sm}{ss:List Stmt}(hs:isShr a=false)(h:chkB k (.seq a b) ss=true):∃s r,ss=s::r/\chkS k a s=true/\chkB k b r=true:=by
 rw[chkB,if_neg (by rw[hs];decide)]at h
 cases ss with
 |nil=>simp at h
 |cons s r =>
  simp only[Bool.and_eq_true,List.drop_succ_cons,List.drop_zero]at h
  exact⟨s,r,rfl,h.1.2,h.2⟩
structure Good (O₀:List Addr) (H₀:Hp) (O:List Addr) (H:Hp):Prop where
 same:Same H₀ H
 sub:∀a∈O₀,a∈O
 new:∀a∈O,a∈O₀\/H₀ a=none
theorem Good.mono{O₀ O:List Addr}{H₀ H H':Hp}(g:Good O₀ H₀ O H)(e:Same H H'):Good O₀ H₀ O H':=⟨g.same.trans e,g.sub,g.new⟩
def MT(O₀:List Addr)(H:Hp)(σ:Sto)(τ:L2.St):Prop:=∀(i:Nat) (rows:List (List D)) (a:Addr) (as:List Addr),getS σ i=some (.ot rows)->τ[i]?=some (some (.ref a))->H a=some (.lst (as.map .ref))->a ∉ O₀/\∀b∈as,b ∉ O₀
theorem MT.step{O₀:List Addr}{H H':Hp}{σ σ':Sto}{τ τ':L2.St}(h:MT O₀ H σ τ)(hT:∀i rows,getS σ' i=some (.ot rows)->getS σ i=some (.ot rows)/\τ'[i]?=τ[i]?)
 (hH:∀i rows a,getS σ i=some (.ot rows)->τ[i]?=some (some (.ref a))->H' a=H a):MT O₀ H' σ' τ':=fun i rows a as g e t=>by
 obtain⟨g0,e0⟩:=hT i rows g
 rw[e0]at e
 rw[hH i rows a g0 e]at t
 exact h i rows a as g0 e t
theorem OT.same{K:PySem.W.Frag}{O:List Addr}{H H':Hp}{σ:Sto}{τ:L2.St}(h:OT K O H σ τ)(e:Same H H'):∀i rows a,getS σ i=some (.ot rows)->τ[i]?=some (some (.ref a))->H' a=H a:=fun i rows a g q=>by
 obtain⟨b,as,e1,t,_⟩:=h.1 i rows g
 rw[q]at e1
 cases e1
 rw[t.top]
 exact e _ _ t.top
structure RepS (O₀:List Addr) (K:PySem.W.Frag) (O:List Addr) (H:Hp) (σ:Sto) (τ:L2.St):Prop extends Reps K O H σ τ where
 mine:∀i ds a,getS σ i=some (.ow ds)->τ[i]?=some (some (.ref a))->a ∉ O₀
 mineT:MT O₀ H σ τ
theorem RepS.mono{O₀ O:List Addr}{K:PySem.W.Frag}{H H':Hp}{σ:Sto}{τ:L2.St}(r:RepS O₀ K O H σ τ)(e:Same H H'):RepS O₀ K O H' σ τ:=⟨r.toReps.mono e,r.mine,r.mineT.step (fun _ _ g=>⟨g,rfl⟩) (r.tt.same e)⟩
def lift(K:PySem.W.Frag)(O₀:List Addr)(H₀:Hp)(ex:XD->Prop)(D:Ends)(O:List Addr)(H:Hp):DE where
 xn:=ex
 nx σ':=∀τ' H' O',Good O₀ H₀ O' H'->Same (minus H O) (minus H' O')->RepS O₀ K O' H' σ' τ'->D.nx τ' H'
 rt d:=∀v H',Same H₀ H'->Is K (minus H' O₀) d v->D.rt v H'
 bk σ':=∀τ' H' O',Good O₀ H₀ O' H'->Same (minus H O) (minus H' O')->RepS O₀ K O' H' σ' τ'->D.bk τ' H'
 ct σ':=∀τ' H' O',Good O₀ H₀ O' H'->Same (minus H O) (minus H' O')->RepS O₀ K O' H' σ' τ'->D.ct τ' H'
 rf ds:=∀a H' vs,Same H₀ H'->H₀ a=none->H' a=some (.lst vs)->Iss K (minus H' (a::O₀)) ds vs->D.rt (.ref a) H'
 rg rows:=∀a as H',Same H₀ H'->(H₀ a=none/\∀b∈as,H₀ b=none)->OwT K (a::as++O₀) H' rows a as->D.rt (.ref a) H'
theorem lift_le{K:PySem.W.Frag}{O₀ O O':List Addr}{H₀ H H':Hp}{ex:XD->Prop}{D:Ends}(e:Same (minus H O) (minus H' O')):DE.le (lift K O₀ H₀ ex D O H) (lift K O₀ H₀ ex D O' H') where
 nx:=fun _ q τ' H'' O'' g s r=>q τ' H'' O'' g (e.trans s) r
 rt:=fun _ q=>q
 bk:=fun _ q τ' H'' O'' g s r=>q τ' H'' O'' g (e.trans s) r
 ct:=fun _ q τ' H'' O'' g s r=>q τ' H'' O'' g (e.trans s) r
 rf:=fun _ q=>q
def tS(K:PySem.W.Frag)(C:Cfg)(O₀:List Addr)(H₀:Hp)(ex:XD->Prop)(s:Sm):TS:=fun D τ H=>∃σ O,Good O₀ H₀ O H/\RepS O₀ K O H σ τ/\wpS C s (lift K O₀ H₀ ex D O H) σ
theorem setS_length(σ:Sto)(i:Nat)(v:Option Sl):(setS σ i v).length=σ.length:=setS_len σ i v
theorem getS_set(σ:Sto)(i j:Nat)(v:Option Sl):getS (setS σ i v) j=if i=j/\i<σ.length then v else getS σ j:=getS_set' σ i j v
section
variable {K:PySem.W.Frag} {O:List Addr} {H:Hp} {σ:Sto} {τ:L2.St}
theorem Reps.set(R:Reps K O H σ τ){i:Nat}{d:D}{v:V}(h:Is K (minus H O) d v):Reps K O H (setS σ i (some (.sh d))) (τ.set i (some v)) where
 len:=by rw[setS_length,List.length_set];exact R.len
 own:=R.own
 sh:=fun j e g=>by
  rw[getS_set]at g
  by_cases hj:i=j/\i<σ.length
  ·rw[if_pos hj]at g
   obtain⟨rfl,hl⟩:=hj
   cases g
   exact⟨v,by rw[List.getElem?_set_self (by rw[<- R.len];exact hl)],h⟩
  ·rw[if_neg hj]at g
   obtain⟨w,e1,e2⟩:=R.sh j e g
   refine⟨w,?_,e2⟩
   by_cases hij:i=j
   ·subst hij
    have:¬ i<τ.length:=by rw[<- R.len];lia
    rw[List.getElem?_eq_none (by lia)]at e1;cases e1
   ·rw[List.getElem?_set_ne hij];exact e1
 ow:=fun j ds g=>by
  rw[getS_set]at g
  by_cases hj:i=j/\i<σ.length
  ·rw[if_pos hj]at g;cases g
  ·rw[if_neg hj]at g
   obtain⟨a,vs,e1,e2⟩:=R.ow j ds g
   refine⟨a,vs,?_,e2⟩
   by_cases hij:i=j
   ·subst hij
    have:¬ i<τ.length:=by rw[<- R.len];lia
    rw[List.getElem?_eq_none (by lia)]at e1;cases e1
   ·rw[List.getElem?_set_ne hij];exact e1
 dj:=fun j l ds es hjl g1 g2=>by
  rw[getS_set]at g1 g2
  by_cases hj:i=j/\i<σ.length
  ·rw[if_pos hj]at g1;cases g1
  ·rw[if_neg hj]at g1
   by_cases hl:i=l/\i<σ.length
   ·rw[if_pos hl]at g2;cases g2
   ·rw[if_neg hl]at g2
    have hd:=R.dj j l ds es hjl g1 g2
    obtain⟨a,_,e1,_⟩:=R.ow j ds g1
    obtain⟨b,_,e2,_⟩:=R.ow l es g2
    have nj:i≠j:=fun z=>by
     subst z
     have:¬ i<τ.length:=by rw[<- R.len];lia
     rw[List.getElem?_eq_none (by lia)]at e1;cases e1
    have nl:i≠l:=fun z=>by
     subst z
     have:¬ i<τ.length:=by rw[<- R.len];lia
     rw[List.getElem?_eq_none (by lia)]at e2;cases e2
    rw[List.getElem?_set_ne nj,List.getElem?_set_ne nl]
    exact hd
 tt:=by
  refine R.tt.step (fun j rows g=>?_) (fun _ _ _ _ _ _ _ t=>t) fun _ _ _ _ j ds b _ _ g q=>?_
  ·rw[getS_set]at g
   by_cases hj:i=j/\i<σ.length
   ·rw[if_pos hj]at g;cases g
   ·rw[if_neg hj]at g
    obtain⟨a,as,e1,_⟩:=R.tt.1 j rows g
    have hij:i≠j:=fun z=>by
     subst z
     have:¬ i<τ.length:=by rw[<- R.len];lia
     rw[List.getElem?_eq_none (by lia)]at e1;cases e1
    exact⟨g,List.getElem?_set_ne hij⟩
  ·rw[getS_set]at g
   by_cases hj:i=j/\i<σ.length
   ·rw[if_pos hj]at g;cases g
   ·rw[if_neg hj]at g
    obtain⟨a,vs,e1,_⟩:=R.ow j ds g
    have hij:i≠j:=fun z=>by
     subst z
     have:¬ i<τ.length:=by rw[<- R.len];lia
     rw[List.getElem?_eq_none (by lia)]at e1;cases e1
    rw[List.getElem?_set_ne hij]at q
    exact .inl ⟨ds,g,q⟩
end
theorem set_at{τ:L2.St}{i j:Nat}{v w:Option V}(h:(τ.set i v)[j]?=some w):(i=j/\w=v)\/(i≠j/\τ[j]?=some w):=by
 by_cases hij:i=j
 ·subst hij
  rcases Nat.lt_or_ge i τ.length with z|z
  ·rw[List.getElem?_set_self z]at h;cases h;exact .inl ⟨rfl,rfl⟩
  ·rw[List.getElem?_eq_none (by rw[List.length_set];exact z)]at h;cases h
 ·rw[List.getElem?_set_ne hij]at h;exact .inr ⟨hij,h⟩
section
variable {K:PySem.W.Frag} {O₀ O:List Addr} {H H':Hp} {σ:Sto} {τ:L2.St}
theorem RepS.set(R:RepS O₀ K O H σ τ){i:Nat}{d:D}{v:V}(h:Is K (minus H O) d v):RepS O₀ K O H (setS σ i (some (.sh d))) (τ.set i (some v)):=by
 refine⟨R.toReps.set h,fun j ds a g e=>?_,R.mineT.step (fun j rows g=>?_) fun _ _ _ _ _=>rfl⟩
 rotate_left
 ·rw[getS_set]at g
  by_cases hj:i=j/\i<σ.length
  ·rw[if_pos hj]at g;cases g
  ·rw[if_neg hj]at g
   obtain⟨a,as,e1,_⟩:=R.tt.1 j rows g
   have hij:i≠j:=fun z=>by
    subst z
    have:¬ i<τ.length:=by rw[<- R.len];lia
    rw[List.getElem?_eq_none (by lia)]at e1;cases e1
   exact⟨g,List.getElem?_set_ne hij⟩
 rw[getS_set]at g
 by_cases hj:i=j/\i<σ.length
 ·rw[if_pos hj]at g;cases g
 ·rw[if_neg hj]at g
  rcases set_at e with⟨q,_⟩|⟨_,q⟩
  ·exfalso
   subst q
   obtain⟨_,_,e1,_⟩:=R.ow i ds g
   have:i<τ.length:=by
    rcases Nat.lt_or_ge i τ.length with z|z
    ·exact z
    ·rw[List.getElem?_eq_none z]at e1;cases e1
   exact hj ⟨rfl,by rw[R.len];exact this⟩
  ·exact R.mine j ds a g q
theorem Good.fresh{H₀:Hp}{a:Addr}(g:Good O₀ H₀ O H)(s:Same H H')(h:H a=none):Good O₀ H₀ (a::O) H':=by
 refine⟨g.same.trans s,fun b hb=>List.mem_cons_of_mem _ (g.sub b hb),fun b hb=>?_⟩
 rcases List.mem_cons.mp hb with rfl|hb
 ·right
  cases q:H₀ b with
  |none=>rfl
  |some o=>rw[g.same b o q]at h;cases h
 ·exact g.new b hb
theorem fresh_T{a:Addr}{xs:List D}{i:Nat}(hi:i<τ.length)(R:RepS O₀ K O H σ τ):∀j rows,getS (setS σ i (some (.ow xs))) j=some (.ot rows)->getS σ j=some (.ot rows)/\(τ.set i (some (.ref a)))[j]?=τ[j]?:=fun j rows g=>by
 rw[getS_set]at g
 by_cases hj:i=j/\i<σ.length
 ·rw[if_pos hj]at g;cases g
 ·rw[if_neg hj]at g
  have hij:i≠j:=fun z=>hj ⟨z,by rw[R.len];exact hi⟩
  exact⟨g,List.getElem?_set_ne hij⟩
theorem RepS.fresh{a:Addr}{vs:List V}{xs:List D}{i:Nat}(R:RepS O₀ K O H σ τ)(sub:∀b∈O₀,b∈O)(s:Same H H')(h:H a=none)(h1:H' a=some (.lst vs))(is:Iss K (minus H' (a::O)) xs vs)(hi:i<τ.length) :
 RepS O₀ K (a::O) H' (setS σ i (some (.ow xs))) (τ.set i (some (.ref a))) where
 len:=by rw[setS_length,List.length_set];exact R.len
 own:=fun b hb=>by
  rcases List.mem_cons.mp hb with rfl|hb
  ·rw[h1];exact fun z=>nomatch z
  ·exact(R.toReps.mono s).own b hb
 sh:=fun j d g=>by
  rw[getS_set]at g
  by_cases hj:i=j/\i<σ.length
  ·rw[if_pos hj]at g;cases g
  ·rw[if_neg hj]at g
   obtain⟨v,e1,e2⟩:=R.sh j d g
   have hij:i≠j:=fun z=>hj ⟨z,by rw[R.len];exact hi⟩
   exact⟨v,by rw[List.getElem?_set_ne hij];exact e1,Is.mono (same_fresh s h) d e2⟩
 ow:=fun j ds g=>by
  rw[getS_set]at g
  by_cases hj:i=j/\i<σ.length
  ·rw[if_pos hj]at g
   obtain⟨rfl,_⟩:=hj
   cases g
   exact⟨a,vs,List.getElem?_set_self hi,List.mem_cons_self ..,h1,is⟩
  ·rw[if_neg hj]at g
   obtain⟨b,ws,e1,e2,e3,e4⟩:=R.ow j ds g
   have hij:i≠j:=fun z=>hj ⟨z,by rw[R.len];exact hi⟩
   exact⟨b,ws,by rw[List.getElem?_set_ne hij];exact e1,List.mem_cons_of_mem _ e2,s _ _ e3,Iss.mono (same_fresh s h) ds e4⟩
 dj:=fun j l ds es hjl g1 g2=>by
  have key:∀j ds,i≠j->getS σ j=some (.ow ds)->τ[j]? ≠ some (some (.ref a)):=fun j ds _ g e=>by
   obtain⟨b,_,e1,e2,e3,_⟩:=R.ow j ds g
   rw[e1]at e
   cases e
   rw[h]at e3;cases e3
  rw[getS_set]at g1 g2
  by_cases hj:i=j/\i<σ.length
  ·obtain⟨rfl,_⟩:=hj
   rw[if_neg fun z=>hjl z.1]at g2
   rw[List.getElem?_set_self hi,List.getElem?_set_ne hjl]
   exact fun z=>key l es hjl g2 z.symm
  ·rw[if_neg hj]at g1
   have hij:i≠j:=fun z=>hj ⟨z,by rw[R.len];exact hi⟩
   by_cases hl:i=l/\i<σ.length
   ·obtain⟨rfl,_⟩:=hl
    rw[List.getElem?_set_self hi,List.getElem?_set_ne hij]
    exact key j ds hij g1
   ·rw[if_neg hl]at g2
    have hil:i≠l:=fun z=>hl ⟨z,by rw[R.len];exact hi⟩
    rw[List.getElem?_set_ne hij,List.getElem?_set_ne hil]
    exact R.dj j l ds es hjl g1 g2
 mine:=fun j ds b g e=>by
  rw[getS_set]at g
  rcases set_at e with⟨rfl,q⟩|⟨hij,q⟩
  ·cases q
   exact fun z=>R.own _ (sub _ z) h
  ·rw[if_neg fun z=>hij z.1]at g
   exact R.mine j ds b g q
 tt:=by
  refine R.tt.step (fresh_T hi R) (fun j rows b as g e d t=>⟨s _ _ t.top,t.nd,⟨List.mem_cons_of_mem _ t.inO.1,fun c hc=>List.mem_cons_of_mem _ (t.inO.2 c hc)⟩,t.rw.imp (same_fresh s h) fun c _ vs q=>s _ _ q⟩) fun _ _ b as j ds c _ t g q=>?_
  rw[getS_set]at g
  rcases set_at q with⟨rfl,q'⟩|⟨hij,q⟩
  ·cases q'
   refine .inr ⟨fun z=>?_,fun z=>?_⟩
   ·subst z;rw[t.top]at h;cases h
   ·obtain⟨_,e⟩:=t.rw.isL _ z
    rw[e]at h;cases h
  ·rw[if_neg fun z=>hij z.1]at g
   exact .inl ⟨ds,g,q⟩
 mineT:=R.mineT.step (fresh_T hi R) (R.tt.same s)
theorem minus_write{a:Addr}{o:HO}(h:a∈O):minus (upd H a o) O=minus H O:=by
 funext b
 unfold minus
 by_cases hb:b∈O
 ·rw[if_pos hb,if_pos hb]
 ·rw[if_neg hb,if_neg hb,upd_ne fun z=>hb (by rw[z];exact h)]
theorem Good.write{H₀:Hp}{a:Addr}{o:HO}(g:Good O₀ H₀ O H)(h:a∈O)(hn:a ∉ O₀):Good O₀ H₀ O (upd H a o):=by
 refine⟨fun b u q=>?_,g.sub,g.new⟩
 have h0:H₀ a=none:=(g.new a h).resolve_left hn
 rw[upd_ne fun z=>by subst z;rw[h0]at q;cases q]
 exact g.same b u q
theorem write_T{i:Nat}(es:List D):∀j rows,getS (setS σ i (some (.ow es))) j=some (.ot rows)->getS σ j=some (.ot rows)/\τ[j]?=τ[j]?:=fun j rows g=>by
 rw[getS_set]at g
 by_cases hj:i=j/\i<σ.length
 ·rw[if_pos hj]at g;cases g
 ·rw[if_neg hj]at g;exact⟨g,rfl⟩
theorem RepS.write{a:Addr}{vs ws:List V}{ds es:List D}{i:Nat}(R:RepS O₀ K O H σ τ)(g:getS σ i=some (.ow ds))(e1:τ[i]?=some (some (.ref a)))(e2:a∈O)(is:Iss K (minus H O) es ws) :
 RepS O₀ K O (upd H a (.lst ws)) (setS σ i (some (.ow es))) τ where
 len:=by rw[setS_length];exact R.len
 own:=fun b hb=>by
  by_cases z:b=a
  ·subst z;rw[upd_same];exact fun z=>nomatch z
  ·rw[upd_ne z];exact R.own b hb
 sh:=fun j d h=>by
  rw[getS_set]at h
  by_cases hj:i=j/\i<σ.length
  ·rw[if_pos hj]at h;cases h
  ·rw[if_neg hj]at h
   rw[minus_write e2]
   exact R.sh j d h
 ow:=fun j fs h=>by
  rw[getS_set]at h
  rw[minus_write e2]
  by_cases hj:i=j/\i<σ.length
  ·rw[if_pos hj]at h
   obtain⟨rfl,_⟩:=hj
   cases h
   exact⟨a,ws,e1,e2,upd_same ..,is⟩
  ·rw[if_neg hj]at h
   obtain⟨b,us,h1,h2,h3,h4⟩:=R.ow j fs h
   have hij:i≠j:=fun z=>hj ⟨z,by
    rw[R.len]
    rcases Nat.lt_or_ge i τ.length with q|q
    ·exact q
    ·rw[List.getElem?_eq_none q]at e1;cases e1⟩
   have hb:b≠a:=fun z=>by subst z;exact R.dj i j ds fs hij g h (e1.trans h1.symm)
   exact⟨b,us,h1,h2,by rw[upd_ne hb];exact h3,h4⟩
 dj:=fun j l fs gs hjl g1 g2=>by
  have old:∀j fs,getS (setS σ i (some (.ow es))) j=some (.ow fs)->∃fs',getS σ j=some (.ow fs'):=fun j fs h=>by
   rw[getS_set]at h
   by_cases hj:i=j/\i<σ.length
   ·obtain⟨rfl,_⟩:=hj;exact⟨_,g⟩
   ·rw[if_neg hj]at h;exact⟨_,h⟩
  obtain⟨_,k1⟩:=old j fs g1
  obtain⟨_,k2⟩:=old l gs g2
  exact R.dj j l _ _ hjl k1 k2
 mine:=fun j fs b h e=>by
  rw[getS_set]at h
  by_cases hj:i=j/\i<σ.length
  ·obtain⟨rfl,_⟩:=hj;exact R.mine i ds b g e
  ·rw[if_neg hj]at h;exact R.mine j fs b h e
 tt:=by
  refine R.tt.step (write_T es) (fun j rows b as q e d t=>?_) fun _ _ _ _ j fs c _ _ q e=>?_
  ·obtain⟨n1,n2⟩:=d i ds a g e1
   exact⟨by rw[upd_ne (Ne.symm n1)];exact t.top,t.nd,t.inO,t.rw.imp (by rw[minus_write e2];exact Same.refl _) fun c hc vs z=>by rw[upd_ne (show c≠a from fun y=>n2 (by rw[<- y];exact hc))];exact z⟩
  ·rw[getS_set]at q
   by_cases hj:i=j/\i<σ.length
   ·obtain⟨rfl,_⟩:=hj;exact .inl ⟨ds,g,e⟩
   ·rw[if_neg hj]at q;exact .inl ⟨fs,q,e⟩
 mineT:=R.mineT.step (write_T es) fun j rows b q e=>by
  obtain⟨b',as,e3,t,d⟩:=R.tt.1 j rows q
  rw[e]at e3
  cases e3
  exact upd_ne (Ne.symm (d i ds a g e1).1)
theorem RepS.share(R:RepS O₀ K O H σ τ){i:Nat}{ds:List D}{a:Addr}{vs:List V}(g:getS σ i=some (.ow ds))(e1:τ[i]?=some (some (.ref a)))(e3:H a=some (.lst vs))(e4:Iss K (minus H O) ds vs):RepS O₀ K (less O a) H (setS σ i (some (.sh (.lst ds)))) τ:=by
 refine⟨R.toReps.share g e1 e3 e4,fun j fs b h e=>?_,R.mineT.step (fun j rows q=>?_) fun _ _ _ _ _=>rfl⟩
 rotate_left
 ·rw[getS_set]at q
  by_cases hj:i=j/\i<σ.length
  ·rw[if_pos hj]at q;cases q
  ·rw[if_neg hj]at q;exact⟨q,rfl⟩
 rw[getS_set]at h
 by_cases hj:i=j/\i<σ.length
 ·rw[if_pos hj]at h;cases h
 ·rw[if_neg hj]at h;exact R.mine j fs b h e
theorem Good.share{H₀:Hp}{a:Addr}(g:Good O₀ H₀ O H)(hn:a ∉ O₀):Good O₀ H₀ (less O a) H :=
 ⟨g.same,fun b hb=>mem_less.mpr ⟨g.sub b hb,fun z=>hn (z ▸ hb)⟩,fun b hb=>g.new b (mem_less.mp hb).1⟩
end
section
variable {X:Cx} {k:Ck} {C:Cfg} {O₀:List Addr} {H₀:Hp}
theorem swaps_of{x:Ex}{e:Expr}(h:chkE k x e=true)(hc:isComp e=false)(t:Option Expr)(n:Nat)(env:Env):swapsWith e t n env=pure false:=by
 have p:=chk_plain h
 cases e<;>first|rfl|exact Bool.noConfusion p|exact Bool.noConfusion hc
theorem swaps_comp{elt:Expr}{gs:List Comprehension}{sc:Scope}{pos py:Pos}{y:Str}(n:Nat)(env:Env):∃b,swapsWith (.ListComp elt gs sc pos) (some (.Name y py)) n env=pure b:=⟨_,rfl⟩
structure OkS (X:Cx) (k:Ck) (C:Cfg):Prop extends Ok X k C where
 fn:∀x,X.fn x=true
end
end Z
namespace Z
open PySem PySem.Spec PyProof.Rows L2
def IsRv(h:Heap)(it l:Addr)(j:Int):Prop:=∃o,h.get? it=some o/\o.cls=.type "list_reverseiterator" /\ o.data=.fields #[.ref l,.int j 0]
theorem IsRv.ty{s:Shared}{it l:Addr}{j:Int}(x:IsRv s.heap it l j):s.TypeIs (.ref it) "list_reverseiterator":=let ⟨o,ho,hc,_⟩:=x;⟨o,ho,hc⟩
section
variable {prog:Program} {w:World} {A:Around} {E:Value->Shared->Prop} {s:Shared}
end
section
variable {prog:Program} {w:World} {A:Around} {E:Value->Shared->Prop} {s:Shared}
end
def tDL(K:PySem.W.Frag)(C:Cfg)(x:Ex):TE:=fun τ H Q=>∃σ O,Reps K O H σ τ/\wpE C x σ (isL fun xs=>WdF K O H Q (.lst xs))
def rCat(K:PySem.W.Frag):R2:=fun xv yv H Q=>∃O xs ys,(∀a∈O,H a≠none)/\Is K (minus H O) (.lst xs) xv/\Is K (minus H O) (.lst ys) yv/\xs.length+ys.length<=lim/\WdF K O H Q (.lst (xs++ys))
theorem op_catL{X:Cx}:OpR X (binaryOp .Add) (rCat X.K):=by
 intro pins s τ H x y v u Q I rx ry h
 obtain⟨O,xs,ys,ho,ix,iy,w⟩:=h
 obtain⟨a,vs,rfl,h1,h2⟩:=is_lst ix
 obtain⟨b,ws,rfl,h3,h4⟩:=is_lst iy
 cases rx
 cases ry
 exact cat_listsF I ho w ((minus_same H O).seq h1) ((minus_same H O).seq h3) h2 h4
theorem addD_isL{x y:D}{f:List D->Prop}(w:addD x y (isL f)):∃xs ys,x=.lst xs/\y=.lst ys/\xs.length+ys.length<=lim/\f (xs++ys):=by
 cases x<;>cases y<;>first|exact w.elim|exact w.2.elim|exact⟨_,_,rfl,rfl,w.1,w.2⟩
theorem new_mine{K:PySem.W.Frag}{O:List Addr}{H:Hp}{Q:VK}{xs:List D}{vs:List V}{l:Addr}(w:WdF K O H Q (.lst xs))(hl:H l=none)(i:Iss K (minus H O) xs vs):Q (.ref l) (upd H l (.lst vs)) :=
 w xs l _ vs rfl (same_upd hl _) hl (upd_same ..) (Iss.mono (same_fresh (same_upd hl _) hl) xs i)
theorem sF{X:Cx}{k:Ck}{C:Cfg}(ok:Ok X k C)(x:Ex)(e:Expr)(hf:frE x=true)(h:chkE k x e=true):PE X e (tDL X.K C x):=by
 cases x with
 |bin o a b =>
  cases o<;>first|exact Bool.noConfusion hf|skip
  rw[chkE]at h
  replace h:=opt_any h
  obtain⟨⟨l,op,r⟩,hx,h⟩:=h
  obtain⟨pos,rfl⟩:=asBin_ hx
  rw[Bool.and_eq_true,Bool.and_eq_true]at h
  have hop:op=.Add:=by
   have:=h.1.1
   cases op<;>first|rfl|exact Bool.noConfusion this
  subst hop
  refine PE.imp (fun τ H Q w=>?_) (pe_op op_catL (sB ok a _ h.1.2).1 (sB ok b _ h.2).1)
  obtain⟨σ,O,R,w⟩:=w
  unfold wpE at w
  refine⟨σ,O,R,wpE_mono a (fun x wx xv H1 s1 i1=>⟨σ,O,R.mono s1,wpE_mono b (fun y wy yv H2 s2 i2=>?_) wx⟩) w⟩
  obtain⟨xs,ys,rfl,rfl,hl,q⟩:=addD_isL wy
  exact⟨O,xs,ys,(R.mono (s1.trans s2)).own,Is.mono (minus_mono s2) _ i1,i2,hl,q.mono (s1.trans s2)⟩
 |bi f es =>
  cases f<;>first|exact Bool.noConfusion hf|skip
  rw[chkE]at h
  replace h:=opt_any h
  obtain⟨⟨x,xs,pos⟩,hx,h⟩:=h
  obtain⟨q,rfl⟩:=asCallN_ hx
  simp only[Bool.and_eq_true,decide_eq_true_eq]at h
  obtain⟨⟨⟨h1,h2⟩,hne⟩,h4⟩:=h
  match xs,hne,h1,h4 with
  |y::ys,_,h1,h4 =>
   subst h1
   obtain⟨g1,g2,g3⟩:=ok.gl h2
   have hs:starEach (y::ys) X.env=(false,eval y X.env)::starEach ys X.env/\(backTo pos (starEach ys X.env)).any (·.1)=false:=by
    cases es with
    |nil=>have:=chkEs_nil h4;cases this
    |cons z zs =>
     obtain⟨y',ys',e',h5,h6⟩:=chkEs_cons h4
     cases e'
     exact⟨star_of h5 _ _,plain_of h6 _ _⟩
   refine PE.imp (fun τ H Q w=>?_) (pe_callTy (T:="list") call_list_of g1 (ok.blt _ (bi_blt .list)) PyProof.Rows.boot_list (sA ok es _ h4) g3 g2 hs.1 hs.2)
   obtain⟨σ,O,R,w⟩:=w
   unfold wpE at w
   refine⟨σ,O,R,wpEs_mono es (fun ds wd vs H1 s1 i1=>?_) w⟩
   obtain⟨x,rfl,wd⟩:=one1_of wd
   obtain⟨v,rfl,j1⟩:=iss1 i1
   clear i1
   cases x<;>first|exact wd.elim|skip
   ·obtain⟨a,vs,rfl,h1,h2⟩:=is_tup j1
    exact⟨a,vs,rfl,.inr ((sqt_mono (minus_same H1 O) h1)),fun l hl=>new_mine (WdF.mono s1 wd) hl h2⟩
   ·obtain⟨a,vs,rfl,h1,h2⟩:=is_lst j1
    exact⟨a,vs,rfl,.inl ((minus_same H1 O).seq h1),fun l hl=>new_mine (WdF.mono s1 wd) hl h2⟩
 |_=>exact Bool.noConfusion hf
end Z
namespace Z
open PySem PySem.Spec PyProof.Rows L2
section
variable {X:Cx} {k:Ck} {C:Cfg}
theorem sL(ok:Ok X k C)(x:Ex)(e:Expr)(hf:frL x=true)(h:chkE k x e=true):PE X e (tDL X.K C x):=by
 cases x with
 |compE a b =>
  rw[chkE]at h
  replace h:=opt_any h
  obtain⟨⟨elt,x,iter,sc⟩,hz,h⟩:=h
  obtain⟨px,pos,rfl⟩:=asComp_ hz
  simp only[Bool.and_eq_true,Bool.not_eq_true']at h
  obtain⟨⟨⟨h1,hn⟩,ha⟩,h3⟩:=h
  intro pins s τ H Q I w
  obtain⟨cl,co⟩:=ok.comp h1 I.ok
  refine pe_comp (te:=tD X.K C b) ok.calm ok.nd (ok.comp_nE h1) co (pi_seq (sB ok a iter ha).1) (fun _ _ _ _=>pts_nil) (fun s H fp Ca=>(sB (ok.block h1 co s H fp Ca) b elt h3).1) (folded_of hn _) pins s τ H Q I ?_
  obtain⟨σ,O,R,w⟩:=w
  unfold wpE at w
  refine⟨σ,O,R,wpE_mono a (fun d wd v H1 s1 i1=>?_) w⟩
  obtain⟨xs,e1,hx,wd⟩:=wd
  have wd':=compL_mono (f:=fun d Q=>wpE C b (σ ++ [some (.sh d)]) Q) (fun d _ _ hq=>wpE_mono b hq) _ (fun ys (wy:WdF X.K O H Q (.lst ys))=>WdF.mono s1 wy) wd
  obtain⟨J,hw,g1,g2,g3⟩:=walk_of e1 i1
  exact⟨J,hw,comp_turnsGF (R.mono s1) hx (fun j H2 s2=>g1 j H2 O (minus_mono s2)) (fun j H2 s2=>g2 j H2 O (minus_mono s2)) (fun j H2 v H' d s2 y e=>by obtain⟨q,i⟩:=g3 j H2 O v H' d (minus_mono s2) y e;subst q;exact⟨Same.refl _,i⟩) wd'⟩
 |compR es b =>
  rw[chkE]at h
  replace h:=opt_any h
  obtain⟨⟨elt,x,iter,sc⟩,hz,h⟩:=h
  obtain⟨px,pos,rfl⟩:=asComp_ hz
  simp only[Bool.and_eq_true]at h
  obtain⟨⟨h1,h2⟩,h3⟩:=h
  replace h2:=opt_any h2
  obtain⟨⟨f,args,p2⟩,hcn,h2⟩:=h2
  obtain⟨q,e2⟩:=asCallN_ hcn
  subst e2
  simp only[Bool.and_eq_true,decide_eq_true_eq,Bool.not_eq_true']at h2
  obtain⟨⟨⟨hf,hg⟩,hne⟩,ha⟩:=h2
  subst hf
  obtain⟨g1,_,_⟩:=ok.gl hg
  cases args with
  |nil=>simp at hne
  |cons y ys =>
   have hs:starEach (y::ys) X.env=(false,eval y X.env)::starEach ys X.env/\(backTo p2 (starEach ys X.env)).any (·.1)=false:=by
    cases es with
    |nil=>have:=chkEs_nil ha;cases this
    |cons z zs =>
     obtain⟨y',ys',e',h5,h6⟩:=chkEs_cons ha
     cases e'
     exact⟨star_of h5 _ _,plain_of h6 _ _⟩
   intro pins s τ H Q I w
   obtain⟨cl,co⟩:=ok.comp h1 I.ok
   refine pe_comp (te:=tD X.K C b) ok.calm ok.nd (ok.comp_nE h1) co (pi_rg g1 (ok.blt _ (by decide)) (sA ok es _ ha) hs.1 hs.2) (fun _ _ _ _=>pts_nil) (fun s H fp Ca=>(sB (ok.block h1 co s H fp Ca) b elt h3).1) (fun _=>rfl) pins s τ H Q I ?_
   obtain⟨σ,O,R,w⟩:=w
   unfold wpE at w
   refine⟨σ,O,R,wpEs_mono es (fun ds wd vs H1 s1 i1=>?_) w⟩
   obtain⟨lo,hi,st,e,c,hx,wd⟩:=rgD_of i1 wd
   refine⟨lo,hi,st,e,c,?_⟩
   refine comp_turnsGF (R.mono s1) hx ?_ ?_ ?_ (compL_mono (f:=fun d Q=>wpE C b (σ ++ [some (.sh d)]) Q) (fun d _ _ hq=>wpE_mono b hq) _ (fun ys (wy:WdF X.K O H Q (.lst ys))=>WdF.mono s1 wy) wd)
   ·intro j H _ hj
    rw[rangeD_length]at hj
    exact hj
   ·intro j H _ hj
    rw[rangeD_length]at hj
    exact hj
   ·intro j H v H' d _ y hd
    obtain⟨e1,e2⟩:=y
    have hj:j<(if lo<hi then (hi-lo-1) / st+1 else 0).toNat:=by
     rcases Nat.lt_or_ge j (if lo<hi then (hi-lo-1) / st+1 else 0).toNat with z|z
     ·exact z
     ·rw[List.getElem?_eq_none (by rw[rangeD_length];exact z)]at hd;cases hd
    rw[rangeD_get _ _ _ _ hj]at hd
    cases hd
    subst e1
    exact⟨Same.refl _,by rw[e2];exact int_is _⟩
 |bin o a b=>exact sF ok _ e hf h
 |bi f es=>exact sF ok _ e hf h
 |_=>exact Bool.noConfusion hf
variable {K:PySem.W.Frag} {O₀ O O':List Addr} {H H' H₀:Hp} {σ:Sto} {τ:L2.St}
end
end Z
namespace Z
open PySem PySem.Spec PySem.Calls PyProof.Rows PySem.W L2
def exAt(D:Addr)(σ:L2.St)(H:Hp):Prop:=∃ea oe u,σ[0]?=some (some (.ref ea))/\H ea=some (.frz oe u)/\oe.cls=.ref D
def tIx(D:Addr)(b:Bool):TE:=fun σ H Q=>exAt D σ H/\Q (.bl b) H
def isiOk(e:Expr)(c:Str):Bool:=(asCallN e).any fun z=>decide (z.1=("isinstance":Str))&&decide (z.2.1.length=2)&&decide (asName (z.2.1.getD 0 e)=some ("_law_e":Str))&&decide (asName (z.2.1.getD 1 e)=some c)
theorem isiOk_{e:Expr}{c:Str}(h:isiOk e c=true):∃q qe qc p,e=.Call (.Name "isinstance" q) [.Name "_law_e" qe,.Name c qc] [] p:=by
 unfold isiOk at h
 obtain⟨⟨x,xs,pos⟩,hx,h⟩:=opt_any h
 obtain⟨q,rfl⟩:=asCallN_ hx
 simp only[Bool.and_eq_true,decide_eq_true_eq]at h
 obtain⟨⟨⟨h1,h2⟩,h3⟩,h4⟩:=h
 subst h1
 obtain⟨a,b,rfl⟩:=two_list h2
 obtain⟨qe,rfl⟩:=asName_ (show asName a=_ from h3)
 obtain⟨qc,rfl⟩:=asName_ (show asName b=_ from h4)
 exact⟨q,qe,qc,pos,rfl⟩
def isisOk:List Str->List Expr->Bool
 |[],es=>es.isEmpty
 |c::cs,es=>!es.isEmpty&&isiOk (es.getD 0 (.Name "" ⟨0,0,0,0⟩)) c&&isisOk cs (es.drop 1)
def flagsOk(cs:List Str)(e:Expr):Bool:=(asLst e).any fun es=>isisOk cs es
def setOk(s:Stmt)(p:Expr->Bool):Bool:=(asAsg s).any fun z=>(sole z.1).any fun t=>decide (asName t=some ("_law_flags":Str))&&p z.2
def moreOk(cs:List Str)(e:Expr):Bool:=(asBin e).any fun z=>decide (z.2.1=.Add)&&decide (asName z.1=some ("_law_flags":Str))&&flagsOk cs z.2.2
theorem setOk_{s:Stmt}{p:Expr->Bool}(h:setOk s p=true):∃q v pos,s=.Assign [.Name "_law_flags" q] v pos/\p v=true:=by
 unfold setOk at h
 replace h:=opt_any h
 obtain⟨⟨ts,v⟩,ha,h⟩:=h
 obtain⟨pos,rfl⟩:=asAsg_ ha
 replace h:=opt_any h
 obtain⟨t,ht,h⟩:=h
 have et:=sole_ ht
 simp only at et
 subst et
 simp only[Bool.and_eq_true,decide_eq_true_eq]at h
 obtain⟨q,rfl⟩:=asName_ h.1
 exact⟨q,v,pos,rfl,h.2⟩
structure AX (X:Cx):Prop where
 n0:X.N[0]?=some ("_law_e":Str)
 n1:X.N[1]?=some ("_law_flags":Str)
 nd:X.N.Nodup
 l0:X.env.scope.names.lookup ("_law_e":Str)=some .local
 l1:X.env.scope.names.lookup ("_law_flags":Str)=some .local
 gl:∀c∈("isinstance":Str)::("TrueError":Str)::("ValueError":Str)::names12,Gl X c
 fn:∀x,X.fn x=true
section
variable {X:Cx} {D:Addr} {y:Str}
theorem call_isx(e:ExcIn X.K D):CallR X (.builtin "isinstance") (fun vs H Q=>∃ea oe u cv cu b,vs=[.ref ea,cv]/\H ea=some (.frz oe u)/\oe.cls=.ref D/\(∀u',RelV cv u'->u'=cu)/\kitOne X.K (.ref D) cu=some b/\Q (.bl b) H):=by
 rintro pins s τ H vs us Q I r ⟨ea,oe,u,cv,cu,b,rfl,he,hc,hr,hk,q⟩
 obtain⟨u1,u2,rfl,r1,r2⟩:=vals2 r
 cases hr u2 r2
 cases (show u1=Value.ref ea from r1)
 have ob:=I.hok ea _ he
 exact PySem.W.kia_one (kitx_exc e) I.kIn ⟨oe,ob.1,hc⟩ hk (fun z=>nomatch z) fun tk=>⟨.bl b,H,I.tok tk,rfl,q⟩
theorem pe_isx(a:AX X)(F:AloneF X.K X.mg y D){c:Str}(hc:c∈names12){q qe qc p:Pos}:PE X (.Call (.Name "isinstance" q) [.Name "_law_e" qe,.Name c qc] [] p) (tIx D (decide (c=y))):=by
 obtain⟨Ca,hm,hk⟩:=F.cls c hc
 have g:=a.gl c (by simp[hc])
 have hdb:(c == ("__debug__":Str))=false:=by
  have:∀c∈names12,(c == ("__debug__":Str))=false:=by decide +kernel
  exact this c hc
 have pn:PE X (.Name c qc) (tC (.ref Ca)):=pe_glob g hm rfl hdb
 refine PE.imp (fun τ H Q w=>?_) (pe_callB (call_isx F.ex) (a.gl _ (by simp)) F.isi PyProof.Rows.boot_isinstance (pa_cons (pe_var a.n0 (.inl a.l0)) (pa_cons pn pa_nil)))
 obtain⟨⟨ea,oe,u,h1,h2,h3⟩,w⟩:=w
 exact⟨_,h1,ea,oe,u,_,_,_,rfl,h2,h3,fun u' r=>r,hk,w⟩
theorem pe_isT(a:AX X)(F:AloneF X.K X.mg y D){q qe qc p:Pos}:PE X (.Call (.Name "isinstance" q) [.Name "_law_e" qe,.Name "TrueError" qc] [] p) (tIx D true):=by
 obtain⟨Ca,hm,hk⟩:=F.te
 have pn:PE X (.Name "TrueError" qc) (tC (.ref Ca)):=pe_glob (a.gl _ (by simp)) hm rfl
 refine PE.imp (fun τ H Q w=>?_) (pe_callB (call_isx F.ex) (a.gl _ (by simp)) F.isi PyProof.Rows.boot_isinstance (pa_cons (pe_var a.n0 (.inl a.l0)) (pa_cons pn pa_nil)))
 obtain⟨⟨ea,oe,u,h1,h2,h3⟩,w⟩:=w
 exact⟨_,h1,ea,oe,u,_,_,_,rfl,h2,h3,fun u' r=>r,hk,w⟩
theorem pe_isV(a:AX X)(F:AloneF X.K X.mg y D){q qe qc p:Pos}:PE X (.Call (.Name "isinstance" q) [.Name "_law_e" qe,.Name "ValueError" qc] [] p) (tIx D true):=by
 have pn:PE X (.Name "ValueError" qc) (tC (.ty "ValueError")):=pe_bltn (a.gl _ (by simp)) F.vn PyProof.Rows.Boot.«ValueError» rfl
 refine PE.imp (fun τ H Q w=>?_) (pe_callB (call_isx F.ex) (a.gl _ (by simp)) F.isi PyProof.Rows.boot_isinstance (pa_cons (pe_var a.n0 (.inl a.l0)) (pa_cons pn pa_nil)))
 obtain⟨⟨ea,oe,u,h1,h2,h3⟩,w⟩:=w
 exact⟨_,h1,ea,oe,u,_,_,_,rfl,h2,h3,fun u' r=>r,F.ve,w⟩
def fl(y:Str)(cs:List Str):List Bool:=cs.map fun c=>decide (c=y)
theorem pa_isis(a:AX X)(F:AloneF X.K X.mg y D):∀(cs:List Str) (es:List Expr),isisOk cs es=true->(∀c∈cs,c∈names12)->PA X es (fun σ H Q=>exAt D σ H/\Q ((fl y cs).map .bl) H)
 |[],es,h,_=>by
  have e:es=[]:=by rw[isisOk]at h;simpa using h
  subst e
  exact PA.imp (fun τ H Q w=>w.2) pa_nil
 |c::cs,es,h,hc=>by
  rw[isisOk]at h
  cases es with
  |nil=>simp at h
  |cons e r =>
   simp only[Bool.and_eq_true,List.drop_succ_cons,List.drop_zero]at h
   obtain⟨q,qe,qc,p,rfl⟩:=isiOk_ (show isiOk e c=true from h.1.2)
   refine PA.imp (fun τ H Q w=>?_) (pa_cons (pe_isx a F (hc c (List.mem_cons_self ..))) (pa_isis a F cs r h.2 fun z hz=>hc z (List.mem_cons_of_mem _ hz)))
   exact⟨w.1,w.1,w.2⟩
theorem pe_flags(a:AX X)(F:AloneF X.K X.mg y D){cs:List Str}{es:List Expr}{p:Pos}(h:isisOk cs es=true)(hc:∀c∈cs,c∈names12)(hl:cs.length<=100) :
 PE X (.List es p) (fun σ H Q=>exAt D σ H/\∀p H',Same H H'->SqL X.K H' p ((fl y cs).map .bl)->Q (.ref p) H'):=by
 refine PE.imp (fun τ H Q w=>?_) (pe_lst (pa_isis a F cs es h hc))
 refine⟨w.1,?_,fun p hp=>w.2 p _ (same_upd hp _) (SqL.of (upd_same ..))⟩
 have:100<=sizeLine:=by decide
 simp[fl]
 exact Nat.le_trans hl this
theorem iss_bl{K:Frag}{S:Hp}:∀bs:List Bool,Iss K S (bs.map Z.D.bl) (bs.map V.bl)
 |[]=>by unfold Iss;rfl
 |b::bs=>by
  simp only[List.map_cons]
  unfold Iss
  exact⟨_,_,rfl,bl_is b,iss_bl bs⟩
theorem iss_bl_{K:Frag}{S:Hp}:∀ {bs:List Bool} {vs:List V},Iss K S (bs.map Z.D.bl) vs->vs=bs.map V.bl
 |[],vs,h=>by unfold Iss at h;exact h
 |b::bs,vs,h=>by
  simp only[List.map_cons]at h
  unfold Iss at h
  obtain⟨v,r,rfl,h1,h2⟩:=h
  rw[is_bl h1,iss_bl_ h2];rfl
theorem op_cat:OpR X (binaryOp .Add) (fun x z H Q=>∃(p1 p2:Addr) (bs cs:List Bool),x=.ref p1/\z=.ref p2/\SqL X.K H p1 (bs.map .bl)/\SqL X.K H p2 (cs.map .bl)/\bs.length+cs.length<=lim/\∀p H',Same H H'->SqL X.K H' p ((bs++cs).map .bl)->Q (.ref p) H'):=by
 rintro pins s τ H x z v u Q I rx ry ⟨p1,p2,bs,cs,rfl,rfl,h1,h2,hl,q⟩
 cases (show v=Value.ref p1 from rx)
 cases (show u=Value.ref p2 from ry)
 refine cat_lists (O:=[]) (xs:=bs.map Z.D.bl) (ys:=cs.map Z.D.bl) I (fun _ z=>nomatch z) ⟨by simpa using hl,fun v H' sm i=>?_⟩ h1 h2 (iss_bl bs) (iss_bl cs)
 rw[<- List.map_append]at i
 obtain⟨p,vs,rfl,sq,is⟩:=is_lst i
 rw[iss_bl_ is]at sq
 exact q p H' sm ((minus_same _ _).seq sq)
theorem pe_more(a:AX X)(F:AloneF X.K X.mg y D){cs:List Str}{es:List Expr}{p q pos:Pos}(h:isisOk cs es=true)(hc:∀c∈cs,c∈names12)(hl:cs.length<=100) :
 PE X (.BinOp (.Name "_law_flags" q) .Add (.List es p) pos) (fun σ H Q=>exAt D σ H/\∃(p1:Addr) (bs:List Bool),σ[1]?=some (some (.ref p1))/\SqL X.K H p1 (bs.map .bl)/\bs.length<=1000/\∀p H',Same H H'->SqL X.K H' p ((bs++fl y cs).map .bl)->Q (.ref p) H'):=by
 refine PE.imp (fun τ H Q w=>?_) (pe_op op_cat (pe_var a.n1 (.inl a.l1)) (pe_flags a F h hc hl))
 obtain⟨hx,p1,bs,e1,sq,hb,w⟩:=w
 refine⟨.ref p1,e1,hx,fun p2 H' sm sq2=>⟨p1,p2,bs,fl y cs,rfl,rfl,sm.seq sq,sq2,?_,fun p H2 s2 sq3=>w p H2 (sm.trans s2) sq3⟩⟩
 simp[fl]
 unfold lim
 lia
theorem reads_bl{h:Heap}:∀ {bs:List Bool} {its:List Value},Vals (bs.map V.bl) its->∃as,ReadsAll h its (bs.map PyData.bool) as
 |[],its,r=>by cases r;exact⟨_,.nil⟩
 |b::bs,its,r=>by
  cases r with
  |cons r1 r2 =>
   cases r1
   obtain⟨as,ra⟩:=reads_bl r2
   exact⟨_,.cons (.bool b) ra⟩
theorem count_bl(bs:List Bool):Spec.countIn (.bool true) (bs.map PyData.bool)=(bs.countP id:Nat):=by
 induction bs with
 |nil=>rfl
 |cons b bs ih =>
  rw[List.map_cons,Spec.countIn,ih]
  cases b
  ·rw[show (if Spec.same (PyData.bool false) (PyData.bool true)=true then (1:Int) else 0)=0 from rfl]
   simp
  ·rw[show (if Spec.same (PyData.bool true) (PyData.bool true)=true then (1:Int) else 0)=1 from rfl]
   simp
   lia
theorem mt_count:MtR X "list.count" (fun x xs H Q=>∃(p:Addr) (bs:List Bool),x=.ref p/\xs=[.bl true]/\SqL X.K H p (bs.map .bl)/\Q (.int (bs.countP id:Nat)) H):=by
 rintro pins s τ H x xs v us Q I rx rs ⟨p,bs,rfl,rfl,sq,q⟩
 cases (show v=Value.ref p from rx)
 obtain⟨u,rfl,ru⟩:=rs.one
 cases (show u=Value.bool true from ru)
 obtain⟨its,r,pl,_⟩:=I.list sq
 obtain⟨as,ra⟩:=reads_bl (h:=s.heap) r
 refine count_list_bools pl.isList ra (by simp[Shape.has]) ?_
 rw[count_bl]
 exact⟨.int _,H,I.tok _,⟨_,rfl⟩,q⟩
def endOk(s:Stmt):Bool:=(asRet s).any fun v=>v.any fun v=>(asBool v).any fun z=>decide (z.1=.And)&&decide (z.2.1.length=3)&&isiOk (z.2.1.getD 1 v) "TrueError" && isiOk (z.2.1.getD 2 v) "ValueError" &&
 (asCmp (z.2.1.getD 0 v)).any fun c=>decide (c.2.1=[.Eq])&&decide (c.2.2.length=1)&&decide (asConst (c.2.2.getD 0 v)=some (.int 1)) &&
  (asCall c.1).any fun f=>f.2.2.1.isEmpty&&decide (f.2.1.length=1)&&decide (asConst (f.2.1.getD 0 v)=some (.bool true))&&(asAttr f.1).any fun o=>decide (o.2.1=("count":Str))&&decide (asName o.1=some ("_law_flags":Str))&&(o.2.2.endLine == f.2.2.2.line)
theorem endOk_{s:Stmt}(h:endOk s=true):∃e1 e2 q ap cp j p j2 p2 p3 p4 p5,s=.Return (some (.BoolOp .And [.Compare (.Call (.Attribute (.Name "_law_flags" q) "count" ap) [.Constant (.bool true) j p] [] cp) [.Eq] [.Constant (.int 1) j2 p2] p3,e1,e2] p4)) p5 /\
 isiOk e1 "TrueError"=true/\isiOk e2 "ValueError"=true/\(ap.endLine == cp.line)=true:=by
 unfold endOk at h
 replace h:=opt_any h
 obtain⟨ov,h1,h⟩:=h
 obtain⟨p5,rfl⟩:=asRet_ h1
 replace h:=opt_any h
 obtain⟨v,rfl,h⟩:=h
 replace h:=opt_any h
 obtain⟨⟨op,vs,p4⟩,h2,h⟩:=h
 have e2:=asBool_ h2
 subst e2
 simp only[Bool.and_eq_true,decide_eq_true_eq]at h
 obtain⟨⟨⟨⟨h3,h4⟩,h5⟩,h6⟩,h⟩:=h
 subst h3
 match vs,h4,h5,h6,h with
 |[c,e1,e2],_,h5,h6,h =>
  replace h:=opt_any h
  obtain⟨⟨l,ops,rs⟩,h7,h⟩:=h
  obtain⟨p3,e7⟩:=asCmp_ (show asCmp c=_ from h7)
  subst e7
  simp only[Bool.and_eq_true,decide_eq_true_eq]at h
  obtain⟨⟨⟨h8,h9⟩,h10⟩,h⟩:=h
  subst h8
  obtain⟨r,rfl⟩:=one_list h9
  obtain⟨j2,p2,rfl⟩:=asConst_ (show asConst r=_ from h10)
  replace h:=opt_any h
  obtain⟨⟨f,xs,ks,cp⟩,h11,h⟩:=h
  have e11:=asCall_ h11
  subst e11
  simp only[Bool.and_eq_true,decide_eq_true_eq,List.isEmpty_iff]at h
  obtain⟨⟨⟨h12,h13⟩,h14⟩,h⟩:=h
  subst h12
  obtain⟨x,rfl⟩:=one_list h13
  obtain⟨j,p,rfl⟩:=asConst_ (show asConst x=_ from h14)
  replace h:=opt_any h
  obtain⟨⟨o,nm,ap⟩,h15,h⟩:=h
  have e15:=asAttr_ h15
  subst e15
  simp only[Bool.and_eq_true,decide_eq_true_eq]at h
  obtain⟨⟨h16,h17⟩,h18⟩:=h
  subst h16
  obtain⟨q,rfl⟩:=asName_ h17
  exact⟨e1,e2,q,ap,cp,j,p,j2,p2,p3,p4,p5,rfl,h5,h6,h18⟩
def aloneOk:List Stmt->Bool
 |[s1,s2,s3,s4]=>setOk s1 (flagsOk (names12.take 4))&&setOk s2 (moreOk ((names12.drop 4).take 4))&&setOk s3 (moreOk (names12.drop 8))&&endOk s4
 |_=>false
theorem sum1{y:Str}(h:y∈names12):(((fl y (names12.take 4)++fl y ((names12.drop 4).take 4))++fl y (names12.drop 8)).countP id)=1:=by
 have:∀y∈names12,(((fl y (names12.take 4)++fl y ((names12.drop 4).take 4))++fl y (names12.drop 8)).countP id)=1:=by decide +kernel
 exact this y h
theorem exAt_set{σ:L2.St}{H H':Hp}{v:V}{D:Addr}(h:exAt D σ H)(sm:Same H H'):exAt D (σ.set 1 (some v)) H':=by
 obtain⟨ea,oe,u,h1,h2,h3⟩:=h
 exact⟨ea,oe,u,by rw[List.getElem?_set_ne (by decide)];exact h1,sm _ _ h2,h3⟩
theorem pss_alone(a:AX X)(F:AloneF X.K X.mg y D)(hN:1<X.N.length){body:List Stmt}(h:aloneOk body=true):PSs X body (fun E σ H=>exAt D σ H/\σ.length=X.N.length/\∀H',Same H H'->E.rt (.bl true) H'):=by
 unfold aloneOk at h
 split at h
 ·next s1 s2 s3 s4 =>
  simp only[Bool.and_eq_true]at h
  obtain⟨⟨⟨h1,h2⟩,h3⟩,h4⟩:=h
  obtain⟨q1,v1,p1,rfl,g1⟩:=setOk_ h1
  obtain⟨q2,v2,p2,rfl,g2⟩:=setOk_ h2
  obtain⟨q3,v3,p3,rfl,g3⟩:=setOk_ h3
  obtain⟨e1,e2,q,ap,cp,j,p,j2,p2',p3',p4,p5,rfl,i1,i2,hl⟩:=endOk_ h4
  obtain⟨es1,f1,g1⟩:=opt_any g1
  obtain⟨lp1,rfl⟩:=asLst_ f1
  replace g2:=opt_any g2
  obtain⟨⟨l2,o2,r2⟩,b2,g2⟩:=g2
  obtain⟨bp2,rfl⟩:=asBin_ b2
  simp only[Bool.and_eq_true,decide_eq_true_eq]at g2
  obtain⟨⟨z2,y2⟩,g2⟩:=g2
  subst z2
  obtain⟨nq2,rfl⟩:=asName_ y2
  replace g2:=opt_any g2
  obtain⟨es2,f2,g2⟩:=g2
  obtain⟨lp2,rfl⟩:=asLst_ f2
  replace g3:=opt_any g3
  obtain⟨⟨l3,o3,r3⟩,b3,g3⟩:=g3
  obtain⟨bp3,rfl⟩:=asBin_ b3
  simp only[Bool.and_eq_true,decide_eq_true_eq]at g3
  obtain⟨⟨z3,y3⟩,g3⟩:=g3
  subst z3
  obtain⟨nq3,rfl⟩:=asName_ y3
  replace g3:=opt_any g3
  obtain⟨es3,f3,g3⟩:=g3
  obtain⟨lp3,rfl⟩:=asLst_ f3
  obtain⟨a1,a2,a3,a4,rfl⟩:=isiOk_ i1
  obtain⟨b1',b2',b3',b4',rfl⟩:=isiOk_ i2
  have m1:∀c∈names12.take 4,c∈names12:=fun c hc=>List.mem_of_mem_take hc
  have m2:∀c∈(names12.drop 4).take 4,c∈names12:=fun c hc=>List.mem_of_mem_drop (List.mem_of_mem_take hc)
  have m3:∀c∈names12.drop 8,c∈names12:=fun c hc=>List.mem_of_mem_drop hc
  refine PSs.imp (fun E σ H w=>?_) (pss_cons (ps_set a.nd a.n1 (.inl a.l1) (pe_flags a F g1 m1 (by decide)) rfl (.inl (a.fn _))) (pss_cons (ps_set a.nd a.n1 (.inl a.l1) (pe_more a F g2 m2 (by decide)) rfl (.inl (a.fn _))) (pss_cons (ps_set a.nd a.n1 (.inl a.l1) (pe_more a F g3 m3 (by decide)) rfl (.inl (a.fn _))) (pss_cons
   (ps_ret (pe_and (pe_cmpR op_eq (pe_bm PySem.F.plainAttrs_list PySem.F.slot_list_count PySem.F.type_list_count mt_count (pe_var a.n1 (.inl a.l1)) (pa_cons pe_bl pa_nil) rfl rfl hl) pe_int (nomark _)) (pe_and (pe_isT a F) (pe_one (pe_isV a F))))) pss_nil))))
  obtain⟨hx,hln,w⟩:=w
  have h1l:1<σ.length:=by rw[hln];exact hN
  refine⟨hx,fun p1 H1 s1 sq1=>?_⟩
  refine⟨exAt_set hx s1,p1,_,List.getElem?_set_self h1l,sq1,by simp[fl,names12],fun p2 H2 s2 sq2=>?_⟩
  refine⟨exAt_set (exAt_set hx s1) s2,p2,_,List.getElem?_set_self (by rw[List.length_set];exact h1l),sq2,by simp[fl,names12],fun p3 H3 s3 sq3=>?_⟩
  have hx3:=exAt_set (v:=.ref p3) (exAt_set (v:=.ref p2) (exAt_set (v:=.ref p1) hx s1) s2) s3
  refine⟨.ref p3,List.getElem?_set_self (by rw[List.length_set,List.length_set];exact h1l),.inl ⟨rfl,_,sq3⟩,p3,_,rfl,rfl,sq3,?_⟩
  rw[sum1 F.mem]
  refine⟨rfl,true,rfl,?_⟩
  rw[if_pos rfl]
  refine⟨hx3,true,rfl,?_⟩
  rw[if_pos rfl]
  exact⟨hx3,w H3 ((s1.trans s2).trans s3)⟩
 ·cases h
end
end Z
namespace Z
open PySem PySem.Spec PyProof.Rows L2
section
variable {X:Cx} {k:Ck} {C:Cfg} {O₀:List Addr} {H₀:Hp} {ex:XD->Prop}
theorem setS_out:∀ {σ:Sto} {i:Nat} (v:Option Sl),σ.length<=i->setS σ i v=σ
 |[],i,v,_=>rfl
 |x::r,0,v,h=>by simp at h
 |x::r,i+1,v,h=>by simp only[setS];rw[setS_out v (by simpa using h)]
theorem for_turnsG{J:It}{xs:List D}{S:Hp}{i:Nat}{body:Sm}{D:Ends}{τ:L2.St}{H1:Hp}{σ:Sto}{O1:List Addr}(g1:Good O₀ H₀ O1 H1)(R1:RepS O₀ X.K O1 H1 σ τ)
 (hgo:∀j H O,Same (minus H1 O1) (minus H O)->j<xs.length->J.go j H) (hst:∀j H O,Same (minus H1 O1) (minus H O)->xs.length<=j->J.stop j H)
 (hy:∀j H O v H' d,(∀a∈O,H a≠none)->Same (minus H1 O1) (minus H O)->J.yld j H v H'->xs[j]?=some d->Same H H'/\Is X.K (minus H' O) d v)
 (w:forL (fun K σ=>wpS C body K σ) i (lift X.K O₀ H₀ ex D O1 H1) xs σ) :
 ∃W:Nat->Nat->L2.St->Hp->Prop,(∃m,W 0 m τ H1)/\∀j m τ H,W j m τ H->(J.stop j H/\D.nx τ H)\/(J.go j H/\∃N:L2.St->Hp->Prop,(∀τ' H',N τ' H'->∃m',m'<m/\W (j+1) m' τ' H') /\
  ∀x H',J.yld j H x H'->gName i x τ H' fun τ2 H2=>tS X.K C O₀ H₀ ex body { D with nx:=N,ct:=N,bk:=D.nx } τ2 H2):=by
 refine⟨fun j m τ H=>m=xs.length-j/\j<=xs.length/\∃σ O,Good O₀ H₀ O H/\Same (minus H1 O1) (minus H O)/\RepS O₀ X.K O H σ τ/\forL (fun K σ=>wpS C body K σ) i (lift X.K O₀ H₀ ex D O1 H1) (xs.drop j) σ,
  ⟨_,rfl,Nat.zero_le _,σ,O1,g1,Same.refl _,R1,by simpa using w⟩,?_⟩
 rintro j m τ H ⟨rfl,hj,σ,O,g,sm,R,w⟩
 by_cases hlt:j<xs.length
 ·refine .inr ⟨hgo j H O sm hlt,fun τ' H'=>j+1<=xs.length/\∃σ O,Good O₀ H₀ O H'/\Same (minus H1 O1) (minus H' O)/\RepS O₀ X.K O H' σ τ'/\forL (fun K σ=>wpS C body K σ) i (lift X.K O₀ H₀ ex D O1 H1) (xs.drop (j+1)) σ,
   fun τ' H' ⟨h1,h2⟩=>⟨xs.length-(j+1),by lia,rfl,h1,h2⟩,fun x H' y=>?_⟩
  obtain⟨e,is⟩:=hy j H O x H' xs[j] R.own sm y (List.getElem?_eq_getElem hlt)
  rw[List.drop_eq_getElem_cons hlt]at w
  rw[forL]at w
  refine⟨_,O,g.mono e,(R.mono e).set is,wpS_mono body ?_ w⟩
  exact⟨fun σ' q τ' H' O' g' s' r'=>⟨hlt,σ',O',g',(sm.trans (minus_mono e)).trans s',r',q⟩,fun _ q=>q,fun σ' q τ' H' O' g' s' r'=>q τ' H' O' g' ((sm.trans (minus_mono e)).trans s') r',fun σ' q τ' H' O' g' s' r'=>⟨hlt,σ',O',g',(sm.trans (minus_mono e)).trans s',r',q⟩,fun _ q=>q,fun _ q=>q,fun _ q=>q⟩
 ·have e:j=xs.length:=by lia
  subst e
  refine .inl ⟨hst _ H O sm (Nat.le_refl _),?_⟩
  rw[List.drop_length]at w
  exact w τ H O g sm R
theorem for_turns{J:It}{xs:List D}{S:Hp}{i:Nat}{body:Sm}{D:Ends}{τ:L2.St}{H1:Hp}{σ:Sto}{O1:List Addr}(g1:Good O₀ H₀ O1 H1)(R1:RepS O₀ X.K O1 H1 σ τ)
 (hgo:∀j H O,Same (minus H1 O1) (minus H O)->j<xs.length->J.go j H) (hst:∀j H O,Same (minus H1 O1) (minus H O)->xs.length<=j->J.stop j H)
 (hy:∀j H O v H' d,Same (minus H1 O1) (minus H O)->J.yld j H v H'->xs[j]?=some d->H'=H/\Is X.K (minus H O) d v)
 (w:forL (fun K σ=>wpS C body K σ) i (lift X.K O₀ H₀ ex D O1 H1) xs σ) :
 ∃W:Nat->Nat->L2.St->Hp->Prop,(∃m,W 0 m τ H1)/\∀j m τ H,W j m τ H->(J.stop j H/\D.nx τ H)\/(J.go j H/\∃N:L2.St->Hp->Prop,(∀τ' H',N τ' H'->∃m',m'<m/\W (j+1) m' τ' H') /\
  ∀x H',J.yld j H x H'->gName i x τ H' fun τ2 H2=>tS X.K C O₀ H₀ ex body { D with nx:=N,ct:=N,bk:=D.nx } τ2 H2) :=
 for_turnsG (S:=S) g1 R1 hgo hst (fun j H O v H' d _ s y e=>by obtain⟨q,i⟩:=hy j H O v H' d s y e;subst q;exact⟨Same.refl _,i⟩) w
theorem shr_tS{K:PySem.W.Frag}{C:Cfg}{O₀:List Addr}{H₀:Hp}{ex:XD->Prop}{a b:Sm}{D:Ends}{τ:L2.St}{H:Hp}(hs:isShr a=true)(w:tS K C O₀ H₀ ex (.seq a b) D τ H):tS K C O₀ H₀ ex b D τ H:=by
 obtain⟨i,e⟩:=isShr_ hs
 obtain⟨σ,O,g,R,w⟩:=w
 unfold wpS at w
 subst e
 unfold wpS at w
 cases gs:getS σ i with
 |none=>rw[gs]at w;exact w.elim
 |some u =>
  rw[gs]at w
  cases u with
  |sh d=>exact w.elim
  |ot _=>exact w.elim
  |ow ds =>
   obtain⟨a,vs,e1,e2,e3,e4⟩:=R.ow i ds gs
   exact⟨_,_,g.share (R.mine i ds a gs e1),R.share gs e1 e3 e4,wpS_mono b (lift_le (minus_less fun x hx=>(mem_less.mp hx).1)) w⟩
mutual
theorem sS(ok:OkS X k C):∀(s:Sm) (st:Stmt),chkS k s st=true->PS X st (tS X.K C O₀ H₀ ex s)
 |.nop,st,h=>by rw[chkS]at h;cases h
 |.seq a b,st,h=>by rw[chkS]at h;cases h
 |.set i e,st,h=>by
  rw[chkS]at h
  replace h:=opt_any h
  obtain⟨⟨ts,v⟩,ha,h⟩:=h
  obtain⟨pos,rfl⟩:=asAsg_ ha
  replace h:=opt_any h
  obtain⟨t,ht,h⟩:=h
  have et:=sole_ ht
  simp only at et
  subst et
  replace h:=opt_any h
  obtain⟨x,hx,h⟩:=h
  obtain⟨p,rfl⟩:=asName_ hx
  ·rw[Bool.and_eq_true]at h
   obtain⟨h1,h2,h3,h4⟩:=ok.vis h.1
   have plain:swapsWith v (some (.Name x p)) pos.line X.env=pure false->PS X (.Assign [.Name x p] v pos) (tS X.K C O₀ H₀ ex (.set i e)):=fun hsw=>by
    refine PS.imp (fun D τ H w=>?_) (ps_set ok.nd h1 h2 (sB ok.toOk e v h.2).1 hsw (.inl (ok.fn _)))
    obtain⟨σ,O,g,R,w⟩:=w
    unfold wpS at w
    exact⟨σ,O,R.toReps,wpE_mono e (fun d wd v H1 s1 i1=>wd _ H1 O (g.mono s1) (minus_mono s1) ((R.mono s1).set i1)) w⟩
   cases hq:isComp v with
   |false=>exact plain (swaps_of h.2 hq _ _ _)
   |true =>
    obtain⟨y,py,iter,elt,ifs,sc,ps,wi,tt,te,rfl,hck,hpi,hfo,hel,hco⟩:=comp_parts ok.toOk e v h.2 hq
    obtain⟨b,hb⟩:=swaps_comp (elt:=elt) (gs:=[⟨.Name y py,iter,ifs,0⟩]) (sc:=sc) (pos:=ps) (py:=p) (y:=x) pos.line X.env
    cases b with
    |false=>exact plain hb
    |true =>
     intro pins s τ H D I w
     obtain⟨cl,co⟩:=ok.toOk.comp hck I.ok
     refine ps_comp ok.calm ok.nd (ok.toOk.comp_nE hck) co hpi (hel cl co).1 (hel cl co).2 hfo hb h1 h2 (.inl (ok.fn _)) pins s τ H D I (hco τ H _ ?_)
     obtain⟨σ,O,g,R,w⟩:=w
     unfold wpS at w
     exact⟨σ,O,R.toReps,wpE_mono e (fun d wd v H1 s1 i1=>wd _ H1 O (g.mono s1) (minus_mono s1) ((R.mono s1).set i1)) w⟩
 |.ret e,st,h=>by
  rw[chkS]at h
  replace h:=opt_any h
  obtain⟨ov,ho,h⟩:=h
  replace h:=opt_any h
  obtain⟨v,hv,h⟩:=h
  subst hv
  obtain⟨pos,rfl⟩:=asRet_ ho
  ·refine PS.imp (fun D τ H w=>?_) (ps_ret (sB ok.toOk e v h).1)
   obtain⟨σ,O,g,R,w⟩:=w
   unfold wpS at w
   exact⟨σ,O,R.toReps,wpE_mono e (fun d wd v H1 s1 i1=>wd v H1 (g.same.trans s1) (Is.mono (minus_less g.sub) d i1)) w⟩
 |.ite c a b,st,h=>by
  rw[chkS]at h
  replace h:=opt_any h
  obtain⟨⟨t,x,y⟩,hz,h⟩:=h
  obtain⟨pos,rfl⟩:=asIfS_ hz
  simp only[Bool.and_eq_true]at h
  refine PS.imp (fun D τ H w=>?_) (ps_if (sB ok.toOk c t h.1.1).2 (sK ok a x h.1.2) (sK ok b y h.2))
  obtain⟨σ,O,g,R,w⟩:=w
  unfold wpS at w
  refine⟨σ,O,R.toReps,wpE_mono c (fun d=>isB_mono fun t wt H1 s1=>?_) w⟩
  cases t with
  |true=>exact⟨σ,O,g.mono s1,R.mono s1,wpS_mono a (lift_le (minus_mono s1)) wt⟩
  |false=>exact⟨σ,O,g.mono s1,R.mono s1,wpS_mono b (lift_le (minus_mono s1)) wt⟩
 |.whl c b,st,h=>by
  rw[chkS]at h
  replace h:=opt_any h
  obtain⟨⟨t,x,oe⟩,hz,h⟩:=h
  obtain⟨pos,rfl⟩:=asWhl_ hz
  simp only[Bool.and_eq_true,List.isEmpty_iff]at h
  obtain⟨⟨he,h1⟩,h2⟩:=h
  subst he
  ·have h:chkE k c t=true/\chkB k b x=true:=⟨h1,h2⟩
   refine PS.imp (fun D τ H w=>?_) (ps_while (by rw[ok.xe];exact PassesOwn.never) (sB ok.toOk c t h.1).2 (sK ok b x h.2))
   obtain⟨σ,O,g,R,w⟩:=w
   unfold wpS at w
   obtain⟨W,⟨m,w0⟩,turn⟩:=w
   refine⟨fun m τ' H'=>∃σ' O',Good O₀ H₀ O' H'/\Same (minus H O) (minus H' O')/\RepS O₀ X.K O' H' σ' τ'/\W m σ',⟨m,σ,O,g,Same.refl _,R,w0⟩,?_⟩
   rintro m τ1 H1 ⟨σ1,O1,g1,s1,R1,w1⟩
   refine⟨σ1,O1,R1.toReps,wpE_mono c (fun d=>isB_mono fun t wt H2 s2=>?_) (turn m σ1 w1)⟩
   have s12:Same (minus H O) (minus H2 O1):=s1.trans (minus_mono s2)
   cases t with
   |true =>
    refine⟨fun τ' H'=>∃m',m'<m/\∃σ' O',Good O₀ H₀ O' H'/\Same (minus H O) (minus H' O')/\RepS O₀ X.K O' H' σ' τ'/\W m' σ',fun τ' H' q=>q,σ1,O1,g1.mono s2,R1.mono s2,wpS_mono b ?_ wt⟩
    exact⟨fun σ' ⟨m',l,q⟩ τ' H' O' g' s' r'=>⟨m',l,σ',O',g',s12.trans s',r',q⟩,fun _ q=>q,fun σ' q τ' H' O' g' s' r'=>q τ' H' O' g' (s12.trans s') r',fun σ' ⟨m',l,q⟩ τ' H' O' g' s' r'=>⟨m',l,σ',O',g',s12.trans s',r',q⟩,fun _ q=>q,fun _ q=>q,fun _ q=>q⟩
   |false=>exact wt τ1 H2 O1 (g1.mono s2) s12 (R1.mono s2)
 |.forR i es b,st,h=>by
  rw[chkS]at h
  replace h:=opt_any h
  obtain⟨⟨tg,it,body,oe⟩,hz,h⟩:=h
  obtain⟨pos,rfl⟩:=asFor_ hz
  replace h:=opt_any h
  obtain⟨x,hxn,h⟩:=h
  obtain⟨p,e1⟩:=asName_ hxn
  clear hxn
  simp only at e1
  subst e1
  replace h:=opt_any h
  obtain⟨⟨f,args,p2⟩,hc,h⟩:=h
  obtain⟨q,e2⟩:=asCallN_ hc
  simp only at e2
  subst e2
  simp only[Bool.and_eq_true,decide_eq_true_eq,List.isEmpty_iff]at h
  obtain⟨⟨⟨⟨⟨⟨he,hx⟩,hf⟩,hg⟩,hne⟩,ha⟩,hb⟩:=h
  subst he hf
  ·skip
   obtain⟨h1,h2,h3,h4⟩:=ok.vis hx
   obtain⟨g1,_,_⟩:=ok.gl hg
   cases args with
   |nil=>simp at hne
   |cons y ys =>
    have hs:starEach (y::ys) X.env=(false,eval y X.env)::starEach ys X.env/\(backTo p2 (starEach ys X.env)).any (·.1)=false:=by
     cases es with
     |nil=>have:=chkEs_nil ha;cases this
     |cons z zs =>
      obtain⟨y',ys',e',h5,h6⟩:=chkEs_cons ha
      cases e'
      exact⟨star_of h5 _ _,plain_of h6 _ _⟩
    refine PS.imp (fun D τ H w=>?_) (ps_for (by rw[ok.xe];exact PassesOwn.never) ok.calm (pi_rg g1 (ok.blt _ (by decide)) (sA ok.toOk es _ ha) hs.1 hs.2) (pg_name ok.nd h1 h2 (.inl (ok.fn _))) (sK ok b body hb) (fun _=>rfl))
    obtain⟨σ,O,g,R,w⟩:=w
    unfold wpS at w
    refine⟨σ,O,R.toReps,wpEs_mono es (fun ds wd vs H1 s1 i1=>?_) w⟩
    obtain⟨lo,hi,st,e,c,wd⟩:=rgD_of i1 wd
    refine⟨lo,hi,st,e,c,?_⟩
    refine for_turns (S:=H1) (g.mono s1) (R.mono s1) (xs:=rangeD lo st (if lo<hi then (hi-lo-1) / st+1 else 0).toNat) ?_ ?_ ?_ (forL_mono (body:=fun K σ=>wpS C b K σ) (fun K K' σ h w=>wpS_mono b h w) (lift_le (minus_mono s1)) _ wd)
    ·intro j H O _ hj
     rw[rangeD_length]at hj
     exact hj
    ·intro j H O _ hj
     rw[rangeD_length]at hj
     exact hj
    ·intro j H O v H' d _ y hd
     obtain⟨e1,e2⟩:=y
     have hj:j<(if lo<hi then (hi-lo-1) / st+1 else 0).toNat:=by
      rcases Nat.lt_or_ge j (if lo<hi then (hi-lo-1) / st+1 else 0).toNat with z|z
      ·exact z
      ·rw[List.getElem?_eq_none (by rw[rangeD_length];exact z)]at hd;cases hd
     rw[rangeD_get _ _ _ _ hj]at hd
     cases hd
     exact⟨e1,by rw[e2];exact int_is _⟩
 |.brk,st,h=>by
  rw[chkS]at h
  obtain⟨pos,rfl⟩:=isBrk_ h
  refine PS.imp (fun D τ H w=>?_) ps_break
  obtain⟨σ,O,g,R,w⟩:=w
  unfold wpS at w
  exact w τ H O g (Same.refl _) R
 |.cnt,st,h=>by
  rw[chkS]at h
  obtain⟨pos,rfl⟩:=isCnt_ h
  refine PS.imp (fun D τ H w=>?_) ps_continue
  obtain⟨σ,O,g,R,w⟩:=w
  unfold wpS at w
  exact w τ H O g (Same.refl _) R
 |.never,st,h=>by
  refine PS.imp (fun D τ H w=>?_) ps_never
  obtain⟨σ,O,g,R,w⟩:=w
  unfold wpS at w
  exact w
 |.new i,st,h=>by
  rw[chkS]at h
  replace h:=opt_any h
  obtain⟨⟨ts,v⟩,ha,h⟩:=h
  obtain⟨pos,rfl⟩:=asAsg_ ha
  replace h:=opt_any h
  obtain⟨t,ht,h⟩:=h
  have et:=sole_ ht
  simp only at et
  subst et
  replace h:=opt_any h
  obtain⟨x,hx,h⟩:=h
  obtain⟨p,rfl⟩:=asName_ hx
  rw[Bool.and_eq_true]at h
  obtain⟨h1,h2,h3,h4⟩:=ok.vis h.1
  obtain⟨es,he,h5⟩:=opt_any h.2
  have hes:es=[]:=by simpa using h5
  subst hes
  obtain⟨lp,e2⟩:=asLst_ he
  simp only at e2
  subst e2
  refine PS.imp (fun D τ H w=>?_) (ps_set ok.nd h1 h2 (pe_lst pa_nil) rfl (.inl (ok.fn _)))
  obtain⟨σ,O,g,R,w⟩:=w
  unfold wpS at w
  refine⟨by decide,fun l hl=>?_⟩
  have hi:i<τ.length\/τ.length<=i:=Nat.lt_or_ge ..
  have s1:Same H (upd H l (.lst [])):=same_upd hl _
  rcases hi with hi|hi
  ·exact w _ _ (l::O) (g.fresh s1 hl) (same_fresh s1 hl) (R.fresh g.sub s1 hl (upd_same ..) (by unfold Iss;rfl) hi)
  ·have e1:setS σ i (some (.ow []))=σ:=setS_out _ (by rw[R.len];exact hi)
   have e2:τ.set i (some (.ref l))=τ:=List.set_eq_of_length_le hi
   rw[e1]at w
   show D.nx (τ.set i (some (.ref l))) _
   rw[e2]
   exact w _ _ O (g.mono s1) (minus_mono s1) (R.mono s1)
 |.app i e,st,h=>by
  rw[chkS]at h
  replace h:=opt_any h
  obtain⟨z,hz,h⟩:=h
  obtain⟨pos,rfl⟩:=asExp_ hz
  replace h:=opt_any h
  obtain⟨⟨fe,xs,ks,cp⟩,hc,h⟩:=h
  have ee:=asCall_ hc
  subst ee
  simp only[Bool.and_eq_true,decide_eq_true_eq,List.isEmpty_iff]at h
  obtain⟨⟨⟨hk,hl1⟩,hat⟩,he⟩:=h
  replace hat:=opt_any hat
  obtain⟨⟨ob,at',ap⟩,hy,hat⟩:=hat
  have ee:=asAttr_ hy
  subst ee
  simp only[Bool.and_eq_true,decide_eq_true_eq]at hat
  obtain⟨⟨ha1,ha2⟩,ha3⟩:=hat
  subst ha1 hk
  replace ha2:=opt_any ha2
  obtain⟨x,hx,hloc⟩:=ha2
  obtain⟨q,rfl⟩:=asName_ hx
  obtain⟨y,rfl⟩:=one_list hl1
  have he:chkE k e y=true:=he
  obtain⟨h1,h2,h3,h4⟩:=ok.vis hloc
  refine PS.imp (fun D τ H w=>?_) (ps_expr (pe_bm PySem.F.plainAttrs_list PySem.F.slot_list_append PySem.F.type_list_append mt_append (pe_var h1 (loc_vis h2) h3 h4) (pa_cons (sB ok.toOk e y he).1 pa_nil (star_of he _ _)) rfl (by rw[star_of he];rfl) ha3 (star_of he _ _) rfl))
  obtain⟨σ,O,g,R,w⟩:=w
  unfold wpS at w
  cases gs:getS σ i with
  |none=>rw[gs]at w;exact w.elim
  |some u =>
   rw[gs]at w
   cases u with
   |sh d=>exact w.elim
   |ot _=>exact w.elim
   |ow ds =>
    obtain⟨a,vs,e1,e2,e3,e4⟩:=R.ow i ds gs
    refine⟨.ref a,e1,.inl ⟨rfl,vs,SqL.of e3⟩,σ,O,R.toReps,wpE_mono e (fun d wd v H1 s1 i1=>?_) w.2⟩
    have hl:=e4.length
    have hlim:=w.1
    refine⟨a,vs,v,rfl,rfl,s1 _ _ e3,by rw[sizeLine_eq];unfold lim at hlim;lia,?_⟩
    have i2:Iss X.K (minus H1 O) (ds ++ [d]) (vs ++ [v]):=(Iss.mono (minus_mono s1) ds e4).append (by unfold Iss;exact⟨v,[],rfl,i1,by unfold Iss;rfl⟩)
    refine wd τ _ O ((g.mono s1).write e2 (R.mine i ds a gs e1)) ?_ ((R.mono s1).write (vs:=vs) gs e1 e2 i2)
    rw[minus_write e2]
    exact minus_mono s1
 |.shr _,_,h=>by rw[chkS]at h;cases h
 |.raise _,_,h=>by rw[chkS]at h;cases h
theorem sK(ok:OkS X k C):∀(s:Sm) (st:List Stmt),chkB k s st=true->PSs X st (tS X.K C O₀ H₀ ex s)
 |.nop,st,h=>by
  have e:st=[]:=by rw[chkB]at h;simpa using h
  subst e
  refine PSs.imp (fun D τ H w=>?_) pss_nil
  obtain⟨σ,O,g,R,w⟩:=w
  unfold wpS at w
  exact w τ H O g (Same.refl _) R
 |.seq a b,st,h=>by
  by_cases hs:isShr a=true
  ·exact PSs.imp (fun D τ H w=>shr_tS hs w) (sK ok b st (chkB_shr hs h))
  ·have hs:isShr a=false:=by simpa using hs
   obtain⟨s,r,rfl,h1,h2⟩:=chkB_cons hs h
   refine PSs.imp (fun D τ H w=>?_) (pss_cons (sS ok a s h1) (sK ok b r h2))
   obtain⟨σ,O,g,R,w⟩:=w
   unfold wpS at w
   refine⟨σ,O,g,R,wpS_mono a ?_ w⟩
   exact⟨fun σ' q τ' H' O' g' s' r'=>⟨σ',O',g',r',wpS_mono b (lift_le s') q⟩,fun _ q=>q,fun _ q=>q,fun _ q=>q,fun _ q=>q,fun _ q=>q,fun _ q=>q⟩
 |.set _ _,_,h=>by simp[chkB]at h
 |.ret _,_,h=>by simp[chkB]at h
 |.ite _ _ _,_,h=>by simp[chkB]at h
 |.whl _ _,_,h=>by simp[chkB]at h
 |.forR _ _ _,_,h=>by simp[chkB]at h
 |.brk,_,h=>by simp[chkB]at h
 |.cnt,_,h=>by simp[chkB]at h
 |.never,_,h=>by simp[chkB]at h
 |.new _,_,h=>by simp[chkB]at h
 |.app _ _,_,h=>by simp[chkB]at h
 |.shr _,_,h=>by simp[chkB]at h
 |.raise _,_,h=>by simp[chkB]at h
end
end
end Z
namespace Z
open PySem PySem.Spec PySem.Calls PyProof.Rows PySem.W L2
theorem tg_entry:entryFor table "type.__getattribute__"=some Builtin.«type.__getattribute__»:=entryFor_of_tree (by kernel_rfl)
theorem tg_bind(self:Value):bindSpecial (.builtin "type.__getattribute__") self=pure (.builtin "type.__getattribute__",[self]):=by rfl
theorem wd_look{K:Frag}{M:Model}{h:Heap}{n:Str}{r:Option Value}(X:K.In h)(e:fastLookup "wrapper_descriptor" n=some r):Looks M h (specialOf (.builtin "type.__init__") n) r:=looks_specialIn X (show specialIn K (.builtin "type.__init__") n=some r from e)
section
variable {prog:Program} {w:World} {A:Around} {E:Value->Shared->Prop} {h:Heap} {g:Array GenState} {d:Drawn} {t:Nat} {os:OsState} {K:Frag} {T:Addr} {ddT:Option Addr} {cdT:ClassData} {slT:Array (Option Value)}
theorem cls_init{expr:Bool}{Q:Value->Shared->Prop}(X:K.In h)(tt:h.get? T=some ⟨.type "type",ddT,.cls cdT,slT⟩)(op:nsIn K cStatics "thirdparty.any"=some none)(fi:findIn K (.ref T) "__init__"=some (some (.builtin "ValueError.__init__")))
 (hq:Q (.builtin "ValueError.__init__") ⟨h,g,d,t+1,os⟩):wpAny (model prog w) A (getAttr (.ref T) "__init__" expr) Q E ⟨h,g,d,t,os⟩:=by
 have L0:Looks (model prog w) h (typeOf (.ref T)) (.type "type"):=(Looks.ld tt).andThen .now
 have L1:=looks_findIn (M:=model prog w) X (show findIn K (.type "type") "__getattribute__"=some (some (.builtin "type.__getattribute__")) from by show fastLookup "type" "__getattribute__"=_;decide +kernel)
 have L2:=looks_opaque (M:=model prog w) (C:=T) X op
 have L3:=looks_findIn (M:=model prog w) X (show findIn K (.type "type") "__init__"=some (some (.builtin "type.__init__")) from by show fastLookup "type" "__init__"=_;decide +kernel)
 have L4:=wd_look (M:=model prog w) (n:="__get__") (r:=some (.builtin "wrapper_descriptor.__get__")) X (by decide +kernel)
 have L5:=wd_look (M:=model prog w) (n:="__set__") (r:=none) X (by decide +kernel)
 have L6:=wd_look (M:=model prog w) (n:="__delete__") (r:=none) X (by decide +kernel)
 have L7:=looks_findIn (M:=model prog w) X fi
 have y0:(expr&&onTheHeap (Value.builtin "type.__getattribute__"))=false:=by cases expr<;>rfl
 unfold getAttr getAttrBy
 refine wpAny_bind (wpAny_mkText (wpAny_holding (wpAny_bind (L0.at (wpAny_bind (L1.at ?_))))))
 show wpAny _ _ (getAttrByItsOwn _ _ _ _ _ _) _ _ _
 unfold getAttrByItsOwn hookBefore
 refine wpAny_bind (wpAny_pure (wpAny_bind (wpAny_attempt (wpAny_holding ?_))))
 unfold callGetattribute
 rw[if_neg (by rw[y0];decide)]
 unfold boundAndCalled
 refine wpAny_bind (wpAny_of_eq (tg_bind _) ?_)
 refine wpAny_call (codeAny_call_builtin (by decide +kernel) tg_entry ?_)
 have hk:builtinKind "type.__getattribute__"=some .slot:=by decide +kernel
 have hsp:splitId "type.__getattribute__"=some ("type","__getattribute__"):=by decide +kernel
 simp only[checkBuiltinCall,hk,hsp]
 refine wpAny_bind ?_
 unfold isInstance
 refine wpAny_bind (L0.at ?_)
 refine wpAny_of_eq (show isSubtype (.type "type") (.type "type")=pure true from by rfl) ?_
 rw[if_neg (by decide)]
 refine wpAny_of_eq (show _=pure () from (show argsOk "type.__getattribute__" ⟨[.ref T,.str "__init__" t],[]⟩ from rfl)) ?_
 unfold Builtin.«type.__getattribute__»
 refine wpAny_bind (wpAny_of_eq (show asStr? (.str "__init__" t)=pure (some ("__init__":Str)) from rfl) ?_)
 show wpAny _ _ (do let x <- opaqueClassAbove (.ref T);_) _ _ _
 refine wpAny_bind (L2.at ?_)
 refine wpAny_bind (L0.at (wpAny_bind (L3.at (wpAny_bind (L4.at (wpAny_bind (L5.at ?_)))))))
 rw[if_neg (by decide)]
 refine wpAny_bind (L6.at (wpAny_bind (wpAny_pure ?_)))
 show wpAny _ _ (do let z <- typeLookup (.ref T) ("__init__":Str);_) _ _ _
 refine wpAny_bind (L7.at ?_)
 simp only[]
 rw[if_neg (by decide +kernel)]
 refine wpAny_bind (wpAny_of_eq (show typeOf (.builtin "ValueError.__init__")=pure (.type "wrapper_descriptor") from rfl) ?_)
 rw[if_pos (by decide +kernel)]
 refine wpAny_pure ?_
 refine wpAny_of_eq (show handedOut (.builtin "ValueError.__init__")=pure (.builtin "ValueError.__init__") from rfl) ?_
 exact hq
end
theorem ns_some{K:Frag}{h:Heap}{N:Addr}{m:Str->Option Value}{n:Str}{v:Value}(X:K.In h)(G:h.Ns N m)(e:nsIn K N n=some (some v)):m n=some v:=by
 obtain⟨o,es,ep,ho,hd,_,hf⟩:=G
 unfold nsIn at e
 split at e
 ·next cls dict es1 epoch slots heq =>
  have this:=X _ _ heq
  rw[ho]at this
  cases this
  cases hd
  split at e
  ·next e1 h1 =>
   cases e
   rw[<- hf n]
   unfold nsFind findBy
   rw[<- Array.find?_toList,h1]
   rfl
  ·split at e<;>cases e
 ·cases e
structure InitF (K:Frag) (mg:Str->Option Value) (C T f:Addr) (n:Str):Prop where
 lk:∃nm q N bs sn sub ab col dd k0 k1 k2 k3 k5,K.lookup C=some (excClassObj nm q C N bs (.ref T::bmV) true sn sub ab col dd k0 k1 k2 k3 k5 newV)/\nsOkIn K N=true/\nsIn K N "__init__"=some (some (.ref f))/\∀x ∈ [("__getattribute__":Str),"__getattr__","__setattr__",n],nsIn K N x=some none
 lt:∃dd cd sl,K.lookup T=some ⟨.type "type",dd,.cls cd,sl⟩/\nsOkIn K cd.ns=true/\∀x∈n::("__setattr__":Str)::quietNames,nsIn K cd.ns x=some none
 op:nsIn K cStatics "thirdparty.any"=some none
 fi:findIn K (.ref T) "__init__"=some (some (.builtin "ValueError.__init__"))
 te:mg "TrueError"=some (.ref T)
 fn:isFn K (.ref f)=true
 kp:keepIn K (.ref C)=true
 bl:typeLookup (.type "ValueError") n=pure none
structure InitH (h:Heap) (C T f N:Addr) (n:Str) (o:Obj) (mN:Str->Option Value):Prop where
 hC:h.get? C=some o
 hn:h.Ns N mN
 hi:mN "__init__"=some (.ref f)
 no:∀x ∈ [("__getattribute__":Str),"__getattr__","__setattr__",n],mN x=none
 tl:OwnTail h bmV (.ref T::bmV)
 tq:OwnTailQ h bmV (.ref T::bmV)
 tn:∀x∈n::("__setattr__":Str)::quietNames,TailN x h bmV (.ref T::bmV)
 hf:∃oI,h.get? f=some oI/\oI.cls=.type "function"
theorem InitF.heap{K:Frag}{mg:Str->Option Value}{C T f:Addr}{n:Str}{h:Heap}(F:InitF K mg C T f n)(X:K.In h) :
 ∃nm q N bs sn sub ab col dd k0 k1 k2 k3 k5 mN,InitH h C T f N n (excClassObj nm q C N bs (.ref T::bmV) true sn sub ab col dd k0 k1 k2 k3 k5 newV) mN:=by
 obtain⟨nm,q,N,bs,sn,sub,ab,col,dd,k0,k1,k2,k3,k5,l1,l2,l3,l4⟩:=F.lk
 obtain⟨ddT,cd,sl,t1,t2,t3⟩:=F.lt
 have nT:=Heap.Ns.of_isNs (isNs_of_in X t2)
 have nN:=Heap.Ns.of_isNs (isNs_of_in X l2)
 have mT:∀x∈n::("__setattr__":Str)::quietNames,h.nsMap cd.ns x=none:=fun x hx=>nsMap_none_of_in X t2 (t3 x hx)
 refine⟨nm,q,N,bs,sn,sub,ab,col,dd,k0,k1,k2,k3,k5,h.nsMap N,X _ _ l1,nN,ns_some X nN l3,fun x hx=>nsMap_none_of_in X l2 (l4 x hx),.own (X _ _ t1) nT (mT _ (by simp[quietNames])) .base,.own (X _ _ t1) nT (fun x hx=>mT x (List.mem_cons_of_mem _ (List.mem_cons_of_mem _ hx))) .base,fun x hx=>.own (X _ _ t1) nT (mT x hx) .base,?_⟩
 have:=F.fn
 unfold isFn typeIn at this
 simp only at this
 cases q:K.lookup f with
 |none=>rw[q]at this;cases this
 |some oI =>
  rw[q]at this
  exact⟨oI,X _ _ q,by simpa using this⟩
def excO(C t:Addr)(dct:Option Addr):Obj:={ cls:=.ref C,dict:=dct,data:=.fields #[.ref t,.none,.none,.none,.bool false,.none] }
abbrev xo(e C:Addr)(dct:Option Addr):HO:=.ext fun h=>∃t,h.get? e=some (excO C t dct)
theorem xo_ok{P:Program}{w:World}{H:Hp}{h:Heap}{e C t:Addr}{dct:Option Addr}(he:h.get? e=some (excO C t dct)):ObjOk P w H h e (xo e C dct):=⟨⟨t,he⟩,⟨_,he⟩,fun h1 h2 ⟨t,q⟩ k=>⟨t,k _ q⟩⟩
theorem upd_id{H:Hp}{a:Addr}{o:HO}(h:H a=some o):upd H a o=H:=by
 funext b
 unfold upd
 split
 ·next e=>rw[e,h]
 ·rfl
theorem cls_meth{prog:Program}{w:World}{A:Around}{E:Value->Shared->Prop}{s:Shared}{K:Frag}{T:Addr}{ddT:Option Addr}{cdT:ClassData}{slT:Array (Option Value)}{pl:Sem Bool}{Q:Value×List Value->Shared->Prop}(X:K.In s.heap)(tt:s.heap.get? T=some ⟨.type "type",ddT,.cls cdT,slT⟩)(op:nsIn K cStatics "thirdparty.any"=some none)(fi:findIn K (.ref T) "__init__"=some (some (.builtin "ValueError.__init__")))
 (hq:Q (.builtin "ValueError.__init__",[]) { s with toks:=s.toks+1 }):wpAny (model prog w) A (getMethod (.ref T) "__init__" pl) Q E s:=by
 obtain⟨h,g,d,t,os⟩:=s
 have L0:Looks (model prog w) h (typeOf (.ref T)) (.type "type"):=(Looks.ld tt).andThen .now
 have L1:=looks_findIn (M:=model prog w) X (show findIn K (.type "type") "__getattribute__"=some (some (.builtin "type.__getattribute__")) from by show fastLookup "type" "__getattribute__"=_;decide +kernel)
 unfold getMethod specialOf
 refine wpAny_bind (wpAny_bind (L0.at (L1.at ?_)))
 simp only[]
 rw[if_pos (by decide +kernel)]
 exact wpAny_bind (cls_init X tt op fi (wpAny_pure hq))
section
variable {X:Cx} {C T f:Addr} {n:Str}
theorem ps_super{tp sp xp ap cp pos:Pos}{i j:Nat}{x y:Str}(gl:Gl X "TrueError")(hT:X.mg "TrueError"=some (.ref T))(hi:X.N[i]?=some x)(hj:X.N[j]?=some y)(vx:Vis X.env.scope x)(vy:Vis X.env.scope y)
 (dx:(x == ("__debug__":Str))=false/\(x == ("__classdict__":Str))=false) (dy:(y == ("__debug__":Str))=false/\(y == ("__classdict__":Str))=false) (F:InitF X.K X.mg C T f n) (hline:(ap.endLine == cp.line)=true) :
 PS X (.Expr (.Call (.Attribute (.Name "TrueError" tp) "__init__" ap) [.Name x sp,.Name y xp] [] cp) pos) (fun D σ H=>∃e v,σ[i]?=some (some (.ref e))/\σ[j]?=some (some v)/\H e=some (xo e C none)/\D.nx σ H):=by
 refine Z.PS.imp (fun D σ H w=>?_) (ps_expr (te:=fun σ H Q=>∃e v,σ[i]?=some (some (.ref e))/\σ[j]?=some (some v)/\H e=some (xo e C none)/\Q .non H) ?_)
 ·exact w
 intro pins s σ H Q I w
 obtain⟨e,v,e1,e2,he,q⟩:=w
 obtain⟨ddT,cd,sl,t1,t2,t3⟩:=F.lt
 have hfew:methodCallForm ([Expr.Name x sp,.Name y xp].length+([]:List Keyword).length) (backTo cp (starEach [Expr.Name x sp,.Name y xp] X.env)) (backToKw cp (keywordEach [] X.env))=true:=by rfl
 rw[arm_eval_Call,show attributeBase (.Name "TrueError" tp) "__init__" X.env (eval (.Name "TrueError" tp) X.env)=eval (.Name "TrueError" tp) X.env from rfl]
 refine wpAny_bind (ld_glob I gl hT ?_ (by decide))
 refine wpAny_bind (wpAny_standAt ?_)
 unfold methodCall methodCallPos
 rw[hfew,hline]
 refine wpAny_bind (wpAny_holding ?_)
 show wpAny _ _ (getMethod (.ref T) "__init__" _) _ _ _
 refine cls_meth I.kIn (I.kIn _ _ t1) F.op F.fi ?_
 refine wpAny_bind (wpAny_pure ?_)
 have pa:PA X [.Name x sp,.Name y xp] _:=pa_cons (pe_var hi vx dx.1 dx.2) (pa_cons (pe_var hj vy dy.1 dy.2) pa_nil)
 refine PyProof.Rows.callWith_builtin1 (thn (pa cp pins _ σ H (fun vs H1=>vs=[.ref e,v]/\H1=H) (I.tok _) ⟨_,e1,_,e2,rfl,rfl⟩) fun us s1 ⟨vs,H1,I1,r1,q1,q2⟩=>?_)
 subst q1 q2
 obtain⟨nm,qn,N,bs,sn,sub,ab,col,dd,k0,k1,k2,k3,k5,mN,hh⟩:=F.heap I1.kIn
 cases r1 with
 |cons r2 r3 =>
  obtain rfl:_=Value.ref e:=r2
  cases r3 with
  |cons r4 r5 =>
   cases r5
   obtain⟨⟨t0,he1⟩,_⟩:=I1.hok e _ he
   obtain⟨hp,g,d,tk,os⟩:=s1
   refine init_base PySem.F.excBase_ValueError hh.tl hh.hC he1 (by show 1<=sizeLine;decide) fun h' kp g1 g2=>?_
   refine⟨.non,H1,?_,rfl,q⟩
   have:=I1.write (x:=e) (e:=e) (o:=xo e C none) (t':=tk) (h':=h') (by rw[he];trivial) (.inl rfl) kp ⟨_,g1⟩ (xo_ok g1)
   rw[upd_id he]at this
   exact this
theorem ps_fldx{value:Expr}{tv:TE}{sp ap pos:Pos}{i:Nat}{x:Str}(hi:X.N[i]?=some x)(vx:Vis X.env.scope x)(dx:(x == ("__debug__":Str))=false/\(x == ("__classdict__":Str))=false)(hv:PE X value tv)(F:InitF X.K X.mg C T f n)(hs:swapsWith value (some (.Attribute (.Name x sp) n ap)) pos.line X.env=pure false) :
 PS X (.Assign [.Attribute (.Name x sp) n ap] value pos) (fun D σ H=>tv σ H fun y H1=>∃e,σ[i]?=some (some (.ref e))/\H1 e=some (xo e C none)/\∀dA,H1 dA=none->dA≠e->D.nx σ (upd (upd H1 dA (.xd [(n,y)])) e (xo e C (some dA)))):=by
 intro pins s σ H D I w
 refine plainObj_wpAny_Assign_Attribute (thn (hv pins s σ H _ I w) fun u s1 ⟨y,H1,I1,ry,e,e1,he,q⟩=>thn (pe_var hi vx dx.1 dx.2 pins s1 σ H1 (fun v H2=>v=.ref e/\H2=H1) I1 ⟨_,e1,rfl,rfl⟩) fun ov s2 ⟨v,H2,I2,rx,q1,q2⟩=>?_) hs
 subst q1 q2
 obtain rfl:ov=Value.ref e:=rx
 obtain⟨nm,qn,N,bs,sn,sub,ab,col,dd,k0,k1,k2,k3,k5,mN,hh⟩:=F.heap I2.kIn
 obtain⟨⟨t0,he1⟩,_⟩:=I2.hok e _ he
 obtain⟨hp,g,d,tk,os⟩:=s2
 refine fld_setattr PySem.F.store_ValueError hh.hC hh.hn (hh.no _ (by simp)) (hh.tn _ (by simp)) (hh.no _ (by simp)) (hh.tn _ (by simp)) F.bl he1 rfl rfl rfl fun h' tk' g1 g2 g3=>?_
 have ne:hp.objs.size≠e:=Nat.ne_of_gt (Heap.lt_size he1)
 have fr:H2 hp.objs.size=none:=I2.hok.fresh (Nat.le_refl _)
 refine⟨σ,_,?_,q hp.objs.size fr ne⟩
 have I3:=I2.write (x:=e) (e:=e) (o:=xo e C (some hp.objs.size)) (t':=tk') (h':=h') (by rw[he];trivial) (.inl rfl) g3 ⟨_,g1⟩ (xo_ok g1)
 have sz:∀ {b:Addr} {o:Obj},hp.get? b=some o->b≠hp.objs.size:=fun {b o} q=>Nat.ne_of_lt (Heap.lt_size q)
 have I4:=inv_track (v:=.xd [(n,y)]) I3 (a:=hp.objs.size) (Heap.get?_none_of_le I2.sz) (by rw[upd_ne ne];exact fr) (fun H'=>⟨_,g2,fun z=>?_⟩) (Nat.ne_of_gt I2.lt) (fun z c qc=>by obtain⟨v,o,ho,_⟩:=I2.cell z c qc;exact sz ho) (fun p hp=>sz (I2.pin p hp).1)
 ·have e3:upd (upd H2 e (xo e C (some hp.objs.size))) hp.objs.size (.xd [(n,y)])=upd (upd H2 hp.objs.size (.xd [(n,y)])) e (xo e C (some hp.objs.size)):=by
   funext b
   by_cases hb:b=e
   ·subst hb;rw[upd_ne ne.symm,upd_same,upd_same]
   ·rw[upd_ne hb]
    by_cases hb2:b=hp.objs.size
    ·subst hb2;rw[upd_same,upd_same]
    ·rw[upd_ne hb2,upd_ne hb2,upd_ne hb]
  rw[e3]at I4
  exact I4
 ·by_cases hz:z=n
  ·subst hz
   simp only[List.lookup_cons,beq_self_eq_true,if_true]
   exact ry
  ·have hb:(z == n)=false:=by simpa using hz
   simp only[List.lookup_cons,hb,List.lookup_nil,if_neg hz]
   trivial
end
def superOk(s:Stmt):Bool:=(asExp s).any fun z=>(asCall z).any fun c=>c.2.2.1.isEmpty&&decide (c.2.1.length=2)&&decide (asName (c.2.1.getD 0 z)=some ("self":Str))&&decide (asName (c.2.1.getD 1 z)=some ("text":Str))&&(asAttr c.1).any fun y=>decide (y.2.1=("__init__":Str))&&decide (asName y.1=some ("TrueError":Str))&&(y.2.2.endLine == c.2.2.2.line)
theorem superOk_{s:Stmt}(h:superOk s=true):∃tp ap sp xp cp pos,s=.Expr (.Call (.Attribute (.Name "TrueError" tp) "__init__" ap) [.Name "self" sp,.Name "text" xp] [] cp) pos/\(ap.endLine == cp.line)=true:=by
 unfold superOk at h
 replace h:=opt_any h
 obtain⟨z,h1,h⟩:=h
 obtain⟨pos,rfl⟩:=asExp_ h1
 replace h:=opt_any h
 obtain⟨⟨f,xs,ks,cp⟩,h2,h⟩:=h
 have e2:=asCall_ h2
 subst e2
 simp only[Bool.and_eq_true,decide_eq_true_eq]at h
 obtain⟨⟨⟨⟨h3,h4⟩,h5⟩,h6⟩,h⟩:=h
 obtain⟨a,b,rfl⟩:=two_list h4
 obtain⟨sp,rfl⟩:=asName_ (show asName a=_ from h5)
 obtain⟨xp,rfl⟩:=asName_ (show asName b=_ from h6)
 replace h:=opt_any h
 obtain⟨⟨o,n,ap⟩,h7,h⟩:=h
 have e7:=asAttr_ h7
 subst e7
 simp only[Bool.and_eq_true,decide_eq_true_eq]at h
 obtain⟨⟨rfl,h8⟩,h9⟩:=h
 obtain⟨tp,rfl⟩:=asName_ h8
 have e3:ks=[]:=by simpa using h3
 subst e3
 exact⟨_,_,_,_,_,_,rfl,h9⟩
def fldSt(n p:Str)(l:Bool)(s:Stmt):Bool:=(asAsg s).any fun z=>(sole z.1).any fun t=>(asAttr t).any fun y=>decide (asName y.1=some ("self":Str))&&decide (y.2.1=n) &&
 if l=true then (asIf z.2).any fun f=>((asCmp f.1).any fun q=>decide (asName q.1=some p)&&decide (q.2.1=[.Is])&&decide (q.2.2.length=1)&&isNoneC (q.2.2.getD 0 t))&&(asLst f.2.1).any (·.isEmpty)&&(asCallN f.2.2).any fun c=>decide (c.1=("list":Str))&&decide (c.2.1.length=1)&&decide (asName (c.2.1.getD 0 t)=some p) else decide (asName z.2=some p)
theorem fldSt_{n p:Str}{l:Bool}{s:Stmt}(h:fldSt n p l s=true):(l=false/\∃sp ap pp pos,s=.Assign [.Attribute (.Name "self" sp) n ap] (.Name p pp) pos) \/
 (l=true/\∃sp ap cp j kp mp lp gp qp dp ip pos,s=.Assign [.Attribute (.Name "self" sp) n ap] (.IfExp (.Compare (.Name p cp) [.Is] [.Constant .none j kp] mp) (.List [] lp) (.Call (.Name "list" gp) [.Name p qp] [] dp) ip) pos):=by
 unfold fldSt at h
 replace h:=opt_any h
 obtain⟨⟨ts,v⟩,h1,h⟩:=h
 obtain⟨pos,rfl⟩:=asAsg_ h1
 replace h:=opt_any h
 obtain⟨t,h2,h⟩:=h
 have e2:=sole_ h2
 simp only at e2
 subst e2
 replace h:=opt_any h
 obtain⟨⟨o,n',ap⟩,h3,h⟩:=h
 have e3:=asAttr_ h3
 subst e3
 simp only[Bool.and_eq_true,decide_eq_true_eq]at h
 obtain⟨⟨h4,rfl⟩,h⟩:=h
 obtain⟨sp,rfl⟩:=asName_ h4
 cases l with
 |false =>
  rw[if_neg (by decide)]at h
  obtain⟨pp,rfl⟩:=asName_ (of_decide_eq_true h)
  exact .inl ⟨rfl,_,_,_,_,rfl⟩
 |true =>
  rw[if_pos rfl]at h
  replace h:=opt_any h
  obtain⟨⟨c,a,b⟩,h5,h⟩:=h
  obtain⟨ip,rfl⟩:=asIf_ h5
  simp only[Bool.and_eq_true]at h
  obtain⟨⟨h6,h7⟩,h8⟩:=h
  replace h6:=opt_any h6
  obtain⟨⟨x,ops,xs⟩,h9,h6⟩:=h6
  obtain⟨mp,rfl⟩:=asCmp_ h9
  simp only[Bool.and_eq_true,decide_eq_true_eq]at h6
  obtain⟨⟨⟨h10,rfl⟩,h11⟩,h12⟩:=h6
  obtain⟨cp,rfl⟩:=asName_ h10
  obtain⟨k,rfl⟩:=one_list h11
  obtain⟨j,kp,rfl⟩:∃j kp,k=.Constant .none j kp:=by
   have h12:isNoneC k=true:=h12
   unfold isNoneC at h12
   split at h12
   ·exact⟨_,_,rfl⟩
   ·cases h12
  replace h7:=opt_any h7
  obtain⟨ys,h13,h7⟩:=h7
  obtain⟨lp,rfl⟩:=asLst_ h13
  have e7:ys=[]:=by simpa using h7
  subst e7
  replace h8:=opt_any h8
  obtain⟨⟨g,zs,dp⟩,h14,h8⟩:=h8
  obtain⟨gp,rfl⟩:=asCallN_ h14
  simp only[Bool.and_eq_true,decide_eq_true_eq]at h8
  obtain⟨⟨rfl,h15⟩,h16⟩:=h8
  obtain⟨q,rfl⟩:=one_list h15
  obtain⟨qp,rfl⟩:=asName_ (show asName q=_ from h16)
  exact .inr ⟨rfl,_,_,_,_,_,_,_,_,_,_,_,_,rfl⟩
def initBody(n p:Str)(l:Bool):List Stmt->Bool
 |[a,b]=>superOk a&&fldSt n p l b
 |_=>false
def spI(K:Frag)(C:Addr)(n:Str)(l:Bool):Sp:=fun vs H Q _=>∃e tx v,vs=[.ref e,tx,v]/\H e=some (xo e C none) /\
 (if l=true then ∃a ys,v=.ref a/\SqL K H a ys/\∀q dA,H q=none->H dA=none->q≠dA->Q .non (upd (upd (upd H q (.lst ys)) dA (.xd [(n,.ref q)])) e (xo e C (some dA)))
  else ∀dA,H dA=none->Q .non (upd (upd H dA (.xd [(n,v)])) e (xo e C (some dA))))
theorem init_ok{P:Program}{w:World}{K:Frag}{mg:Str->Option Value}{base:Heap}{CX:CXT}{C T f:Addr}{n p:Str}{l:Bool}{st:Stmt}{x q:Str}{dV oc kV doc pm cdv ct:Value}{od an:Option Addr}{osl:Array (Option Value)}
 (lk:K.lookup f=some ⟨oc,od,.func (fnOf x q (defArgs st) (defBody st) (defScope st) dV kV doc pm an cdv ct),osl⟩) (hcd:codeIn K cdv q=true) (S:FnScope ["self","text",p] ["self","text",p] (defScope st)) (F:InitF K mg C T f n)
 (dp:(p == ("__debug__":Str))=false/\(p == ("__classdict__":Str))=false) (gl:(defScope st).names.lookup ("TrueError":Str)=some .globalImplicit) (gl2:l=true->(defScope st).names.lookup ("list":Str)=some .globalImplicit) (ml:mg "list"=none) (hb:initBody n p l (defBody st)=true) :
 FnOk P w K mg base CX 1 f (fnOf x q (defArgs st) (defBody st) (defScope st) dV kV doc pm an cdv ct) ["self","text",p] (spI K C n l):=by
 refine fn_of (k:=0) lk hcd S (fun vs H Q E h=>by obtain⟨e,tx,v,rfl,_⟩:=h;rfl) fun A outer s H vs Q E hr h=>?_
 obtain⟨e,tx,v,rfl,he,h⟩:=h
 generalize hX:cxOf CX P w K mg base ["self","text",p] q (defScope st) f cdv A outer s H E=X
 have vis:∀c ∈ [("self":Str),"text",p],Vis X.env.scope c:=fun c hc=>by subst hX;exact(S.par c hc).elim .inl fun z=>.inr (.inl z)
 have hN:X.N=[("self":Str),"text",p]:=by subst hX;rfl
 have hK:X.K=K:=by subst hX;rfl
 have hm:X.mg=mg:=by subst hX;rfl
 have hcx:X.env.scope=defScope st:=by subst hX;rfl
 have FX:InitF X.K X.mg C T f n:=by rw[hK,hm];exact F
 match hd:defBody st,hb with
 |[a,b],hb =>
  unfold initBody at hb
  rw[Bool.and_eq_true]at hb
  obtain⟨tp,ap,sp,xp,cp,pos,rfl,hline⟩:=superOk_ hb.1
  have p1:=ps_super (X:=X) (tp:=tp) (sp:=sp) (xp:=xp) (ap:=ap) (cp:=cp) (pos:=pos) (i:=0) (j:=1) (x:="self") (y:="text") (show X.env.scope.names.lookup _=_ by rw[hcx];exact gl) (by rw[hm];exact F.te) (by rw[hN];rfl) (by rw[hN];rfl) (vis _ (by simp)) (vis _ (by simp)) ⟨by decide,by decide⟩ ⟨by decide,by decide⟩ FX hline
  have pv:∀pp,PE X (.Name p pp) (tVar 2):=fun pp=>pe_var (by rw[hN];rfl) (vis _ (by simp)) dp.1 dp.2
  rcases fldSt_ hb.2 with⟨rfl,sp2,ap2,pp,pos2,rfl⟩|⟨rfl,sp2,ap2,cp2,j,kp,mp,lp,gp,qp,dp2,ip,pos2,rfl⟩
  ·rw[if_neg (by decide)]at h
   have p2:=ps_fldx (X:=X) (i:=0) (x:="self") (sp:=sp2) (ap:=ap2) (pos:=pos2) (by rw[hN];rfl) (vis _ (by simp)) ⟨by decide,by decide⟩ (pv pp) FX rfl
   exact⟨_,pss_cons p1 (pss_cons p2 pss_nil),e,tx,rfl,rfl,he,v,rfl,e,rfl,he,fun dA h1 _=>h dA h1⟩
  ·rw[if_pos rfl]at h
   obtain⟨aw,ys,rfl,sq,h⟩:=h
   have pl:PE X (.Call (.Name "list" gp) [.Name p qp] [] dp2) _:=pe_callTy (T:="list") call_list_of (show X.env.scope.names.lookup _=_ by rw[hcx];exact gl2 rfl) (by rw[hm];exact ml) PyProof.Rows.boot_list (pa_cons (pv qp) pa_nil)
   have pi:PE X (.IfExp (.Compare (.Name p cp2) [.Is] [.Constant .none j kp] mp) (.List [] lp) (.Call (.Name "list" gp) [.Name p qp] [] dp2) ip) _:=pe_ifExp (pt_cmp (pc_isN (pv cp2))) (pe_lst pa_nil) pl
   have p2:=ps_fldx (X:=X) (i:=0) (x:="self") (sp:=sp2) (ap:=ap2) (pos:=pos2) (by rw[hN];rfl) (vis _ (by simp)) ⟨by decide,by decide⟩ pi FX rfl
   refine⟨_,pss_cons p1 (pss_cons p2 pss_nil),e,tx,rfl,rfl,he,⟨_,rfl,false,rfl,?_⟩⟩
   refine⟨_,rfl,aw,ys,rfl,.inl (by rw[hK];exact sq),fun q hq=>⟨e,rfl,?_,fun dA h1 h2=>?_⟩⟩
   ·have ne:e≠q:=fun z=>by rw[<- z,he]at hq;cases hq
    rw[upd_ne ne];exact he
   ·have n1:dA≠q:=fun z=>by rw[z,upd_same]at h1;cases h1
    rw[upd_ne n1]at h1
    exact h q dA hq h1 n1.symm
section
variable {X:Cx} {C T f:Addr} {n x:Str} {l:Bool} {e1 e2:Expr} {np pos cp:Pos} {t:TA}
theorem made_inv{pins:List (Addr×Obj)}{σ:L2.St}{H:Hp}{s:Shared}{h':Heap}{e:Addr}{args:List Value}(I:Inv X pins σ H s)(w:Own X)(m:Heap.MadeExcOf s.heap h' e (.ref C) args):H e=none/\X.s₀.heap.get? e=none/\Inv X pins σ (upd H e (xo e C none)) { s with heap:=h' }:=by
 have hH:H e=none:=by
  cases q:H e with
  |none=>rfl
  |some u =>
   obtain⟨o,z⟩:=obj_get (I.hok e u q)
   rw[m.new]at z;cases z
 have old:∀ {b:Addr} {o:Obj},s.heap.get? b=some o->b≠e:=fun {b o} z y=>by rw[y,m.new]at z;cases z
 have h0:X.s₀.heap.get? e=none:=by
  cases q:X.s₀.heap.get? e with
  |none=>rfl
  |some o =>
   obtain⟨o',z⟩:=I.base.there e o q (by rw[w.ex];simp)
   exact absurd rfl (old z)
 have I1:Inv X pins σ H { s with heap:=h' }:=I.un (t':=s.toks) (Un.kept m.keeps) (I.hok.kept m.keeps)
 obtain⟨t0,g1,_⟩:=m.there
 exact⟨hH,h0,inv_track I1 h0 hH (fun _=>xo_ok g1) (fun z=>by obtain⟨m',⟨o,_,_,ho',_⟩,_⟩:=I.loc;exact old ho' z.symm) (fun y cc q=>by obtain⟨v,o,ho',_⟩:=I.cell y cc q;exact old ho') (fun p hp=>old (I.pin p hp).1)⟩
end
end Z
namespace Z
open PySem PySem.Spec PySem.Calls PyProof.Rows PySem.W L2
theorem alone_ok{P:Program}{w:World}{K:Frag}{mg:Str->Option Value}{base:Heap}{CX:CXT}{x:Str}{st:Stmt}{f:Addr}{fd:FuncData}(F:Fun K x x st f fd)(S:FnScope ["_law_e","_law_flags"] ["_law_e"] (defScope st))
 (l0:(defScope st).names.lookup ("_law_e":Str)=some .local) (l1:(defScope st).names.lookup ("_law_flags":Str)=some .local)
 (gl:∀c∈("isinstance":Str)::("TrueError":Str)::("ValueError":Str)::names12,(defScope st).names.lookup c=some .globalImplicit) (hb:aloneOk (defBody st)=true):FnOk P w K mg base CX 1 f fd ["_law_e"] (spA K mg):=by
 obtain⟨oc,od,kV,doc,pm,an,cdv,ct,osl,rfl,lk,hcd⟩:=F.ex
 refine fn_of (k:=0) lk hcd S (fun vs H Q E h=>by obtain⟨y,D,ea,oe,u,_,rfl,_⟩:=h;rfl) fun A outer s H vs Q E hr h=>?_
 obtain⟨y,D,ea,oe,u,af,rfl,he,hc,q⟩:=h
 have ax:AX (cxOf CX P w K mg base ["_law_e","_law_flags"] x (defScope st) f cdv A outer s H E):=⟨rfl,rfl,S.nd,l0,l1,fun c hc=>gl c hc,fun _=>rfl⟩
 exact⟨_,pss_alone (D:=D) (y:=y) ax af (show 1<2 by decide) hb,⟨ea,oe,u,rfl,he,hc⟩,rfl,q⟩
structure Alone (X:Cx):Prop where
 fn:∃f fd,FnOk X.prog X.w X.K X.mg X.base (CXz X.prog X.w X.mg) 1 f fd ["_law_e"] (spA X.K X.mg)/\X.mg "_law_alone"=some (.ref f)/\PySem.W.keepIn X.K (.ref f)=true/\Binds X.K fd ["_law_e"] []
 rm:X.A.depth+3*1+5<recursionLimit/\X.A.units+16*1+200<cLine
 int:X.mg "int"=none
section
variable {X:Cx} {D:Addr} {y:Str} {i:Nat}
end
end Z
namespace Z
open PySem PySem.Spec PySem.Calls PyProof.Rows PySem.W L2
section
variable {X:Cx} {pins:List (Addr×Obj)} {σ:L2.St} {H:Hp} {s:Shared}
theorem ps_nox{st:Stmt}{t:TS}(h:PS X.nox st t):PS X st t:=fun pins s σ H D I hw =>
 wpAny_mono (h pins s σ H D (I.wish _) hw) (fun f s' z=>z.unwish) fun _ _ z=>z.elim
theorem pa_nox{es:List Expr}{t:TA}(h:PA X.nox es t):PA X es t:=fun pos pins s σ H Q I hw =>
 wpAny_mono (h pos pins s σ H Q (I.wish _) hw) (fun us s' ⟨vs,H',J,r,q⟩=>⟨vs,H',J.unwish,r,q⟩) fun _ _ z=>z.elim
theorem name_gone{M:Model}{A:Around}{E:Value->Shared->Prop}{Q:Unit->Shared->Prop}{n:Str}{pos:Pos}(I:Inv X pins σ H s)(w:Own X)(hl:X.env.scope.names.lookup n=some .local)
 (hq:∀s',Inv X pins (List.replicate X.N.length none) H s'->Q () s'):wpAny M A (do bindName X.env n .none;unbindBehindTheSuite X.env n pos) Q E s:=by
 obtain⟨m,hn,_⟩:=I.loc
 refine wpAny_nameGoes hl hn (by rw[I.ok.kind];rfl) fun h' m' hn' sb=>hq _ ?_
 have old:∀ {b:Addr} {o:Obj},X.s₀.heap.get? b=some o->b≠X.env.locals:=fun {b o} e z=>by
  have:=Heap.lt_size e
  rw[z]at this
  exact absurd this (Nat.not_lt.mpr I.ok.above)
 have same:∀b,b≠X.env.locals->h'.get? b=s.heap.get? b:=fun b hb=>sb.2 b hb
 refine⟨I.ok,I.os,I.bare,⟨fun b o e n hb hx=>?_,fun b o e n hb hx=>?_,I.base.free,fun b o e hx=>?_,I.base.tups,I.base.frzs,I.base.tbls⟩,⟨m',hn',fun i x v _ h2 _=>?_⟩,fun x c e=>?_,I.free,I.freeC,fun p hp=>?_,fun b u e=>?_,by simp⟩
 ·exact(same b (old e)).trans (I.base.keep b o e n hb hx)
 ·obtain⟨sl,q⟩:=I.base.slot b o e n hb hx
  exact⟨sl,(same b (old e)).trans q⟩
 ·obtain⟨o',q⟩:=I.base.there b o e hx
  exact⟨o',(same b (old e)).trans q⟩
 ·rw[List.getElem?_replicate]at h2
  split at h2<;>cases h2
 ·obtain⟨v,o,q,d⟩:=I.cell x c e
  exact⟨v,o,(same c (I.cne x c e)).trans q,d⟩
 ·obtain⟨g1,g2,g3,g4⟩:=I.pin p hp
  exact⟨(same p.1 g3).trans g1,g2,g3,g4⟩
 ·refine(I.hok b u e).stay (fun c v hc q=>(same c fun z=>?_).trans q) (fun _ z=>z) fun _ _ z=>z
  have hf:=I.free
  rcases hc with hc|hc
  ·rw[<- z,hc,e]at hf;cases hf
  ·rw[<- z,hc]at hf;cases hf
end
noncomputable def asRaise:Stmt->Option Expr
 |.Raise (some e) none _=>some e
 |_=>none
theorem asRaise_{s:Stmt}{e:Expr}(h:asRaise s=some e):∃p,s=.Raise (some e) none p:=by
 unfold asRaise at h
 split at h
 ·cases h;exact⟨_,rfl⟩
 ·cases h
noncomputable def isStrC:Const->Bool
 |.str _=>true
 |_=>false
def hasF(x:Str):Bool:=x == ("BadText":Str) ||x == ("Dependent":Str)
noncomputable def chkN(k:Ck)(f:Nat)(es:List Ex):List (Nat×List Ex)->Expr->Bool
 |[],v=>(asCallN v).any fun c=>decide (k.fns[f]?=some (c.1,c.2.1.length))&&k.gl c.1 && !c.2.1.isEmpty&&chkEs k es c.2.1
 |gr::rest,v=>(asCallN v).any fun c=>decide (k.fns[gr.1]?=some (c.1,c.2.1.length))&&k.gl c.1 && !c.2.1.isEmpty&&chkN k f es rest (c.2.1.getD 0 v)&&chkEs k gr.2 (c.2.1.drop 1)
mutual
noncomputable def chkX(k:Ck):Sm->Stmt->Bool
 |.ite c a b,s=>(asIfS s).any fun z=>chkE k c z.1&&chkXB k a z.2.1&&chkXB k b z.2.2
 |.raise x,s=>k.rs&&decide (x∈k.cls)&&k.gl x && !hasF x&&(asRaise s).any fun e=>(asCallN e).any fun c=>decide (c.1=x)&&decide (c.2.1.length=1)&&(asConst (c.2.1.getD 0 e)).any isStrC
 |.nop,_=>false
 |.seq _ _,_=>false
 |.shr _,_=>false
 |.set i e,s=>chkS k (.set i e) s
 |.ret e,s=>chkS k (.ret e) s
 |.whl c b,s=>chkS k (.whl c b) s
 |.forR i e b,s=>chkS k (.forR i e b) s
 |.brk,s=>chkS k .brk s
 |.cnt,s=>chkS k .cnt s
 |.never,s=>chkS k .never s
 |.new i,s=>chkS k (.new i) s
 |.app i e,s=>chkS k (.app i e) s
noncomputable def chkXB(k:Ck):Sm->List Stmt->Bool
 |.nop,ss=>ss.isEmpty
 |.seq a b,ss=>if isShr a then chkXB k b ss else !ss.isEmpty&&chkX k a (ss.getD 0 (.Pass ⟨0,0,0,0⟩))&&chkXB k b (ss.drop 1)
 |_,_=>false
end
structure ClsOk (K:Frag) (mg:Str->Option Value) (x:Str) (Ca:Addr) (al:Bool):Prop where
 cl:ExcCl K Ca
 pl:hasF x=false->excIn K Ca bmV newV=true
 ow:hasF x=true->∃T f,InitF K mg Ca T f (fldN x)/\∀(P:Program) (w:World) (base:Heap),∃fd p,FnOk P w K mg base (CXz P w mg) 1 f fd ["self","text",p] (spI K Ca (fldN x) (x == ("Dependent":Str)))/\Binds K fd ["self","text",p] []
 al:al=true->AloneF K mg x Ca
structure OkX (X:Cx) (k:Ck) (C:Cfg) (O₀:List Addr) (H₀:Hp) (ex:XD->Prop):Prop where
 ok:OkS X.nox k C
 own:Own X
 o0:∀a∈O₀,H₀ a≠none
 thr:∀y Ca,ex y->X.mg y.t=some (.ref Ca)->∀pins σ H s H1 da e s',Inv X pins σ H s->Same H₀ H1->Fld X.K O₀ y H1 da->Thrown X.prog X.w Ca X.stack H s H1 da e s'->X.xe e s'
 raz:k.rs=true->∀x Ca,ex ⟨0,x,[]⟩->X.mg x=some (.ref Ca)->∀pins σ H s h1 e args,Inv X pins σ H s->Same H₀ H->Heap.MadeExcOf s.heap h1 e (.ref Ca) args->X.xe (.ref e) { s with heap:=h1 }
 rax:k.rs=true->Room 2 X.A/\∀y Ca,ex y->X.mg y.t=some (.ref Ca)->∀pins σ H s e da,Inv X pins σ H s->H e=some (xo e Ca da)->H₀ e=none->X.s₀.heap.get? e=none->Same H₀ (del H e)->Fld X.K O₀ y (del H e) da->X.xe (.ref e) s
 exc:∀x∈k.cls,∃Ca,X.mg x=some (.ref Ca)/\ClsOk X.K X.mg x Ca k.al
 al:k.al=true->Alone X
section
variable {k:Ck} {C:Cfg} {O₀:List Addr} {H₀:Hp}
theorem call_N{k:Ck}{f:Nat}{es:List Ex}{fs:List (Nat×List Ex)}{v:Expr}(h:chkN k f es fs v=true):∃c,asCallN v=some c:=by
 cases fs<;>rw[chkN]at h<;>replace h:=opt_any h<;>exact⟨_,h.choose_spec.1⟩
theorem star_N{k:Ck}{f:Nat}{es:List Ex}{fs:List (Nat×List Ex)}{v:Expr}(h:chkN k f es fs v=true)(ys:List Expr)(env:Env):starEach (v::ys) env=(false,eval v env)::starEach ys env:=by
 obtain⟨⟨x,xs,cp⟩,hc⟩:=call_N h
 obtain⟨q,rfl⟩:=asCallN_ hc
 rfl
def XE0(K:Frag)(O₀:List Addr)(H₀:Hp)(ex:XD->Prop):XK:=fun v da H=>∃y:XD,v=.str y.t 0/\ex y/\Same H₀ H/\Fld K O₀ y H da
theorem sN{X:Cx}{k:Ck}{ex:XD->Prop}(ok:OkX X k C O₀ H₀ ex)(f:Nat)(es:List Ex):∀(fs:List (Nat×List Ex)) (v:Expr),chkN k f es fs v=true->PE X v fun τ H Q=>∃σ O,Same H₀ H/\(∀a∈O₀,a∈O)/\Reps X.K O H σ τ/\wpN C σ f es fs (Wd X.K O H Q) ex
 |[],v,h=>by
  rw[chkN]at h
  replace h:=opt_any h
  obtain⟨⟨fx,xs,cp⟩,hc,h⟩:=h
  obtain⟨q,rfl⟩:=asCallN_ hc
  simp only[Bool.and_eq_true,decide_eq_true_eq]at h
  obtain⟨⟨⟨k1,k2⟩,hne⟩,k4⟩:=h
  obtain⟨y,ys,rfl⟩:=cons_list hne
  obtain⟨g1,g2,g3⟩:=ok.ok.toOk.gl k2
  obtain⟨fa,fd,ps,lv,F,hr,hm,hk,hb⟩:=ok.ok.toOk.fns f fx _ k1
  have hs:starEach (y::ys) X.env=(false,eval y X.env)::starEach ys X.env/\(backTo cp (starEach ys X.env)).any (·.1)=false:=by
   cases es with
   |nil=>have:=chkEs_nil k4;cases this
   |cons z zs =>
    obtain⟨y',ys',e',h5,h6⟩:=chkEs_cons k4
    cases e'
    exact⟨star_of h5 _ _,plain_of h6 _ _⟩
  have pass:Passes (CXz X.prog X.w X.mg) X (XE0 X.K O₀ H₀ ex):=fun pins σ H s e s' I ⟨x,Ca,H1,da,⟨y,e1,hx,sm,fd⟩,hm,T⟩=>by
   cases e1
   exact ok.thr y Ca hx hm pins σ H s H1 da e s' I sm fd T
  refine PE.imp (fun τ H Q w=>?_) (pe_call (CX:=CXz X.prog X.w X.mg) (E:=XE0 X.K O₀ H₀ ex) (dvs:=[]) F hr g1 hm hk hb .nil pass (pa_nox (sA ok.ok.toOk es _ k4)) g2 hs.1 hs.2)
  obtain⟨σ,O,sm,so,R,w⟩:=w
  unfold wpN at w
  refine⟨σ,O,R,wpEs_mono es (fun ds ⟨hl,wd⟩ vs H1 s1 i1=>?_) (wpEs_len es w)⟩
  show spD X.K (y::ys).length (C.fr f) (C.f2 f) (C.ct f) (vs ++ []) H1 _ _
  rw[List.append_nil]
  exact⟨O,ds,by rw[hl,len_of k4],(R.mono s1).own,i1,wd.1,fun d r=>((wd.2.1 d r).mono s1).rw (R.mono s1).own,fun z hz H2 da s2 fd=>⟨z,rfl,wd.2.2 z hz,(sm.trans s1).trans s2,fd.less so⟩⟩
 |(g,r)::rest,v,h=>by
  rw[chkN]at h
  replace h:=opt_any h
  obtain⟨⟨fx,xs,cp⟩,hc,h⟩:=h
  obtain⟨q,rfl⟩:=asCallN_ hc
  simp only[Bool.and_eq_true,decide_eq_true_eq]at h
  obtain⟨⟨⟨⟨k1,k2⟩,hne⟩,k3⟩,k4⟩:=h
  obtain⟨y,ys,rfl⟩:=cons_list hne
  have k3:chkN k f es rest y=true:=k3
  have k4:chkEs k r ys=true:=k4
  obtain⟨g1,g2,g3⟩:=ok.ok.toOk.gl k2
  obtain⟨fa,fd,ps,lv,F,hr,hm,hk,hb⟩:=ok.ok.toOk.fns g fx _ k1
  have pa:PA X (y::ys) _:=pa_cons (sN ok f es rest y k3) (pa_nox (sA ok.ok.toOk r ys k4)) (star_N k3 _ _)
  refine PE.imp (fun τ H Q w=>?_) (pe_call (CX:=CXz X.prog X.w X.mg) (E:=E0) (dvs:=[]) F hr g1 hm hk hb .nil passZ pa g2 (star_N k3 _ _) (plain_of k4 _ _))
  obtain⟨σ,O,sm,so,R,w⟩:=w
  unfold wpN at w
  refine⟨σ,O,sm,so,R,wpN_mono rest (fun d wd v H1 s1 i1=>⟨σ,O,R.mono s1,wpEs_mono r (fun ds ⟨hl,wds⟩ vs H2 s2 i2=>?_) (wpEs_len r wd)⟩) (fun _ q=>q) w⟩
  show spD X.K (y::ys).length (C.fr g) (C.f2 g) (C.ct g) ((v::vs) ++ []) H2 Q E0
  rw[List.append_nil]
  exact⟨O,d::ds,by simp[hl,len_of k4],((R.mono s1).mono s2).own,by unfold Iss;exact⟨v,vs,rfl,Is.mono (minus_mono s2) d i1,i2⟩,wds.1,fun d' q=>((wds.2.1 d' q).mono (s1.trans s2)).rw ((R.mono s1).mono s2).own,fun x hx=>(ok.ok.toOk.E x (wds.2.2 x hx)).elim⟩
mutual
theorem sX:∀ {X:Cx} {k:Ck} {ex:XD->Prop} (ok:OkX X k C O₀ H₀ ex) (s:Sm) (st:Stmt),chkX k s st=true->PS X st (tS X.K C O₀ H₀ ex s)
 |X,k,ex,ok,.ite c a b,st,h=>by
  rw[chkX]at h
  replace h:=opt_any h
  obtain⟨⟨t,x,y⟩,hz,h⟩:=h
  obtain⟨pos,rfl⟩:=asIfS_ hz
  simp only[Bool.and_eq_true]at h
  refine PS.imp (fun D τ H w=>?_) (ps_if (sB ok.ok.toOk c t h.1.1).2.nox (sXB ok a x h.1.2) (sXB ok b y h.2))
  obtain⟨σ,O,g,R,w⟩:=w
  unfold wpS at w
  refine⟨σ,O,R.toReps,wpE_mono c (fun d=>isB_mono fun t wt H1 s1=>?_) w⟩
  cases t with
  |true=>exact⟨σ,O,g.mono s1,R.mono s1,wpS_mono a (lift_le (minus_mono s1)) wt⟩
  |false=>exact⟨σ,O,g.mono s1,R.mono s1,wpS_mono b (lift_le (minus_mono s1)) wt⟩
 |X,k,ex,ok,.raise x,st,h=>by
  rw[chkX]at h
  simp only[Bool.and_eq_true,decide_eq_true_eq]at h
  obtain⟨⟨⟨⟨hrs,hcl⟩,hgl⟩,hpl⟩,h⟩:=h
  replace hpl:hasF x=false:=by simpa using hpl
  replace h:=opt_any h
  obtain⟨e,he,h⟩:=h
  obtain⟨pos,rfl⟩:=asRaise_ he
  replace h:=opt_any h
  obtain⟨⟨x',xs,cp⟩,hc,h⟩:=h
  obtain⟨np,rfl⟩:=asCallN_ hc
  simp only[Bool.and_eq_true,decide_eq_true_eq]at h
  obtain⟨⟨h1,h2⟩,h3⟩:=h
  subst h1
  obtain⟨z,rfl⟩:=one_list h2
  replace h3:=opt_any h3
  obtain⟨cc,hcc,h3⟩:=h3
  obtain⟨j,zp,rfl⟩:=asConst_ (show asConst z=_ from hcc)
  obtain⟨tx,rfl⟩:∃tx,cc=.str tx:=by
   cases cc with
   |str tx=>exact⟨tx,rfl⟩
   |_=>cases h3
  obtain⟨Ca,hm,co⟩:=ok.exc x' hcl
  have hq:=co.pl hpl
  obtain⟨g1,g2,g3⟩:=ok.ok.toOk.gl hgl
  intro pins s τ H D I w
  obtain⟨σ,O,g,R,w⟩:=w
  unfold wpS at w
  have hh:X.A.handled=none:=I.ok.hd ok.ok.calm
  obtain⟨bm,N,nm,qn,bs,hd,sn,sub,ab,col,dd,k0,k1,k2,k3,k5,mN,hC,hN,hni,TL⟩:=exc_obj I.mod.kin hq
  refine wpAny_Raise_call_subU (C:=Ca) (nm:=nm) (q:=qn) (N:=N) (bs:=bs) (bm:=bm) (hdct:=hd) (sn:=sn) (sub:=sub) (ab:=ab) (col:=col) (dd:=dd) (k0:=k0) (k1:=k1) (k2:=k2) (k3:=k3) (k5:=k5) (mN:=mN)
   PySem.F.excBase_ValueError (by decide +kernel) PySem.F.excBase_ValueError (TL.hasType (by decide +kernel)) hh rfl hni (ld_glob I g1 hm ⟨rfl,?_⟩ g2)
  have pa:PA X [.Constant (.str tx) j zp] _:=pa_cons pe_str pa_nil
  refine Calls.evalArgs_plain (wpAny_mono (pa cp pins s τ H (fun vs H'=>vs.length<=1/\Same H₀ H') I ⟨by simp,g.same⟩) (fun us s2 ⟨vs,H2,J,r,q1,q2⟩=>?_) fun _ _ z=>z)
  have hl:us.length<=sizeLine:=by rw[<- r.length];exact Nat.le_trans q1 (by decide)
  exact⟨rfl,hl,J.bk _ _ hC,hN.keeps J.bk,TL.keeps J.bk,fun h' e hx=>ok.raz hrs x' Ca w hm pins τ H2 s2 h' e us J q2 hx⟩
 |X,k,ex,ok,.nop,st,h=>by rw[chkX]at h;cases h
 |X,k,ex,ok,.seq a b,st,h=>by rw[chkX]at h;cases h
 |X,k,ex,ok,.shr i,st,h=>by rw[chkX]at h;cases h
 |X,k,ex,ok,.set i e,st,h=>by rw[chkX]at h;exact ps_nox (sS ok.ok _ st h)
 |X,k,ex,ok,.ret e,st,h=>by rw[chkX]at h;exact ps_nox (sS ok.ok _ st h)
 |X,k,ex,ok,.whl c b,st,h=>by rw[chkX]at h;exact ps_nox (sS ok.ok _ st h)
 |X,k,ex,ok,.forR i e b,st,h=>by rw[chkX]at h;exact ps_nox (sS ok.ok _ st h)
 |X,k,ex,ok,.brk,st,h=>by rw[chkX]at h;exact ps_nox (sS ok.ok _ st h)
 |X,k,ex,ok,.cnt,st,h=>by rw[chkX]at h;exact ps_nox (sS ok.ok _ st h)
 |X,k,ex,ok,.never,st,h=>by rw[chkX]at h;exact ps_nox (sS ok.ok _ st h)
 |X,k,ex,ok,.new i,st,h=>by rw[chkX]at h;exact ps_nox (sS ok.ok _ st h)
 |X,k,ex,ok,.app i e,st,h=>by rw[chkX]at h;exact ps_nox (sS ok.ok _ st h)
theorem sXB:∀ {X:Cx} {k:Ck} {ex:XD->Prop} (ok:OkX X k C O₀ H₀ ex) (s:Sm) (st:List Stmt),chkXB k s st=true->PSs X st (tS X.K C O₀ H₀ ex s)
 |X,k,ex,ok,.nop,st,h=>by
  have e:st=[]:=by rw[chkXB]at h;simpa using h
  subst e
  refine PSs.imp (fun D τ H w=>?_) pss_nil
  obtain⟨σ,O,g,R,w⟩:=w
  unfold wpS at w
  exact w τ H O g (Same.refl _) R
 |X,k,ex,ok,.seq a b,st,h=>by
  by_cases hs:isShr a=true
  ·rw[chkXB,if_pos hs]at h
   exact PSs.imp (fun D τ H w=>shr_tS hs w) (sXB ok b st h)
  rw[chkXB,if_neg hs]at h
  cases st with
  |nil=>simp at h
  |cons s r =>
   simp only[Bool.and_eq_true,List.drop_succ_cons,List.drop_zero]at h
   refine PSs.imp (fun D τ H w=>?_) (pss_cons (sX ok a s h.1.2) (sXB ok b r h.2))
   obtain⟨σ,O,g,R,w⟩:=w
   unfold wpS at w
   refine⟨σ,O,g,R,wpS_mono a ?_ w⟩
   exact⟨fun σ' q τ' H' O' g' s' r'=>⟨σ',O',g',r',wpS_mono b (lift_le s') q⟩,fun _ q=>q,fun _ q=>q,fun _ q=>q,fun _ q=>q,fun _ q=>q,fun _ q=>q⟩
 |X,k,ex,ok,.set _ _,_,h=>by simp[chkXB]at h
 |X,k,ex,ok,.ret _,_,h=>by simp[chkXB]at h
 |X,k,ex,ok,.ite _ _ _,_,h=>by simp[chkXB]at h
 |X,k,ex,ok,.whl _ _,_,h=>by simp[chkXB]at h
 |X,k,ex,ok,.forR _ _ _,_,h=>by simp[chkXB]at h
 |X,k,ex,ok,.brk,_,h=>by simp[chkXB]at h
 |X,k,ex,ok,.cnt,_,h=>by simp[chkXB]at h
 |X,k,ex,ok,.never,_,h=>by simp[chkXB]at h
 |X,k,ex,ok,.new _,_,h=>by simp[chkXB]at h
 |X,k,ex,ok,.app _ _,_,h=>by simp[chkXB]at h
 |X,k,ex,ok,.shr _,_,h=>by simp[chkXB]at h
 |X,k,ex,ok,.raise _,_,h=>by simp[chkXB]at h
end
end
end Z
namespace Z
open PySem PySem.Spec PyProof.Rows L2
structure FnI where
 x:Str
 st:Stmt
 N:List Str
 ps:List Str
 b:Sm
 c:Ctr
 fr:Bool:=false
 rz:Bool:=false
 cls:List Str:=[]
 al:Bool:=true
 g:Bool:=false
def FnI.Keep(i:FnI)(C:Cfg):Prop:=if i.rz=true then i.fr=false/\(if i.g=true then KeepsQ C i.N.length i.b i.c else KeepsX C i.N.length i.b i.c) else if i.fr=true then KeepsF C i.N.length i.b i.c else if i.g=true then KeepsG C i.N.length i.b i.c else Keeps C i.N.length i.b i.c
def FnI.ck(i:FnI)(L:List FnI)(cns:List Str):Ck:={ N:=i.N,names:=(defScope i.st).names,fns:=L.map fun j=>(j.x,j.ps.length),cns:=cns,cls:=i.cls,rz:=i.rz,rs:=i.rz,al:=i.al }
def scopeOk(i:FnI):Bool :=
 decide ((defScope i.st).kind=.function) && !(defScope i.st).isCoroutine && !(defScope i.st).isGenerator&&decide i.N.Nodup&&decide (i.N.take i.ps.length=i.ps) &&
  i.ps.all (fun x=>decide ((defScope i.st).names.lookup x=some .local) ||decide ((defScope i.st).names.lookup x=some .cell))&&(defScope i.st).names.all fun y=>decide (y.2 ≠ .free)
theorem scope_of{i:FnI}(h:scopeOk i=true):FnScope i.N i.ps (defScope i.st):=by
 unfold scopeOk at h
 simp only[Bool.and_eq_true,decide_eq_true_eq,Bool.not_eq_true',List.all_eq_true,Bool.or_eq_true]at h
 obtain⟨⟨⟨⟨⟨⟨h1,h2⟩,h3⟩,h4⟩,h5⟩,h6⟩,h7⟩:=h
 exact⟨h1,h2,h3,h4,h5,h6,h7⟩
noncomputable def chkFn(i:FnI)(L:List FnI)(cns:List Str):Bool:=scopeOk i&&if i.rz=true then chkXB (i.ck L cns) i.b (defBody i.st) else chkB (i.ck L cns) i.b (defBody i.st)
noncomputable def chkAll(L:List FnI)(cns:List Str):Bool:=(List.range L.length).all fun n=>match L[n]? with
 |some i=>chkFn i (L.take n) cns
 |none=>true
theorem chk_at{L:List FnI}{cns:List Str}(h:chkAll L cns=true){n:Nat}{i:FnI}(e:L[n]?=some i):chkFn i (L.take n) cns=true:=by
 unfold chkAll at h
 rw[List.all_eq_true]at h
 have hn:n<L.length:=by
  rcases Nat.lt_or_ge n L.length with z|z
  ·exact z
  ·rw[List.getElem?_eq_none z]at e;cases e
 have:=h n (List.mem_range.mpr hn)
 rw[e]at this
 exact this
structure FnAt (K:PySem.W.Frag) (mg:Str->Option Value) (i:FnI) (f:Addr) (fd:FuncData):Prop where
 fn:Fun K i.x i.x i.st f fd
 mg:mg i.x=some (.ref f)
 bd:∀us:List Value,us.length=i.ps.length->bindArgs fd ⟨us,[]⟩=pure (i.ps.zip us)
def FnFact(K:PySem.W.Frag)(mg:Str->Option Value)(i:FnI):Prop:=∃f fd,FnAt K mg i f fd
section
variable {α:Type} {P:List α->Prop}
theorem len1(k:∀a,P [a]):∀us,us.length=1->P us
 |[a],_=>k a
theorem len2(k:∀a b,P [a,b]):∀us,us.length=2->P us
 |[a,b],_=>k a b
end
theorem fact_mk{K:PySem.W.Frag}{h:Heap}{mg:Str->Option Value}{i:FnI}{f:Addr}{od an:Option Addr}{sl:Array (Option Value)}{oc kV dc pm cd ct:Value}(X:K.In h)(G:h.Ns mainGlobals mg)
 (b:∀(kV doc pm:Value) (an:Option Addr) (cdv ct:Value) (us:List Value),us.length=i.ps.length->bindArgs (PySem.W.fnOf i.x i.x (defArgs i.st) (defBody i.st) (defScope i.st) .none kV doc pm an cdv ct) ⟨us,[]⟩=pure (i.ps.zip us))
 (a:PySem.W.nsIn K mainGlobals i.x=some (some (.ref f))) (l:K.lookup f=some ⟨oc,od,.func (PySem.W.fnOf i.x i.x (defArgs i.st) (defBody i.st) (defScope i.st) .none kV dc pm an cd ct),sl⟩) (c:PySem.W.codeIn K cd i.x=true) (k:PySem.W.keepIn K (.ref f)=true):FnFact K mg i :=
 ⟨f,_,fun_mk l c k,PySem.W.mg_of X G a,fun us h=>b kV dc pm an cd ct us h⟩
theorem FnAt.one{K:PySem.W.Frag}{mg:Str->Option Value}{i:FnI}{f f':Addr}{fd fd':FuncData}(a:FnAt K mg i f fd)(b:FnAt K mg i f' fd'):f=f'/\fd=fd':=by
 have e:=a.mg.symm.trans b.mg
 cases e
 obtain⟨oc,od,kV,doc,pm,an,cdv,ct,osl,e1,e2,_⟩:=a.fn.ex
 obtain⟨oc',od',kV',doc',pm',an',cdv',ct',osl',e1',e2',_⟩:=b.fn.ex
 rw[e2]at e2'
 injection e2' with e3
 injection e3 with _ _ e4 _
 injection e4 with e5
 exact⟨rfl,e5⟩
section
variable {P:Program} {w:World} {K:PySem.W.Frag} {mg:Str->Option Value} {base:Heap} {C:Cfg} {cns:List Str}
theorem start_noT:∀(ds:List D) (j m:Nat) (rs:List (List D)),getS (startS m ds) j≠some (.ot rs):=by
 intro ds j m rs
 unfold startS
 generalize m-ds.length=r
 induction ds generalizing j with
 |nil =>
  have:∀(m j:Nat),getS (List.replicate m none) j=none:=by
   intro m
   induction m with
   |zero=>intro j;rfl
   |succ m ih=>intro j;cases j with|zero=>rfl|succ j=>exact ih j
  simp only[List.map_nil,List.nil_append]
  rw[this];exact fun z=>nomatch z
 |cons e es ih =>
  cases j with
  |zero=>simp only[List.map_cons,List.cons_append,getS];exact fun z=>nomatch z
  |succ j=>simp only[List.map_cons,List.cons_append,getS];exact ih j
theorem start_reps{H:Hp}{O:List Addr}{n:Nat}{ds:List D}{vs:List V}{N:List Str}(hn:N.length=n)(ho:∀a∈O,H a≠none)(i:Iss K (minus H O) ds vs):Reps K O H (startS n ds) (L2.start N vs) where
 len:=by
  unfold startS L2.start
  rw[List.length_append,List.length_append,List.length_map,List.length_map,List.length_replicate,List.length_replicate,i.length,hn]
 own:=ho
 sh:=fun j d g=>by
  have aux:∀(ds:List D) (vs:List V) (j:Nat) (d:D) (m m':Nat),Iss K (minus H O) ds vs->getS (ds.map (fun d=>some (Sl.sh d))++List.replicate m none) j=some (.sh d)->∃v,(vs.map some++List.replicate m' none)[j]?=some (some v)/\Is K (minus H O) d v:=by
   intro ds
   induction ds with
   |nil =>
    intro vs j d m m' i g
    have:∀(m j:Nat),getS (List.replicate m none) j=none:=by
     intro m
     induction m with
     |zero=>intro j;rfl
     |succ m ih=>intro j;cases j with|zero=>rfl|succ j=>exact ih j
    simp only[List.map_nil,List.nil_append]at g
    rw[this]at g;cases g
   |cons e es ih =>
    intro vs j d m m' i g
    unfold Iss at i
    obtain⟨v,r,rfl,i1,i2⟩:=i
    cases j with
    |zero =>
     simp only[List.map_cons,List.cons_append,getS]at g
     cases g
     exact⟨v,rfl,i1⟩
    |succ j =>
     simp only[List.map_cons,List.cons_append,getS]at g
     obtain⟨u,e1,e2⟩:=ih r j d m m' i2 g
     exact⟨u,by simpa using e1,e2⟩
  exact aux ds vs j d _ _ i g
 ow:=fun j es g=>by
  exfalso
  have aux:∀(ds:List D) (j:Nat) (m:Nat),getS (ds.map (fun d=>some (Sl.sh d))++List.replicate m none) j≠some (.ow es):=by
   intro ds
   induction ds with
   |nil =>
    intro j m
    have:∀(m j:Nat),getS (List.replicate m none) j=none:=by
     intro m
     induction m with
     |zero=>intro j;rfl
     |succ m ih=>intro j;cases j with|zero=>rfl|succ j=>exact ih j
    simp only[List.map_nil,List.nil_append]
    rw[this];exact fun z=>nomatch z
   |cons e es ih =>
    intro j m
    cases j with
    |zero=>simp only[List.map_cons,List.cons_append,getS];exact fun z=>nomatch z
    |succ j=>simp only[List.map_cons,List.cons_append,getS];exact ih j m
  exact aux ds j _ g
 dj:=fun j l es fs hjl g1 g2=>by
  exfalso
  have aux:∀(ds:List D) (j:Nat) (m:Nat),getS (ds.map (fun d=>some (Sl.sh d))++List.replicate m none) j≠some (.ow es):=by
   intro ds
   induction ds with
   |nil =>
    intro j m
    have:∀(m j:Nat),getS (List.replicate m none) j=none:=by
     intro m
     induction m with
     |zero=>intro j;rfl
     |succ m ih=>intro j;cases j with|zero=>rfl|succ j=>exact ih j
    simp only[List.map_nil,List.nil_append]
    rw[this];exact fun z=>nomatch z
   |cons e es ih =>
    intro j m
    cases j with
    |zero=>simp only[List.map_cons,List.cons_append,getS];exact fun z=>nomatch z
    |succ j=>simp only[List.map_cons,List.cons_append,getS];exact ih j m
  exact aux ds j _ g1
 tt:=⟨fun j rows g=>absurd g (start_noT ds j _ rows),fun j l rs qs g1 _=>absurd g1 (start_noT ds j _ rs)⟩
theorem start_no:∀(ds:List D) (j m:Nat) (es:List D),getS (startS m ds) j≠some (.ow es):=by
 intro ds j m es
 unfold startS
 generalize m-ds.length=r
 induction ds generalizing j with
 |nil =>
  have:∀(m j:Nat),getS (List.replicate m none) j=none:=by
   intro m
   induction m with
   |zero=>intro j;rfl
   |succ m ih=>intro j;cases j with|zero=>rfl|succ j=>exact ih j
  simp only[List.map_nil,List.nil_append]
  rw[this];exact fun z=>nomatch z
 |cons e es ih =>
  cases j with
  |zero=>simp only[List.map_cons,List.cons_append,getS];exact fun z=>nomatch z
  |succ j=>simp only[List.map_cons,List.cons_append,getS];exact ih j
theorem fun_okz{CX:CXT}{x qual:Str}{st:Stmt}{f:Addr}{fd:FuncData}{N ps:List Str}{k:Nat}{sp:Sp}(F:Fun K x qual st f fd)(S:FnScope N ps (defScope st))(len:∀vs H Q E,sp vs H Q E->vs.length=ps.length)
 (hb:∀(cdv:Value) (A:Around) (outer:List Env) (s:Shared) (H:Hp) (vs:List V) (Q:VK) (E:XK),Room k (A.deeper (envOfC qual (defScope st) s.heap.objs.size f cdv))->sp vs H Q E ->
  ∃t,PSs (cxOf CX P w K mg base N qual (defScope st) f cdv A outer s H E) (defBody st) t/\t { nx:=fun _ H'=>Q .non H',rt:=Q } (L2.start N vs) H):FnOk P w K mg base CX (k+1) f fd ps sp:=by
 obtain⟨oc,od,kV,doc,pm,an,cdv,ct,osl,rfl,lk,hcd⟩:=F.ex
 exact fn_of lk hcd S len fun A outer s H vs Q E hr hsp=>hb cdv A outer s H vs Q E hr hsp
def aloneSt(i:FnI):Bool:=scopeOk i&&decide (i.x=("_law_alone":Str))&&decide (i.ps=[("_law_e":Str)])&&decide (i.N=[("_law_e":Str),("_law_flags":Str)])&&decide ((defScope i.st).names.lookup ("_law_e":Str)=some .local)&&decide ((defScope i.st).names.lookup ("_law_flags":Str)=some .local) &&
 ((("isinstance":Str)::("TrueError":Str)::("ValueError":Str)::names12).all fun c=>decide ((defScope i.st).names.lookup c=some .globalImplicit))&&aloneOk (defBody i.st)
structure ExcOk (K:PySem.W.Frag) (mg:Str->Option Value) (cls:List Str) (b:Bool):Prop where
 al:b=true->∃i,FnFact K mg i/\aloneSt i=true
 exc:∀x∈cls,∃Ca,mg x=some (.ref Ca)/\ClsOk K mg x Ca b
theorem ExcOk.fn{cls:List Str}{b:Bool}(e:ExcOk K mg cls b)(hb:b=true):∃f fd,FnOk P w K mg base (CXz P w mg) 1 f fd ["_law_e"] (spA K mg)/\mg "_law_alone"=some (.ref f)/\PySem.W.keepIn K (.ref f)=true/\Binds K fd ["_law_e"] []:=by
 obtain⟨i,⟨f,fd,A⟩,h⟩:=e.al hb
 unfold aloneSt at h
 simp only[Bool.and_eq_true,decide_eq_true_eq,List.all_eq_true]at h
 obtain⟨⟨⟨⟨⟨⟨⟨h1,h2⟩,h3⟩,h4⟩,h5⟩,h6⟩,h7⟩,h8⟩:=h
 have S:=scope_of h1
 have b:=A.bd
 have m:=A.mg
 rw[h3]at b
 rw[h2]at m
 rw[h3,h4]at S
 exact⟨f,fd,alone_ok A.fn S h5 h6 h7 h8,m,A.fn.kp,.all b⟩
theorem fn_sound{i:FnI}{L:List FnI}{lv:Nat}{f:Addr}{fd:FuncData}(h2:2<=lv)(F:FnAt K mg i f fd)(hc:chkFn i L cns=true)(hk:i.Keep C)
 (fns:∀n j,L[n]?=some j->∃f fd,FnOk P w K mg base (CXz P w mg) lv f fd j.ps (spD K j.ps.length (C.fr n) (C.f2 n) (C.ct n))/\FnAt K mg j f fd)
 (hcn:∀n x,cns[n]?=some x->∃u v,mg x=some u/\RelV v u/\∀S,Is K S (C.cn n) v) (hb:∀x∈blts,mg x=none) (hE:∀x,¬ C.E x) (hz:i.rz=true->ExcOk K mg i.cls i.al) :
 FnOk P w K mg base (CXz P w mg) (lv+1) f fd i.ps (spD K i.ps.length i.fr i.g i.c):=by
 unfold chkFn at hc
 rw[Bool.and_eq_true]at hc
 have S:=scope_of hc.1
 refine fun_okz F.fn S (fun vs H Q E h=>?_) (fun cdv A outer s H vs Q E hr h=>?_)
 ·obtain⟨O,ds,hl,_,is,_⟩:=h
  rw[is.length,hl]
 obtain⟨O,ds,hl,ho,is,hp,hq,hx⟩:=h
 have hun:(A.deeper (envOfC i.x (defScope i.st) s.heap.objs.size f cdv)).units+100<cLine:=by have:=hr.un;lia
 have hdp:=hr.dp
 have hcalm:A.handled.isNone=true:=by
  have e:A.handled=none:=hr.hd h2
  rw[e];rfl
 have ok:OkS (cxOf (CXz P w mg) P w K mg base i.N i.x (defScope i.st) f cdv A outer s H E).nox (i.ck L cns) C:=by
  refine⟨⟨rfl,S.nd,rfl,S.kind,hcalm,rfl,hun,?_,hcn,hb,hE⟩,fun _=>rfl⟩
  intro n x m e
  have e':(L.map fun j=>(j.x,j.ps.length))[n]?=some (x,m):=e
  rw[List.getElem?_map]at e'
  cases q:L[n]? with
  |none=>rw[q]at e';cases e'
  |some j =>
   rw[q]at e'
   cases e'
   obtain⟨f',fd',F',A'⟩:=fns n j q
   exact⟨f',fd',j.ps,lv,F',hr,A'.mg,A'.fn.kp,.all A'.bd⟩
 have st:=start_reps (K:=K) (N:=i.N) rfl ho is
 have mine:∀j es a,getS (startS i.N.length ds) j=some (.ow es)->(L2.start i.N vs)[j]?=some (some (.ref a))->a ∉ O:=fun j es a g=>(start_no ds j _ es g).elim
 have mineT:MT O H (startS i.N.length ds) (L2.start i.N vs):=fun j rs a as g=>(start_noT ds j _ rs g).elim
 unfold FnI.Keep at hk
 by_cases hrz:i.rz=true
 ·rw[if_pos hrz]at hk
  rw[if_pos hrz]at hc
  obtain⟨hf,hk⟩:=hk
  have eo:=hz hrz
  unfold Rw at hq
  simp only[hf,Bool.false_eq_true,if_false]at hq
  have own:Own (cxOf (CXz P w mg) P w K mg base i.N i.x (defScope i.st) f cdv A outer s H E):=⟨rfl,rfl,rfl⟩
  have okx:OkX (cxOf (CXz P w mg) P w K mg base i.N i.x (defScope i.st) f cdv A outer s H E) (i.ck L cns) C O H (i.c.exn ds):=by
   refine⟨ok,own,ho,?_,?_,fun _=>⟨hr.mono h2,?_⟩,eo.exc,fun q=>⟨eo.fn q,⟨?_,?_⟩,hb _ (by decide)⟩⟩
   ·intro y Ca hex hm pins σ H' s' H1 da e s2 I sm fd T
    exact thrown_on I own sm T fun s3 T3=>⟨y.t,Ca,H1,da,hx y hex H1 da sm fd,hm,T3⟩
   ·intro _ x Ca hex hm pins σ H' s' h1 e args I sm M
    exact thrown_made I own sm M fun s3 T3=>⟨x,Ca,H',none,hx ⟨0,x,[]⟩ hex H' none sm (fun d hd=>nomatch hd),hm,T3⟩
   ·intro y Ca hex hm pins σ H' s' e da I he h0 h0' sm fd
    obtain⟨⟨t0,he1⟩,_⟩:=I.hok e _ he
    exact thrown_own (inv_del I he h0) own sm he1 rfl rfl rfl rfl rfl del_same h0' fun s3 T3=>⟨y.t,Ca,_,da,hx y hex _ da sm fd,hm,T3⟩
   ·show (A.deeper (envOfC i.x (defScope i.st) s.heap.objs.size f cdv)).depth+3*1+5<recursionLimit
    lia
   ·have:=hr.un
    show (A.deeper (envOfC i.x (defScope i.st) s.heap.objs.size f cdv)).units+16*1+200<cLine
    lia
  by_cases hg:i.g=true
  ·rw[if_pos hg]at hk
   simp only[hg,if_true]at hq
   refine⟨_,sXB (O₀:=O) okx i.b _ hc.2,startS i.N.length ds,O,⟨Same.refl _,fun _ z=>z,fun _ z=>.inl z⟩,⟨st,mine,mineT⟩,wpS_mono i.b ?_ (hk ds hp)⟩
   exact⟨fun _ z=>z.elim,fun d q v H' s' i'=>(hq d q.2).2 q.1 v H' s' i',fun _ z=>z.elim,fun _ z=>z.elim,fun _ z=>z.elim,fun _ z=>z,fun rows q a as H' s' h0 t=>(hq _ q).1 rows a as H' rfl s' h0 t⟩
  rw[if_neg hg]at hk
  simp only[hg,Bool.false_eq_true,if_false]at hq
  refine⟨_,sXB (O₀:=O) okx i.b _ hc.2,startS i.N.length ds,O,⟨Same.refl _,fun _ z=>z,fun _ z=>.inl z⟩,⟨st,mine,mineT⟩,wpS_mono i.b ?_ (hk ds hp)⟩
  exact⟨fun σ' q τ' H' O' g' s' r'=>hq _ q _ _ g'.same non_is,fun d q v H' s' i'=>hq d q v H' s' i',fun _ z=>z.elim,fun _ z=>z.elim,fun _ z=>z.elim,fun _ z=>z,fun _ z=>z.elim⟩
 rw[if_neg hrz]at hk
 rw[if_neg hrz]at hc
 refine⟨tS K C O H (fun _=>False) i.b,PSs.nox (sK ok i.b _ hc.2),?_⟩
 unfold Rw at hq
 by_cases hf:i.fr=true
 ·rw[if_pos hf]at hk
  simp only[hf,if_true]at hq
  refine⟨startS i.N.length ds,O,⟨Same.refl _,fun _ z=>z,fun _ z=>.inl z⟩,⟨st,mine,mineT⟩,wpS_mono i.b ?_ (hk ds hp)⟩
  exact⟨fun _ z=>z.elim,fun _ z=>z.elim,fun _ z=>z.elim,fun _ z=>z.elim,fun xs q a H' us s' h0 hl' is'=>hq _ q xs a H' us rfl s' h0 hl' is',fun _ z=>z,fun _ z=>z.elim⟩
 rw[if_neg hf]at hk
 by_cases hg:i.g=true
 ·rw[if_pos hg]at hk
  simp only[hf,hg,Bool.false_eq_true,if_false,if_true]at hq
  refine⟨startS i.N.length ds,O,⟨Same.refl _,fun _ z=>z,fun _ z=>.inl z⟩,⟨st,mine,mineT⟩,wpS_mono i.b ?_ (hk ds hp)⟩
  exact⟨fun _ z=>z.elim,fun _ z=>z.elim,fun _ z=>z.elim,fun _ z=>z.elim,fun _ z=>z.elim,fun _ z=>z,fun rows q a as H' s' h0 t=>(hq _ q).1 rows a as H' rfl s' h0 t⟩
 ·rw[if_neg hg]at hk
  simp only[hf,hg,Bool.false_eq_true,if_false]at hq
  refine⟨startS i.N.length ds,O,⟨Same.refl _,fun _ z=>z,fun _ z=>.inl z⟩,⟨st,mine,mineT⟩,wpS_mono i.b ?_ (hk ds hp)⟩
  exact⟨fun σ' q τ' H' O' g' s' r'=>hq _ q _ _ g'.same non_is,fun d q v H' s' i'=>hq d q v H' s' i',fun _ z=>z.elim,fun _ z=>z.elim,fun _ z=>z.elim,fun _ z=>z,fun _ z=>z.elim⟩
theorem all_sound{L:List FnI}(F:∀i∈L,FnFact K mg i)(hc:chkAll L cns=true)(hk:∀i∈L,i.Keep C)(ct:∀n i,L[n]?=some i->C.ct n=i.c/\C.fr n=i.fr/\C.f2 n=i.g)
 (hcn:∀n x,cns[n]?=some x->∃u v,mg x=some u/\RelV v u/\∀S,Is K S (C.cn n) v) (hb:∀x∈blts,mg x=none) (hE:∀x,¬ C.E x) (hz:∀i∈L,i.rz=true->ExcOk K mg i.cls i.al) :
 ∀(n:Nat) (i:FnI) (f:Addr) (fd:FuncData),L[n]?=some i->FnAt K mg i f fd->FnOk P w K mg base (CXz P w mg) (n+3) f fd i.ps (spD K i.ps.length i.fr i.g i.c):=by
 intro n
 induction n using Nat.strongRecOn with
 |ind n ih =>
  intro i f fd e A
  refine fn_sound (L:=L.take n) (lv:=n+2) (by lia) A (chk_at hc e) (hk i (List.mem_of_getElem? e)) (fun m j q=>?_) hcn hb hE (hz i (List.mem_of_getElem? e))
  have hm:m<n:=by
   rcases Nat.lt_or_ge m n with z|z
   ·exact z
   ·rw[List.getElem?_eq_none (by rw[List.length_take];lia)]at q;cases q
  rw[List.getElem?_take_of_lt hm]at q
  obtain⟨f',fd',A'⟩:=F j (List.mem_of_getElem? q)
  rw[(ct m j q).1,(ct m j q).2.1,(ct m j q).2.2]
  exact⟨f',fd',(ih m hm j f' fd' q A').mono (by lia),A'⟩
end
section
variable {K:PySem.W.Frag} {h:Heap} {mg:Str->Option Value}
theorem kit_of{Ca D:Addr}{b:Bool}(t:PySem.W.typeIn K (.ref Ca)=some (.type "type"))(m:PySem.W.mroIn K Ca (.type "object")=some true)(s:PySem.W.subIn K (.ref D) (.ref Ca)=some b)(hd:decide (D=Ca)=true->b=true):PySem.W.kitOne K (.ref D) (.ref Ca)=some b:=by
 have hs:(PySem.W.clsIn K Ca).isSome=true:=by
  unfold PySem.W.mroIn at m
  cases q:PySem.W.clsIn K Ca with
  |none=>rw[q]at m;cases m
  |some c=>rfl
 unfold PySem.W.kitOne
 split
 ·next e =>
  have e':D=Ca:=Value.ref.inj (beq_iff_eq.mp e)
  rw[hd (by simpa using e')]
 ·unfold PySem.W.kitCls
  simp only[hs,t,beq_self_eq_true,Bool.and_self,if_true,s]
theorem kit_cl(X:K.In h)(G:h.Ns mainGlobals mg){c y:Str}{Ca D:Addr}{b:Bool}(a:PySem.W.nsIn K mainGlobals c=some (some (.ref Ca)))(t:PySem.W.typeIn K (.ref Ca)=some (.type "type"))(m:PySem.W.mroIn K Ca (.type "object")=some true)
 (s:PySem.W.subIn K (.ref D) (.ref Ca)=some b) (hb:b=decide (c=y)) (hd:decide (D=Ca)=true->b=true):∃Ca,mg c=some (.ref Ca)/\PySem.W.kitOne K (.ref D) (.ref Ca)=some (decide (c=y)) :=
 ⟨Ca,PySem.W.mg_of X G a,by rw[<- hb];exact kit_of t m s hd⟩
theorem alone_mk(X:K.In h)(G:h.Ns mainGlobals mg){x:Str}{D T:Addr}
 (e1:PySem.W.findIn K (.ref D) "__getattribute__"=some (some (.builtin "BaseException.__getattribute__"))) (e2:PySem.W.findIn K (.ref D) "__getattr__"=some none) (e3:PySem.W.findIn K (.ref D) "__class__"=some (some (.builtin "object.__class__")))
 (e4:PySem.W.specialIn K (.builtin "object.__class__") "__get__"=some (some (.builtin "getset_descriptor.__get__"))) (e5:PySem.W.takesIn K (.builtin "object.__class__")=some true) (e6:PySem.W.mroIn K D (.type "object")=some true) (e7:PySem.W.mroIn K D (.type "BaseException")=some true)
 (t1:PySem.W.nsIn K mainGlobals "TrueError"=some (some (.ref T))) (t2:PySem.W.typeIn K (.ref T)=some (.type "type")) (t3:PySem.W.mroIn K T (.type "object")=some true) (t4:PySem.W.subIn K (.ref D) (.ref T)=some true)
 (v1:PySem.W.subIn K (.ref D) (.type "ValueError")=some true) (v2:PySem.W.nsIn K mainGlobals "ValueError"=some none) (v3:PySem.W.nsIn K mainGlobals "isinstance"=some none) (mem:x∈names12)
 (cl:∀c∈names12,∃Ca,mg c=some (.ref Ca)/\PySem.W.kitOne K (.ref D) (.ref Ca)=some (decide (c=x))):AloneF K mg x D:=by
 refine⟨⟨e1,e2,e3,e4,e5,e6,e7⟩,cl,⟨T,PySem.W.mg_of X G t1,kit_of t2 t3 t4 fun _=>rfl⟩,?_,PySem.W.mg_none_of X G v2,PySem.W.mg_none_of X G v3,mem⟩
 unfold PySem.W.kitOne
 rw[if_neg (by intro z;cases beq_iff_eq.mp z)]
 unfold PySem.W.kitCls
 have km:PySem.W.kitMeta "ValueError"=true:=by decide +kernel
 simp only[km,if_true,v1]
end
theorem exc_ok{K:PySem.W.Frag}{h:Heap}{mg:Str->Option Value}{cls:List Str}{i:FnI}(_:K.In h)(al:FnFact K mg i)(st:aloneSt i=true)(ex:∀x∈cls,∃Ca,mg x=some (.ref Ca)/\ClsOk K mg x Ca true):ExcOk K mg cls true:=⟨fun _=>⟨i,al,st⟩,ex⟩
theorem exc_mk{K:PySem.W.Frag}{h:Heap}{mg:Str->Option Value}{x:Str}{b:Bool}(X:K.In h)(G:h.Ns mainGlobals mg){D:Addr}(a:PySem.W.nsIn K mainGlobals x=some (some (.ref D)))(q:PySem.W.excIn K D bmV newV=true)(hf:hasF x=false)(al:b=true->AloneF K mg x D):∃Ca,mg x=some (.ref Ca)/\ClsOk K mg x Ca b :=
 ⟨D,PySem.W.mg_of X G a,excCl_of q,fun _=>q,(fun z=>by rw[hf]at z;cases z),al⟩
theorem bl_at:typeLookup (.type "ValueError") "at"=pure none:=by kernel_rfl
theorem bl_w:typeLookup (.type "ValueError") "weights"=pure none:=by kernel_rfl
theorem bl_f(x:Str):typeLookup (.type "ValueError") (fldN x)=pure none:=by
 unfold fldN
 split
 ·exact bl_w
 ·exact bl_at
def clsDef:Stmt->Stmt
 |.ClassDef _ _ _ b ..=>b.getD 0 (.Pass ⟨0,0,0,0⟩)
 |s=>s
def strKey(e:DictEntry):Bool:=match e.key with
 |.str ..=>true
 |_=>false
theorem nsOk_of{K:PySem.W.Frag}{N:Addr}{c:Value}{d:Option Addr}{es:Array DictEntry}{ep:Nat}{sl:Array (Option Value)}(l:K.lookup N=some ⟨c,d,.dict es ep,sl⟩)(a:es.toList.all strKey=true):PySem.W.nsOkIn K N=true:=by
 unfold PySem.W.nsOkIn
 rw[l]
 simp only
 rw[<- Array.all_toList]
 exact a
def iniSt(x:Str)(i:FnI):Bool:=scopeOk i&&match i.ps with
 |[a,b,p]=>decide (i.N=i.ps)&&decide (a=("self":Str))&&decide (b=("text":Str)) && !(p == ("__debug__":Str)) && !(p == ("__classdict__":Str))&&decide ((defScope i.st).names.lookup ("TrueError":Str)=some .globalImplicit)&&(!(x == ("Dependent":Str)) ||decide ((defScope i.st).names.lookup ("list":Str)=some .globalImplicit))&&initBody (fldN x) p (x == ("Dependent":Str)) (defBody i.st)
 |_=>false
theorem exc_mkO{K:PySem.W.Frag}{h:Heap}{mg:Str->Option Value}{x:Str}{bb:Bool}{i:FnI}(X:K.In h)(G:h.Ns mainGlobals mg){C T f N:Addr}{nm qn q:Str}{bs:List Value}{sn:List Str}{sub:List Value}{ab:Bool}{col:Option Bool}{dd ddT d1 d2 od an dD:Option Addr}{k0 k1 k2 k3 k5:Option Value}{cdT:ClassData}{slT sl1 sl2 osl slD:Array (Option Value)}{c1 c2 oc d0 cD kV doc pm cdv ct:Value}{Td:Addr}{nD:Nat}{es1 es2:Array DictEntry}{ep1 ep2:Nat}
 (hs:iniSt x i=true) (hf:hasF x=true)
 (b:∀(kV doc pm:Value) (an:Option Addr) (cdv ct d0 u1 u2 u3:Value) (Td:Addr),∃k,bindArgs (PySem.W.fnOf "__init__" q (defArgs i.st) (defBody i.st) (defScope i.st) (.ref Td) kV doc pm an cdv ct) ⟨[u1,u2,u3],[]⟩=seqItems? (.ref Td) >>= k/\k (some #[d0])=pure (i.ps.zip [u1,u2,u3]))
 (a:PySem.W.nsIn K mainGlobals x=some (some (.ref C))) (te:PySem.W.nsIn K mainGlobals "TrueError"=some (some (.ref T))) (ml:PySem.W.nsIn K mainGlobals "list"=some none)
 (l:K.lookup C=some (excClassObj nm qn C N bs (.ref T::bmV) true sn sub ab col dd k0 k1 k2 k3 k5 newV)) (lN:K.lookup N=some ⟨c1,d1,.dict es1 ep1,sl1⟩) (aN:es1.toList.all strKey=true)
 (lT:K.lookup T=some ⟨.type "type",ddT,.cls cdT,slT⟩) (lM:K.lookup cdT.ns=some ⟨c2,d2,.dict es2 ep2,sl2⟩) (aM:es2.toList.all strKey=true)
 (ii:PySem.W.nsIn K N "__init__"=some (some (.ref f))) (n1:PySem.W.nsIn K N "__getattribute__"=some none) (n2:PySem.W.nsIn K N "__getattr__"=some none) (n3:PySem.W.nsIn K N "__setattr__"=some none) (n4:PySem.W.nsIn K N (fldN x)=some none)
 (m1:PySem.W.nsIn K cdT.ns (fldN x)=some none) (m2:PySem.W.nsIn K cdT.ns "__setattr__"=some none) (m3:PySem.W.nsIn K cdT.ns "__init__"=some none) (m4:PySem.W.nsIn K cdT.ns "__getattribute__"=some none) (m5:PySem.W.nsIn K cdT.ns "__getattr__"=some none) (m6:PySem.W.nsIn K cdT.ns "args"=some none)
 (op:PySem.W.nsIn K cStatics "thirdparty.any"=some none) (fi:PySem.W.findIn K (.ref T) "__init__"=some (some (.builtin "ValueError.__init__"))) (fn:PySem.W.isFn K (.ref f)=true) (kp:PySem.W.keepIn K (.ref C)=true)
 (lf:K.lookup f=some ⟨oc,od,.func (PySem.W.fnOf "__init__" q (defArgs i.st) (defBody i.st) (defScope i.st) (.ref Td) kV doc pm an cdv ct),osl⟩) (lD:K.lookup Td=some ⟨cD,dD,.seq #[d0] nD,slD⟩) (hcd:PySem.W.codeIn K cdv q=true) (al:bb=true->AloneF K mg x C):∃Ca,mg x=some (.ref Ca)/\ClsOk K mg x Ca bb:=by
 have F:InitF K mg C T f (fldN x):=by
  refine⟨⟨nm,qn,N,bs,sn,sub,ab,col,dd,k0,k1,k2,k3,k5,l,nsOk_of lN aN,ii,fun y hy=>?_⟩,⟨ddT,cdT,slT,lT,nsOk_of lM aM,fun y hy=>?_⟩,op,fi,PySem.W.mg_of X G te,fn,kp,bl_f x⟩
  ·simp only[List.mem_cons,List.not_mem_nil,or_false]at hy
   rcases hy with rfl|rfl|rfl|rfl<;>assumption
  ·simp only[quietNames,List.mem_cons,List.not_mem_nil,or_false]at hy
   rcases hy with rfl|rfl|rfl|rfl|rfl|rfl<;>assumption
 unfold iniSt at hs
 rw[Bool.and_eq_true]at hs
 obtain⟨hsc,hs⟩:=hs
 have S:=scope_of hsc
 split at hs
 ·next a' b' p hps =>
  simp only[Bool.and_eq_true,decide_eq_true_eq,Bool.not_eq_true',Bool.or_eq_true]at hs
  obtain⟨⟨⟨⟨⟨⟨⟨hN,rfl⟩,rfl⟩,hp1⟩,hp2⟩,hg1⟩,hg2⟩,hb⟩:=hs
  rw[hN,hps]at S
  rw[hps]at b
  refine⟨C,PySem.W.mg_of X G a,?_,(fun z=>by rw[hf]at z;cases z),fun _=>⟨T,f,F,fun P w base=>⟨_,p,init_ok lf hcd S F ⟨hp1,hp2⟩ hg1 (fun z=>?_) (PySem.W.mg_none_of X G ml) hb,fun s us Xs hl=>?_⟩⟩,al⟩
  ·intro h' X'
   obtain⟨_,_,_,_,_,_,_,_,_,_,_,_,_,_,_,hh⟩:=F.heap X'
   exact⟨_,_,_,_,_,_,_,_,_,_,_,_,_,_,_,_,hh.hC,hh.tl⟩
  ·rcases hg2 with q|q
   ·rw[z]at q;cases q
   ·exact q
  ·rw[List.append_nil]at hl ⊢
   match us,hl with
   |[u1,u2,u3],_ =>
    obtain⟨k,e1,e2⟩:=b kV doc pm an cdv ct d0 u1 u2 u3 Td
    exact BindsTo.of_defaults rfl (Xs _ _ lD) rfl e1 e2
 ·cases hs
theorem law_sp{K:PySem.W.Frag}{H:Hp}{a:Addr}{ns:List Int}(hl:ns.length<=63)(h:SqL K H a (ns.map V.int)):spD K 1 false false c_law [.ref a] H (fun v _=>v=.bl true) fun _ _ _=>False:=by
 have is:∀ns:List Int,Iss K (minus H []) (ns.map D.int) (ns.map V.int):=by
  intro ns
  induction ns with
  |nil=>unfold Iss;rfl
  |cons n r ih =>
   simp only[List.map_cons]
   unfold Iss
   exact⟨_,_,rfl,int_is n,ih⟩
 refine⟨[],[.lst (ns.map .int)],rfl,(fun _ z=>nomatch z),?_,⟨ns,rfl,hl⟩,fun d e v H' s i=>?_,fun _ z=>z.elim⟩
 ·unfold Iss
  refine⟨_,_,rfl,lst_is ?_ (is ns),?_⟩
  ·have e:minus H []=H:=by
    funext b
    exact minus_at (by simp)
   rw[e];exact h
  ·unfold Iss;rfl
 ·have e':d=.bl true:=e
  subst e'
  exact is_bl i
end Z
namespace Z
open PySem
def b_common_divisor:Sm :=
 (.seq (.set 2 (.bi .abs [(.var 0)]))
 (.seq (.set 3 (.bi .abs [(.var 1)]))
 (.seq (.whl (.cmp .gt (.var 3) (.cst (.int 0))) (.seq (.set 4 (.bin .mod (.var 2) (.var 3)))
  (.seq (.set 2 (.var 3))
  (.seq (.set 3 (.var 4))
  .nop))))
 (.seq (.ret (.var 2))
 .nop))))
def b_ratio(i_common_divisor:Nat):Sm :=
 (.seq (.ite (.cmp .eq (.var 1) (.cst (.int 0))) (.seq .never
  .nop) .nop)
 (.seq (.set 2 (.call i_common_divisor [(.var 0),(.var 1)]))
 (.seq (.ite (.cmp .lt (.var 1) (.cst (.int 0))) (.seq (.set 2 (.neg (.var 2)))
  .nop) .nop)
 (.seq (.ret (.tup [(.bin .fdiv (.var 0) (.var 2)),(.bin .fdiv (.var 1) (.var 2))]))
 .nop))))
def rq(r:Rat):D:=.tup [.int r.num,.int r.den]
def c_common_divisor:Ctr where
 pre ds:=match ds with|[.int _,.int _]=>True|_=>False
 res ds d:=match ds with|[.int a,.int b]=>d=.int (Int.gcd a b)|_=>False
theorem k_common_divisor{C:Cfg}:Keeps C 5 b_common_divisor c_common_divisor:=by
 rintro ds h
 simp only[c_common_divisor]at h
 split at h
 case h_2=>exact h.elim
 next a b =>
 simp_all_arith! only[b_common_divisor,c_common_divisor,abs_eq]
 refine whl_by (fun σ=>∃(x y:Nat) (o:Option Sl),Nat.gcd x y=Int.gcd a b/\σ=[some (.sh (.int a)),some (.sh (.int b)),some (.sh (.int x)),some (.sh (.int y)),o]) (fun σ=>(sInt σ 3).toNat) ?_ ?_
 ·exact⟨_,_,_,rfl,rfl⟩
 ·rintro σ ⟨x,y,o,hg,rfl⟩
  simp_all_arith! only[sInt]
  by_cases h0:0<(y:Int)
  ·rw[if_pos h0,fmod_pos (by lia)]
   have hm:x%y<y:=Nat.mod_lt _ (by lia)
   refine⟨by lia,by lia,y,x%y,some (.sh (.int ((x:Int)%y))),?_,by simp⟩
   rw[Nat.gcd_comm,<- Nat.gcd_rec,Nat.gcd_comm];exact hg
  ·rw[if_neg h0]
   have:y=0:=by lia
   subst this
   simp only[Nat.gcd_zero_right]at hg
   rw[hg]
def c_ratio:Ctr where
 pre ds:=match ds with|[.int _,.int u]=>u≠0/\bits u<=9000|_=>False
 res ds d:=match ds with|[.int t,.int u]=>d=rq (Rat.divInt t u)|_=>False
theorem k_ratio{C:Cfg}{i:Nat}(h1:C.ct i=c_common_divisor):Keeps C 3 (b_ratio i) c_ratio:=by
 rintro ds h
 simp only[c_ratio]at h
 split at h
 case h_2=>exact h.elim
 next t u =>
 obtain⟨hu,hb⟩:=h
 have hg:0<Int.gcd t u:=Int.gcd_pos_of_ne_zero_right _ hu
 have hgb:bits (Int.gcd t u:Int)<=9000:=by
  refine Nat.le_trans (bits_mono ?_) hb
  have:=Nat.le_of_dvd (by lia) (Int.gcd_dvd_natAbs_right t u)
  lia
 have dt:((Int.gcd t u:Nat):Int) ∣ t:=Int.gcd_dvd_left ..
 have du:((Int.gcd t u:Nat):Int) ∣ u:=Int.gcd_dvd_right ..
 have en:=Rat.num_divInt t u
 have ed:=Rat.den_divInt t u
 rw[if_neg hu]at ed
 rw[Int.gcd_comm]at en ed
 simp_all_arith! only[b_ratio,c_ratio,h1,c_common_divisor]
 rw[if_neg hu]
 generalize Int.gcd t u=g at *
 obtain⟨t',rfl⟩:=dt
 obtain⟨u',rfl⟩:=du
 have g0:(g:Int)≠0:=by lia
 by_cases hs:(g:Int)*u'<0
 ·rw[if_pos hs]
  refine⟨⟨by lia,by rw[bits_neg];exact hgb⟩,⟨by lia,by rw[bits_neg];exact hgb⟩,?_⟩
  have hu':u'<0:=by
   rcases Int.lt_or_le u' 0 with z|z
   ·exact z
   ·have:=Int.mul_nonneg (show (0:Int)<=g by lia) z;lia
  have e1:((g:Int)*t').fdiv (-g)=-t':=by
   rw[show (g:Int)*t'=-t' * -g by rw[Int.neg_mul_neg,Int.mul_comm]]
   exact Int.mul_fdiv_cancel _ (by lia)
  have e2:((g:Int)*u').fdiv (-g)=-u':=by
   rw[show (g:Int)*u'=-u' * -g by rw[Int.neg_mul_neg,Int.mul_comm]]
   exact Int.mul_fdiv_cancel _ (by lia)
  rw[e1,e2]
  unfold rq
  rw[en,ed,Int.sign_eq_neg_one_of_neg hs]
  have e3:-1*((g:Int)*t') / g=-t':=by
   rw[show -1*((g:Int)*t')=g * -t' by grind,Int.mul_ediv_cancel_left _ g0]
  have e4:((g:Int)*u').natAbs / g=u'.natAbs:=by
   rw[Int.natAbs_mul,Int.natAbs_natCast,Nat.mul_div_cancel_left _ hg]
  rw[e3,e4]
  have:((u'.natAbs:Nat):Int)=-u':=by lia
  rw[this]
 ·rw[if_neg hs]
  refine⟨⟨by lia,hgb⟩,⟨by lia,hgb⟩,?_⟩
  have hu':0<u':=by
   have:u'≠0:=fun z=>by subst z;simp at hu
   rcases Int.lt_or_le u' 0 with z|z
   ·have:=Int.mul_neg_of_pos_of_neg (show (0:Int)<g by lia) z;lia
   ·lia
  have hp:0<(g:Int)*u':=Int.mul_pos (by lia) hu'
  have e1:((g:Int)*t').fdiv g=t':=by
   rw[Int.mul_comm]
   exact Int.mul_fdiv_cancel _ (by lia)
  have e2:((g:Int)*u').fdiv g=u':=by
   rw[Int.mul_comm]
   exact Int.mul_fdiv_cancel _ (by lia)
  rw[e1,e2]
  unfold rq
  rw[en,ed,Int.sign_eq_one_of_pos hp,Int.one_mul,Int.mul_ediv_cancel_left _ g0]
  have e4:((g:Int)*u').natAbs / g=u'.natAbs:=by
   rw[Int.natAbs_mul,Int.natAbs_natCast,Nat.mul_div_cancel_left _ hg]
  rw[e4]
  have:((u'.natAbs:Nat):Int)=u':=by lia
  rw[this]
section
variable {C:Cfg} {i:Nat} (h1:C.ct i=c_ratio)
include h1
end
end Z
namespace Z
open PySem
end Z
namespace Z
open PySem
def cls(r v:Int):Int:=if r=0 then 0 else if 2*r=v then 2 else if 2*r<v then 1 else 3
end Z
namespace Z
open PySem
end Z
namespace Z
open PySem
def OddP(x:Int×Int):Prop:=x.1%2=1\/(x.1=0/\x.2=0)
theorem OddP.num{x:Int×Int}(h:OddP x):∃n,1<=n/\∀m,n<=m->Num m x.1 x.2:=by
 refine⟨bits x.1+1,by lia,fun m hm=>⟨h,?_⟩⟩
 exact bits_le_iff.mp (by lia)
end Z
namespace Z
open PySem
end Z
set_option exponentiation.threshold 3000
namespace Z
open PySem
section
variable {x y:Int×Int} {n:Int} {d:D} {Q:D->Prop} {E:XD->Prop}
end
end Z
set_option exponentiation.threshold 3000
namespace Z
open PySem
end Z
set_option exponentiation.threshold 3000
namespace Z
open PySem
section
variable {Q:D->Prop} {E:XD->Prop}
end
section
variable {Q:D->Prop} {E:XD->Prop}
end
end Z
set_option exponentiation.threshold 3000
namespace Z
open PySem
def b_ratioX(i_common_divisor:Nat):Sm :=
 (.seq (.ite (.cmp .eq (.var 1) (.cst (.int 0))) (.seq (.raise "NoRatio")
  .nop) .nop)
 (.seq (.set 2 (.call i_common_divisor [(.var 0),(.var 1)]))
 (.seq (.ite (.cmp .lt (.var 1) (.cst (.int 0))) (.seq (.set 2 (.neg (.var 2)))
  .nop) .nop)
 (.seq (.ret (.tup [(.bin .fdiv (.var 0) (.var 2)),(.bin .fdiv (.var 1) (.var 2))]))
 .nop))))
def c_ratioX:Ctr where
 pre ds:=∃t u:Int,ds=[.int t,.int u]/\bits u<=9000
 res ds d:=∀t u:Int,ds=[.int t,.int u]->u≠0/\d=rq (Rat.divInt t u)
 exn ds y:=∃t:Int,ds=[.int t,.int 0]/\y.t="NoRatio"
theorem k_ratioX{C:Cfg}{i:Nat}(h1:C.ct i=c_common_divisor):KeepsX C 3 (b_ratioX i) c_ratioX:=by
 rintro ds ⟨t,u,rfl,hb⟩
 by_cases hu:u=0
 ·subst hu
  rw[b_ratioX,ws_seq,ws_ite]
  dsimp! only[]
  rw[ws_seq,ws_raise]
  exact⟨t,rfl,rfl⟩
 ·have k:=k_ratio h1 [.int t,.int u] ⟨hu,hb⟩
  rw[b_ratio,ws_seq,ws_ite]at k
  rw[b_ratioX,ws_seq,ws_ite]
  simp only[wpE,startS,List.map_cons,List.map_nil,List.cons_append,List.nil_append,getS,cmp_eq,dep_int,Nat.min_self,Nat.zero_le,true_and,eq_int_int,isB_bl,beq_iff_eq,hu,if_false,ws_nop]at k ⊢
  refine wpS_mono _ ?_ k
  refine⟨fun _ z=>?_,fun d z=>?_,fun _ z=>z,fun _ z=>z,fun _ z=>z,fun _ z=>z.elim,fun _ z=>z⟩
  ·intro t' u' e
   cases e
   exact⟨hu,z⟩
  ·intro t' u' e
   cases e
   exact⟨hu,z⟩
end Z
namespace Z
open PySem PySem.NumText
def sx(l:List Nat):Str:=⟨l.toArray⟩
def tx(l:List Nat):D:=.str (sx l)
theorem sx_len(l:List Nat):(sx l).length=l.length:=by simp[sx,Str.length]
theorem sx_list(l:List Nat):(sx l).cps.toList=l:=by simp[sx]
section
variable {Q:D->Prop} {l m:List Nat}
theorem tx_ix{i:Int}:ixD (tx l) (.int i) Q ↔ ∃c,(l.length<=lim/\0<=i/\l[i.toNat]?=some c)/\Q (tx [c]):=by
 show (∃c,((sx l).length<=lim/\0<=i/\(sx l).cps[i.toNat]?=some c)/\Q (.str ⟨#[c]⟩)) ↔ _
 rw[sx_len]
 have e:(sx l).cps[i.toNat]?=l[i.toNat]?:=by simp[sx]
 rw[e];rfl
theorem tx_at{i:Int}{c:Nat}(h0:0<=i)(hl:l.length<=lim)(h:l[i.toNat]?=some c):ixD (tx l) (.int i) Q ↔ Q (tx [c]):=by
 rw[tx_ix]
 constructor
 ·rintro⟨d,⟨_,_,e⟩,q⟩
  rw[h]at e
  cases e;exact q
 ·intro q
  exact⟨c,⟨hl,h0,h⟩,q⟩
end
end Z
namespace Z
open PySem PySem.Spec PySem.Calls PyProof.Rows PySem.W L2
open PySem.Builtin PySem.Builtin.Str PySem.Builtin.BaseException PySem.Builtin.Exceptions
section
variable {prog:Program} {w:World} {A:Around} {E:Value->Shared->Prop} {s:Shared} {K:Frag} {e D t0:Addr} {oe:Obj} {vs:Array Value}
theorem bexc_args{M:Model}{items:List Value}{Q:Value×List Value->Shared->Prop}(he:s.heap.get? e=some oe)(hd:oe.data=.fields vs)(h0:vs[0]?=some (.ref t0))(ht:s.heap.TupAt t0 items)(hq:Q (.ref t0,items) s) :
 wpAny M A (bexcArgs (.ref e)) Q E s:=by
 obtain⟨ot,k,hto,_,htd⟩:=ht
 unfold bexcArgs
 refine wpAny_bind (wpAny_field he hd h0 (wpAny_bind (wpAny_seqItems hto htd ?_)))
 have:items.toArray.toList=items:=by simp
 show wpAny M A (pure (Value.ref t0,items.toArray.toList)) Q E s
 rw[this];exact wpAny_pure hq
theorem bexc_str{m:Str}{tk:Tok}{Q:PySem.Fin->Shared->Prop}(he:s.heap.get? e=some oe)(hd:oe.data=.fields vs)(h0:vs[0]?=some (.ref t0))(ht:s.heap.TupAt t0 [.str m tk])(hq:Q (.done (.ret (.str m tk))) s) :
 wpAny (model prog w) A (Builtin.«BaseException.__str__» ⟨[.ref e],[]⟩) Q E s:=by
 unfold Builtin.«BaseException.__str__»
 repeat (first|with_reducible refine bexc_args he hd h0 ht ?_|wp_step)
 exact hq
theorem strOf_own{m:Str}{tk:Tok}{Q:Value->Shared->Prop}(X:K.In s.heap)(hu:A.units<cLine)(hs:findIn K (.ref D) "__str__"=some (some (.builtin "BaseException.__str__")))(mb:mroIn K D (.type "BaseException")=some true)
 (he:s.heap.get? e=some oe) (hc:oe.cls=.ref D) (hd:oe.data=.fields vs) (h0:vs[0]?=some (.ref t0)) (ht:s.heap.TupAt t0 [.str m tk]) (hq:Q (.str m tk) s) :
 wpAny (model prog w) A (Builtin.Str.strOf (.ref e)) Q E s:=by
 obtain⟨hh,g,d,t,os⟩:=s
 have L0:Looks (model prog w) hh (typeOf (.ref e)) (.ref D):=(show ExAt hh e D from ⟨oe,he,hc⟩).type
 have L1:=looks_findIn (M:=model prog w) X hs
 have L4:=looks_mroIn (M:=model prog w) X mb
 unfold Builtin.Str.strOf callSpecial? specialOf
 refine wpAny_bind (wpAny_cRoomFor hu (wpAny_bind (wpAny_bind (wpAny_bind (L0.at (L1.at ?_))))))
 refine wpAny_holding (wpAny_bind (wpAny_of_eq (show bindSpecial (.builtin "BaseException.__str__") (.ref e)=pure (.builtin "BaseException.__str__",[.ref e]) from rfl) ?_))
 refine wpAny_bind (wpAny_call (codeAny_call_builtin (by decide +kernel) PySem.F.entry_bexc_str ?_))
 have hk:builtinKind "BaseException.__str__"=some .slot:=by decide +kernel
 have hsp:splitId "BaseException.__str__"=some ("BaseException","__str__"):=by decide +kernel
 have har:=PySem.F.args_bexc_str (.ref e)
 simp only[checkBuiltinCall,hk,hsp]
 refine wpAny_bind ?_
 unfold isInstance
 refine wpAny_bind (L0.at ?_)
 refine L4.at ?_
 rw[if_neg (by decide)]
 refine wpAny_of_eq (show _=pure () from har) ?_
 refine bexc_str he hd h0 ht ?_
 refine wpAny_pure ?_
 repeat wp_step
 exact hq
theorem str_own{m:Str}{tk:Tok}{Q:Value->Shared->Prop}(X:K.In s.heap)(hu:A.units+2<cLine)(hs:findIn K (.ref D) "__str__"=some (some (.builtin "BaseException.__str__")))(mb:mroIn K D (.type "BaseException")=some true)
 (he:s.heap.get? e=some oe) (hc:oe.cls=.ref D) (hd:oe.data=.fields vs) (h0:vs[0]?=some (.ref t0)) (ht:s.heap.TupAt t0 [.str m tk]) (hq:Q (.str m tk) s) :
 wpAny (model prog w) A (call (.type "str") [.ref e]) Q E s :=
 callType_new PySem.F.called_str (by decide) (PySem.F.typeCall_str_1 _) (PySem.F.newCall_str_1 _) (fun obj=>PySem.F.args_object_init_2 obj _) PySem.F.entry_str_new
  (meets_str_new (S:=fun A' R s'=>A'.units+1<cLine/\K.In s'.heap/\s'.heap.get? e=some oe/\s'.heap.TupAt t0 [.str m tk]/\R (.ok (.ret (.str m tk))) s')
   fun _ _ A' _ _ hq=>strOf_own (A:=A'.in1) hq.2.1 hq.1 hs mb hq.2.2.1 hc hd h0 hq.2.2.2.1 hq.2.2.2.2)
  ⟨(show A.units+1+1<cLine from hu),X,he,ht,typeIs_str _ _ _,hq⟩
end
abbrev fx(C t:Addr)(dct:Option Addr):HO:=.frz (excO C t dct) (.ext fun _=>True)
abbrev xt(e C t:Addr)(dct:Option Addr):HO:=.ext fun h=>h.get? e=some (excO C t dct)
theorem fx_ok{P:Program}{w:World}{H:Hp}{h:Heap}{e C t:Addr}{dct:Option Addr}(he:h.get? e=some (excO C t dct)):ObjOk P w H h e (fx C t dct):=⟨he,trivial,⟨_,he⟩,fun _ _ _ _=>trivial⟩
theorem xt_ok{P:Program}{w:World}{H:Hp}{h:Heap}{e C t:Addr}{dct:Option Addr}(he:h.get? e=some (excO C t dct)):ObjOk P w H h e (xt e C t dct):=⟨he,⟨_,he⟩,fun h1 h2 q k=>k _ q⟩
theorem tup_ok{P:Program}{w:World}{H:Hp}{h:Heap}{t:Addr}{vs:List V}{us:List Value}(hl:vs.length<=sizeLine)(r:Vals vs us)(ht:h.get? t=some { cls:=.type "tuple",data:=.seq us.toArray }):ObjOk P w H h t (.tup vs):=⟨hl,us,r,⟨_,ht,rfl,_,rfl⟩⟩
def Ex1(H:Hp)(C:Addr)(tx:V)(f:List (Str×V))(e:Addr):Prop:=∃t dct,H e=some (fx C t dct)/\H t=some (.tup [tx])/\∀p∈f,∃dA,dct=some dA/\H dA=some (.xd [p])
theorem Ex1.mono{H H':Hp}{C e:Addr}{tx:V}{f:List (Str×V)}(h:Ex1 H C tx f e)(s:Same H H'):Ex1 H' C tx f e:=by
 obtain⟨t,dct,h1,h2,h3⟩:=h
 exact⟨t,dct,s _ _ h1,s _ _ h2,fun p hp=>by obtain⟨dA,q1,q2⟩:=h3 p hp;exact⟨dA,q1,s _ _ q2⟩⟩
section
variable {X:Cx} {C T f:Addr} {n x:Str} {l:Bool} {np pos cp:Pos} {t:TA}
theorem new_old{pins:List (Addr×Obj)}{σ:L2.St}{H:Hp}{s:Shared}(I:Inv X pins σ H s)(w:Own X){a:Addr}(n:s.heap.get? a=none) :
 H a=none/\X.s₀.heap.get? a=none/\a≠X.env.locals/\(∀x c,X.env.cells.lookup x=some c->c≠a)/\∀p∈X.pn++pins,p.1≠a:=by
 have old:∀ {b:Addr} {o:Obj},s.heap.get? b=some o->b≠a:=fun {b o} z y=>by rw[y,n]at z;cases z
 refine⟨?_,?_,fun z=>?_,fun y cc q=>?_,fun p hp=>old (I.pin p hp).1⟩
 ·cases q:H a with
  |none=>rfl
  |some u =>
   obtain⟨o,z⟩:=obj_get (I.hok a u q)
   rw[n]at z;cases z
 ·cases q:X.s₀.heap.get? a with
  |none=>rfl
  |some o =>
   obtain⟨o',z⟩:=I.base.there a o q (by rw[w.ex];simp)
   exact absurd rfl (old z)
 ·obtain⟨m',⟨o,_,_,ho',_⟩,_⟩:=I.loc
  exact old ho' z.symm
 ·obtain⟨v,o,ho',_⟩:=I.cell y cc q
  exact old ho'
theorem pe_made{e1:Expr}(w:Own X)(hq:excIn X.K C bmV newV=true)(kp:keepIn X.K (.ref C)=true)(hg:Gl X x)(hm:X.mg x=some (.ref C))(ha:PA X [e1] t)(hdb:(x == ("__debug__":Str))=false)(he:starEach [e1] X.env=(false,eval e1 X.env)::starEach [] X.env:=by rfl)(hpl:(backTo cp (starEach [] X.env)).any (·.1)=false:=by rfl) :
 PE X (.Call (.Name x np) [e1] [] cp) (fun σ H Q=>t σ H fun vs H1=>∃v,vs=[v]/\∀e H',Same H1 H'->H1 e=none->Ex1 H' C v [] e->Q (.ref e) H'):=by
 intro pins s σ H Q I h
 refine wpAny_Call_Name_kw (ld_glob I hg hm ?_ hdb)
 refine PySem.W.callWith_K (h₀:=X.base) I.ok.mod.kin kp (thn (ha cp pins s σ H _ I h) fun us s1 ⟨vs,H1,I1,r,v,hv,q⟩=>⟨I1.kIn,?_⟩) he hpl
 subst hv
 obtain⟨bm,N,nm,qn,bs,hd,sn,sub,ab,col,dd,k0,k1,k2,k3,k5,mN,hC,hN,hni,TL⟩:=exc_obj I1.kIn hq
 obtain⟨u,rfl,ru⟩:∃u,us=[u]/\RelV v u:=by cases r with|cons r1 r2=>cases r2;exact⟨_,rfl,r1⟩
 obtain⟨hp,g,d,tk,os⟩:=s1
 refine wpAny_call_exc_subU (Q:=EP X pins σ Q) PySem.F.excBase_ValueError (by decide +kernel) PySem.F.excBase_ValueError TL hC hN hni (fun h' e md=>?_) (by show 1<=sizeLine;decide)
 obtain⟨t0,g1,g2,g3⟩:=md.there
 have o1:=new_old I1 w md.new
 have o2:=new_old I1 w g2
 have I2:Inv X pins σ H1 ⟨h',g,d,tk,os⟩:=I1.un (t':=tk) (Un.kept md.keeps) (I1.hok.kept md.keeps)
 have I3:=inv_track (v:=.tup [v]) I2 o2.2.1 o2.1 (fun _=>tup_ok (by show 1<=sizeLine;decide) (.cons ru .nil) g3) o2.2.2.1 o2.2.2.2.1 o2.2.2.2.2
 have ne:e≠t0:=fun z=>by
  rw[z,g3]at g1
  cases g1
 have I4:=inv_track (v:=fx C t0 none) I3 o1.2.1 (by rw[upd_ne ne];exact o1.1) (fun _=>fx_ok g1) o1.2.2.1 o1.2.2.2.1 o1.2.2.2.2
 have s1:Same H1 (upd H1 t0 (.tup [v])):=same_upd o2.1 _
 exact⟨.ref e,_,I4,rfl,q e _ (s1.trans (same_upd (by rw[upd_ne ne];exact o1.1) _)) o1.1 ⟨t0,none,upd_same ..,by rw[upd_ne ne.symm,upd_same],fun _ z=>nomatch z⟩⟩
theorem ps_superT{tp sp xp ap cp pos:Pos}{i j:Nat}{x y:Str}(w:Own X)(gl:Gl X "TrueError")(hT:X.mg "TrueError"=some (.ref T))(hi:X.N[i]?=some x)(hj:X.N[j]?=some y)(vx:Vis X.env.scope x)(vy:Vis X.env.scope y)
 (dx:(x == ("__debug__":Str))=false/\(x == ("__classdict__":Str))=false) (dy:(y == ("__debug__":Str))=false/\(y == ("__classdict__":Str))=false) (F:InitF X.K X.mg C T f n) (hline:(ap.endLine == cp.line)=true) :
 PS X (.Expr (.Call (.Attribute (.Name "TrueError" tp) "__init__" ap) [.Name x sp,.Name y xp] [] cp) pos) (fun D σ H=>∃e v,σ[i]?=some (some (.ref e))/\σ[j]?=some (some v)/\H e=some (xo e C none)/\∀t,H t=none->t≠e->D.nx σ (upd (upd H t (.tup [v])) e (xt e C t none))):=by
 refine Z.PS.imp (fun D σ H w=>?_) (ps_expr (te:=fun σ H Q=>∃e v,σ[i]?=some (some (.ref e))/\σ[j]?=some (some v)/\H e=some (xo e C none)/\∀t,H t=none->t≠e->Q .non (upd (upd H t (.tup [v])) e (xt e C t none))) ?_)
 ·exact w
 intro pins s σ H Q I h
 obtain⟨e,v,e1,e2,he,q⟩:=h
 obtain⟨ddT,cd,sl,t1,t2,t3⟩:=F.lt
 have hfew:methodCallForm ([Expr.Name x sp,.Name y xp].length+([]:List Keyword).length) (backTo cp (starEach [Expr.Name x sp,.Name y xp] X.env)) (backToKw cp (keywordEach [] X.env))=true:=by rfl
 rw[arm_eval_Call,show attributeBase (.Name "TrueError" tp) "__init__" X.env (eval (.Name "TrueError" tp) X.env)=eval (.Name "TrueError" tp) X.env from rfl]
 refine wpAny_bind (ld_glob I gl hT ?_ (by decide))
 refine wpAny_bind (wpAny_standAt ?_)
 unfold methodCall methodCallPos
 rw[hfew,hline]
 refine wpAny_bind (wpAny_holding ?_)
 show wpAny _ _ (getMethod (.ref T) "__init__" _) _ _ _
 refine cls_meth I.kIn (I.kIn _ _ t1) F.op F.fi ?_
 refine wpAny_bind (wpAny_pure ?_)
 have pa:PA X [.Name x sp,.Name y xp] _:=pa_cons (pe_var hi vx dx.1 dx.2) (pa_cons (pe_var hj vy dy.1 dy.2) pa_nil)
 refine PyProof.Rows.callWith_builtin1 (thn (pa cp pins _ σ H (fun vs H1=>vs=[.ref e,v]/\H1=H) (I.tok _) ⟨_,e1,_,e2,rfl,rfl⟩) fun us s1 ⟨vs,H1,I1,r1,q1,q2⟩=>?_)
 subst q1 q2
 obtain⟨nm,qn,N,bs,sn,sub,ab,col,dd,k0,k1,k2,k3,k5,mN,hh⟩:=F.heap I1.kIn
 cases r1 with
 |cons r2 r3 =>
  obtain rfl:_=Value.ref e:=r2
  cases r3 with
  |cons r4 r5 =>
   cases r5
   obtain⟨⟨t0,he1⟩,_⟩:=I1.hok e _ he
   obtain⟨hp,g,d,tk,os⟩:=s1
   have fr:hp.get? hp.objs.size=none:=Heap.get?_none_of_le (Nat.le_refl _)
   obtain⟨o1,o2,o3,o4,o5⟩:=new_old I1 w (a:=hp.objs.size) fr
   have ne:hp.objs.size≠e:=Nat.ne_of_gt (Heap.lt_size he1)
   refine init_base PySem.F.excBase_ValueError hh.tl hh.hC he1 (by show 1<=sizeLine;decide) fun h' kp g1 g2=>?_
   have J1:=I1.write (x:=e) (e:=e) (o:=xt e C hp.objs.size none) (t':=tk) (h':=h') (by rw[he];trivial) (.inl rfl) kp ⟨_,g1⟩ (xt_ok g1)
   have J2:=inv_track (v:=.tup [v]) J1 o2 (by rw[upd_ne ne];exact o1) (fun _=>tup_ok (by show 1<=sizeLine;decide) (.cons r4 .nil) g2) o3 o4 o5
   have e3:upd (upd H1 e (xt e C hp.objs.size none)) hp.objs.size (.tup [v])=upd (upd H1 hp.objs.size (.tup [v])) e (xt e C hp.objs.size none):=by
    funext b
    by_cases hb:b=e
    ·subst hb;rw[upd_ne ne.symm,upd_same,upd_same]
    ·rw[upd_ne hb]
     by_cases hb2:b=hp.objs.size
     ·subst hb2;rw[upd_same,upd_same]
     ·rw[upd_ne hb2,upd_ne hb2,upd_ne hb]
   rw[e3]at J2
   exact⟨.non,_,J2,rfl,q _ o1 ne⟩
theorem ps_fldT{value:Expr}{tv:TE}{sp ap pos:Pos}{i:Nat}{x:Str}(w:Own X)(hi:X.N[i]?=some x)(vx:Vis X.env.scope x)(dx:(x == ("__debug__":Str))=false/\(x == ("__classdict__":Str))=false)(hv:PE X value tv)(F:InitF X.K X.mg C T f n)(hs:swapsWith value (some (.Attribute (.Name x sp) n ap)) pos.line X.env=pure false) :
 PS X (.Assign [.Attribute (.Name x sp) n ap] value pos) (fun D σ H=>tv σ H fun y H1=>∃e t,σ[i]?=some (some (.ref e))/\H1 e=some (xt e C t none)/\∀dA,H1 dA=none->dA≠e->D.nx σ (upd (upd H1 dA (.xd [(n,y)])) e (xt e C t (some dA)))):=by
 intro pins s σ H D I h
 refine plainObj_wpAny_Assign_Attribute (thn (hv pins s σ H _ I h) fun u s1 ⟨y,H1,I1,ry,e,t,e1,he,q⟩=>thn (pe_var hi vx dx.1 dx.2 pins s1 σ H1 (fun v H2=>v=.ref e/\H2=H1) I1 ⟨_,e1,rfl,rfl⟩) fun ov s2 ⟨v,H2,I2,rx,q1,q2⟩=>?_) hs
 subst q1 q2
 obtain rfl:ov=Value.ref e:=rx
 obtain⟨nm,qn,N,bs,sn,sub,ab,col,dd,k0,k1,k2,k3,k5,mN,hh⟩:=F.heap I2.kIn
 obtain⟨he1,_⟩:=I2.hok e _ he
 obtain⟨hp,g,d,tk,os⟩:=s2
 refine fld_setattr PySem.F.store_ValueError hh.hC hh.hn (hh.no _ (by simp)) (hh.tn _ (by simp)) (hh.no _ (by simp)) (hh.tn _ (by simp)) F.bl he1 rfl rfl rfl fun h' tk' g1 g2 g3=>?_
 have ne:hp.objs.size≠e:=Nat.ne_of_gt (Heap.lt_size he1)
 obtain⟨fr,o2,o3,o4,o5⟩:=new_old I2 w (a:=hp.objs.size) (Heap.get?_none_of_le (Nat.le_refl _))
 refine⟨σ,_,?_,q hp.objs.size fr ne⟩
 have I3:=I2.write (x:=e) (e:=e) (o:=xt e C t (some hp.objs.size)) (t':=tk') (h':=h') (by rw[he];trivial) (.inl rfl) g3 ⟨_,g1⟩ (xt_ok g1)
 have I4:=inv_track (v:=.xd [(n,y)]) I3 (a:=hp.objs.size) o2 (by rw[upd_ne ne];exact fr) (fun H'=>⟨_,g2,fun z=>?_⟩) o3 o4 o5
 ·have e3:upd (upd H2 e (xt e C t (some hp.objs.size))) hp.objs.size (.xd [(n,y)])=upd (upd H2 hp.objs.size (.xd [(n,y)])) e (xt e C t (some hp.objs.size)):=by
   funext b
   by_cases hb:b=e
   ·subst hb;rw[upd_ne ne.symm,upd_same,upd_same]
   ·rw[upd_ne hb]
    by_cases hb2:b=hp.objs.size
    ·subst hb2;rw[upd_same,upd_same]
    ·rw[upd_ne hb2,upd_ne hb2,upd_ne hb]
  rw[e3]at I4
  exact I4
 ·by_cases hz:z=n
  ·subst hz
   simp only[List.lookup_cons,beq_self_eq_true,if_true]
   exact ry
  ·have hb:(z == n)=false:=by simpa using hz
   simp only[List.lookup_cons,hb,List.lookup_nil,if_neg hz]
   trivial
end
def FV(K:Frag)(H:Hp)(l:Bool)(v:V):Option (List V)->Prop
 |none=>l=false
 |some ys=>l=true/\((v=.non/\ys=[])\/∃a,v=.ref a/\SqL K H a ys)
def FOut(ys:Option (List V))(y v:V)(H H':Hp):Prop:=match ys with
 |none=>y=v
 |some l=>∃q,y=.ref q/\H q=none/\H' q=some (.lst l)
def spT(K:Frag)(C:Addr)(n:Str)(l:Bool):Sp:=fun vs H Q _=>∃e tx v ys,vs=[.ref e,tx,v]/\H e=some (xo e C none)/\FV K H l v ys /\
 ∀t dA y H',(∀b o,b≠e->H b=some o->H' b=some o)->H t=none->H dA=none->H' e=some (xt e C t (some dA))->H' t=some (.tup [tx])->H' dA=some (.xd [(n,y)]) ->
  FOut ys y v H H'->Q .non H'
theorem init_okT{P:Program}{w:World}{K:Frag}{mg:Str->Option Value}{base:Heap}{CX:CXT}{C T f:Addr}{n p:Str}{l:Bool}{st:Stmt}{x q:Str}{dV oc kV doc pm cdv ct:Value}{od an:Option Addr}{osl:Array (Option Value)}
 (lk:K.lookup f=some ⟨oc,od,.func (fnOf x q (defArgs st) (defBody st) (defScope st) dV kV doc pm an cdv ct),osl⟩) (hcd:codeIn K cdv q=true) (S:FnScope ["self","text",p] ["self","text",p] (defScope st)) (F:InitF K mg C T f n)
 (dp:(p == ("__debug__":Str))=false/\(p == ("__classdict__":Str))=false) (gl:(defScope st).names.lookup ("TrueError":Str)=some .globalImplicit) (gl2:l=true->(defScope st).names.lookup ("list":Str)=some .globalImplicit) (ml:mg "list"=none) (hb:initBody n p l (defBody st)=true) :
 FnOk P w K mg base CX 1 f (fnOf x q (defArgs st) (defBody st) (defScope st) dV kV doc pm an cdv ct) ["self","text",p] (spT K C n l):=by
 refine fn_of (k:=0) lk hcd S (fun vs H Q E h=>by obtain⟨e,tx,v,ys,rfl,_⟩:=h;rfl) fun A outer s H vs Q E hr h=>?_
 obtain⟨e,tx,v,ys,rfl,he,fv,h⟩:=h
 generalize hX:cxOf CX P w K mg base ["self","text",p] q (defScope st) f cdv A outer s H E=X
 have own:Own X:=by subst hX;exact⟨rfl,rfl,rfl⟩
 have vis:∀c ∈ [("self":Str),"text",p],Vis X.env.scope c:=fun c hc=>by subst hX;exact(S.par c hc).elim .inl fun z=>.inr (.inl z)
 have hN:X.N=[("self":Str),"text",p]:=by subst hX;rfl
 have hK:X.K=K:=by subst hX;rfl
 have hm:X.mg=mg:=by subst hX;rfl
 have hcx:X.env.scope=defScope st:=by subst hX;rfl
 have FX:InitF X.K X.mg C T f n:=by rw[hK,hm];exact F
 have ne:∀ {b:Addr},H b=none->b≠e:=fun {b} q z=>by rw[z,he]at q;cases q
 match hd:defBody st,hb with
 |[a,b],hb =>
  unfold initBody at hb
  rw[Bool.and_eq_true]at hb
  obtain⟨tp,ap,sp,xp,cp,pos,rfl,hline⟩:=superOk_ hb.1
  have p1:=ps_superT (X:=X) (tp:=tp) (sp:=sp) (xp:=xp) (ap:=ap) (cp:=cp) (pos:=pos) (i:=0) (j:=1) (x:="self") (y:="text") own (show X.env.scope.names.lookup _=_ by rw[hcx];exact gl) (by rw[hm];exact F.te) (by rw[hN];rfl) (by rw[hN];rfl) (vis _ (by simp)) (vis _ (by simp)) ⟨by decide,by decide⟩ ⟨by decide,by decide⟩ FX hline
  have pv:∀pp,PE X (.Name p pp) (tVar 2):=fun pp=>pe_var (by rw[hN];rfl) (vis _ (by simp)) dp.1 dp.2
  rcases fldSt_ hb.2 with⟨rfl,sp2,ap2,pp,pos2,rfl⟩|⟨rfl,sp2,ap2,cp2,j,kp,mp,lp,gp,qp,dp2,ip,pos2,rfl⟩
  ·cases ys with
   |some ys=>exact absurd fv.1 (by decide)
   |none =>
   have p2:=ps_fldT (X:=X) (i:=0) (x:="self") (sp:=sp2) (ap:=ap2) (pos:=pos2) own (by rw[hN];rfl) (vis _ (by simp)) ⟨by decide,by decide⟩ (pv pp) FX rfl
   refine⟨_,pss_cons p1 (pss_cons p2 pss_nil),e,tx,rfl,rfl,he,fun t ht hte=>⟨v,rfl,e,t,rfl,upd_same ..,fun dA h1 h2=>?_⟩⟩
   have n1:dA≠t:=fun z=>by rw[z,upd_ne hte,upd_same]at h1;cases h1
   rw[upd_ne h2,upd_ne n1]at h1
   refine h t dA v _ (fun b o hbe hb=>?_) ht h1 (upd_same ..) ?_ ?_ rfl
   ·have:b≠dA:=fun z=>by rw[z,h1]at hb;cases hb
    have n3:b≠t:=fun z=>by rw[z,ht]at hb;cases hb
    rw[upd_ne hbe,upd_ne this,upd_ne hbe,upd_ne n3];exact hb
   ·rw[upd_ne hte,upd_ne n1.symm,upd_ne hte,upd_same]
   ·rw[upd_ne h2,upd_same]
  ·cases ys with
   |none=>exact absurd (show true=false from fv) (by decide)
   |some ys =>
   have pl:PE X (.Call (.Name "list" gp) [.Name p qp] [] dp2) _:=pe_callTy (T:="list") call_list_of (show X.env.scope.names.lookup _=_ by rw[hcx];exact gl2 rfl) (by rw[hm];exact ml) PyProof.Rows.boot_list (pa_cons (pv qp) pa_nil)
   have pi:PE X (.IfExp (.Compare (.Name p cp2) [.Is] [.Constant .none j kp] mp) (.List [] lp) (.Call (.Name "list" gp) [.Name p qp] [] dp2) ip) _:=pe_ifExp (pt_cmp (pc_isN (pv cp2))) (pe_lst pa_nil) pl
   have p2:=ps_fldT (X:=X) (i:=0) (x:="self") (sp:=sp2) (ap:=ap2) (pos:=pos2) own (by rw[hN];rfl) (vis _ (by simp)) ⟨by decide,by decide⟩ pi FX rfl
   refine⟨_,pss_cons p1 (pss_cons p2 pss_nil),e,tx,rfl,rfl,he,fun t ht hte=>?_⟩
   have fin:∀q dA,upd (upd H t (.tup [tx])) e (xt e C t none) q=none->upd (upd (upd H t (.tup [tx])) e (xt e C t none)) q (.lst ys) dA=none->dA≠e->Q .non (upd (upd (upd (upd (upd H t (.tup [tx])) e (xt e C t none)) q (.lst ys)) dA (.xd [(n,.ref q)])) e (xt e C t (some dA))):=fun q dA hq h1 h2=>by
    have q1:q≠e:=fun z=>by rw[z,upd_same]at hq;cases hq
    have q2:q≠t:=fun z=>by rw[z,upd_ne hte,upd_same]at hq;cases hq
    rw[upd_ne q1,upd_ne q2]at hq
    have d1:dA≠q:=fun z=>by rw[z,upd_same]at h1;cases h1
    have d2:dA≠t:=fun z=>by rw[z,upd_ne q2.symm,upd_ne hte,upd_same]at h1;cases h1
    rw[upd_ne d1,upd_ne h2,upd_ne d2]at h1
    refine h t dA (.ref q) _ (fun b o hbe hb=>?_) ht h1 (upd_same ..) ?_ ?_ ⟨q,rfl,hq,?_⟩
    ·have b1:b≠dA:=fun z=>by rw[z,h1]at hb;cases hb
     have b2:b≠t:=fun z=>by rw[z,ht]at hb;cases hb
     have b3:b≠q:=fun z=>by rw[z,hq]at hb;cases hb
     rw[upd_ne hbe,upd_ne b1,upd_ne b3,upd_ne hbe,upd_ne b2];exact hb
    ·rw[upd_ne hte,upd_ne d2.symm,upd_ne q2.symm,upd_ne hte,upd_same]
    ·rw[upd_ne h2,upd_same]
    ·rw[upd_ne q1,upd_ne d1.symm,upd_same]
   have tl:∀q,upd (upd H t (.tup [tx])) e (xt e C t none) q=none->∃e',∃t',(L2.start ["self","text",p] [.ref e,tx,v])[0]?=some (some (.ref e'))/\upd (upd (upd H t (.tup [tx])) e (xt e C t none)) q (.lst ys) e'=some (xt e' C t' none)/\∀dA,upd (upd (upd H t (.tup [tx])) e (xt e C t none)) q (.lst ys) dA=none->dA≠e'->Q .non (upd (upd (upd (upd (upd H t (.tup [tx])) e (xt e C t none)) q (.lst ys)) dA (.xd [(n,.ref q)])) e' (xt e' C t' (some dA))):=fun q hq=>by
    refine⟨e,t,rfl,?_,fun dA h1 h2=>fin q dA hq h1 h2⟩
    have q1:q≠e:=fun z=>by rw[z,upd_same]at hq;cases hq
    rw[upd_ne q1.symm,upd_same]
   obtain⟨_,fv⟩:=fv
   rcases fv with⟨rfl,rfl⟩|⟨aw,rfl,sq⟩
   ·refine⟨_,rfl,true,rfl,?_⟩
    exact⟨by decide,fun q hq=>tl q hq⟩
   ·refine⟨_,rfl,false,rfl,?_⟩
    refine⟨_,rfl,aw,ys,rfl,.inl ?_,fun q hq=>tl q hq⟩
    rw[hK]
    have go:∀u,H aw=some u->(∀φ,u ≠ .ext φ)->upd (upd H t (.tup [tx])) e (xt e C t none) aw=some u:=fun u hu nu=>by
     have b1:aw≠e:=fun z=>by rw[z,he]at hu;cases hu;exact nu _ rfl
     have b2:aw≠t:=fun z=>by rw[z,ht]at hu;cases hu
     rw[upd_ne b1,upd_ne b2];exact hu
    rcases sq with(sq|⟨o,sq⟩)|sq
    ·exact .inl (.inl (go _ sq fun _ z=>nomatch z))
    ·exact .inl (.inr ⟨o,go _ sq fun _ z=>nomatch z⟩)
    ·exact .inr sq
section
variable {X:Cx} {C T f:Addr} {n x:Str} {l:Bool} {np pos cp:Pos} {t:TA}
theorem inv_fix{pins:List (Addr×Obj)}{σ:L2.St}{H:Hp}{s:Shared}{e t:Addr}{dct:Option Addr}(I:Inv X pins σ H s)(h0:X.s₀.heap.get? e=none)(hH:H e=some (xt e C t dct)):Inv X pins σ (upd H e (fx C t dct)) s:=by
 have ne:∀ {b:Addr} {u:HO},H b=some u->(∀φ,u ≠ .ext φ)->b≠e:=fun {b u} q n z=>by rw[z,hH]at q;cases q;exact n _ rfl
 refine⟨I.ok,I.os,I.bare,⟨I.base.keep,I.base.slot,fun b o' q n hx=>?_,I.base.there,fun b xs q=>?_,fun b o' u q=>?_,fun b ps q=>?_⟩,I.loc,I.cell,?_,fun x c q=>?_,fun p hp'=>?_,fun b u q=>?_,I.len⟩
 ·rw[upd_ne fun z=>by rw[z,h0]at q;cases q];exact I.base.free b o' q n hx
 ·have:=I.base.tups b xs q;rw[upd_ne (ne this fun _ z=>nomatch z)];exact this
 ·have:=I.base.frzs b o' u q;rw[upd_ne (ne this fun _ z=>nomatch z)];exact this
 ·obtain⟨m,this⟩:=I.base.tbls b ps q;exact⟨m,by rw[upd_ne (ne this fun _ z=>nomatch z)];exact this⟩
 ·have:=I.free;rw[upd_ne fun z=>by rw[z,hH]at this;cases this];exact this
 ·have:=I.freeC x c q;rw[upd_ne fun z=>by rw[z,hH]at this;cases this];exact this
 ·obtain⟨g1,g2,g3⟩:=I.pin p hp'
  exact⟨g1,by rw[upd_ne fun z=>by rw[z,hH]at g2;cases g2];exact g2,g3⟩
 ·by_cases hb:b=e
  ·subst hb
   rw[upd_same]at q
   cases q
   exact fx_ok (I.hok b _ hH).1
  ·rw[upd_ne hb]at q
   exact(I.hok b u q).stay (fun _ _ _ z=>z) (fun c z=>by rw[upd_ne (ne z fun _ z=>nomatch z)];exact z) fun c xs z=>by rw[upd_ne (ne z fun _ z=>nomatch z)];exact z
structure InitT (X:Cx) (C T f:Addr) (n:Str) (l:Bool) (dvs:List V) (ds:List Value):Prop where
 F:InitF X.K X.mg C T f n
 fn:∃fd p,FnOk X.prog X.w X.K X.mg X.base (CXz X.prog X.w X.mg) 1 f fd ["self","text",p] (spT X.K C n l)/\Binds X.K fd ["self","text",p] ds
 vs:Vals dvs ds
 rm:Room 2 X.A
theorem pe_excT{e1:Expr}{es:List Expr}{dvs:List V}{ds:List Value}(w:Own X)(ix:InitT X C T f n l dvs ds)(hg:Gl X x)(hm:X.mg x=some (.ref C))(ha:PA X (e1::es) t)(hdb:(x == ("__debug__":Str))=false)(he:starEach (e1::es) X.env=(false,eval e1 X.env)::starEach es X.env:=by rfl)(hpl:(backTo cp (starEach es X.env)).any (·.1)=false:=by rfl) :
 PE X (.Call (.Name x np) (e1::es) [] cp) (fun σ H Q=>t σ H fun vs H1=>∃tx v ys,vs++dvs=[tx,v]/\FV X.K H1 l v ys /\
  ∀e y H',Same H1 H'->H1 e=none->Ex1 H' C tx [(n,y)] e->FOut ys y v H1 H'->Q (.ref e) H'):=by
 intro pins s σ H Q I h
 refine wpAny_Call_Name_kw (ld_glob I hg hm ?_ hdb)
 refine PySem.W.callWith_K (h₀:=X.base) I.ok.mod.kin ix.F.kp (thn (ha cp pins s σ H _ I h) fun us s1 ⟨vs,H1,I1,r,tx,v,ys,hl,fv,q⟩=>⟨I1.kIn,?_⟩) he hpl
 obtain⟨fd,p,FO,hb⟩:=ix.fn
 obtain⟨nm,qn,N,bs,sn,sub,ab,col,dd,k0,k1,k2,k3,k5,mN,hh⟩:=ix.F.heap I1.kIn
 obtain⟨oI,hfI,hfc⟩:=hh.hf
 obtain⟨hp,g,d,tk,os⟩:=s1
 have hu:us.length+ds.length=2:=by rw[<- r.length,<- ix.vs.length,<- List.length_append,hl];rfl
 have hul:us.length<=sizeLine:=Nat.le_trans (show us.length<=2 by omega) (by decide)
 refine call_initU (Q:=EP X pins σ Q) PySem.F.excBase_ValueError (by decide +kernel) PySem.F.excBase_ValueError hh.tl hh.hC hh.hn hh.hi hfI hfc (fun h' e md=>?_) (by rw[show ([]:List Value)++us=us from rfl];exact hul)
 obtain⟨hH,h0,I2⟩:=made_inv (C:=C) I1 w md
 have r2:Vals (V.ref e::(vs++dvs)) ((Value.ref e::us)++ds):=.cons rfl (r.append ix.vs)
 rw[hl]at r2
 have fv2:FV X.K (upd H1 e (xo e C none)) l v ys:=by
  cases ys with
  |none=>exact fv
  |some ys =>
   refine⟨fv.1,fv.2.imp id fun⟨a,ea,sq⟩=>⟨a,ea,?_⟩⟩
   exact(same_upd hH _).seq sq
 refine wpAny_call (codeAny_mono (FO.run _ X.stack _ _ ⟨Value.ref e::us,[]⟩ ((Value.ref e::us)++ds) _ (fun r H2=>r=.non/\∃t dA y,(∀b o,b≠e->H1 b=some o->H2 b=some o)/\H2 e=some (xt e C t (some dA))/\H2 t=some (.tup [tx])/\H2 dA=some (.xd [(n,y)])/\FOut ys y v H1 H2) E0 (ix.rm.make C us []) (I2.env0.make C us []) (by
  exact hb ⟨h',g,d,tk,os⟩ (Value.ref e::us) I2.kIn (by simp;omega)) r2 ⟨e,tx,v,ys,rfl,upd_same ..,fv2,fun t dA y H2 k1 k2 k3 k4 k5 k6 k7=>?_⟩) fun rr s' hq'=>?_)
 ·have nn:∀ {b:Addr},upd H1 e (xo e C none) b=none->H1 b=none:=fun {b} z=>by
   have:b≠e:=fun q=>by rw[q,upd_same]at z;cases z
   rw[upd_ne this]at z;exact z
  refine⟨rfl,t,dA,y,fun b o hb' q=>k1 b o hb' (by rw[upd_ne hb'];exact q),k4,k5,k6,?_⟩
  cases ys with
  |none=>exact k7
  |some ys=>obtain⟨q,q1,q2,q3⟩:=k7;exact⟨q,q1,nn q2,q3⟩
 cases rr with
 |error e=>exact(passZ (X:=X) pins σ _ _ e s' I2 hq')
 |ok fl =>
  cases fl with
  |ret u =>
   obtain⟨v',H',I3,rv,ev,t,dA,y,k1,k4,k5,k6,k7⟩:=I2.after hq'
   subst ev
   have n1:t≠e:=fun z=>by rw[z,k4]at k5;cases k5
   have n2:dA≠e:=fun z=>by rw[z,k4]at k6;cases k6
   refine⟨rv,⟨V.ref e,_,inv_fix I3 h0 k4,rfl,q e y _ (fun b o hb'=>?_) hH ⟨t,some dA,upd_same ..,by rw[upd_ne n1];exact k5,fun p hp=>⟨dA,rfl,by rw[List.mem_singleton.mp hp,upd_ne n2];exact k6⟩⟩ ?_⟩⟩
   ·have:b≠e:=fun z=>by rw[z,hH]at hb';cases hb'
    rw[upd_ne this];exact k1 b o this hb'
   ·cases ys with
    |none=>exact k7
    |some ys =>
     obtain⟨q,q1,q2,q3⟩:=k7
     have:q≠e:=fun z=>by rw[z,k4]at q3;cases q3
     exact⟨q,q1,q2,by rw[upd_ne this];exact q3⟩
  |next=>exact False.elim hq'
  |brk=>exact False.elim hq'
  |cont=>exact False.elim hq'
end
section
variable {X:Cx} {C T f:Addr} {n x:Str} {l:Bool} {np pos cp:Pos} {t:TA}
theorem pe_fldG{b:Expr}{tb:TE}(F:InitF X.K X.mg C T f n)(hb:PE X b tb)(hab:attributeBase b n X.env (eval b X.env)=eval b X.env:=by rfl) :
 PE X (.Attribute b n pos) (fun σ H Q=>tb σ H fun x H1=>∃e tx v,x=.ref e/\Ex1 H1 C tx [(n,v)] e/\Q v H1):=by
 intro pins s σ H Q I h
 refine attr_of hab (thn (hb pins s σ H _ I h) fun ov s1 ⟨v1,H1,I1,rx,e,tx,v,ev,⟨t,dct,he,ht,hf⟩,q⟩=>?_)
 subst ev
 obtain rfl:ov=Value.ref e:=rx
 obtain⟨dA,rfl,hx⟩:=hf (n,v) (by simp)
 obtain⟨nm,qn,N,bs,sn,sub,ab,col,dd,k0,k1,k2,k3,k5,mN,hh⟩:=F.heap I1.kIn
 obtain⟨he1,_⟩:=I1.hok e _ he
 obtain⟨mA,hns,hf⟩:=I1.hok dA _ hx
 have hf:=hf n
 simp only[List.lookup_cons,beq_self_eq_true,if_true]at hf
 obtain⟨hp,g,d,tk,os⟩:=s1
 cases hv:mA n with
 |none=>rw[hv]at hf;exact hf.elim
 |some uv =>
  rw[hv]at hf
  have rv:RelV v uv:=hf
  refine fld_attr PySem.F.attrBase_ValueError hh.hC hh.hn (hh.no _ (by simp)) (hh.no _ (by simp)) hh.tq (hh.tn _ (by simp[quietNames])) (hh.tn _ (by simp[quietNames])) (hh.tn _ (by simp)) F.bl (hh.no _ (by simp)) he1 rfl rfl rfl hns.ns hv ?_ ⟨v,H1,I1.tok _,rv,q⟩
  intro id z
  subst z
  cases v<;>first|exact nomatch rv|(obtain⟨_,z⟩:=rv;exact nomatch z)
structure StrF (K:Frag) (D:Addr):Prop where
 st:findIn K (.ref D) "__str__"=some (some (.builtin "BaseException.__str__"))
 mb:mroIn K D (.type "BaseException")=some true
theorem call_strx(hu:X.A.units+2<cLine):CallR X (.type "str") (fun vs H Q=>∃e D m f,vs=[.ref e]/\StrF X.K D/\Ex1 H D (.str m) f e/\Q (.str m) H):=by
 rintro pins s σ H vs us Q I r ⟨e,D,m,f,rfl,sf,⟨t,dct,he,ht,_⟩,q⟩
 obtain⟨u,rfl,r1⟩:=Vals.one r
 cases (show u=Value.ref e from r1)
 obtain⟨he1,_⟩:=I.hok e _ he
 obtain⟨_,its,rv,it⟩:=I.hok t _ ht
 obtain⟨u,rfl,ru⟩:=Vals.one rv
 obtain⟨tk,rfl⟩:=ru
 obtain⟨o,q1,q2,k,q3⟩:=it
 exact str_own I.kIn hu sf.st sf.mb he1 rfl rfl rfl ⟨o,k,q1,q2,q3⟩ ⟨.str m,H,I,⟨_,rfl⟩,q⟩
theorem pe_alone{i:Nat}{y0:Str}{ep:Pos}(al:Alone X)(rm:Room 1 X.A)(ga:Gl X "_law_alone")(hi:X.N[i]?=some y0)(vx:Vis X.env.scope y0)(dx:(y0 == ("__debug__":Str))=false/\(y0 == ("__classdict__":Str))=false) :
 PE X (.Call (.Name "_law_alone" np) [.Name y0 ep] [] cp) (fun σ H Q=>∃e y D tx f,σ[i]?=some (some (.ref e))/\AloneF X.K X.mg y D/\Ex1 H D tx f e/\∀H',Same H H'->Q (.bl true) H'):=by
 obtain⟨fa,fd,F,hm,hk,hb⟩:=al.fn
 refine PE.imp (fun σ H Q z=>?_) (pe_call (CX:=CXz X.prog X.w X.mg) (E:=E0) (dvs:=[]) F rm ga hm hk hb .nil passZ (pa_cons (pe_var hi vx dx.1 dx.2) pa_nil))
 obtain⟨e,y,D,tx,f,e1,af,⟨t,dct,he,_⟩,q⟩:=z
 exact⟨_,e1,y,D,e,_,_,af,rfl,he,rfl,q⟩
end
def Mk(X:Cx)(c:Str):Prop:=∃D,X.mg c=some (.ref D)/\((hasF c=false/\excIn X.K D bmV newV=true/\keepIn X.K (.ref D)=true) \/
 (hasF c=true/\∃T f dv d0,InitT X D T f (fldN c) (c == ("Dependent":Str)) [dv] [d0]/\dv=if c="Dependent" then .non else .int 0))
def Exs(mg:Str->Option Value)(H0 H:Hp)(tx:V):List Str->List Addr->Prop
 |[],es=>es=[]
 |c::cs,es=>∃e r D y,es=e::r/\mg c=some (.ref D)/\Ex1 H D tx (if hasF c=true then [(fldN c,y)] else []) e/\(c="Dependent"->∃q,y=.ref q/\H0 q=none/\H q=some (.lst []))/\(c="BadText"->y=.int 0)/\Exs mg H0 H tx cs r
theorem Exs.mono{mg:Str->Option Value}{H0 H1 H H':Hp}{tx:V}(s:Same H H')(s0:Same H1 H0):∀ {cs:List Str} {es:List Addr},Exs mg H0 H tx cs es->Exs mg H1 H' tx cs es
 |[],es,h=>h
 |c::cs,es,h=>by
  obtain⟨e,r,D,y,h1,h2,h3,h4,h5,h6⟩:=h
  exact⟨e,r,D,y,h1,h2,h3.mono s,fun z=>by obtain⟨q,q1,q2,q3⟩:=h4 z;exact⟨q,q1,s0.free q2,s _ _ q3⟩,h5,h6.mono s s0⟩
theorem Exs.append{mg:Str->Option Value}{H0 H:Hp}{tx:V}:∀ {cs ds:List Str} {as bs:List Addr},Exs mg H0 H tx cs as->Exs mg H0 H tx ds bs->Exs mg H0 H tx (cs++ds) (as++bs)
 |[],ds,as,bs,h,g=>by cases h;exact g
 |c::cs,ds,as,bs,h,g=>by
  obtain⟨e,r,D,y,rfl,h2,h3,h4,h5,h6⟩:=h
  exact⟨e,r++bs,D,y,rfl,h2,h3,h4,h5,Exs.append h6 g⟩
theorem Exs.len{mg:Str->Option Value}{H0 H:Hp}{tx:V}:∀ {cs:List Str} {as:List Addr},Exs mg H0 H tx cs as->as.length=cs.length
 |[],as,h=>by cases h;rfl
 |c::cs,as,h=>by
  obtain⟨e,r,D,y,rfl,h2,h3,h4,h5,h6⟩:=h
  simp[Exs.len h6]
def tMs(X:Cx)(i:Nat)(cs:List Str):TA:=fun σ H Q=>∃tx,σ[i]?=some (some tx)/\∀as H',Same H H'->Exs X.mg H H' tx cs as->Q (as.map .ref) H'
section
variable {X:Cx} {np pos cp wp:Pos} {t:TA} {c y:Str} {i:Nat}
theorem pe_mk1(w:Own X)(m:Mk X c)(hg:Gl X c)(hdb:(c == ("__debug__":Str))=false)(hi:X.N[i]?=some y)(vx:Vis X.env.scope y)(dx:(y == ("__debug__":Str))=false/\(y == ("__classdict__":Str))=false) :
 PE X (.Call (.Name c np) [.Name y wp] [] cp) (fun σ H Q=>∃tx,σ[i]?=some (some tx)/\∀e H',Same H H'->Exs X.mg H H' tx [c] [e]->Q (.ref e) H'):=by
 obtain⟨D,hm,⟨h1,h2,h3⟩|⟨h1,T,f,dv,d0,ix,hd⟩⟩:=m
 ·refine PE.imp (fun σ H Q z=>?_) (pe_made w h2 h3 hg hm (pa_cons (pe_var hi vx dx.1 dx.2) pa_nil) hdb)
  obtain⟨tx,e1,q⟩:=z
  refine⟨_,e1,tx,rfl,fun e H' s1 n1 x1=>q e H' s1 ⟨e,[],D,.non,rfl,hm,by rw[h1];exact x1,fun z=>?_,fun z=>?_,rfl⟩⟩
  ·subst z;cases h1
  ·subst z;cases h1
 ·refine PE.imp (fun σ H Q z=>?_) (pe_excT w ix hg hm (pa_cons (pe_var hi vx dx.1 dx.2) pa_nil) hdb)
  obtain⟨tx,e1,q⟩:=z
  by_cases hc:c="Dependent"
  ·subst hc
   rw[if_pos rfl]at hd
   subst hd
   refine⟨_,e1,tx,.non,some [],rfl,⟨by decide,.inl ⟨rfl,rfl⟩⟩,fun e y H' s1 n1 x1 fo=>q e H' s1 ⟨e,[],D,y,rfl,hm,by rw[h1];exact x1,fun _=>fo,fun z=>absurd z (by decide),rfl⟩⟩
  ·rw[if_neg hc]at hd
   subst hd
   refine⟨_,e1,tx,.int 0,none,rfl,?_,fun e y H' s1 n1 x1 fo=>q e H' s1 ⟨e,[],D,y,rfl,hm,by rw[h1];exact x1,fun z=>absurd z hc,fun _=>fo,rfl⟩⟩
   show (c == ("Dependent":Str))=false
   simpa using hc
theorem pa_mnil(hi:X.N[i]?=some y):PA X [] (tMs X i []):=by
 refine PA.imp (fun σ H Q z=>?_) (pa_nil (X:=X))
 obtain⟨tx,e1,q⟩:=z
 exact q [] H (fun _ _ z=>z) rfl
theorem pa_mcons{cs:List Str}{es:List Expr}(w:Own X)(m:Mk X c)(hg:Gl X c)(hdb:(c == ("__debug__":Str))=false)(hi:X.N[i]?=some y)(vx:Vis X.env.scope y)(dx:(y == ("__debug__":Str))=false/\(y == ("__classdict__":Str))=false)(rest:PA X es (tMs X i cs)) :
 PA X (.Call (.Name c np) [.Name y wp] [] cp::es) (tMs X i (c::cs)):=by
 refine PA.imp (fun σ H Q z=>?_) (pa_cons (pe_mk1 w m hg hdb hi vx dx) rest rfl)
 obtain⟨tx,e1,q⟩:=z
 refine⟨tx,e1,fun e H1 s1 x1=>⟨tx,e1,fun as H2 s2 x2=>q (e::as) H2 (s1.trans s2) ?_⟩⟩
 obtain⟨e',r,D,y,h1,h2,h3,h4,h5,h6⟩:=x1
 cases h1
 exact⟨e,as,D,y,rfl,h2,h3.mono s2,fun z=>by obtain⟨q,q1,q2,q3⟩:=h4 z;exact⟨q,q1,q2,s2 _ _ q3⟩,h5,x2.mono (fun _ _ z=>z) s1⟩
end
theorem ps_caught{X:Cx}{k:Ck}{C:Cfg}{O₀:List Addr}{H₀:Hp}{i f:Nat}{es:List Ex}{v:Expr}{x:Str}{Ca:Addr}{ep np qf qe cp rp p pos:Pos}(ok:OkS X.nox k C)(own:Own X)(o0:∀a∈O₀,H₀ a≠none)(al:Alone X)(hm:X.mg x=some (.ref Ca))(co:ClsOk X.K X.mg x Ca true)
 (g1:Gl X x) (g2:(x == ("__debug__":Str))=false) (ga:Gl X "_law_alone") (hle:X.env.scope.names.lookup ("_law_e":Str)=some .local) (hi:X.N[i]?=some ("_law_e":Str)) (hk:k.cls=[]) (hka:k.al=false) (hrs:k.rs=false) (hv:chkN k f es [] v=true) (hsw:swapsWith v none ep.line X.env=pure false) :
 PS X (.Try [.Expr v ep] [.ExceptHandler (some (.Name x np)) (some "_law_e") [.Return (some (.Call (.Name "_law_alone" qf) [.Name "_law_e" qe] [] cp)) rp] p] [] [] pos)
  (fun D τ H=>∃σ O,Same H₀ H/\(∀a∈O₀,a∈O)/\Reps X.K O H σ τ/\wpN C σ f es [] (fun _=>False) (fun y=>y.t=x)/\∀H',Same H₀ H'->D.rt (.bl true) H'):=by
 intro pins s τ H D I w
 refine wpAny_Try_except ?_
 obtain⟨σ,O,g,gs,R,w,rt⟩:=w
 let hes:List ExceptHandler:=[.ExceptHandler (some (.Name x np)) (some "_law_e") [.Return (some (.Call (.Name "_law_alone" qf) [.Name "_law_e" qe] [] cp)) rp] p]
 let xe':Value->Shared->Prop:=fun e s₁=>wpAny (model X.prog X.w) X.A (noteFrame e X.env) (fun _ s₂=>wpAny (model X.prog X.w) X.A (setFlight e none) (fun _ s₃=>wpAny (model X.prog X.w) X.A (handleBy e X.env hes) (SP X pins D) X.xe s₃) X.xe s₂) X.xe s₁
 let X':Cx:={ X with xe:=xe',pn:=X.pn++pins }
 have toX:∀ {ps:List (Addr×Obj)} {σ':L2.St} {H':Hp} {s':Shared},Inv X' ps σ' H' s'->Inv X pins σ' H' s':=fun {ps σ' H' s'} J=>⟨I.ok,J.os,J.bare,J.base,J.loc,J.cell,J.free,J.freeC,fun q hq=>J.pin q (List.mem_append_left _ hq),J.hok,J.len⟩
 have I':Inv X' [] τ H s:=⟨⟨I.ok.mod,I.ok.kind,I.ok.glob,I.ok.blt,I.ok.above,I.ok.inj,I.ok.has,I.ok.cab,I.ok.hd,I.ok.frames,I.ok.stk,I.ok.exf,I.ok.bs,I.ok.bsz,I.ok.noex,I.ok.exfs,I.ok.funs,I.ok.frf⟩,I.os,I.bare,I.base,I.loc,I.cell,I.free,I.freeC,fun q hq=>I.pin q (by simpa[X']using hq),I.hok,I.len⟩
 have ok':OkX X' k C O₀ H₀ (fun y=>y.t=x):=by
  refine⟨⟨⟨ok.N,ok.nd,ok.names,ok.kd,ok.calm,rfl,ok.units,ok.fns,ok.cns,ok.blt,ok.E⟩,ok.fn⟩,⟨own.stk,own.frm,own.ex⟩,o0,?_,(fun z=>by rw[hrs]at z;cases z),(fun z=>by rw[hrs]at z;cases z),(fun z hz=>by rw[hk]at hz;cases hz),fun z=>?_⟩
  ·intro z Cz hz hmz pins' σ' H' s' H1 da e s2 J sm fd T
   have ec:Cz=Ca:=by rw[hz,show X'.mg x=some (.ref Ca) from hm]at hmz;cases hmz;rfl
   subst ec
   have af:=co.al rfl
   refine caught (X:=X') (Q:=SP X pins D) (E:=X.xe) (pre:=[]) (fun _ z=>nomatch z) J ⟨own.stk,own.frm,own.ex⟩ ok.nd hm co.cl g1 g2 hi hle T ?_
   rintro ea oe vs s7 s1 cl dt dc rfl J7 hn
   have s2':Same H1 (upd H1 ea (.frz oe (.ext fun _=>True))):=same_upd hn _
   have hlen:i<σ'.length:=by
    rw[J.len]
    exact(List.getElem?_eq_some_iff.mp hi).1
   obtain⟨fa,fd',F,hma,hka',hb⟩:=al.fn
   have rm:Room 1 (mkX X' ea).A:=⟨fun z=>absurd z (by decide),al.rm.1,al.rm.2⟩
   have pc:PE (mkX X' ea) (.Call (.Name "_law_alone" qf) [.Name "_law_e" qe] [] cp) _:=pe_call (X:=mkX X' ea) (CX:=CXz X.prog X.w X.mg) (E:=E0) (dvs:=[]) F rm ga hma hka' hb .nil passZ (pa_cons (pe_var hi (.inl hle)) pa_nil)
   have psu:PSs (mkX X' ea) [.Return (some (.Call (.Name "_law_alone" qf) [.Name "_law_e" qe] [] cp)) rp] _:=pss_cons (ps_ret pc) pss_nil
   have fin:∀(f:Flow) (s8:Shared),SP (mkX X' ea) pins' { nx:=fun _ _=>False,rt:=fun v H'=>Same (upd H1 ea (.frz oe (.ext fun _=>True))) H'/\D.rt v H' } f s8 ->
    wpAny (model X'.prog X'.w) X'.A (do bindName X'.env "_law_e" .none;unbindBehindTheSuite X'.env "_law_e" p) (fun _ s₅=>SP X pins D f s₅) X.xe s8:=fun f s8 z=>by
    cases f with
    |ret u =>
     obtain⟨v,σ8,H8,J8,r8,s8',q8⟩:=z
     refine name_gone (X:=X') (inv_unX J J8) ⟨own.stk,own.frm,own.ex⟩ hle fun s9 J9=>?_
     exact⟨v,_,H8,toX J9,r8,q8⟩
    |next=>obtain⟨_,_,_,z⟩:=z;exact z.elim
    |brk=>obtain⟨_,_,_,z⟩:=z;exact z.elim
    |cont=>obtain⟨_,_,_,z⟩:=z;exact z.elim
   refine wpAny_mono (psu pins' s7 _ _ { nx:=fun _ _=>False,rt:=fun v H'=>Same (upd H1 ea (.frz oe (.ext fun _=>True))) H'/\D.rt v H' } J7 ⟨_,List.getElem?_set_self hlen,x,Cz,ea,oe,_,af,rfl,upd_same ..,cl,fun H8 s8=>⟨s8,rt _ ((sm.trans s2').trans s8)⟩⟩) fin fun _ _ z=>z
  ·rw[hka]at z;cases z
 have pb:PSs X' [.Expr v ep] _:=pss_cons (ps_expr (sN ok' f es [] v hv) hsw) pss_nil
 refine wpAny_mono (pb [] s τ H D I' ⟨σ,O,g,gs,R,wpN_mono [] (fun _ z=>z.elim) (fun _ z=>z) w⟩) (fun f s1 z=>?_) fun e s1 z=>z
 cases f with
 |ret u=>obtain⟨v,σ8,H8,J8,r8,q8⟩:=z;exact⟨v,σ8,H8,toX J8,r8,q8⟩
 |next =>
  obtain⟨σ8,H8,J8,q8⟩:=z
  exact pss_nil (X:=X) pins s1 σ8 H8 D (toX J8) q8
 |brk=>obtain⟨σ8,H8,J8,q8⟩:=z;exact⟨σ8,H8,toX J8,q8⟩
 |cont=>obtain⟨σ8,H8,J8,q8⟩:=z;exact⟨σ8,H8,toX J8,q8⟩
def OwnT(K:PySem.W.Frag)(mg:Str->Option Value)(x:Str)(Ca:Addr)(dv:V):Prop:=∃T f,InitF K mg Ca T f (fldN x)/\∃d0,RelV dv d0/\∀(P:Program) (w:World) (base:Heap),∃fd p,FnOk P w K mg base (CXz P w mg) 1 f fd ["self","text",p] (spT K Ca (fldN x) (x == ("Dependent":Str)))/\Binds K fd ["self","text",p] []/\Binds K fd ["self","text",p] [d0]
theorem exc_mkT{K:PySem.W.Frag}{h:Heap}{mg:Str->Option Value}{x:Str}{bb:Bool}{i:FnI}{dv:V}(X:K.In h)(G:h.Ns mainGlobals mg){C T f N:Addr}{nm qn q:Str}{bs:List Value}{sn:List Str}{sub:List Value}{ab:Bool}{col:Option Bool}{dd ddT d1 d2 od an dD:Option Addr}{k0 k1 k2 k3 k5:Option Value}{cdT:ClassData}{slT sl1 sl2 osl slD:Array (Option Value)}{c1 c2 oc d0 cD kV doc pm cdv ct:Value}{Td:Addr}{nD:Nat}{es1 es2:Array DictEntry}{ep1 ep2:Nat}
 (hs:iniSt x i=true) (hf:hasF x=true)
 (b:∀(kV doc pm:Value) (an:Option Addr) (cdv ct d0 u1 u2 u3:Value) (Td:Addr),∃k,bindArgs (PySem.W.fnOf "__init__" q (defArgs i.st) (defBody i.st) (defScope i.st) (.ref Td) kV doc pm an cdv ct) ⟨[u1,u2,u3],[]⟩=seqItems? (.ref Td) >>= k/\k (some #[d0])=pure (i.ps.zip [u1,u2,u3]))
 (b2:∀(kV doc pm:Value) (an:Option Addr) (cdv ct d0 u1 u2:Value) (Td:Addr),∃k,bindArgs (PySem.W.fnOf "__init__" q (defArgs i.st) (defBody i.st) (defScope i.st) (.ref Td) kV doc pm an cdv ct) ⟨[u1,u2],[]⟩=seqItems? (.ref Td) >>= k/\k (some #[d0])=pure (i.ps.zip [u1,u2,d0])) (rd:RelV dv d0)
 (a:PySem.W.nsIn K mainGlobals x=some (some (.ref C))) (te:PySem.W.nsIn K mainGlobals "TrueError"=some (some (.ref T))) (ml:PySem.W.nsIn K mainGlobals "list"=some none)
 (l:K.lookup C=some (excClassObj nm qn C N bs (.ref T::bmV) true sn sub ab col dd k0 k1 k2 k3 k5 newV)) (lN:K.lookup N=some ⟨c1,d1,.dict es1 ep1,sl1⟩) (aN:es1.toList.all strKey=true)
 (lT:K.lookup T=some ⟨.type "type",ddT,.cls cdT,slT⟩) (lM:K.lookup cdT.ns=some ⟨c2,d2,.dict es2 ep2,sl2⟩) (aM:es2.toList.all strKey=true)
 (ii:PySem.W.nsIn K N "__init__"=some (some (.ref f))) (n1:PySem.W.nsIn K N "__getattribute__"=some none) (n2:PySem.W.nsIn K N "__getattr__"=some none) (n3:PySem.W.nsIn K N "__setattr__"=some none) (n4:PySem.W.nsIn K N (fldN x)=some none)
 (m1:PySem.W.nsIn K cdT.ns (fldN x)=some none) (m2:PySem.W.nsIn K cdT.ns "__setattr__"=some none) (m3:PySem.W.nsIn K cdT.ns "__init__"=some none) (m4:PySem.W.nsIn K cdT.ns "__getattribute__"=some none) (m5:PySem.W.nsIn K cdT.ns "__getattr__"=some none) (m6:PySem.W.nsIn K cdT.ns "args"=some none)
 (op:PySem.W.nsIn K cStatics "thirdparty.any"=some none) (fi:PySem.W.findIn K (.ref T) "__init__"=some (some (.builtin "ValueError.__init__"))) (fn:PySem.W.isFn K (.ref f)=true) (kp:PySem.W.keepIn K (.ref C)=true)
 (lf:K.lookup f=some ⟨oc,od,.func (PySem.W.fnOf "__init__" q (defArgs i.st) (defBody i.st) (defScope i.st) (.ref Td) kV doc pm an cdv ct),osl⟩) (lD:K.lookup Td=some ⟨cD,dD,.seq #[d0] nD,slD⟩) (hcd:PySem.W.codeIn K cdv q=true) (al:bb=true->AloneF K mg x C):∃Ca,mg x=some (.ref Ca)/\ClsOk K mg x Ca bb/\OwnT K mg x Ca dv:=by
 have F:InitF K mg C T f (fldN x):=by
  refine⟨⟨nm,qn,N,bs,sn,sub,ab,col,dd,k0,k1,k2,k3,k5,l,nsOk_of lN aN,ii,fun y hy=>?_⟩,⟨ddT,cdT,slT,lT,nsOk_of lM aM,fun y hy=>?_⟩,op,fi,PySem.W.mg_of X G te,fn,kp,bl_f x⟩
  ·simp only[List.mem_cons,List.not_mem_nil,or_false]at hy
   rcases hy with rfl|rfl|rfl|rfl<;>assumption
  ·simp only[quietNames,List.mem_cons,List.not_mem_nil,or_false]at hy
   rcases hy with rfl|rfl|rfl|rfl|rfl|rfl<;>assumption
 have hs0:=hs
 have b0:=b
 unfold iniSt at hs
 rw[Bool.and_eq_true]at hs
 obtain⟨hsc,hs⟩:=hs
 have S:=scope_of hsc
 split at hs
 ·next a' b' p hps =>
  simp only[Bool.and_eq_true,decide_eq_true_eq,Bool.not_eq_true',Bool.or_eq_true]at hs
  obtain⟨⟨⟨⟨⟨⟨⟨hN,rfl⟩,rfl⟩,hp1⟩,hp2⟩,hg1⟩,hg2⟩,hb⟩:=hs
  rw[hN,hps]at S
  rw[hps]at b b2
  refine⟨C,PySem.W.mg_of X G a,?_,T,f,F,d0,rd,fun P w base=>⟨_,p,init_okT lf hcd S F ⟨hp1,hp2⟩ hg1 (fun z=>?_) (PySem.W.mg_none_of X G ml) hb,fun s us Xs hl=>?_,fun s us Xs hl=>?_⟩⟩
  ·obtain⟨Ca,m,co⟩:=exc_mkO (bb:=bb) X G hs0 hf b0 a te ml l lN aN lT lM aM ii n1 n2 n3 n4 m1 m2 m3 m4 m5 m6 op fi fn kp lf lD hcd al
   rw[PySem.W.mg_of X G a]at m
   cases m
   exact co
  ·rcases hg2 with q|q
   ·rw[z]at q;cases q
   ·exact q
  ·rw[List.append_nil]at hl ⊢
   match us,hl with
   |[u1,u2,u3],_ =>
    obtain⟨k,e1,e2⟩:=b kV doc pm an cdv ct d0 u1 u2 u3 Td
    exact BindsTo.of_defaults rfl (Xs _ _ lD) rfl e1 e2
  ·obtain⟨u1,u2,rfl⟩:=two_list (show us.length=2 by simpa using hl)
   obtain⟨k,e1,e2⟩:=b2 kV doc pm an cdv ct d0 u1 u2 Td
   exact BindsTo.of_defaults rfl (Xs _ _ lD) rfl e1 e2
 ·cases hs
theorem ps_setL{X:Cx}{k:Ck}{C:Cfg}{es:List Ex}{b:Ex}{v:Expr}{nm:Str}{yp spos:Pos}{i:Nat}(ok:Ok X k C)(h:chkE k (.compR es b) v=true)(hy:X.N[i]?=some nm)(hl:L2.Loc X.env.scope nm)(hfn:X.fn nm=true\/X.env.scope.names.lookup nm=some .local) :
 PS X (.Assign [.Name nm yp] v spos) (fun D τ H=>tDL X.K C (.compR es b) τ H fun u H'=>D.nx (τ.set i (some u)) H'):=by
 have hck:=h
 rw[chkE]at h
 replace h:=opt_any h
 obtain⟨⟨elt,x,iter,sc⟩,hz,h⟩:=h
 obtain⟨px,pos,rfl⟩:=asComp_ hz
 simp only[Bool.and_eq_true]at h
 obtain⟨⟨h1,h2⟩,h3⟩:=h
 replace h2:=opt_any h2
 obtain⟨⟨f,args,p2⟩,hcn,h2⟩:=h2
 obtain⟨q,e2⟩:=asCallN_ hcn
 subst e2
 simp only[Bool.and_eq_true,decide_eq_true_eq,Bool.not_eq_true']at h2
 obtain⟨⟨⟨hf,hg⟩,hne⟩,ha⟩:=h2
 subst hf
 obtain⟨g1,_,_⟩:=ok.gl hg
 cases args with
 |nil=>simp at hne
 |cons y ys =>
  have hs:starEach (y::ys) X.env=(false,eval y X.env)::starEach ys X.env/\(backTo p2 (starEach ys X.env)).any (·.1)=false:=by
   cases es with
   |nil=>have:=chkEs_nil ha;cases this
   |cons z zs =>
    obtain⟨y',ys',e',h5,h6⟩:=chkEs_cons ha
    cases e'
    exact⟨star_of h5 _ _,plain_of h6 _ _⟩
  intro pins s τ H D I w
  obtain⟨bb,hbb⟩:=swaps_comp (elt:=elt) (gs:=[⟨.Name x px,.Call (.Name "range" q) (y::ys) [] p2,[],0⟩]) (sc:=sc) (pos:=pos) (py:=yp) (y:=nm) spos.line X.env
  have w0:=w
  obtain⟨cl,co⟩:=ok.comp h1 I.ok
  cases bb with
  |false=>exact ps_set ok.nd hy hl (sL ok (.compR es b) _ rfl hck) hbb hfn pins s τ H D I w0
  |true =>
  refine ps_comp (te:=tD X.K C b) ok.calm ok.nd (ok.comp_nE h1) co (pi_rg g1 (ok.blt _ (by decide)) (sA ok es _ ha) hs.1 hs.2) (fun _ _ _ _=>pts_nil) (fun s H fp Ca=>(sB (ok.block h1 co s H fp Ca) b elt h3).1) (fun _=>rfl) hbb hy hl hfn pins s τ H D I ?_
  obtain⟨σ,O,R,w⟩:=w
  unfold wpE at w
  refine⟨σ,O,R,wpEs_mono es (fun ds wd vs H1 s1 i1=>?_) w⟩
  obtain⟨lo,hi,st,e,c,hx,wd⟩:=rgD_of i1 wd
  refine⟨lo,hi,st,e,c,?_⟩
  refine comp_turnsGF (R.mono s1) hx ?_ ?_ ?_ (compL_mono (f:=fun d Q=>wpE C b (σ ++ [some (.sh d)]) Q) (fun d _ _ hq=>wpE_mono b hq) _ (fun ys (wy:WdF X.K O H (fun u H'=>D.nx (τ.set i (some u)) H') (.lst ys))=>WdF.mono s1 wy) wd)
  ·intro j H _ hj
   rw[rangeD_length]at hj
   exact hj
  ·intro j H _ hj
   rw[rangeD_length]at hj
   exact hj
  ·intro j H v H' d _ y hd
   obtain⟨e1,e2⟩:=y
   have hj:j<(if lo<hi then (hi-lo-1) / st+1 else 0).toNat:=by
    rcases Nat.lt_or_ge j (if lo<hi then (hi-lo-1) / st+1 else 0).toNat with z|z
    ·exact z
    ·rw[List.getElem?_eq_none (by rw[rangeD_length];exact z)]at hd;cases hd
   rw[rangeD_get _ _ _ _ hj]at hd
   cases hd
   subst e1
   exact⟨Same.refl _,by rw[e2];exact int_is _⟩
structure Hand (X:Cx) (i:FnI) (L:List FnI) (cns:List Str) (C:Cfg) (lv:Nat):Prop where
 ok:OkS X.nox (i.ck L cns) C
 own:Own X
 rm:Room lv X.A
 sc:X.env.scope=defScope i.st
theorem fn_hand{P:Program}{w:World}{K:PySem.W.Frag}{mg:Str->Option Value}{base:Heap}{C:Cfg}{cns:List Str}{i:FnI}{L:List FnI}{lv:Nat}{f:Addr}{fd:FuncData}{sp:Sp}(h2:2<=lv)(F:FnAt K mg i f fd)(hsc:scopeOk i=true)
 (fns:∀n j,L[n]?=some j->∃f fd,FnOk P w K mg base (CXz P w mg) lv f fd j.ps (spD K j.ps.length (C.fr n) (C.f2 n) (C.ct n))/\FnAt K mg j f fd)
 (hcn:∀n x,cns[n]?=some x->∃u v,mg x=some u/\RelV v u/\∀S,Is K S (C.cn n) v) (hb:∀x∈blts,mg x=none) (hE:∀x,¬ C.E x) (len:∀vs H Q E,sp vs H Q E->vs.length=i.ps.length)
 (body:∀(X:Cx) (H:Hp) (vs:List V) (Q:VK) (E:XK),Hand X i L cns C lv->(X.prog=P/\X.w=w/\X.K=K/\X.mg=mg/\X.base=base/\X.H₀=H)->sp vs H Q E ->
  ∃t,PSs X (defBody i.st) t/\t { nx:=fun _ H'=>Q .non H',rt:=Q } (L2.start i.N vs) H) :
 FnOk P w K mg base (CXz P w mg) (lv+1) f fd i.ps sp:=by
 have S:=scope_of hsc
 refine fun_okz F.fn S len (fun cdv A outer s H vs Q E hr h=>?_)
 have hun:(A.deeper (envOfC i.x (defScope i.st) s.heap.objs.size f cdv)).units+100<cLine:=by have:=hr.un;lia
 have hcalm:A.handled.isNone=true:=by
  have e:A.handled=none:=hr.hd h2
  rw[e];rfl
 have ok:OkS (cxOf (CXz P w mg) P w K mg base i.N i.x (defScope i.st) f cdv A outer s H E).nox (i.ck L cns) C:=by
  refine⟨⟨rfl,S.nd,rfl,S.kind,hcalm,rfl,hun,?_,hcn,hb,hE⟩,fun _=>rfl⟩
  intro n x m e
  have e':(L.map fun j=>(j.x,j.ps.length))[n]?=some (x,m):=e
  rw[List.getElem?_map]at e'
  cases q:L[n]? with
  |none=>rw[q]at e';cases e'
  |some j =>
   rw[q]at e'
   cases e'
   obtain⟨f',fd',F',A'⟩:=fns n j q
   exact⟨f',fd',j.ps,lv,F',hr,A'.mg,A'.fn.kp,.all A'.bd⟩
 exact body (cxOf (CXz P w mg) P w K mg base i.N i.x (defScope i.st) f cdv A outer s H E) H vs Q E ⟨ok,⟨rfl,rfl,rfl⟩,hr,rfl⟩ ⟨rfl,rfl,rfl,rfl,rfl,rfl⟩ h
theorem law_walkH{l:PySem.W.OpenLaw}{q:Program}{loose:List Str}{XP:(Str->Option Value)->Heap->Prop}{YP:World->Heap->Prop}{d:DefRec}{K:Params->PySem.W.Frag}(lv:Nat)(i:FnI){x:Str}
 (hn:l.most=some 63) (hdf:d.params.defaults=[]) (hY:∀(w:World) (h:Heap),YP w h->(K w.params).In h) (hr:Room lv callerA) (hx:i.ps=[x]) (hdn:d.name=i.x)
 (key:∀(w:World) (mg:Str->Option Value) (h:Heap),(K w.params).In h->h.Ns mainGlobals mg->∃f fd,FnAt (K w.params) mg i f fd/\∀base:Heap,FnOk l.prog w (K w.params) mg base (CXz l.prog w mg) lv f fd [x] (spD (K w.params) 1 false false c_law)) :
 PySem.W.WalkO q loose XP YP l.row.toRowW d [] (fun f vs=>PySem.call f vs):=by
 refine L2.walk_of (n:=63) (k:=lv) (x:=x) (CX:=fun _=>fun _ _ _ E _ _=>∃v da H,E v da H) (sp:=fun w=>spD (K w.params) 1 false false c_law) hn (by decide) hdf hr hY ?_ (fun w H a ns hl _ hS=>law_sp hl hS) fun _ _ _ _ _ ⟨_,_,_,z⟩=>z
 intro w mg fa h KX G hmg
 obtain⟨f,fd,A,ok⟩:=key w mg h KX G
 have e:fa=f:=by
  have:=A.mg
  rw[<- hdn,hmg]at this
  cases this
  rfl
 subst e
 refine⟨fd,fun s u=>.of_eq ?_,fun base _ _=>?_⟩
 ·have:=A.bd [u] (by rw[hx];rfl)
  rw[hx]at this
  exact this
 ·exact⟨(ok base).len,fun A outer s H args us vs Q E r e0 b rv hsp=>codeAny_mono ((ok base).run A outer s H args us vs Q E r e0 b rv hsp) fun r s' z=>by
   cases r with
   |ok fl=>cases fl<;>exact z
   |error e=>obtain⟨x,C,H1,da,z,_⟩:=z;exact⟨_,_,_,z⟩⟩
end Z
namespace Z.K10
open PySem PySem.Spec PyProof.Rows L2 Z
def top(i:Nat):Stmt:=PySem.Challenge.pw_trueline_k10_refusals_apart.main.body.getD i (.Pass ⟨0,0,0,0⟩)
def fi_law_cell:FnI:=⟨"_law_cell",top 18,["_law_script","_law_k"],["_law_script","_law_k"],b_law_cell,c_cell,false,false,[],true,false⟩
def fi_law_drawn:FnI:=⟨"_law_drawn",top 19,["_law_cell_here","_law_k","_law_more"],["_law_cell_here","_law_k"],b_law_drawn,c_drawn,false,false,[],true,false⟩
def fi_common_divisor:FnI:=⟨"common_divisor",top 15,["one","other","greater","lesser","left"],["one","other"],b_common_divisor,c_common_divisor,false,false,[],true,false⟩
def fi_ratioX:FnI:=⟨"ratio",top 16,["top","under","divisor"],["top","under"],b_ratioX 2,c_ratioX,false,true,["NoRatio"],true,false⟩
def fi_made:FnI:=⟨"_law_made",top 21,["_law_words","_law_made_here"],["_law_words"],.nop,c_law,false,false,[],false,false⟩
def fi_nought:FnI:=⟨"_law_nought",top 22,["_law_top","_law_e"],["_law_top"],.nop,c_law,false,false,[],false,false⟩
def fi_law:FnI:=⟨"law",top 23,["_law_script","_law_words","_law_made_here","_law_e","_law_handed","_law_kept","_law_place"],["_law_script"],.nop,c_law,false,false,[],false,false⟩
def fi_law_alone:FnI:=⟨"_law_alone",top 20,["_law_e","_law_flags"],["_law_e"],.nop,c_law,false,false,[],true,false⟩
def fi_ini_Dependent:FnI:=⟨"__init__",clsDef (top 6),["self","text","weights"],["self","text","weights"],.nop,c_law,false,false,[],true,false⟩
def fi_ini_BadText:FnI:=⟨"__init__",clsDef (top 8),["self","text","at"],["self","text","at"],.nop,c_law,false,false,[],true,false⟩
def fns:List FnI:=[fi_law_cell,fi_law_drawn,fi_common_divisor,fi_ratioX]
def C:Cfg where
 ct n:=((fns.map (·.c))[n]?).getD ⟨fun _=>False,fun _ _=>False,fun _ _=>False⟩
 cn _:=.non
 fr n:=((fns.map (·.fr))[n]?).getD false
 f2 n:=((fns.map (·.g))[n]?).getD false
theorem chk:chkAll fns []=true:=by decide +kernel
theorem sc_made:scopeOk fi_made=true:=by decide +kernel
theorem sc_nought:scopeOk fi_nought=true:=by decide +kernel
theorem sc_law:scopeOk fi_law=true:=by decide +kernel
def spM(mg:Str->Option Value):Sp:=fun vs H Q _=>∃tx,vs=[tx]/\∀p es H',Same H H'->H p=none->H' p=some (.lst (es.map .ref))->Exs mg H H' tx names12 es->Q (.ref p) H'
theorem made_body{X:Cx}{lv:Nat}{H:Hp}{vs:List V}{Q:VK}{E:XK}(hh:Hand X fi_made fns [] C lv)(mk:∀c∈names12,Mk X c)(sp:spM X.mg vs H Q E) :
 ∃t,PSs X (defBody fi_made.st) t/\t { nx:=fun _ H'=>Q .non H',rt:=Q } (L2.start fi_made.N vs) H:=by
 have nd:=hh.ok.nd
 obtain⟨a1,a2,a3,a4⟩:=hh.ok.toOk.vis (i:=0) (x:="_law_words") (by decide +kernel)
 obtain⟨b1,b2,b3,b4⟩:=hh.ok.toOk.vis (i:=1) (x:="_law_made_here") (by decide +kernel)
 have G:∀c,(fi_made.ck fns []).gl c=true->Gl X c:=fun c h=>(hh.ok.toOk.gl h).1
 have M:∀ {cs:List Str} {es:List Expr} (c:Str) (np wp cp:Pos),c∈names12->(fi_made.ck fns []).gl c=true->PA X es (tMs X 0 cs)->PA X (.Call (.Name c np) [.Name "_law_words" wp] [] cp::es) (tMs X 0 (c::cs)):=fun c np wp cp hc hg r =>
  pa_mcons hh.own (mk c hc) (G c hg) (hh.ok.toOk.gl hg).2.1 a1 (loc_vis a2) ⟨a3,a4⟩ r
 have n0:PA X [] (tMs X 0 []):=pa_mnil a1
 refine⟨_,pss_cons (ps_set nd b1 b2 (pe_lst (M "NoRatio" _ _ _ (by decide) (by decide +kernel) (M "NoNext" _ _ _ (by decide) (by decide +kernel) (M "NoRoot" _ _ _ (by decide) (by decide +kernel) (M "Unfit" _ _ _ (by decide) (by decide +kernel)
  (M "Dependent" _ _ _ (by decide) (by decide +kernel) (M "NoLine" _ _ _ (by decide) (by decide +kernel) (M "BadText" _ _ _ (by decide) (by decide +kernel) n0)))))))) rfl (.inl (hh.ok.fn _)))
  (pss_cons (ps_ret (pe_op L2.op_cat (pe_var b1 (loc_vis b2) b3 b4) (pe_lst (M "TooGreat" _ _ _ (by decide) (by decide +kernel) (M "BadRow" _ _ _ (by decide) (by decide +kernel) (M "NoRow" _ _ _ (by decide) (by decide +kernel) (M "NoColumn" _ _ _ (by decide) (by decide +kernel) (M "TooMany" _ _ _ (by decide) (by decide +kernel) n0)))))))) pss_nil),?_⟩
 obtain⟨tx,rfl,q⟩:=sp
 refine⟨tx,rfl,fun as H1 s1 x1=>?_⟩
 have l1:as.length=7:=x1.len
 refine⟨by rw[List.length_map,l1];decide,fun p hp=>?_⟩
 have s2:Same H1 (upd H1 p (.lst (as.map .ref))):=same_upd hp _
 refine⟨_,rfl,tx,rfl,fun bs H2 s3 x2=>?_⟩
 have l2:bs.length=5:=x2.len
 refine⟨by rw[List.length_map,l2];decide,fun p2 hp2=>?_⟩
 have s4:Same H2 (upd H2 p2 (.lst (bs.map .ref))):=same_upd hp2 _
 refine⟨p,p2,_,_,rfl,rfl,s4 _ _ (s3 _ _ (upd_same ..)),upd_same ..,by simp[l1,l2,sizeLine_eq],fun p3 hp3=>?_⟩
 have s5:=same_upd hp3 (.lst (as.map V.ref++bs.map V.ref))
 have sA:=((s1.trans s2).trans s3).trans (s4.trans s5)
 have sB:=((s1.trans s2).trans s3).trans s4
 refine q p3 (as++bs) _ sA (sB.free hp3) (by rw[List.map_append];exact upd_same ..) ?_
 exact(x1.mono (s2.trans (s3.trans (s4.trans s5))) (fun _ _ z=>z)).append (x2.mono (s4.trans s5) (s1.trans s2))
def spN:Sp:=fun vs H Q _=>∃i:Int,vs=[.int i]/\∀H',Same H H'->Q (.bl true) H'
theorem nought_body{X:Cx}{lv:Nat}{H:Hp}{vs:List V}{Q:VK}{E:XK}{Ca:Addr}(hh:Hand X fi_nought fns [] C lv)(al:Alone X)(hm:X.mg "NoRatio"=some (.ref Ca))(co:ClsOk X.K X.mg "NoRatio" Ca true)(sp:spN vs H Q E) :
 ∃t,PSs X (defBody fi_nought.st) t/\t { nx:=fun _ H'=>Q .non H',rt:=Q } (L2.start fi_nought.N vs) H:=by
 obtain⟨b1,b2,b3,b4⟩:=hh.ok.toOk.vis (i:=1) (x:="_law_e") (by decide +kernel)
 have G:∀c,(fi_nought.ck fns []).gl c=true->Gl X c:=fun c h=>(hh.ok.toOk.gl h).1
 have le:X.env.scope.names.lookup ("_law_e":Str)=some .local:=by rw[hh.sc];decide +kernel
 refine⟨_,pss_cons (ps_caught (O₀:=[]) (H₀:=H) (i:=1) (f:=3) (es:=[.var 0,.cst (.int 0)]) hh.ok hh.own (fun _ z=>nomatch z) al hm co (G _ (by decide +kernel)) (by decide) (G _ (by decide +kernel)) le b1 rfl rfl rfl (by decide +kernel) rfl)
  (pss_cons (ps_ret pe_bl) pss_nil),?_⟩
 obtain⟨i,rfl,q⟩:=sp
 refine⟨startS 2 [.int i],[],fun _ _ z=>z,(fun _ z=>nomatch z),start_reps (N:=fi_nought.N) rfl (fun _ z=>nomatch z) ?_,?_,q⟩
 ·unfold Iss
  exact⟨_,_,rfl,int_is i,by unfold Iss;rfl⟩
 ·show wpEs C _ _ _
  dsimp! only[]
  exact⟨⟨i,0,rfl,by decide⟩,fun d r=>(r i 0 rfl).1 rfl,fun y ⟨t,_,h⟩=>h⟩
def σ0(ns:List Int):Sto:=[some (.sh (.lst (ns.map .int))),none,none,none,none,none,none]
def x0:Ex:=.sm .join (.cst (.str "")) (.compR [.bin .mod (.call 0 [.var 0,.cst (.int 0)]) (.cst (.int 9))] (.ix (.cst (.str "abc -'x")) (.bin .mod (.call 1 [.call 0 [.var 0,.var 7],.var 7]) (.cst (.int 7)))))
def x1s:List Ex:=[.bin .add (.cst (.int 1)) (.bin .mod (.call 0 [.var 0,.cst (.int 1)]) (.cst (.int 5)))]
def x1b:Ex:=.call 0 [.var 0,.var 7]
def x2:Ex:=.bin .sub (.bin .mod (.call 0 [.var 0,.cst (.int 3)]) (.cst (.int 99))) (.cst (.int 49))
def x3:Ex:=.bin .mod (.call 0 [.var 0,.cst (.int 2)]) (.cst (.int 50))
theorem wp_c0{ns:List Int}{k:Int}{Q:D->Prop}{E:XD->Prop}(hl:ns.length<=63)(hk:0<=k)(q:∀i,Q (.int i)):(C.ct 0).wp [.lst (ns.map .int),.int k] Q E :=
 ⟨⟨ns,k,rfl,hl,hk⟩,fun d ⟨i,e⟩=>e ▸ q i,fun _ z=>z.elim⟩
theorem wp_d0{i k:Int}{Q:D->Prop}{E:XD->Prop}(q:∀j,0<=j->Q (.int j)):(C.ct 1).wp [.int i,.int k] Q E :=
 ⟨trivial,fun d ⟨j,e,h,_⟩=>e ▸ q j h,fun _ z=>z.elim⟩
theorem st_abc:D.str (Str.ofString "abc -'x")=tx [97,98,99,32,45,39,120]:=congrArg D.str (by decide +kernel)
theorem texts_of:∀ {ys:List D},(∀y∈ys,∃c:Nat,y=tx [c])->∃cs:List Nat,ys=cs.map fun c=>tx [c]
 |[],_=>⟨[],rfl⟩
 |y::ys,h=>by
  obtain⟨c,rfl⟩:=h _ (List.mem_cons_self ..)
  obtain⟨cs,rfl⟩:=texts_of fun z hz=>h z (List.mem_cons_of_mem _ hz)
  exact⟨c::cs,rfl⟩
theorem join_one(l:List Nat):((l.map fun c=>sx [c]).map (·.length)).sum=l.length/\((l.map fun c=>sx [c]).map (·.cps.toList)).flatten=l:=by
 induction l with
 |nil=>exact⟨rfl,rfl⟩
 |cons c l ih =>
  simp only[List.map_cons,List.sum_cons,List.flatten_cons,List.length_cons]
  rw[ih.1,ih.2,sx_list,sx_len]
  exact⟨by rw[List.length_singleton];lia,rfl⟩
theorem map_str_inj:∀ {a b:List Str},a.map D.str=b.map D.str->a=b
 |[],[],_=>rfl
 |[],_::_,e=>by simp at e
 |_::_,[],e=>by simp at e
 |x::a,y::b,e=>by
  simp only[List.map_cons,List.cons.injEq,D.str.injEq]at e
  rw[e.1,map_str_inj e.2]
theorem tx_join{l:List Nat}(h:l.length<=lim){Q:D->Prop}:smD .join (sx []) (.lst (l.map fun c=>tx [c])) Q ↔ Q (tx l):=by
 have e:=join_one l
 show (∃ss:List Str,((sx []).length=0/\(l.map fun c=>tx [c])=ss.map .str/\(ss.map (·.length)).sum<=lim)/\Q (.str ⟨(ss.map (·.cps.toList)).flatten.toArray⟩)) ↔ _
 constructor
 ·rintro⟨ss,⟨_,e2,_⟩,q⟩
  have:ss=l.map fun c=>sx [c]:=by
   have:(l.map fun c=>tx [c])=(l.map fun c=>sx [c]).map D.str:=by rw[List.map_map];rfl
   rw[this]at e2
   exact(map_str_inj e2).symm
  subst this
  rw[e.2]at q
  exact q
 ·intro q
  refine⟨l.map fun c=>sx [c],⟨rfl,by rw[List.map_map];rfl,by rw[e.1];exact h⟩,?_⟩
  rw[e.2]
  exact q
theorem words{ns:List Int}{Q:D->Prop}(hl:ns.length<=63)(q:∀w,Q (.str w)):wpE C x0 (σ0 ns) Q:=by
 unfold x0 σ0
 dsimp! only[strD]
 refine wp_c0 hl (by decide) fun i=>?_
 dsimp! only[]
 rw[fmod_pos (by decide)]
 have e1:=Int.emod_nonneg i (show (9:Int)≠0 by decide)
 have e2:=Int.emod_lt_of_pos i (show (0:Int)<9 by decide)
 refine⟨by unfold RgOk;lia,by rw[rangeD_length];unfold lim;lia,?_⟩
 refine compL_by (fun d Q Q' h w=>?_) (fun _ y=>∃c:Nat,y=tx [c]) (fun d hd=>?_) fun ys yl hy=>?_
 ·exact⟨w.1,fun d1 r=>⟨(w.2.1 d1 r).1,fun d2 r2=>binD_mono (fun y=>ixD_mono h) ((w.2.1 d1 r).2.1 d2 r2),(w.2.1 d1 r).2.2⟩,w.2.2⟩
 ·obtain⟨k,rfl,hk⟩:=rangeD_all (P:=fun k=>0<=k) _ _ _ (fun j hj=>by lia) d hd
  refine wp_c0 hl hk fun j=>wp_d0 fun z hz=>?_
  dsimp! only[]
  rw[fmod_pos (by decide),st_abc]
  have f1:=Int.emod_nonneg z (show (7:Int)≠0 by decide)
  have f2:=Int.emod_lt_of_pos z (show (0:Int)<7 by decide)
  obtain⟨c,hc⟩:∃c,([97,98,99,32,45,39,120]:List Nat)[(z%7).toNat]?=some c:=⟨_,List.getElem?_eq_getElem (by simp;lia)⟩
  exact(tx_at f1 (by decide) hc).mpr ⟨c,rfl⟩
 ·obtain⟨cs,rfl⟩:=texts_of fun y hm=>by
   obtain⟨i,hi,e⟩:=List.getElem_of_mem hm
   exact hy i _ y (List.getElem?_eq_getElem (by rw[<- yl];exact hi)) (by rw[List.getElem?_eq_getElem hi,e])
  have:cs.length<=lim:=by rw[List.length_map,rangeD_length]at yl;unfold lim;lia
  exact(tx_join this).mpr (q _)
theorem ints_of:∀ {ys:List D},(∀y∈ys,∃c:Int,y=.int c)->∃cs:List Int,ys=cs.map .int
 |[],_=>⟨[],rfl⟩
 |y::ys,h=>by
  obtain⟨c,rfl⟩:=h _ (List.mem_cons_self ..)
  obtain⟨cs,rfl⟩:=ints_of fun z hz=>h z (List.mem_cons_of_mem _ hz)
  exact⟨c::cs,rfl⟩
theorem handed{ns:List Int}{Q:D->Prop}(hl:ns.length<=63)(q:∀ms:List Int,ms.length<=5->Q (.lst (ms.map .int))):wpE C (.compR x1s x1b) (σ0 ns) Q:=by
 unfold x1s x1b σ0
 dsimp! only[]
 refine wp_c0 hl (by decide) fun i=>?_
 dsimp! only[]
 rw[fmod_pos (by decide)]
 have e1:=Int.emod_nonneg i (show (5:Int)≠0 by decide)
 have e2:=Int.emod_lt_of_pos i (show (0:Int)<5 by decide)
 refine⟨by unfold RgOk;lia,by rw[rangeD_length];unfold lim;lia,?_⟩
 refine compL_by (fun d Q Q' h w=>⟨w.1,fun d r=>h d (w.2.1 d r),w.2.2⟩) (fun _ y=>∃c:Int,y=.int c) (fun d hd=>?_) fun ys yl hy=>?_
 ·obtain⟨k,rfl,hk⟩:=rangeD_all (P:=fun k=>0<=k) _ _ _ (fun j hj=>by lia) d hd
  exact wp_c0 hl hk fun j=>⟨j,rfl⟩
 ·obtain⟨cs,rfl⟩:=ints_of fun y hm=>by
   obtain⟨i,hi,e⟩:=List.getElem_of_mem hm
   exact hy i _ y (List.getElem?_eq_getElem (by rw[<- yl];exact hi)) (by rw[List.getElem?_eq_getElem hi,e])
  exact q cs (by rw[List.length_map,rangeD_length]at yl;lia)
theorem top_of{ns:List Int}{Q:D->Prop}(hl:ns.length<=63)(q:∀i:Int,Q (.int i)):wpE C x2 (σ0 ns) Q:=by
 unfold x2 σ0
 dsimp! only[]
 refine wp_c0 hl (by decide) fun i=>?_
 dsimp! only[]
 exact q _
theorem place_of{ns:List Int}{Q:D->Prop}(hl:ns.length<=63)(q:∀i:Int,Q (.int i)):wpE C x3 (σ0 ns) Q:=by
 unfold x3 σ0
 dsimp! only[]
 refine wp_c0 hl (by decide) fun i=>?_
 dsimp! only[]
 exact q _
def sL(n:Nat):Stmt:=(defBody fi_law.st).getD n (.Pass ⟨0,0,0,0⟩)
structure LF (Y:Cx) (lv:Nat):Prop where
 ok:OkS Y (fi_law.ck fns []) C
 own:Own Y
 rm:Room lv Y.A
 lv2:2<=lv
 sc:Y.env.scope=defScope fi_law.st
 al:Alone Y
 md:∃f fd,FnOk Y.prog Y.w Y.K Y.mg Y.base (CXz Y.prog Y.w Y.mg) lv f fd ["_law_words"] (spM Y.mg)/\Y.mg "_law_made"=some (.ref f)/\PySem.W.keepIn Y.K (.ref f)=true/\Binds Y.K fd ["_law_words"] []
 no:∃f fd,FnOk Y.prog Y.w Y.K Y.mg Y.base (CXz Y.prog Y.w Y.mg) lv f fd ["_law_top"] spN/\Y.mg "_law_nought"=some (.ref f)/\PySem.W.keepIn Y.K (.ref f)=true/\Binds Y.K fd ["_law_top"] []
 cl:∀c∈names12,∃D,Y.mg c=some (.ref D)/\AloneF Y.K Y.mg c D/\StrF Y.K D
 dp:∃D T f d0,Y.mg "Dependent"=some (.ref D)/\InitT Y D T f "weights" true [] []/\InitT Y D T f "weights" true [.non] [d0]
 bt:∃D T f,Y.mg "BadText"=some (.ref D)/\InitT Y D T f "at" false [] []
section
variable {Y:Cx} {lv:Nat}
theorem LF.gl(F:LF Y lv){c:Str}(h:(fi_law.ck fns []).gl c=true):Gl Y c:=(F.ok.toOk.gl h).1
theorem LF.rm1(F:LF Y lv):Room 1 Y.A:=F.rm.mono (by have:=F.lv2;lia)
theorem LF.un(F:LF Y lv):Y.A.units+2<cLine:=by have:=F.ok.units;lia
theorem LF.v(F:LF Y lv){i:Nat}{x:Str}{p:Pos}(h:(fi_law.ck fns []).loc i x=true):PE Y (.Name x p) (tVar i):=by
 obtain⟨a1,a2,a3,a4⟩:=F.ok.toOk.vis h
 exact pe_var a1 (loc_vis a2) a3 a4
theorem LF.set(F:LF Y lv){i:Nat}{x:Str}{p pos:Pos}{e:Expr}{te:TE}(h:(fi_law.ck fns []).loc i x=true)(he:PE Y e te)(hs:swapsWith e (some (.Name x p)) pos.line Y.env=pure false):PS Y (.Assign [.Name x p] e pos) (tAsg te (gName i)):=by
 obtain⟨a1,a2,a3,a4⟩:=F.ok.toOk.vis h
 exact ps_set F.ok.nd a1 a2 he hs (.inl (F.ok.fn _))
theorem LF.ne(F:LF Y lv){a b:Expr}{ta tb:TE}{pos:Pos}(ha:PE Y a ta)(hb:PE Y b tb):PE Y (.Compare a [.NotEq] [b] pos) (tOp (rD Y.K (cmpD .ne)) ta tb):=pe_cmpR (op_cmp (o:=.ne) (e:=b) rfl F.ok.units) ha hb (nobehind _ (by decide) (by decide))
theorem LF.eq(F:LF Y lv){a b:Expr}{ta tb:TE}{pos:Pos}(ha:PE Y a ta)(hb:PE Y b tb):PE Y (.Compare a [.Eq] [b] pos) (tOp (rD Y.K (cmpD .eq)) ta tb):=pe_cmpR (op_cmp (o:=.eq) (e:=b) rfl F.ok.units) ha hb (nobehind _ (by decide) (by decide))
theorem LF.str(F:LF Y lv){e:Expr}{te:TE}{np cp:Pos}(he:PE Y e te)(hs:starEach [e] Y.env=(false,eval e Y.env)::starEach [] Y.env):PE Y (.Call (.Name "str" np) [e] [] cp) (tCB (fun vs H Q=>∃e D m f,vs=[.ref e]/\StrF Y.K D/\Ex1 H D (.str m) f e/\Q (.str m) H) (tCons te tNil)) :=
 pe_callTy (T:="str") (call_strx F.un) (F.gl (by decide +kernel)) (F.ok.blt _ (by decide)) PyProof.Rows.boot_str (pa_cons he pa_nil hs) (by decide) (by decide) hs rfl
theorem p0(F:LF Y lv):PS Y (sL 0) (tAsg (tD Y.K C x0) (gName 1)):=F.set (by decide +kernel) (sB F.ok.toOk x0 _ (by decide +kernel)).1 rfl
theorem p1(F:LF Y lv):PS Y (sL 1) (tAsg (tCall (spM Y.mg) [] E0 (tCons (tVar 1) tNil)) (gName 2)):=by
 obtain⟨f,fd,FO,hm,hk,hb⟩:=F.md
 exact F.set (by decide +kernel) (pe_call FO F.rm (F.gl (by decide +kernel)) hm hk hb .nil passZ (pa_cons (F.v (by decide +kernel)) pa_nil)) rfl
theorem LF.neT(F:LF Y lv){a b:Expr}{ta tb:TE}{pos:Pos}(ha:PE Y a ta)(hb:PE Y b tb):PT Y (.Compare a [.NotEq] [b] pos) (tTest (tOp (rD Y.K (cmpD .ne)) ta tb)):=pt_cmpR (op_cmp (o:=.ne) (e:=b) rfl F.ok.units) ha hb (nobehind _ (by decide) (by decide))
abbrev tAl(Y:Cx):TE:=fun σ H Q=>∃e y D tx f,σ[3]?=some (some (.ref e))/\AloneF Y.K Y.mg y D/\Ex1 H D tx f e/\∀H',Same H H'->Q (.bl true) H'
theorem LF.alone(F:LF Y lv){np ep cp:Pos}:PE Y (.Call (.Name "_law_alone" np) [.Name "_law_e" ep] [] cp) (tAl Y):=by
 obtain⟨a1,a2,a3,a4⟩:=F.ok.toOk.vis (i:=3) (x:="_law_e") (by decide +kernel)
 exact pe_alone F.al F.rm1 (F.gl (by decide +kernel)) a1 (loc_vis a2) ⟨a3,a4⟩
abbrev tSt(Y:Cx)(te:TE):TE:=tCB (fun vs H Q=>∃e D m f,vs=[.ref e]/\StrF Y.K D/\Ex1 H D (.str m) f e/\Q (.str m) H) (tCons te tNil)
abbrev tRF:TS:=tSeq (tRet (tC (.bl false))) tNext
theorem p2(F:LF Y lv):PS Y (sL 2) (tFor (iList Y.K (tVar 2)) (gName 3) (tSeq (tIfS (tOr (tNot (tB (tAl Y))) (tTest (tOp (rD Y.K (cmpD .ne)) (tSt Y (tVar 3)) (tVar 1)))) tRF tNext) tNext)):=by
 obtain⟨a1,a2,a3,a4⟩:=F.ok.toOk.vis (i:=3) (x:="_law_e") (by decide +kernel)
 exact ps_for (by rw[F.ok.xe];exact PassesOwn.never) F.ok.calm (pi_list (F.v (by decide +kernel))) (pg_name F.ok.nd a1 a2 (.inl (F.ok.fn _)))
  (pss_cons (ps_if (PW.pt (pw_or (pt_not (pt_val F.alone)) (pw_or1 (F.neT (F.str (F.v (by decide +kernel)) rfl) (F.v (by decide +kernel)))))) (pss_cons (ps_ret pe_bl) pss_nil) pss_nil) pss_nil)
abbrev tFl(D:Addr)(n:Str)(tb:TE):TE:=fun σ H Q=>tb σ H fun x H1=>∃e tx v,x=.ref e/\Ex1 H1 D tx [(n,v)] e/\Q v H1
abbrev tXc(K:PySem.W.Frag)(D:Addr)(n:Str)(l:Bool)(dvs:List V)(t:TA):TE:=fun σ H Q=>t σ H fun vs H1=>∃tx v ys,vs++dvs=[tx,v]/\FV K H1 l v ys/\∀e y H',Same H1 H'->H1 e=none->Ex1 H' D tx [(n,y)] e->FOut ys y v H1 H'->Q (.ref e) H'
abbrev tNe(Y:Cx)(ta tb:TE):TT:=tTest (tOp (rD Y.K (cmpD .ne)) ta tb)
abbrev tIx(Y:Cx)(i:Int):TE:=tOp (rIxL Y.K) (tVar 2) (tC (.int i))
variable {D T f D2 T2 f2:Addr} {d0:Value}
theorem LF.ix(F:LF Y lv){i:Int}{np p pos:Pos}{j:Nat}:PE Y (.Subscript (.Name "_law_made_here" np) (.Constant (.int i) j p) pos) (tIx Y i):=pe_ix ix_list (F.v (by decide +kernel)) pe_int (fun _ _=>rfl)
theorem p3(F:LF Y lv)(fd:InitF Y.K Y.mg D T f "weights")(fb:InitF Y.K Y.mg D2 T2 f2 "at") :
 PS Y (sL 3) (tIfS (tOr (tNe Y (tFl D "weights" (tIx Y 4)) (tLst tNil)) (tNe Y (tFl D2 "at" (tIx Y 6)) (tC (.int 0)))) tRF tNext) :=
 ps_if (PW.pt (pw_or (F.neT (pe_fldG fd F.ix) (pe_lst pa_nil)) (pw_or1 (F.neT (pe_fldG fb F.ix) pe_int)))) (pss_cons (ps_ret pe_bl) pss_nil) pss_nil
theorem p4(F:LF Y lv)(fd:InitF Y.K Y.mg D T f "weights"):PS Y (sL 4) (tDrop (tBM Y.K "list" rAppend (tFl D "weights" (tIx Y 4)) (tCons (tC (.int 1)) tNil))) :=
 ps_expr (pe_bm PySem.F.plainAttrs_list PySem.F.slot_list_append PySem.F.type_list_append mt_append (pe_fldG fd F.ix) (pa_cons pe_int pa_nil))
theorem p5(F:LF Y lv)(hm:Y.mg "Dependent"=some (.ref D))(ix:InitT Y D T f "weights" true [.non] [d0]) :
 PS Y (sL 5) (tIfS (tNe Y (tFl D "weights" (tXc Y.K D "weights" true [.non] (tCons (tVar 1) tNil))) (tLst tNil)) tRF tNext) :=
 ps_if (F.neT (pe_fldG ix.F (pe_excT F.own ix (F.gl (by decide +kernel)) hm (pa_cons (F.v (by decide +kernel)) pa_nil) (by decide))) (pe_lst pa_nil)) (pss_cons (ps_ret pe_bl) pss_nil) pss_nil
theorem p6(F:LF Y lv):PS Y (sL 6) (fun D τ H=>tDL Y.K C (.compR x1s x1b) τ H fun u H'=>D.nx (τ.set 4 (some u)) H'):=by
 obtain⟨a1,a2,a3,a4⟩:=F.ok.toOk.vis (i:=4) (x:="_law_handed") (by decide +kernel)
 exact ps_setL F.ok.toOk (by decide +kernel) a1 a2 (.inl (F.ok.fn _))
theorem p7(F:LF Y lv):PS Y (sL 7) (tAsg (tCB (fun xs H Q=>∃p ys,xs=[.ref p]/\(SqL Y.K H p ys\/SqT Y.K H p ys)/\∀l,H l=none->Q (.ref l) (upd H l (.lst ys))) (tCons (tVar 4) tNil)) (gName 5)) :=
 F.set (by decide +kernel) (pe_callTy (T:="list") call_list_of (F.gl (by decide +kernel)) (F.ok.blt _ (by decide)) PyProof.Rows.boot_list (pa_cons (F.v (by decide +kernel)) pa_nil)) rfl
theorem p8(F:LF Y lv)(hm:Y.mg "Dependent"=some (.ref D))(ix:InitT Y D T f "weights" true [] []):PS Y (sL 8) (tAsg (tXc Y.K D "weights" true [] (tCons (tVar 1) (tCons (tVar 4) tNil))) (gName 3)) :=
 F.set (by decide +kernel) (pe_excT F.own ix (F.gl (by decide +kernel)) hm (pa_cons (F.v (by decide +kernel)) (pa_cons (F.v (by decide +kernel)) pa_nil)) (by decide)) rfl
theorem p9(F:LF Y lv):PS Y (sL 9) (tDrop (tBM Y.K "list" rAppend (tVar 4) (tCons (tC (.int 0)) tNil))) :=
 ps_expr (pe_bm PySem.F.plainAttrs_list PySem.F.slot_list_append PySem.F.type_list_append mt_append (F.v (by decide +kernel)) (pa_cons pe_int pa_nil))
theorem p10(F:LF Y lv)(fd:InitF Y.K Y.mg D T f "weights") :
 PS Y (sL 10) (tIfS (tOr (tNe Y (tFl D "weights" (tVar 3)) (tVar 5)) (tOr (tNot (tB (tCB (isiR Y.K .list "list") (tCons (tFl D "weights" (tVar 3)) (tCons (tC (.ty "list")) tNil))))) (tOr (tNot (tB (tAl Y))) (tNe Y (tSt Y (tVar 3)) (tVar 1))))) tRF tNext):=by
 have pn:∀p,PE Y (.Name "list" p) (tC (.ty "list")):=fun p=>pe_bltn (F.gl (by decide +kernel)) (F.ok.blt _ (by decide)) PyProof.Rows.boot_list rfl
 exact ps_if (PW.pt (pw_or (F.neT (pe_fldG fd (F.v (by decide +kernel))) (F.v (by decide +kernel))) (pw_or (pt_not (pt_val (pe_callB (call_isiR (t:=.list)) (F.gl (by decide +kernel)) (F.ok.blt _ (by decide)) PyProof.Rows.boot_isinstance (pa_cons (pe_fldG fd (F.v (by decide +kernel))) (pa_cons (pn _) pa_nil)))))
  (pw_or (pt_not (pt_val F.alone)) (pw_or1 (F.neT (F.str (F.v (by decide +kernel)) rfl) (F.v (by decide +kernel)))))))) (pss_cons (ps_ret pe_bl) pss_nil) pss_nil
theorem p11(F:LF Y lv):PS Y (sL 11) (tIfS (tNot (tB (tCall spN [] E0 (tCons (tD Y.K C x2) tNil)))) tRF tNext):=by
 obtain⟨f,fd,FO,hm,hk,hb⟩:=F.no
 exact ps_if (pt_not (pt_val (pe_call FO F.rm (F.gl (by decide +kernel)) hm hk hb .nil passZ (pa_cons (sB F.ok.toOk x2 _ (by decide +kernel)).1 pa_nil)))) (pss_cons (ps_ret pe_bl) pss_nil) pss_nil
theorem p12(F:LF Y lv):PS Y (sL 12) (tAsg (tD Y.K C x3) (gName 6)):=F.set (by decide +kernel) (sB F.ok.toOk x3 _ (by decide +kernel)).1 rfl
theorem p13(F:LF Y lv)(hm:Y.mg "BadText"=some (.ref D))(ix:InitT Y D T f "at" false [] []):PS Y (sL 13) (tRet (tAndV (tOp (rD Y.K (cmpD .eq)) (tFl D "at" (tXc Y.K D "at" false [] (tCons (tVar 1) (tCons (tVar 6) tNil)))) (tVar 6)) (tOp (rD Y.K (cmpD .eq)) (tSt Y (tXc Y.K D "at" false [] (tCons (tVar 1) (tCons (tVar 6) tNil)))) (tVar 1)))):=by
 have e:∀np wp pp cp,PE Y (.Call (.Name "BadText" np) [.Name "_law_words" wp,.Name "_law_place" pp] [] cp) (tXc Y.K D "at" false [] (tCons (tVar 1) (tCons (tVar 6) tNil))):=fun np wp pp cp=>pe_excT F.own ix (F.gl (by decide +kernel)) hm (pa_cons (F.v (by decide +kernel)) (pa_cons (F.v (by decide +kernel)) pa_nil)) (by decide)
 exact ps_ret (pe_and (F.eq (pe_fldG ix.F (e _ _ _ _)) (F.v (by decide +kernel))) (pe_one (F.eq (F.str (e _ _ _ _) rfl) (F.v (by decide +kernel)))))
end
theorem minus_nil(H:Hp):minus H []=H:=by
 funext b
 exact minus_at (by simp)
theorem ne_same{K:PySem.W.Frag}{H:Hp}{x y:V}{d e:D}{Q:Bool->Hp->Prop}(ix:Is K H d x)(iy:Is K H e y)(h:eqD d e=true)(hd:min (depD d) (depD e)<=100)(q:∀H',Same H H'->Q false H'):rD K (cmpD .ne) x y H (fun v H'=>∃k,v=.bl k/\Q k H'):=by
 refine⟨[],d,e,(fun _ z=>nomatch z),by rw[minus_nil];exact ix,by rw[minus_nil];exact iy,hd,fun v H' s i=>?_⟩
 rw[h]at i
 exact⟨false,is_bl i,q H' s⟩
theorem eq_same{K:PySem.W.Frag}{H:Hp}{x y:V}{d e:D}{Q:VK}(ix:Is K H d x)(iy:Is K H e y)(h:eqD d e=true)(hd:min (depD d) (depD e)<=100)(q:∀H',Same H H'->Q (.bl true) H'):rD K (cmpD .eq) x y H Q:=by
 refine⟨[],d,e,(fun _ z=>nomatch z),by rw[minus_nil];exact ix,by rw[minus_nil];exact iy,hd,fun v H' s i=>?_⟩
 rw[h]at i
 cases is_bl i
 exact q H' s
theorem eqs_ints:∀ms:List Int,eqDs (ms.map .int) (ms.map .int)=true
 |[]=>by simp[eqDs]
 |m::ms=>by simp[eqDs,eqD,eqs_ints ms]
theorem deps_ints:∀ms:List Int,depDs (ms.map .int)=0
 |[]=>by simp[depDs]
 |m::ms=>by simp[depDs,depD,deps_ints ms]
theorem iss_ints{K:PySem.W.Frag}{S:Hp}:∀ms:List Int,Iss K S (ms.map D.int) (ms.map V.int)
 |[]=>by unfold Iss;rfl
 |m::ms=>by simp only[List.map_cons];unfold Iss;exact⟨_,_,rfl,int_is m,iss_ints ms⟩
theorem iss_ints_{K:PySem.W.Frag}{S:Hp}:∀ {ms:List Int} {vs:List V},Iss K S (ms.map D.int) vs->vs=ms.map V.int
 |[],vs,h=>by unfold Iss at h;exact h
 |m::ms,vs,h=>by
  simp only[List.map_cons]at h
  unfold Iss at h
  obtain⟨v,r,rfl,h1,h2⟩:=h
  rw[is_int h1,iss_ints_ h2];rfl
theorem reps_sc{K:PySem.W.Frag}{H:Hp}{a:Addr}{ns:List Int}{o1 o2 o3 o4 o5 o6:Option V}(h:SqL K H a (ns.map V.int)):Reps K [] H (σ0 ns) [some (.ref a),o1,o2,o3,o4,o5,o6]:=by
 have nn:∀i z,getS (σ0 ns) i=some z->i=0/\z=.sh (.lst (ns.map .int)):=fun i z g=>by
  unfold σ0 at g
  rcases i with _|_|_|_|_|_|_|i<;>simp[getS]at g
  exact⟨rfl,g.symm⟩
 refine⟨rfl,(fun _ z=>nomatch z),fun i d g=>?_,fun i ds g=>(nomatch (nn _ _ g).2),fun i j ds es _ g=>(nomatch (nn _ _ g).2),⟨fun i rows g=>(nomatch (nn _ _ g).2),fun i j rs qs g=>(nomatch (nn _ _ g).2)⟩⟩
 obtain⟨rfl,e⟩:=nn _ _ g
 cases e
 refine⟨.ref a,rfl,lst_is ?_ (iss_ints ns)⟩
 rw[minus_nil];exact h
end Z.K10
namespace Z.K10
open PySem PySem.Spec PyProof.Rows L2 Z
theorem exs_at{mg:Str->Option Value}{H0 H:Hp}{tx:V}:∀ {cs:List Str} {es:List Addr} {i:Nat} {e:Addr},Exs mg H0 H tx cs es->es[i]?=some e->∃c D f,cs[i]?=some c/\mg c=some (.ref D)/\Ex1 H D tx f e
 |[],es,i,e,h,q=>by cases h;simp at q
 |c::cs,es,i,e,h,q=>by
  obtain⟨e',r,D,y,rfl,h2,h3,h4,h5,h6⟩:=h
  cases i with
  |zero=>simp at q;subst q;exact⟨c,D,_,rfl,h2,h3⟩
  |succ i=>exact exs_at (i:=i) h6 (by simpa using q)
theorem exs_nth{mg:Str->Option Value}{H0 H:Hp}{tx:V}:∀ {cs:List Str} {es:List Addr} {i:Nat} {c:Str},Exs mg H0 H tx cs es->cs[i]?=some c->∃e D y,es[i]?=some e/\mg c=some (.ref D)/\Ex1 H D tx (if hasF c=true then [(fldN c,y)] else []) e/\(c="Dependent"->∃q,y=.ref q/\H0 q=none/\H q=some (.lst []))/\(c="BadText"->y=.int 0)
 |[],es,i,c,h,q=>by simp at q
 |c'::cs,es,i,c,h,q=>by
  obtain⟨e',r,D,y,rfl,h2,h3,h4,h5,h6⟩:=h
  cases i with
  |zero=>simp at q;subst q;exact⟨e',D,y,rfl,h2,h3,h4,h5⟩
  |succ i =>
   obtain⟨e,D,y,g1,g2⟩:=exs_nth (i:=i) h6 (by simpa using q)
   exact⟨e,D,y,by simpa using g1,g2⟩
theorem same_at{H H':Hp}{q:Addr}{o:HO}(s:Same H H')(h:H q=none):Same H (upd H' q o):=fun b u z=>by
 have:b≠q:=fun e=>by rw[e,h]at z;cases z
 rw[upd_ne this];exact s _ _ z
theorem ex1_upd{H:Hp}{C e b:Addr}{tx:V}{f:List (Str×V)}{xs:List V}{o:HO}(h:Ex1 H C tx f e)(hb:H b=some (.lst xs)):Ex1 (upd H b o) C tx f e:=by
 have ne:∀ {c:Addr} {u:HO},H c=some u->(∀ys,u ≠ .lst ys)->c≠b:=fun {c u} q n z=>by rw[z,hb]at q;cases q;exact n _ rfl
 obtain⟨t,dct,h1,h2,h3⟩:=h
 refine⟨t,dct,by rw[upd_ne (ne h1 fun _ z=>nomatch z)];exact h1,by rw[upd_ne (ne h2 fun _ z=>nomatch z)];exact h2,fun p hp=>?_⟩
 obtain⟨dA,q1,q2⟩:=h3 p hp
 exact⟨dA,q1,by rw[upd_ne (ne q2 fun _ z=>nomatch z)];exact q2⟩
theorem nil_is{K:PySem.W.Frag}{H:Hp}{q:Addr}(h:H q=some (.lst [])):Is K H (.lst []) (.ref q):=lst_is (SqL.of h) (by unfold Iss;rfl)
theorem ints_is{K:PySem.W.Frag}{H:Hp}{q:Addr}{ms:List Int}(h:H q=some (.lst (ms.map V.int))):Is K H (.lst (ms.map .int)) (.ref q):=lst_is (SqL.of h) (iss_ints ms)
theorem law_body{Y:Cx}{lv:Nat}{H:Hp}{vs:List V}{Q:VK}{E:XK}(F:LF Y lv)(sp:spD Y.K 1 false false c_law vs H Q E) :
 ∃t,PSs Y (defBody fi_law.st) t/\t { nx:=fun _ H'=>Q .non H',rt:=Q } (L2.start fi_law.N vs) H:=by
 obtain⟨D,T,f,d0,hm,ix,ixd⟩:=F.dp
 obtain⟨D2,T2,f2,hm2,ix2⟩:=F.bt
 refine⟨_,(pss_cons (p0 F) (pss_cons (p1 F) (pss_cons (p2 F) (pss_cons (p3 F ix.F ix2.F) (pss_cons (p4 F ix.F) (pss_cons (p5 F hm ixd) (pss_cons (p6 F) (pss_cons (p7 F) (pss_cons (p8 F hm ix) (pss_cons (p9 F) (pss_cons (p10 F ix.F) (pss_cons (p11 F) (pss_cons (p12 F) (pss_cons (p13 F hm2 ix2) pss_nil)))))))))))))),?_⟩
 obtain⟨O,ds,hl,ho,is,⟨ns,rfl,hn⟩,hq,_⟩:=sp
 have fin:∀H',Same H H'->Q (.bl true) H':=fun H' s=>hq _ rfl _ _ s (bl_is _)
 unfold Iss at is
 obtain⟨v,r,rfl,i1,i2⟩:=is
 unfold Iss at i2
 subst i2
 obtain⟨a,vs,rfl,sq,iv⟩:=is_lst i1
 have ev:=iss_ints_ iv
 subst ev
 have sq:SqL Y.K H a (ns.map V.int):=(minus_same _ _).seq sq
 clear hq ho i1 iv
 refine⟨σ0 ns,[],reps_sc sq,words hn fun w v H1 s1 i1=>?_⟩
 obtain⟨rfl,ow⟩:=is_str i1
 have iw:∀S,Is Y.K S (.str w) (.str w):=fun S=>str_is ow
 refine⟨.str w,rfl,.str w,rfl,fun p es H2 s2 hp0 hp x2=>?_⟩
 have l12:es.length=12:=x2.len
 refine⟨_,rfl,p,rfl,⟨_,SqL.of hp⟩,fun i m σ H'=>(Same H2 H'/\i+m=12)/\∃x,σ=[some (.ref a),some (.str w),some (.ref p),x,none,none,none],⟨12,⟨fun _ _ z=>z,rfl⟩,none,rfl⟩,?_⟩
 rintro i m σ H3 ⟨⟨s3,him⟩,x,rfl⟩
 have hp3:SqL Y.K H3 p (es.map .ref):=SqL.of (s3 _ _ hp)
 by_cases hi:i<12
 ·obtain⟨e,he⟩:∃e,es[i]?=some e:=⟨_,List.getElem?_eq_getElem (by lia)⟩
  have hem:(es.map V.ref)[i]?=some (.ref e):=by rw[List.getElem?_map,he];rfl
  obtain⟨c,D',f',hc,hmc,hx⟩:=exs_at x2 he
  obtain⟨D'',hm'',af,sf⟩:=F.cl c (List.mem_of_getElem? hc)
  have:D'=D'':=by rw[hmc]at hm'';cases hm'';rfl
  subst this
  refine .inr ⟨⟨_,_,hp3,hem⟩,fun σ' H'=>Same H2 H'/\∃x,σ'=[some (.ref a),some (.str w),some (.ref p),x,none,none,none],fun σ' H' ⟨z1,z2⟩=>⟨m-1,by lia,⟨z1,by lia⟩,z2⟩,?_⟩
  rintro y H4 ⟨rfl,hy⟩
  have ey:=hy _ hp3
  rw[hem]at ey
  cases ey
  refine⟨e,c,D',.str w,f',rfl,af,hx.mono s3,fun H5 s5=>⟨true,rfl,?_⟩⟩
  refine⟨_,rfl,e,D',w,f',rfl,sf,hx.mono (s3.trans s5),_,rfl,ne_same (iw _) (iw _) (by simp[eqD]) (by simp[depD]) fun H6 s6=>?_⟩
  exact⟨(s3.trans s5).trans s6,_,rfl⟩
 refine .inl ⟨⟨_,hp3,by rw[List.length_map];lia⟩,?_⟩
 have x3:=x2.mono s3 (fun _ _ z=>z)
 obtain⟨e4,D4,y4,g4,m4,h4,k4,_⟩:=exs_nth (i:=4) (c:="Dependent") x3 rfl
 obtain⟨e6,D6,y6,g6,m6,h6,_,k6⟩:=exs_nth (i:=6) (c:="BadText") x3 rfl
 have:D4=D:=by rw[hm]at m4;cases m4;rfl
 subst this
 have:D6=D2:=by rw[hm2]at m6;cases m6;rfl
 subst this
 obtain⟨q,rfl,q0,q3⟩:=k4 rfl
 have e0:=k6 rfl
 subst e0
 have h4:Ex1 H3 D4 (.str w) [("weights",.ref q)] e4:=h4
 have h6:Ex1 H3 D6 (.str w) [("at",.int 0)] e6:=h6
 have a4:atI (es.map V.ref) 4=some (.ref e4):=by unfold atI;rw[List.length_map,l12,show ixN 12 4=some 4 from by decide];show (es.map V.ref)[4]?=_;rw[List.getElem?_map,g4];rfl
 have a6:atI (es.map V.ref) 6=some (.ref e6):=by unfold atI;rw[List.length_map,l12,show ixN 12 6=some 6 from by decide];show (es.map V.ref)[6]?=_;rw[List.getElem?_map,g6];rfl
 refine⟨_,rfl,p,_,4,_,rfl,rfl,hp3,a4,e4,_,_,rfl,h4,by decide,fun p4 hp4=>?_⟩
 have s4:Same H3 (upd H3 p4 (.lst [])):=same_upd hp4 _
 refine ne_same (nil_is (s4 _ _ q3)) (nil_is (upd_same ..)) (by simp[eqD,eqDs]) (by simp[depD,depDs]) fun H5 s5=>?_
 have s45:=s4.trans s5
 refine⟨_,rfl,p,_,6,_,rfl,rfl,s45.seq hp3,a6,e6,_,_,rfl,h6.mono s45,?_⟩
 refine ne_same (int_is _) (int_is _) (by simp[eqD]) (by simp[depD]) fun H6 s6=>?_
 have s36:=s45.trans s6
 have q6:=s36 _ _ q3
 refine⟨_,rfl,p,_,4,_,rfl,rfl,s36.seq hp3,a4,e4,_,_,rfl,h4.mono s36,.inl ⟨rfl,_,SqL.of q6⟩,q,_,_,rfl,rfl,q6,by decide,?_⟩
 have sA:Same H (upd H6 q (.lst ([] ++ [.int 1]))):=same_at (s1.trans (s2.trans (s3.trans s36))) (s1.free q0)
 generalize upd H6 q (.lst ([] ++ [.int 1]))=H7 at sA ⊢
 clear h4 h6 q6 q3 q0 s36 s6 s5 s4 s45 hp3 x3 x2 hp hp0 s3 s2 a4 a6 g4 g6 m4 m6 l12
 refine⟨_,rfl,.str w,.non,some [],rfl,⟨rfl,.inl ⟨rfl,rfl⟩⟩,fun e8 y8 H8 s8 n8 x8 o8=>?_⟩
 obtain⟨q8,rfl,_,hq8⟩:=o8
 refine⟨e8,_,_,rfl,x8,by decide,fun p9 hp9=>?_⟩
 have s9:Same H8 (upd H8 p9 (.lst [])):=same_upd hp9 _
 refine ne_same (nil_is (s9 _ _ hq8)) (nil_is (upd_same ..)) (by simp[eqD,eqDs]) (by simp[depD,depDs]) fun H10 s10=>?_
 have sB:=sA.trans (s8.trans (s9.trans s10))
 clear x8 hq8 n8 hp9
 refine⟨σ0 ns,[],reps_sc (sB.seq sq),handed hn fun ms hms xs b H11 us e11 s11 n11 g11 i11=>?_⟩
 cases e11
 have eu:=iss_ints_ i11
 subst eu
 refine⟨_,rfl,b,_,rfl,.inl (SqL.of g11),fun l hl11=>?_⟩
 have lb:b≠l:=fun z=>by rw[<- z,g11]at hl11;cases hl11
 have s12:Same H11 (upd H11 l (.lst (ms.map V.int))):=same_upd hl11 _
 refine⟨_,rfl,_,rfl,.str w,.ref b,some (ms.map V.int),rfl,⟨rfl,.inr ⟨b,rfl,SqL.of (s12 _ _ g11)⟩⟩,fun e13 y13 H13 s13 n13 x13 o13=>?_⟩
 obtain⟨q13,rfl,nq13,hq13⟩:=o13
 have b13:H13 b=some (.lst (ms.map V.int)):=s13 _ _ (s12 _ _ g11)
 have l13:H13 l=some (.lst (ms.map V.int)):=s13 _ _ (upd_same ..)
 have qb:q13≠b:=fun z=>by rw[z,s12 _ _ g11]at nq13;cases nq13
 refine⟨_,rfl,.inl ⟨rfl,_,SqL.of b13⟩,b,_,_,rfl,rfl,b13,by rw[List.length_map];exact Nat.lt_of_le_of_lt hms (by decide),?_⟩
 have b10:H b=none:=(sB.free n11)
 have sC:Same H (upd H13 b (.lst (ms.map V.int ++ [.int 0]))):=same_at (sB.trans (s11.trans (s12.trans s13))) b10
 have xC:Ex1 (upd H13 b (.lst (ms.map V.int ++ [.int 0]))) D4 (.str w) [("weights",.ref q13)] e13:=ex1_upd x13 b13
 have qC:upd H13 b (.lst (ms.map V.int ++ [.int 0])) q13=some (.lst (ms.map V.int)):=by rw[upd_ne qb];exact hq13
 have lC:upd H13 b (.lst (ms.map V.int ++ [.int 0])) l=some (.lst (ms.map V.int)):=by rw[upd_ne lb.symm];exact l13
 generalize upd H13 b (.lst (ms.map V.int ++ [.int 0]))=H14 at sC xC qC lC ⊢
 clear x13 hq13 b13 l13 n13 nq13
 refine⟨_,rfl,e13,_,_,rfl,xC,_,rfl,?_⟩
 refine ne_same (ints_is qC) (ints_is lC) (by rw[eqD];exact eqs_ints ms) (by rw[depD,deps_ints];decide) fun H15 s15=>?_
 refine⟨_,rfl,e13,_,_,rfl,xC.mono s15,[],.lst (ms.map .int),_,rfl,by rw[minus_nil];exact ints_is (s15 _ _ qC),fun v H16 s16 i16=>⟨true,is_bl i16,?_⟩⟩
 obtain⟨D'',hm'',af,sf⟩:=F.cl "Dependent" (by decide)
 have:D''=D4:=by rw[hm]at hm'';cases hm'';rfl
 subst this
 refine⟨e13,"Dependent",_,_,_,rfl,af,xC.mono (s15.trans s16),fun H17 s17=>⟨true,rfl,?_⟩⟩
 have s17':=s15.trans (s16.trans s17)
 refine⟨_,rfl,e13,_,w,_,rfl,sf,xC.mono s17',_,rfl,ne_same (iw _) (iw _) (by simp[eqD]) (by simp[depD]) fun H18 s18=>?_⟩
 have sD:=sC.trans (s17'.trans s18)
 refine⟨σ0 ns,[],reps_sc (sD.seq sq),top_of hn fun i v H19 s19 i19=>?_⟩
 cases is_int i19
 refine⟨i,rfl,fun H20 s20=>⟨true,rfl,?_⟩⟩
 have sE:=sD.trans (s19.trans s20)
 refine⟨σ0 ns,[],reps_sc (sE.seq sq),place_of hn fun i v H21 s21 i21=>?_⟩
 cases is_int i21
 obtain⟨D5,hm5,af5,sf5⟩:=F.cl "BadText" (by decide)
 have:D5=D6:=by rw[hm2]at hm5;cases hm5;rfl
 subst this
 refine⟨_,rfl,_,rfl,.str w,.int _,none,rfl,rfl,fun e22 y22 H22 s22 n22 x22 o22=>⟨e22,_,_,rfl,x22,_,rfl,?_⟩⟩
 have o22:y22=.int _:=o22
 subst o22
 refine eq_same (int_is _) (int_is _) (by simp[eqD]) (by simp[depD]) fun H23 s23=>⟨true,rfl,?_⟩
 refine⟨_,rfl,_,rfl,.str w,.int _,none,rfl,rfl,fun e24 y24 H24 s24 n24 x24 o24=>⟨e24,D5,w,_,rfl,sf5,x24,_,rfl,?_⟩⟩
 exact eq_same (iw _) (iw _) (by simp[eqD]) (by simp[depD]) fun H25 s25=>fin _ (sE.trans (s21.trans (s22.trans (s23.trans (s24.trans s25)))))
structure ClsT (K:PySem.W.Frag) (mg:Str->Option Value) (c:Str) (D:Addr):Prop where
 m:mg c=some (.ref D)
 ok:ClsOk K mg c D true
 st:StrF K D
 kp:PySem.W.keepIn K (.ref D)=true
 ow:hasF c=true->OwnT K mg c D (if c="Dependent" then .non else .int 0)
section
variable {P:Program} {w:World} {K:PySem.W.Frag} {mg:Str->Option Value}
theorem alone_of{X:Cx}{lv:Nat}(E:ExcOk X.K X.mg names12 true)(rm:Room lv X.A)(h:2<=lv)(hb:X.mg "int"=none):Alone X :=
 ⟨E.fn rfl,⟨(rm.mono (show 1<=lv by lia)).dp,(rm.mono (show 1<=lv by lia)).un⟩,hb⟩
theorem initT_of{X:Cx}{c:Str}{D:Addr}{lv:Nat}(h:ClsT X.K X.mg c D)(hf:hasF c=true)(rm:Room lv X.A)(h2:2<=lv) :
 ∃T f d0,InitT X D T f (fldN c) (c == ("Dependent":Str)) [] []/\InitT X D T f (fldN c) (c == ("Dependent":Str)) [if c="Dependent" then .non else .int 0] [d0]:=by
 obtain⟨T,f,F,d0,rd,fn⟩:=h.ow hf
 obtain⟨fd,p,FO,b1,b2⟩:=fn X.prog X.w X.base
 exact⟨T,f,d0,⟨F,⟨fd,p,FO,b1⟩,.nil,rm.mono h2⟩,⟨F,⟨fd,p,FO,b2⟩,.cons rd .nil,rm.mono h2⟩⟩
theorem mk_of{X:Cx}{c:Str}{D:Addr}{lv:Nat}(h:ClsT X.K X.mg c D)(rm:Room lv X.A)(h2:2<=lv):Mk X c:=by
 refine⟨D,h.m,?_⟩
 cases hf:hasF c with
 |false=>exact .inl ⟨rfl,h.ok.pl hf,h.kp⟩
 |true =>
  obtain⟨T,f,d0,_,ix⟩:=initT_of h hf rm h2
  exact .inr ⟨rfl,T,f,_,d0,ix,rfl⟩
theorem ct:∀n i,fns[n]?=some i->C.ct n=i.c/\C.fr n=i.fr/\C.f2 n=i.g:=by
 intro n i e
 refine⟨?_,?_,?_⟩
 ·show ((fns.map (·.c))[n]?).getD _=i.c
  rw[List.getElem?_map,e];rfl
 ·show ((fns.map (·.fr))[n]?).getD _=i.fr
  rw[List.getElem?_map,e];rfl
 ·show ((fns.map (·.g))[n]?).getD _=i.g
  rw[List.getElem?_map,e];rfl
theorem keeps:∀i∈fns,i.Keep C:=by
 intro i hi
 simp only[fns,List.mem_cons,List.not_mem_nil,or_false]at hi
 rcases hi with rfl|rfl|rfl|rfl
 ·exact k_cell
 ·exact k_drawn
 ·exact k_common_divisor
 ·exact⟨rfl,k_ratioX rfl⟩
theorem law_key(F1:∀i∈fns,FnFact K mg i)(Fm:FnFact K mg fi_made)(Fn:FnFact K mg fi_nought)(Fl:FnFact K mg fi_law)(hb:∀x∈blts,mg x=none)(E:ExcOk K mg names12 true)(cl:∀c∈names12,∃D,ClsT K mg c D) :
 ∃f fd,FnAt K mg fi_law f fd/\∀base:Heap,FnOk P w K mg base (CXz P w mg) 8 f fd ["_law_script"] (spD K 1 false false c_law):=by
 obtain⟨fm,fdm,Am⟩:=Fm
 obtain⟨fn,fdn,An⟩:=Fn
 obtain⟨fl,fdl,Al⟩:=Fl
 refine⟨fl,fdl,Al,fun base=>?_⟩
 have hE:∀x,¬ C.E x:=fun _ z=>z
 have hcn:∀n x,([]:List Str)[n]?=some x->∃u v,mg x=some u/\RelV v u/\∀S,Is K S (C.cn n) v:=fun n x e=>by simp at e
 have all:=all_sound (P:=P) (w:=w) (base:=base) F1 chk keeps ct hcn hb hE (fun i hi hz=>?_)
 ·have fns6:∀k,6<=k->∀n j,fns[n]?=some j->∃f fd,FnOk P w K mg base (CXz P w mg) k f fd j.ps (spD K j.ps.length (C.fr n) (C.f2 n) (C.ct n))/\FnAt K mg j f fd:=fun k hk n j e=>by
   obtain⟨f,fd,A⟩:=F1 j (List.mem_of_getElem? e)
   have hn:n<4:=(List.getElem?_eq_some_iff.mp e).1
   rw[(ct n j e).1,(ct n j e).2.1,(ct n j e).2.2]
   exact⟨f,fd,(all n j f fd e A).mono (by lia),A⟩
  have om:FnOk P w K mg base (CXz P w mg) 7 fm fdm ["_law_words"] (spM mg):=by
   refine fn_hand (i:=fi_made) (L:=fns) (cns:=[]) (C:=C) (by decide) Am sc_made (fns6 6 (by decide)) hcn hb hE (fun vs H Q E h=>by obtain⟨tx,rfl,_⟩:=h;rfl) fun X H vs Q E' hh eqs sp=>?_
   obtain⟨rfl,rfl,rfl,rfl,rfl,_⟩:=eqs
   exact made_body hh (fun c hc=>by obtain⟨D,h⟩:=cl c hc;exact mk_of h hh.rm (by decide)) sp
  have on:FnOk P w K mg base (CXz P w mg) 7 fn fdn ["_law_top"] spN:=by
   refine fn_hand (i:=fi_nought) (L:=fns) (cns:=[]) (C:=C) (by decide) An sc_nought (fns6 6 (by decide)) hcn hb hE (fun vs H Q E h=>by obtain⟨tx,rfl,_⟩:=h;rfl) fun X H vs Q E' hh eqs sp=>?_
   obtain⟨rfl,rfl,rfl,rfl,rfl,_⟩:=eqs
   obtain⟨D,h⟩:=cl "NoRatio" (by decide)
   exact nought_body hh (alone_of E hh.rm (by decide) (hb _ (by decide))) h.m h.ok sp
  refine fn_hand (i:=fi_law) (L:=fns) (cns:=[]) (C:=C) (lv:=7) (by decide) Al sc_law (fns6 7 (by decide)) hcn hb hE (fun vs H Q E h=>by obtain⟨O,ds,hl,_,is,_⟩:=h;rw[is.length,hl];rfl) fun X H vs Q E' hh eqs sp=>?_
  obtain⟨rfl,rfl,rfl,rfl,rfl,_⟩:=eqs
  obtain⟨D,hD⟩:=cl "Dependent" (by decide)
  obtain⟨D2,hD2⟩:=cl "BadText" (by decide)
  obtain⟨T,f,d0,i1,i2⟩:=initT_of (X:=X.nox) hD rfl hh.rm (by decide)
  obtain⟨T2,f2,d2,j1,j2⟩:=initT_of (X:=X.nox) hD2 rfl hh.rm (by decide)
  have lf:LF X.nox 7:=⟨hh.ok,⟨hh.own.stk,hh.own.frm,hh.own.ex⟩,hh.rm,by decide,hh.sc,alone_of (X:=X.nox) E hh.rm (by decide) (hb _ (by decide)),⟨fm,fdm,om,Am.mg,Am.fn.kp,.all Am.bd⟩,⟨fn,fdn,on,An.mg,An.fn.kp,.all An.bd⟩,
   fun c hc=>by obtain⟨D,h⟩:=cl c hc;exact⟨D,h.m,h.ok.al rfl,h.st⟩,⟨D,T,f,d0,hD.m,i1,i2⟩,⟨D2,T2,f2,hD2.m,j1⟩⟩
  obtain⟨t,pt,ht⟩:=law_body lf sp
  exact⟨t,PSs.nox pt,ht⟩
 ·simp only[fns,List.mem_cons,List.not_mem_nil,or_false]at hi
  rcases hi with rfl|rfl|rfl|rfl<;>first|exact Bool.noConfusion hz|exact⟨fun _=>E.al rfl,fun x (hx:x ∈ [("NoRatio":Str)])=>E.exc x (by rw[List.mem_singleton.mp hx];decide)⟩
end
section
variable {K:PySem.W.Frag} {h:Heap} {mg:Str->Option Value} {x:Str} {D:Addr} {dv:V}
theorem clsT_mk(X:K.In h)(G:h.Ns mainGlobals mg)(a:PySem.W.nsIn K mainGlobals x=some (some (.ref D)))(q:PySem.W.excIn K D bmV newV=true)(hf:hasF x=false)(s:PySem.W.findIn K (.ref D) "__str__"=some (some (.builtin "BaseException.__str__")))(m:PySem.W.mroIn K D (.type "BaseException")=some true)(k:PySem.W.keepIn K (.ref D)=true)(al:AloneF K mg x D):∃D,ClsT K mg x D:=by
 obtain⟨Ca,e,co⟩:=exc_mk (b:=true) X G a q hf fun _=>al
 have e':=PySem.W.mg_of X G a
 rw[e']at e
 cases e
 exact⟨D,e',co,⟨s,m⟩,k,fun z=>by rw[hf]at z;cases z⟩
theorem clsT_own(X:K.In h)(G:h.Ns mainGlobals mg)(a:PySem.W.nsIn K mainGlobals x=some (some (.ref D)))(s:PySem.W.findIn K (.ref D) "__str__"=some (some (.builtin "BaseException.__str__")))(m:PySem.W.mroIn K D (.type "BaseException")=some true)(k:PySem.W.keepIn K (.ref D)=true)
 (e:∃Ca,mg x=some (.ref Ca)/\ClsOk K mg x Ca true/\OwnT K mg x Ca dv) (hd:dv=if x="Dependent" then .non else .int 0):∃D,ClsT K mg x D:=by
 obtain⟨Ca,e,co,ow⟩:=e
 have e':=PySem.W.mg_of X G a
 rw[e']at e
 cases e
 exact⟨D,e',co,⟨s,m⟩,k,fun _=>hd ▸ ow⟩
end
end Z.K10
namespace PySem.W.Fast
theorem tw13438824762056534986:True:=⟨⟩
theorem tw16563592822204477307:True:=⟨⟩
theorem tw1071845371920975398:True:=⟨⟩
theorem tw4818063720585366306:True:=⟨⟩
theorem tw8982890571064384289:True:=⟨⟩
theorem tw16494318054509003269:True:=⟨⟩
theorem tw6850536811306905679:True:=⟨⟩
theorem tw11155869743227012617:True:=⟨⟩
theorem tw3872836608092677935:True:=⟨⟩
theorem tw6256612305243116455:True:=⟨⟩
theorem tw8739538931922345515:True:=⟨⟩
theorem tw5418152802221347955:True:=⟨⟩
theorem tw10391410617558788379:True:=⟨⟩
theorem tw9086496775206289091:True:=⟨⟩
theorem tw6327960447522165896:True:=⟨⟩
theorem tw4422622510049530596:True:=⟨⟩
theorem tw16777366902994189899:True:=⟨⟩
theorem tw12439335432527056775:True:=⟨⟩
theorem tw16037980925541100666:True:=⟨⟩
theorem tw9956790517937529741:True:=⟨⟩
theorem tw4468422913402399099:True:=⟨⟩
theorem tw8361755785677662914:True:=⟨⟩
theorem tw12683618345873410699:True:=⟨⟩
theorem tw18347466997170788270:True:=⟨⟩
theorem tw14354833726734068145:True:=⟨⟩
theorem tw533582209132274657:True:=⟨⟩
theorem tw12509169802057850292:True:=⟨⟩
theorem tw18206893301125312825:True:=⟨⟩
theorem tw11561804650265205109:True:=⟨⟩
theorem tw4670472824605113569:True:=⟨⟩
theorem tw17630296762711875786:True:=⟨⟩
theorem tw723433281561088595:True:=⟨⟩
theorem tw5648968055492439490:True:=⟨⟩
theorem tw3605163206283662126:True:=⟨⟩
theorem tw13198347563641507467:True:=⟨⟩
theorem tw17472210005524673101:True:=⟨⟩
theorem tw6557271706019703593:True:=⟨⟩
theorem tw11471856896860659474:True:=⟨⟩
theorem tw14180994151095421639:True:=⟨⟩
theorem tw16295780746355694141:True:=⟨⟩
theorem tw18399957692946727457:True:=⟨⟩
theorem tw12125206582186177585:True:=⟨⟩
theorem tw7415466713300515151:True:=⟨⟩
theorem tw16377343252306886885:True:=⟨⟩
theorem tw17703783543049394055:True:=⟨⟩
theorem tw3420968039281219424:True:=⟨⟩
theorem tw11695395053923684030:True:=⟨⟩
theorem tw15192518965051282375:True:=⟨⟩
theorem tw2477833978552296508:True:=⟨⟩
theorem tw17684105372486713194:True:=⟨⟩
theorem tw12691875592707412685:True:=⟨⟩
theorem tw17454669246156940360:True:=⟨⟩
theorem tw2213799459737241006:True:=⟨⟩
theorem tw5273630915157083875:True:=⟨⟩
theorem tw14606620523771685595:True:=⟨⟩
theorem tw4145486824522575286:True:=⟨⟩
theorem tw13102308458344369046:True:=⟨⟩
theorem tw13486032598132931427:True:=⟨⟩
theorem tw18066674836980653277:True:=⟨⟩
theorem tw13870069526504726634:True:=⟨⟩
theorem tw12518237877125392138:True:=⟨⟩
theorem tw16756848604852026534:True:=⟨⟩
theorem tw13787223071531463074:True:=⟨⟩
theorem tw4070988209978187265:True:=⟨⟩
theorem tw2442484398665437806:True:=⟨⟩
theorem tw15958199029072737650:True:=⟨⟩
theorem tw16157438849939713958:True:=⟨⟩
theorem tw239163770891493253:True:=⟨⟩
theorem tw13529344417758765846:True:=⟨⟩
theorem tw13560522337986985326:True:=⟨⟩
theorem tw1545371241640729913:True:=⟨⟩
theorem tw10413741393999292790:True:=⟨⟩
theorem tw14198074159496985753:True:=⟨⟩
theorem tw14138086609116901867:True:=⟨⟩
theorem tw4501119690065654363:True:=⟨⟩
theorem tw18338776810244142573:True:=⟨⟩
theorem tw17213755480537971887:True:=⟨⟩
theorem tw12772290534776197444:True:=⟨⟩
theorem tw10652598326065855962:True:=⟨⟩
theorem tw10134211864242359527:True:=⟨⟩
theorem tw1572466016950307654:True:=⟨⟩
theorem tw2600146637863821658:True:=⟨⟩
theorem tw11696828666964374461:True:=⟨⟩
theorem tw8612937757642465640:True:=⟨⟩
theorem tw11661439863020313865:True:=⟨⟩
theorem tw14630774753922628721:True:=⟨⟩
theorem tw18446476139944150083:True:=⟨⟩
theorem tw18276087687099858799:True:=⟨⟩
theorem tw5610208520332247366:True:=⟨⟩
theorem tw10666268007958946870:True:=⟨⟩
theorem tw7711198912763404184:True:=⟨⟩
theorem tw15976694054750288476:True:=⟨⟩
theorem tw14586703005966658669:True:=⟨⟩
theorem tw4160321107703681758:True:=⟨⟩
theorem tw12427725355998682305:True:=⟨⟩
theorem tw5205114065649343139:True:=⟨⟩
theorem tw2209898393431042052:True:=⟨⟩
theorem tw10198702536816809429:True:=⟨⟩
theorem tw3200666486533311504:True:=⟨⟩
theorem tw13340388734640401088:True:=⟨⟩
theorem tw17490045976555270006:True:=⟨⟩
theorem tw2454222881110079136:True:=⟨⟩
theorem tw497586739790820558:True:=⟨⟩
theorem tw14712766750743224070:True:=⟨⟩
theorem tw266753457369181378:True:=⟨⟩
theorem tw12876411700922317554:True:=⟨⟩
theorem tw5473894854737391538:True:=⟨⟩
theorem tw15877595060684424493:True:=⟨⟩
theorem tw1579449882083336373:True:=⟨⟩
theorem tw13926162288498385835:True:=⟨⟩
theorem tw13477243855637820317:True:=⟨⟩
theorem tw11335548949403272109:True:=⟨⟩
theorem tw5109959941633856264:True:=⟨⟩
theorem tw8076071851544213752:True:=⟨⟩
theorem tw11924744991773116452:True:=⟨⟩
theorem tw9361308946764262789:True:=⟨⟩
theorem tw1449573497683114401:True:=⟨⟩
theorem tw17314922126031612631:True:=⟨⟩
theorem tw13091431843072706216:True:=⟨⟩
theorem tw4330871428026594253:True:=⟨⟩
theorem tw2779259423015983752:True:=⟨⟩
theorem tw2132587359361899306:True:=⟨⟩
theorem tw10483826004512409454:True:=⟨⟩
theorem tw3971575267565461171:True:=⟨⟩
theorem tw3871684910680838634:True:=⟨⟩
theorem tw12676616945659038439:True:=⟨⟩
theorem tw10489796994912386924:True:=⟨⟩
theorem tw1162555429211287936:True:=⟨⟩
theorem tw15814977051196328175:True:=⟨⟩
theorem tw4657421707894225554:True:=⟨⟩
theorem tw17383992358257181535:True:=⟨⟩
theorem tw1163812543388774177:True:=⟨⟩
theorem tw3921568586257598637:True:=⟨⟩
theorem tw16334789894151539300:True:=⟨⟩
theorem tw4581346940472507806:True:=⟨⟩
theorem tw3146973412469344652:True:=⟨⟩
theorem tw11678951435885589241:True:=⟨⟩
theorem tw1756011555682232160:True:=⟨⟩
theorem tw11219960223869328916:True:=⟨⟩
theorem tw12998011685537410107:True:=⟨⟩
theorem tw17909250542258348282:True:=⟨⟩
theorem tw5871065068151226055:True:=⟨⟩
theorem tw9383896008550063280:True:=⟨⟩
theorem tw12642618602069498143:True:=⟨⟩
theorem tw1076890969305277950:True:=⟨⟩
theorem tw10604764420904178916:True:=⟨⟩
theorem tw1791404136195627119:True:=⟨⟩
theorem tw5212917873806078701:True:=⟨⟩
theorem tw2922707048439826280:True:=⟨⟩
theorem tw3959205994626111747:True:=⟨⟩
theorem tw3349603806890254681:True:=⟨⟩
theorem tw11443335581733733979:True:=⟨⟩
theorem tw18288774409536624871:True:=⟨⟩
theorem tw290252574372472797:True:=⟨⟩
theorem tw8915320594387110172:True:=⟨⟩
theorem tw7880181814207875409:True:=⟨⟩
theorem tw12360626491185948436:True:=⟨⟩
theorem tw1288792497420486315:True:=⟨⟩
theorem tw13938330160525480607:True:=⟨⟩
theorem tw4262194769269421322:True:=⟨⟩
theorem tw17074939012835966331:True:=⟨⟩
theorem tw8550143801492972711:True:=⟨⟩
theorem tw6382682806377314999:True:=⟨⟩
theorem tw14655535221874145905:True:=⟨⟩
theorem tw5140647740171780429:True:=⟨⟩
theorem tw1138416670020523180:True:=⟨⟩
theorem tw4435963556711114334:True:=⟨⟩
theorem tw13203347983915107766:True:=⟨⟩
theorem tw14715512483621665773:True:=⟨⟩
theorem tw9335162984533659210:True:=⟨⟩
theorem tw12135756691812399312:True:=⟨⟩
theorem tw13973199169170599193:True:=⟨⟩
theorem tw13259643988419205575:True:=⟨⟩
theorem tw8140564096072105091:True:=⟨⟩
theorem tw17663757234897088681:True:=⟨⟩
theorem tw6946453841956936256:True:=⟨⟩
theorem tw8577432970486184826:True:=⟨⟩
theorem tw5004435363716222451:True:=⟨⟩
theorem tw15853174411388702397:True:=⟨⟩
theorem tw8001919139127920603:True:=⟨⟩
theorem tw4191132230916317752:True:=⟨⟩
theorem tw7650752611455783669:True:=⟨⟩
theorem tw10413496292204412960:True:=⟨⟩
theorem tw7619343892959474165:True:=⟨⟩
end PySem.W.Fast
open PySem PySem.W PyProof.Rows
set_option maxRecDepth 100000 in
set_option maxHeartbeats 0 in
theorem PySem.Challenge.cw_trueline_k10_refusals_apart_holds : PySem.Challenge.rw_trueline_k10_refusals_apart.Holds := by
 w_on;o_law;k_head;(case hw=>w_witness2)
 k_fill
 refine Z.law_walkH (l:=PySem.Challenge.rw_trueline_k10_refusals_apart) 8 Z.K10.fi_law rfl rfl (fun w h Y=>PySem.W.kIn_of Y) ⟨fun _=>rfl,by decide,by decide⟩ rfl rfl ?F
 case F =>
  intro w mg h KX G
  refine'(fun(cl:∀c∈Z.names12,∃D,Z.K10.ClsT _ mg c D)=>?main) ?cl
  case cl =>
   intro c hc
   simp only[Z.names12,List.mem_cons,List.not_mem_nil,or_false]at hc
   rcases hc with rfl|rfl|rfl|rfl|rfl|rfl|rfl|rfl|rfl|rfl|rfl|rfl
   ·refine' Z.K10.clsT_mk KX G ?za ?zq (by decide +kernel) ?zs ?zm ?zk (Z.alone_mk KX G ?xe1 ?xe2 ?xe3 ?xe4 ?xe5 ?xe6 ?xe7 ?xt1 ?xt2 ?xt3 ?xt4 ?xv1 ?xv2 ?xv3 (by decide +kernel) ?xcl);(case za=>k_is);(case zq=>k_exc);(case zs=>k_is);(case zm=>k_is);(case zk=>k_is);(case xe1=>k_is);(case xe2=>k_is);(case xe3=>k_is);(case xe4=>k_is);(case xe5=>k_is);(case xe6=>k_is);(case xe7=>k_is);(case xt1=>k_is);(case xt2=>k_is);(case xt3=>k_is);(case xt4=>k_is);(case xv1=>k_is);(case xv2=>k_is);(case xv3=>k_is);(case xcl=>exact(fun c hc=>by simp only[Z.names12,List.mem_cons,List.not_mem_nil,or_false]at hc;rcases hc with rfl|rfl|rfl|rfl|rfl|rfl|rfl|rfl|rfl|rfl|rfl|rfl<;>(refine' Z.kit_cl KX G ?ya ?yt ?ym ?ys ?yb ?yd;(case ya=>k_is);(case yt=>k_is);(case ym=>k_is);(case ys=>k_is);(case yb=>decide +kernel);(case yd=>decide))))
   ·refine' Z.K10.clsT_mk KX G ?za ?zq (by decide +kernel) ?zs ?zm ?zk (Z.alone_mk KX G ?xe1 ?xe2 ?xe3 ?xe4 ?xe5 ?xe6 ?xe7 ?xt1 ?xt2 ?xt3 ?xt4 ?xv1 ?xv2 ?xv3 (by decide +kernel) ?xcl);(case za=>k_is);(case zq=>k_exc);(case zs=>k_is);(case zm=>k_is);(case zk=>k_is);(case xe1=>k_is);(case xe2=>k_is);(case xe3=>k_is);(case xe4=>k_is);(case xe5=>k_is);(case xe6=>k_is);(case xe7=>k_is);(case xt1=>k_is);(case xt2=>k_is);(case xt3=>k_is);(case xt4=>k_is);(case xv1=>k_is);(case xv2=>k_is);(case xv3=>k_is);(case xcl=>exact(fun c hc=>by simp only[Z.names12,List.mem_cons,List.not_mem_nil,or_false]at hc;rcases hc with rfl|rfl|rfl|rfl|rfl|rfl|rfl|rfl|rfl|rfl|rfl|rfl<;>(refine' Z.kit_cl KX G ?ya ?yt ?ym ?ys ?yb ?yd;(case ya=>k_is);(case yt=>k_is);(case ym=>k_is);(case ys=>k_is);(case yb=>decide +kernel);(case yd=>decide))))
   ·refine' Z.K10.clsT_mk KX G ?za ?zq (by decide +kernel) ?zs ?zm ?zk (Z.alone_mk KX G ?xe1 ?xe2 ?xe3 ?xe4 ?xe5 ?xe6 ?xe7 ?xt1 ?xt2 ?xt3 ?xt4 ?xv1 ?xv2 ?xv3 (by decide +kernel) ?xcl);(case za=>k_is);(case zq=>k_exc);(case zs=>k_is);(case zm=>k_is);(case zk=>k_is);(case xe1=>k_is);(case xe2=>k_is);(case xe3=>k_is);(case xe4=>k_is);(case xe5=>k_is);(case xe6=>k_is);(case xe7=>k_is);(case xt1=>k_is);(case xt2=>k_is);(case xt3=>k_is);(case xt4=>k_is);(case xv1=>k_is);(case xv2=>k_is);(case xv3=>k_is);(case xcl=>exact(fun c hc=>by simp only[Z.names12,List.mem_cons,List.not_mem_nil,or_false]at hc;rcases hc with rfl|rfl|rfl|rfl|rfl|rfl|rfl|rfl|rfl|rfl|rfl|rfl<;>(refine' Z.kit_cl KX G ?ya ?yt ?ym ?ys ?yb ?yd;(case ya=>k_is);(case yt=>k_is);(case ym=>k_is);(case ys=>k_is);(case yb=>decide +kernel);(case yd=>decide))))
   ·refine' Z.K10.clsT_mk KX G ?za ?zq (by decide +kernel) ?zs ?zm ?zk (Z.alone_mk KX G ?xe1 ?xe2 ?xe3 ?xe4 ?xe5 ?xe6 ?xe7 ?xt1 ?xt2 ?xt3 ?xt4 ?xv1 ?xv2 ?xv3 (by decide +kernel) ?xcl);(case za=>k_is);(case zq=>k_exc);(case zs=>k_is);(case zm=>k_is);(case zk=>k_is);(case xe1=>k_is);(case xe2=>k_is);(case xe3=>k_is);(case xe4=>k_is);(case xe5=>k_is);(case xe6=>k_is);(case xe7=>k_is);(case xt1=>k_is);(case xt2=>k_is);(case xt3=>k_is);(case xt4=>k_is);(case xv1=>k_is);(case xv2=>k_is);(case xv3=>k_is);(case xcl=>exact(fun c hc=>by simp only[Z.names12,List.mem_cons,List.not_mem_nil,or_false]at hc;rcases hc with rfl|rfl|rfl|rfl|rfl|rfl|rfl|rfl|rfl|rfl|rfl|rfl<;>(refine' Z.kit_cl KX G ?ya ?yt ?ym ?ys ?yb ?yd;(case ya=>k_is);(case yt=>k_is);(case ym=>k_is);(case ys=>k_is);(case yb=>decide +kernel);(case yd=>decide))))
   ·refine' Z.K10.clsT_own KX G ?za ?zs ?zm ?zk (Z.exc_mkT (i:=Z.K10.fi_ini_Dependent) (dv:=.non) KX G (by decide +kernel) (by decide +kernel) (fun _ _ _ _ _ _ _ _ _ _ _=>⟨_,rfl,rfl⟩) (fun _ _ _ _ _ _ _ _ _ _=>⟨_,rfl,rfl⟩) ?rd ?oa ?ote ?oml ?ol ?oln ?orN ?oT ?oM ?orM ?oi ?on1 ?on2 ?on3 ?on4 ?om1 ?om2 ?om3 ?om4 ?om5 ?om6 ?oop ?ofi ?ofn ?okp ?olf ?olD ?ocd (fun _=>Z.alone_mk KX G ?xe1 ?xe2 ?xe3 ?xe4 ?xe5 ?xe6 ?xe7 ?xt1 ?xt2 ?xt3 ?xt4 ?xv1 ?xv2 ?xv3 (by decide +kernel) ?xcl)) rfl;(case za=>k_is);(case zs=>k_is);(case zm=>k_is);(case zk=>k_is);(case oa=>k_is);(case ote=>k_is);(case oml=>k_is);(case ol=>k_is);(case oln=>k_is);(case orN=>rfl);(case oT=>k_is);(case oM=>k_is);(case orM=>rfl);(case oi=>k_is);(case on1=>k_is);(case on2=>k_is);(case on3=>k_is);(case on4=>k_is);(case om1=>k_is);(case om2=>k_is);(case om3=>k_is);(case om4=>k_is);(case om5=>k_is);(case om6=>k_is);(case oop=>k_is);(case ofi=>k_is);(case ofn=>k_is);(case okp=>k_is);(case olf=>k_is);(case olD=>k_is);(case ocd=>k_is);(case rd=>rfl);(case xe1=>k_is);(case xe2=>k_is);(case xe3=>k_is);(case xe4=>k_is);(case xe5=>k_is);(case xe6=>k_is);(case xe7=>k_is);(case xt1=>k_is);(case xt2=>k_is);(case xt3=>k_is);(case xt4=>k_is);(case xv1=>k_is);(case xv2=>k_is);(case xv3=>k_is);(case xcl=>exact(fun c hc=>by simp only[Z.names12,List.mem_cons,List.not_mem_nil,or_false]at hc;rcases hc with rfl|rfl|rfl|rfl|rfl|rfl|rfl|rfl|rfl|rfl|rfl|rfl<;>(refine' Z.kit_cl KX G ?ya ?yt ?ym ?ys ?yb ?yd;(case ya=>k_is);(case yt=>k_is);(case ym=>k_is);(case ys=>k_is);(case yb=>decide +kernel);(case yd=>decide))))
   ·refine' Z.K10.clsT_mk KX G ?za ?zq (by decide +kernel) ?zs ?zm ?zk (Z.alone_mk KX G ?xe1 ?xe2 ?xe3 ?xe4 ?xe5 ?xe6 ?xe7 ?xt1 ?xt2 ?xt3 ?xt4 ?xv1 ?xv2 ?xv3 (by decide +kernel) ?xcl);(case za=>k_is);(case zq=>k_exc);(case zs=>k_is);(case zm=>k_is);(case zk=>k_is);(case xe1=>k_is);(case xe2=>k_is);(case xe3=>k_is);(case xe4=>k_is);(case xe5=>k_is);(case xe6=>k_is);(case xe7=>k_is);(case xt1=>k_is);(case xt2=>k_is);(case xt3=>k_is);(case xt4=>k_is);(case xv1=>k_is);(case xv2=>k_is);(case xv3=>k_is);(case xcl=>exact(fun c hc=>by simp only[Z.names12,List.mem_cons,List.not_mem_nil,or_false]at hc;rcases hc with rfl|rfl|rfl|rfl|rfl|rfl|rfl|rfl|rfl|rfl|rfl|rfl<;>(refine' Z.kit_cl KX G ?ya ?yt ?ym ?ys ?yb ?yd;(case ya=>k_is);(case yt=>k_is);(case ym=>k_is);(case ys=>k_is);(case yb=>decide +kernel);(case yd=>decide))))
   ·refine' Z.K10.clsT_own KX G ?za ?zs ?zm ?zk (Z.exc_mkT (i:=Z.K10.fi_ini_BadText) (dv:=.int 0) KX G (by decide +kernel) (by decide +kernel) (fun _ _ _ _ _ _ _ _ _ _ _=>⟨_,rfl,rfl⟩) (fun _ _ _ _ _ _ _ _ _ _=>⟨_,rfl,rfl⟩) ?rd ?oa ?ote ?oml ?ol ?oln ?orN ?oT ?oM ?orM ?oi ?on1 ?on2 ?on3 ?on4 ?om1 ?om2 ?om3 ?om4 ?om5 ?om6 ?oop ?ofi ?ofn ?okp ?olf ?olD ?ocd (fun _=>Z.alone_mk KX G ?xe1 ?xe2 ?xe3 ?xe4 ?xe5 ?xe6 ?xe7 ?xt1 ?xt2 ?xt3 ?xt4 ?xv1 ?xv2 ?xv3 (by decide +kernel) ?xcl)) rfl;(case za=>k_is);(case zs=>k_is);(case zm=>k_is);(case zk=>k_is);(case oa=>k_is);(case ote=>k_is);(case oml=>k_is);(case ol=>k_is);(case oln=>k_is);(case orN=>rfl);(case oT=>k_is);(case oM=>k_is);(case orM=>rfl);(case oi=>k_is);(case on1=>k_is);(case on2=>k_is);(case on3=>k_is);(case on4=>k_is);(case om1=>k_is);(case om2=>k_is);(case om3=>k_is);(case om4=>k_is);(case om5=>k_is);(case om6=>k_is);(case oop=>k_is);(case ofi=>k_is);(case ofn=>k_is);(case okp=>k_is);(case olf=>k_is);(case olD=>k_is);(case ocd=>k_is);(case rd=>exact⟨_,rfl⟩);(case xe1=>k_is);(case xe2=>k_is);(case xe3=>k_is);(case xe4=>k_is);(case xe5=>k_is);(case xe6=>k_is);(case xe7=>k_is);(case xt1=>k_is);(case xt2=>k_is);(case xt3=>k_is);(case xt4=>k_is);(case xv1=>k_is);(case xv2=>k_is);(case xv3=>k_is);(case xcl=>exact(fun c hc=>by simp only[Z.names12,List.mem_cons,List.not_mem_nil,or_false]at hc;rcases hc with rfl|rfl|rfl|rfl|rfl|rfl|rfl|rfl|rfl|rfl|rfl|rfl<;>(refine' Z.kit_cl KX G ?ya ?yt ?ym ?ys ?yb ?yd;(case ya=>k_is);(case yt=>k_is);(case ym=>k_is);(case ys=>k_is);(case yb=>decide +kernel);(case yd=>decide))))
   ·refine' Z.K10.clsT_mk KX G ?za ?zq (by decide +kernel) ?zs ?zm ?zk (Z.alone_mk KX G ?xe1 ?xe2 ?xe3 ?xe4 ?xe5 ?xe6 ?xe7 ?xt1 ?xt2 ?xt3 ?xt4 ?xv1 ?xv2 ?xv3 (by decide +kernel) ?xcl);(case za=>k_is);(case zq=>k_exc);(case zs=>k_is);(case zm=>k_is);(case zk=>k_is);(case xe1=>k_is);(case xe2=>k_is);(case xe3=>k_is);(case xe4=>k_is);(case xe5=>k_is);(case xe6=>k_is);(case xe7=>k_is);(case xt1=>k_is);(case xt2=>k_is);(case xt3=>k_is);(case xt4=>k_is);(case xv1=>k_is);(case xv2=>k_is);(case xv3=>k_is);(case xcl=>exact(fun c hc=>by simp only[Z.names12,List.mem_cons,List.not_mem_nil,or_false]at hc;rcases hc with rfl|rfl|rfl|rfl|rfl|rfl|rfl|rfl|rfl|rfl|rfl|rfl<;>(refine' Z.kit_cl KX G ?ya ?yt ?ym ?ys ?yb ?yd;(case ya=>k_is);(case yt=>k_is);(case ym=>k_is);(case ys=>k_is);(case yb=>decide +kernel);(case yd=>decide))))
   ·refine' Z.K10.clsT_mk KX G ?za ?zq (by decide +kernel) ?zs ?zm ?zk (Z.alone_mk KX G ?xe1 ?xe2 ?xe3 ?xe4 ?xe5 ?xe6 ?xe7 ?xt1 ?xt2 ?xt3 ?xt4 ?xv1 ?xv2 ?xv3 (by decide +kernel) ?xcl);(case za=>k_is);(case zq=>k_exc);(case zs=>k_is);(case zm=>k_is);(case zk=>k_is);(case xe1=>k_is);(case xe2=>k_is);(case xe3=>k_is);(case xe4=>k_is);(case xe5=>k_is);(case xe6=>k_is);(case xe7=>k_is);(case xt1=>k_is);(case xt2=>k_is);(case xt3=>k_is);(case xt4=>k_is);(case xv1=>k_is);(case xv2=>k_is);(case xv3=>k_is);(case xcl=>exact(fun c hc=>by simp only[Z.names12,List.mem_cons,List.not_mem_nil,or_false]at hc;rcases hc with rfl|rfl|rfl|rfl|rfl|rfl|rfl|rfl|rfl|rfl|rfl|rfl<;>(refine' Z.kit_cl KX G ?ya ?yt ?ym ?ys ?yb ?yd;(case ya=>k_is);(case yt=>k_is);(case ym=>k_is);(case ys=>k_is);(case yb=>decide +kernel);(case yd=>decide))))
   ·refine' Z.K10.clsT_mk KX G ?za ?zq (by decide +kernel) ?zs ?zm ?zk (Z.alone_mk KX G ?xe1 ?xe2 ?xe3 ?xe4 ?xe5 ?xe6 ?xe7 ?xt1 ?xt2 ?xt3 ?xt4 ?xv1 ?xv2 ?xv3 (by decide +kernel) ?xcl);(case za=>k_is);(case zq=>k_exc);(case zs=>k_is);(case zm=>k_is);(case zk=>k_is);(case xe1=>k_is);(case xe2=>k_is);(case xe3=>k_is);(case xe4=>k_is);(case xe5=>k_is);(case xe6=>k_is);(case xe7=>k_is);(case xt1=>k_is);(case xt2=>k_is);(case xt3=>k_is);(case xt4=>k_is);(case xv1=>k_is);(case xv2=>k_is);(case xv3=>k_is);(case xcl=>exact(fun c hc=>by simp only[Z.names12,List.mem_cons,List.not_mem_nil,or_false]at hc;rcases hc with rfl|rfl|rfl|rfl|rfl|rfl|rfl|rfl|rfl|rfl|rfl|rfl<;>(refine' Z.kit_cl KX G ?ya ?yt ?ym ?ys ?yb ?yd;(case ya=>k_is);(case yt=>k_is);(case ym=>k_is);(case ys=>k_is);(case yb=>decide +kernel);(case yd=>decide))))
   ·refine' Z.K10.clsT_mk KX G ?za ?zq (by decide +kernel) ?zs ?zm ?zk (Z.alone_mk KX G ?xe1 ?xe2 ?xe3 ?xe4 ?xe5 ?xe6 ?xe7 ?xt1 ?xt2 ?xt3 ?xt4 ?xv1 ?xv2 ?xv3 (by decide +kernel) ?xcl);(case za=>k_is);(case zq=>k_exc);(case zs=>k_is);(case zm=>k_is);(case zk=>k_is);(case xe1=>k_is);(case xe2=>k_is);(case xe3=>k_is);(case xe4=>k_is);(case xe5=>k_is);(case xe6=>k_is);(case xe7=>k_is);(case xt1=>k_is);(case xt2=>k_is);(case xt3=>k_is);(case xt4=>k_is);(case xv1=>k_is);(case xv2=>k_is);(case xv3=>k_is);(case xcl=>exact(fun c hc=>by simp only[Z.names12,List.mem_cons,List.not_mem_nil,or_false]at hc;rcases hc with rfl|rfl|rfl|rfl|rfl|rfl|rfl|rfl|rfl|rfl|rfl|rfl<;>(refine' Z.kit_cl KX G ?ya ?yt ?ym ?ys ?yb ?yd;(case ya=>k_is);(case yt=>k_is);(case ym=>k_is);(case ys=>k_is);(case yb=>decide +kernel);(case yd=>decide))))
   ·refine' Z.K10.clsT_mk KX G ?za ?zq (by decide +kernel) ?zs ?zm ?zk (Z.alone_mk KX G ?xe1 ?xe2 ?xe3 ?xe4 ?xe5 ?xe6 ?xe7 ?xt1 ?xt2 ?xt3 ?xt4 ?xv1 ?xv2 ?xv3 (by decide +kernel) ?xcl);(case za=>k_is);(case zq=>k_exc);(case zs=>k_is);(case zm=>k_is);(case zk=>k_is);(case xe1=>k_is);(case xe2=>k_is);(case xe3=>k_is);(case xe4=>k_is);(case xe5=>k_is);(case xe6=>k_is);(case xe7=>k_is);(case xt1=>k_is);(case xt2=>k_is);(case xt3=>k_is);(case xt4=>k_is);(case xv1=>k_is);(case xv2=>k_is);(case xv3=>k_is);(case xcl=>exact(fun c hc=>by simp only[Z.names12,List.mem_cons,List.not_mem_nil,or_false]at hc;rcases hc with rfl|rfl|rfl|rfl|rfl|rfl|rfl|rfl|rfl|rfl|rfl|rfl<;>(refine' Z.kit_cl KX G ?ya ?yt ?ym ?ys ?yb ?yd;(case ya=>k_is);(case yt=>k_is);(case ym=>k_is);(case ys=>k_is);(case yb=>decide +kernel);(case yd=>decide))))
  case main =>
   refine' Z.K10.law_key ?fns ?fm ?fn ?fl ?blt (Z.exc_ok KX (i:=Z.K10.fi_law_alone) ?al (by decide +kernel) (fun x hx=>by obtain⟨D,h⟩:=cl x hx;exact⟨D,h.m,h.ok⟩)) cl
   case fns =>
    intro i hi
    simp only[Z.K10.fns,List.mem_cons,List.not_mem_nil,or_false]at hi
    rcases hi with rfl|rfl|rfl|rfl
    ·refine' Z.fact_mk (i:=Z.K10.fi_law_cell) KX G (fun _ _ _ _ _ _=>Z.len2 fun _ _=>rfl) ?a ?l ?c ?k;(all_goals try dsimp only[Z.K10.fi_law_cell]);(case a=>k_is);(case l=>k_is);(case c=>k_is);(case k=>k_is)
    ·refine' Z.fact_mk (i:=Z.K10.fi_law_drawn) KX G (fun _ _ _ _ _ _=>Z.len2 fun _ _=>rfl) ?a ?l ?c ?k;(all_goals try dsimp only[Z.K10.fi_law_drawn]);(case a=>k_is);(case l=>k_is);(case c=>k_is);(case k=>k_is)
    ·refine' Z.fact_mk (i:=Z.K10.fi_common_divisor) KX G (fun _ _ _ _ _ _=>Z.len2 fun _ _=>rfl) ?a ?l ?c ?k;(all_goals try dsimp only[Z.K10.fi_common_divisor]);(case a=>k_is);(case l=>k_is);(case c=>k_is);(case k=>k_is)
    ·refine' Z.fact_mk (i:=Z.K10.fi_ratioX) KX G (fun _ _ _ _ _ _=>Z.len2 fun _ _=>rfl) ?a ?l ?c ?k;(all_goals try dsimp only[Z.K10.fi_ratioX]);(case a=>k_is);(case l=>k_is);(case c=>k_is);(case k=>k_is)
   case fm=>refine' Z.fact_mk (i:=Z.K10.fi_made) KX G (fun _ _ _ _ _ _=>Z.len1 fun _=>rfl) ?a ?l ?c ?k;(all_goals try dsimp only[Z.K10.fi_made]);(case a=>k_is);(case l=>k_is);(case c=>k_is);(case k=>k_is)
   case fn=>refine' Z.fact_mk (i:=Z.K10.fi_nought) KX G (fun _ _ _ _ _ _=>Z.len1 fun _=>rfl) ?a ?l ?c ?k;(all_goals try dsimp only[Z.K10.fi_nought]);(case a=>k_is);(case l=>k_is);(case c=>k_is);(case k=>k_is)
   case fl=>refine' Z.fact_mk (i:=Z.K10.fi_law) KX G (fun _ _ _ _ _ _=>Z.len1 fun _=>rfl) ?a ?l ?c ?k;(all_goals try dsimp only[Z.K10.fi_law]);(case a=>k_is);(case l=>k_is);(case c=>k_is);(case k=>k_is)
   case al=>refine' Z.fact_mk (i:=Z.K10.fi_law_alone) KX G (fun _ _ _ _ _ _=>Z.len1 fun _=>rfl) ?a ?l ?c ?k;(all_goals try dsimp only[Z.K10.fi_law_alone]);(case a=>k_is);(case l=>k_is);(case c=>k_is);(case k=>k_is)
   case blt =>
    intro x hx
    simp only[Z.blts,List.mem_cons,List.not_mem_nil,or_false]at hx
    rcases hx with rfl|rfl|rfl|rfl|rfl|rfl|rfl|rfl|rfl|rfl|rfl|rfl|rfl|rfl|rfl|rfl|rfl|rfl|rfl<;>(refine' PySem.W.mg_none_of KX G ?z;(case z=>k_is))
