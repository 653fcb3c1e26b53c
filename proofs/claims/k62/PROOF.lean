import PyProof.Rows.All
import Wide.All
import OpenK.AllK
import Wide.FinOn
import PyProof.EqAt
import PyProof.EqKinds
import PyProof.TupleCall
import PySem.Challenge.RW_trueline_k62_measures_read
set_option Elab.async false
set_option linter.all false
set_option maxRecDepth 100000
set_option bootstrap.genMatcherCode false
set_option genSizeOfSpec false
set_option genInjectivity false
set_option compiler.extract_closed false
noncomputable section
namespace L2
open PySem PySem.Spec PyProof.Rows
abbrev Key:=Sum Int Str
noncomputable def keyIs:Key->Value->Bool
 |.inl k,v=>Value.isInt k v
 |.inr x,v=>Value.isStrOf x v
noncomputable def keyH(w:World):Key->Int
 |.inl k=>hashInt k
 |.inr x=>hashStr w x
theorem jZ:∀ {k:Key} {v:Value},keyIs k v=true->(∃i t,k=Sum.inl i/\v=Value.int i t)\/(∃x t,k=Sum.inr x/\v=Value.str x t)
 |.inl i,v,h=>by
  obtain⟨t,e⟩:=Value.isInt_shape (k:=i) (v:=v) h
  exact .inl ⟨i,t,rfl,e⟩
 |.inr x,v,h=>by
  obtain⟨t,e⟩:=Value.isStrOf_shape (x:=x) (v:=v) h;exact .inr ⟨x,t,rfl,e⟩
theorem key_ll(a b:Int):decide ((Sum.inl a:Key)=Sum.inl b)=(a == b):=by
 by_cases e:a=b
 ·subst e;simp
 ·have h:¬ (Sum.inl a:Key)=Sum.inl b:=fun q=>e (Sum.inl.inj q)
  rw[decide_eq_false h];exact(beq_eq_false_iff_ne.mpr e).symm
theorem key_rr(a b:Str):decide ((Sum.inr a:Key)=Sum.inr b)=decide (a=b):=by
 by_cases e:a=b
 ·subst e;simp
 ·have h:¬ (Sum.inr a:Key)=Sum.inr b:=fun q=>e (Sum.inr.inj q)
  rw[decide_eq_false h,decide_eq_false e]
theorem key_lr(a:Int)(b:Str):decide ((Sum.inl a:Key)=Sum.inr b)=false:=decide_eq_false (fun q=>nomatch q)
theorem key_rl(a:Str)(b:Int):decide ((Sum.inr a:Key)=Sum.inl b)=false:=decide_eq_false (fun q=>nomatch q)
noncomputable def mixKind(prog:Program)(w:World):PySem.KeyKind prog w Key where
 is:=keyIs
 hash:=keyH w
 inj:=fun v a b ha hb=>by
  rcases jZ ha with⟨i,t,rfl,rfl⟩|⟨x,t,rfl,rfl⟩
  ·rcases jZ hb with⟨j,u,rfl,e⟩|⟨y,u,rfl,e⟩
   ·injection e with e1 _;rw[e1]
   ·exact nomatch e
  ·rcases jZ hb with⟨j,u,rfl,e⟩|⟨y,u,rfl,e⟩
   ·exact nomatch e
   ·injection e with e1 _;rw[e1]
 byValue:=fun k v h=>by
  rcases jZ h with⟨i,t,rfl,rfl⟩|⟨x,t,rfl,rfl⟩<;>rfl
 pyHash:=fun hv h=>by
  rcases jZ hv with⟨i,t,rfl,rfl⟩|⟨x,t,rfl,rfl⟩
  ·exact wpAny_pyHash_int h
  ·exact wpAny_pyHash_str h
 eqBool:=fun hu hv h=>by
  rcases jZ hu with⟨i,t,rfl,rfl⟩|⟨x,t,rfl,rfl⟩
  ·rcases jZ hv with⟨j,u,rfl,rfl⟩|⟨y,u,rfl,rfl⟩
   ·rw[key_ll]at h;exact wpAny_eqBool_int h
   ·rw[key_lr]at h;exact SeqAt.EqAt.int_str i t y u _ _ _ _ h
  ·rcases jZ hv with⟨j,u,rfl,rfl⟩|⟨y,u,rfl,rfl⟩
   ·rw[key_rl]at h;exact SeqAt.EqAt.str_int x t j u _ _ _ _ h
   ·rw[key_rr]at h;exact wpAny_eqBool_str h
 «strs»:=fun k x t v h=>by
  rcases jZ h with⟨i,u,rfl,e⟩|⟨y,u,rfl,e⟩
  ·exact nomatch e
  ·injection e with e1 _;subst e1
   cases v<;>rfl
end L2
namespace L2
open PySem PySem.Spec PyProof.Rows
set_option genInjectivity true in
inductive V where
 |non|bl (b:Bool)|int (i:Int)|str (x:Str)|byt (b:Array UInt8)|flt (b:UInt64)|ref (a:Addr)|ty (n:String)
 deriving DecidableEq
noncomputable def jM:V->Value->Prop
 |.non,u=>u=Value.none
 |.bl b,u=>u=Value.bool b
 |.int i,u=>∃t,u=Value.int i t
 |.str x,u=>∃t,u=Value.str x t
 |.byt b,u=>∃t,u=Value.bytes b t
 |.flt b,u=>∃t,u=Value.float b t
 |.ref a,u=>u=Value.ref a
 |.ty n,u=>u=Value.type n
abbrev jA:List V->List Value->Prop:=Paired jM
theorem jA.length{xs:List V}{us:List Value}(r:jA xs us):xs.length=us.length:=Paired.length r
theorem jA.get:∀ {xs:List V} {us:List Value} {i:Nat} {x:V},jA xs us->xs[i]?=some x->∃u,us[i]?=some u/\jM x u
 |_,_,_,_,.nil,e=>by simp at e
 |_,_,0,_,.cons r _,e=>by simp at e;subst e;exact⟨_,rfl,r⟩
 |_,_,i+1,x,.cons _ t,e=>by
  obtain⟨u,h1,h2⟩:=jA.get (i:=i) (x:=x) t (by simpa using e);exact⟨u,by simpa using h1,h2⟩
theorem jA.append:∀ {xs ys:List V} {us ws:List Value},jA xs us->jA ys ws->jA (xs++ys) (us++ws)
 |_,_,_,_,.nil,s=>s
 |_,_,_,_,.cons r t,s=>.cons r (jA.append t s)
theorem jA.take:∀ {xs:List V} {us:List Value} (n:Nat),jA xs us->jA (xs.take n) (us.take n)
 |_,_,0,_=>.nil
 |_,_,_+1,.nil=>.nil
 |_,_,n+1,.cons r t=>.cons r (jA.take n t)
theorem jA.drop:∀ {xs:List V} {us:List Value} (n:Nat),jA xs us->jA (xs.drop n) (us.drop n)
 |_,_,0,r=>r
 |_,_,_+1,.nil=>.nil
 |_,_,n+1,.cons _ t=>jA.drop n t
noncomputable def RelO:Option V->Option Value->Prop
 |some v,some u=>jM v u
 |none,none=>True
 |_,_=>False
noncomputable def KV{κ:Type}:List (κ×V)->List (κ×Value)->Prop:=Paired fun(p:κ×V) (q:κ×Value)=>p.1=q.1/\jM p.2 q.2
noncomputable def kV:Key->V
 |.inl i=>.int i
 |.inr x=>.str x
inductive HO where
 |lst (xs:List V)
 |tup (xs:List V)
 |dK (kvs:List (Key×V))|dT (kvs:List (List Key×V))
 |set (S:Int->Bool) (n:Nat)
 |ins (C dx:Addr) (fs:List (Str×V))
 |own (x:Addr)
 |xd (fs:List (Str×V))
 |met (f x:Addr)
 |rng (lo hi:Int)
 |frz (o:Obj) (u:HO)
 |tbl (ps:Array Value)
 |ext (φ:Heap->Prop)
abbrev Hp:=Addr->Option HO
noncomputable def upd(H:Hp)(a:Addr)(o:HO):Hp:=fun b=>if b=a then some o else H b
theorem jm{H:Hp}{a:Addr}{o:HO}:upd H a o a=some o:=by unfold upd;rw[if_pos rfl]
theorem jh{H:Hp}{a b:Addr}{o:HO}(h:b≠a):upd H a o b=H b:=by unfold upd;rw[if_neg h]
theorem kM{H:Hp}{a b:Addr}{o:HO}(h:H a=some o)(h':H b=none):a≠b:=by
 intro e;subst e;rw[h]at h';cases h'
section
variable (P:Program) (w:World)
noncomputable def ql(H:Hp)(h:Heap)(a:Addr):HO->Prop
 |.lst xs=>xs.length<=sizeLine/\∃(its:List Value) (n:Nat),jA xs its/\h.get? a=some { cls:=.type "list",data:=.seq its.toArray n }
 |.tup xs=>xs.length<=sizeLine/\∃its:List Value,jA xs its/\IsTup h a its.toArray
 |.dK kvs=>kvs.length<=sizeLine/\(a == sysModules)=false/\∃vs,KV kvs vs/\h.DictOf (mixKind P w) a vs
 |.dT kvs=>kvs.length<=sizeLine/\(a == sysModules)=false/\∃xs:List (List Key×Addr×Value),
  Paired (fun(p:List Key×V) (q:List Key×Addr×Value)=>p.1=q.1/\H q.2.1=some (.tup (p.1.map kV))/\jM p.2 q.2.2) kvs xs /\
  ∃o es ep,h.get? a=some o/\o.ExactDict/\o.data=.dict es ep/\es.toList=xs.map (entryOfKey (tupleKind (mixKind P w)))/\(xs.map (·.1)).Nodup
 |.set S n=>h.SetOf (intKind P w) a S n
 |.ins C dx fs=>H dx=some (.own a)/\fs.length<=1000/\dx≠a/\h.get? a=some (PySem.W.instObj C dx) /\
  ∃mA,h.Ns1 dx mA/\(∀f,RelO (fs.lookup f) (mA f))/\PySem.Within mA (fs.map (·.1))
 |.own _=>∃o,h.get? a=some o
 |.xd fs=>∃mA,h.Ns1 a mA/\∀f,RelO (fs.lookup f) (mA f)
 |.rng lo hi=>∃t u v,h.get? a=some { cls:=.type "range",data:=.fields #[.int lo t,.int hi u,.int 1 v] }
 |.frz o u=>h.get? a=some o/\ql H h a u
 |.tbl ps=>h.get? a=some { cls:=.none,data:=.fields ps }
 |.met f x=>h.get? a=some (PySem.W.methodObj (.ref f) (.ref x))
 |.ext φ=>φ h/\(∃o,h.get? a=some o)/\∀h1 h2:Heap,φ h1->(∀o,h1.get? a=some o->h2.get? a=some o)->φ h2
noncomputable def HOk(H:Hp)(h:Heap):Prop:=∀a o,H a=some o->ql P w H h a o
end
section
variable {P:Program} {w:World} {H H':Hp} {h h':Heap} {a:Addr} {o:HO}
theorem ql.lt(x:ql P w H h a o):a<h.objs.size:=by
 cases o with
 |lst xs=>obtain⟨_,_,_,_,e⟩:=x;exact Heap.lt_size e
 |tup xs=>obtain⟨_,_,_,p⟩:=x;exact p.lt
 |dK kvs=>obtain⟨_,_,_,_,o,_,_,e,_⟩:=x;exact Heap.lt_size e
 |dT kvs=>obtain⟨_,_,_,_,o,_,_,e,_⟩:=x;exact Heap.lt_size e
 |set S n=>obtain⟨o,_,_,_,e,_⟩:=x;exact Heap.lt_size e
 |ins C dx fs=>obtain⟨_,_,_,e,_⟩:=x;exact Heap.lt_size e
 |own y=>obtain⟨_,e⟩:=x;exact Heap.lt_size e
 |xd fs=>obtain⟨_,⟨_,_,_,e,_⟩,_⟩:=x;exact Heap.lt_size e
 |rng lo hi=>obtain⟨_,_,_,e⟩:=x;exact Heap.lt_size e
 |frz ob u=>obtain⟨e,_⟩:=x;exact Heap.lt_size e
 |tbl ps=>exact Heap.lt_size (show h.get? a=some _ from x)
 |met f y=>exact Heap.lt_size (show h.get? a=some _ from x)
 |ext φ=>obtain⟨_,⟨_,e⟩,_⟩:=x;exact Heap.lt_size e
theorem Paired.mapP{α β:Type}{F G:α->β->Prop}:∀ {l₁:List α} {l₂:List β},Paired F l₁ l₂->(∀a b,F a b->G a b)->Paired G l₁ l₂
 |_,_,.nil,_=>.nil
 |_,_,.cons r t,f=>.cons (f _ _ r) (Paired.mapP t f)
theorem ql.stay(x:ql P w H h a o)(k:∀b u,(b=a\/H b=some (.own a))->h.get? b=some u->h'.get? b=some u)
 (ho:∀b,H b=some (.own a)->H' b=some (.own a)) (ht:∀b xs,H b=some (.tup xs)->H' b=some (.tup xs)):ql P w H' h' a o:=by
 induction o with
 |lst xs=>obtain⟨z,its,n,r,e⟩:=x;exact⟨z,its,n,r,k _ _ (.inl rfl) e⟩
 |tup xs=>obtain⟨z,its,r,ob,e,c⟩:=x;exact⟨z,its,r,ob,k _ _ (.inl rfl) e,c⟩
 |dK kvs=>obtain⟨z,y,vs,r,ob,es,ep,e,c⟩:=x;exact⟨z,y,vs,r,ob,es,ep,k _ _ (.inl rfl) e,c⟩
 |dT kvs =>
  obtain⟨z,y,xs,r,ob,es,ep,e,c⟩:=x
  exact⟨z,y,xs,Paired.mapP r fun p q z=>⟨z.1,ht _ _ z.2.1,z.2.2⟩,ob,es,ep,k _ _ (.inl rfl) e,c⟩
 |set S n=>obtain⟨ob,es,ep,t,e,c⟩:=x;exact⟨ob,es,ep,t,k _ _ (.inl rfl) e,c⟩
 |ins C dx fs =>
  obtain⟨d,z,ne,e,mA,⟨od,es,ep,e2,c⟩,r⟩:=x
  exact⟨ho _ d,z,ne,k _ _ (.inl rfl) e,mA,⟨od,es,ep,k _ _ (.inr d) e2,c⟩,r⟩
 |own y=>obtain⟨ob,e⟩:=x;exact⟨ob,k _ _ (.inl rfl) e⟩
 |xd fs=>obtain⟨mA,⟨od,es,ep,e,c⟩,r⟩:=x;exact⟨mA,⟨od,es,ep,k _ _ (.inl rfl) e,c⟩,r⟩
 |rng lo hi=>obtain⟨t,u,v,e⟩:=x;exact⟨t,u,v,k _ _ (.inl rfl) e⟩
 |frz ob u ih=>obtain⟨e,q⟩:=x;exact⟨k _ _ (.inl rfl) e,ih q⟩
 |tbl ps =>
  have e:h.get? a=some { cls:=.none,data:=.fields ps }:=x;show h'.get? a=some { cls:=.none,data:=.fields ps }
  exact k a _ (.inl rfl) e
 |met f y =>
  have e:h.get? a=some (PySem.W.methodObj (.ref f) (.ref y)):=x;show h'.get? a=some (PySem.W.methodObj (.ref f) (.ref y))
  exact k a _ (.inl rfl) e
 |ext φ=>obtain⟨p,⟨o,e⟩,st⟩:=x;exact⟨st _ _ p fun o q=>k _ _ (.inl rfl) q,⟨o,k _ _ (.inl rfl) e⟩,st⟩
theorem HOk.lt(x:HOk P w H h)(e:H a=some o):a<h.objs.size:=(x a o e).lt
theorem HOk.fresh(x:HOk P w H h)(e:h.objs.size<=a):H a=none:=by
 cases q:H a with
 |none=>rfl
 |some u=>exact absurd (Nat.lt_of_lt_of_le (x.lt q) e) (Nat.lt_irrefl _)
theorem HOk.kept(x:HOk P w H h)(k:∀b u,h.get? b=some u->h'.get? b=some u):HOk P w H h':=fun a o e =>
 (x a o e).stay (fun b u _ q=>k b u q) (fun _ q=>q) fun _ _ q=>q
theorem HOk.laid(x:HOk P w H h)(k:∀b u,h.get? b=some u->h'.get? b=some u)(hp:h.objs.size<=a)(new:ql P w (upd H a o) h' a o):HOk P w (upd H a o) h':=fun b u e=>by
 have hn:=x.fresh hp;by_cases hb:b=a
 ·subst hb;rw[jm]at e;cases e;exact new
 ·rw[jh hb]at e
  exact(x b u e).stay (fun c v _ q=>k c v q) (fun c q=>by rw[jh (kM q hn)];exact q) fun c xs q=>by rw[jh (kM q hn)];exact q
end
noncomputable def Rd(H:Hp)(a:Addr)(u:HO):Prop:=H a=some u\/∃o,H a=some (.frz o u)
theorem Rd.ok{P:Program}{w:World}{H:Hp}{h:Heap}{a:Addr}{u:HO}(r:Rd H a u)(x:HOk P w H h):ql P w H h a u:=by
 rcases r with r|⟨o,r⟩
 ·exact x a u r
 ·obtain⟨_,q⟩:=x a _ r;exact q
noncomputable def Mut:Option HO->Prop
 |some (.lst _)=>True
 |some (.dK _)=>True
 |some (.dT _)=>True
 |some (.set _ _)=>True
 |some (.ins _ _ _)=>True
 |some (.ext _)=>True
 |_=>False
section
variable {P:Program} {w:World} {H:Hp} {h h':Heap} {x e:Addr} {o':HO}
theorem HOk.write(ok:HOk P w H h)(mu:Mut (H x))(he:e=x\/H e=some (.own x))(k:∀b u,b≠e->h.get? b=some u->h'.get? b=some u)(heo:∃u,h'.get? e=some u)
 (new:ql P w (upd H x o') h' x o'):HOk P w (upd H x o') h':=fun b u q=>by
 have nown:∀c y,H c=some (.own y)->c≠x:=fun c y r z=>by subst z;rw[r]at mu;exact mu
 have ntup:∀c xs,H c=some (.tup xs)->c≠x:=fun c xs r z=>by subst z;rw[r]at mu;exact mu
 by_cases hb:b=x
 ·subst hb;rw[jm]at q;cases q;exact new
 ·rw[jh hb]at q;by_cases hbe:b=e
  ·have q':H b=some (.own x):=by
    rcases he with z|z
    ·exact absurd (hbe.trans z) hb
    ·rw[hbe];exact z
   rw[q]at q';cases q';obtain⟨v,hv⟩:=heo;exact⟨v,by rw[hbe];exact hv⟩
  ·refine(ok b u q).stay (fun c v hc r=>k c v ?_ r) (fun c r=>by rw[jh (nown c b r)];exact r) fun c xs r=>by rw[jh (ntup c xs r)];exact r
   rcases hc with rfl|hc
   ·exact hbe
   ·rintro rfl;rcases he with z|z
    ·exact nown c b hc z
    ·rw[hc]at z;cases z;exact hb rfl
end
structure Un (fs ex:List Addr) (H H':Hp) (h h':Heap):Prop where
 keep:∀b o,h.get? b=some o->H b=none->b ∉ fs->b ∉ ex->h'.get? b=some o
 slot:∀b o,h.get? b=some o->H b=none->b∈fs->b ∉ ex->∃sl,h'.get? b=some { o with slots:=sl }
 free:∀b o,h.get? b=some o->H b=none->b ∉ ex->H' b=none
 there:∀b o,h.get? b=some o->b ∉ ex->∃o',h'.get? b=some o'
 tups:∀b xs,H b=some (.tup xs)->H' b=some (.tup xs)
 frzs:∀b o u,H b=some (.frz o u)->H' b=some (.frz o u)
 tbls:∀b ps,H b=some (.tbl ps)->∃more,H' b=some (.tbl (ps++more))
section
variable {fs fs' ex ex':List Addr} {H H1 H2:Hp} {h h1 h2 h':Heap} {a x e:Addr} {o:HO}
theorem Un.any(u:Un fs ex H H1 h h1){b:Addr}{ob:Obj}(q:h.get? b=some ob)(n:H b=none)(hx:b ∉ ex):∃sl,h1.get? b=some { ob with slots:=sl }:=by
 by_cases hb:b∈fs
 ·exact u.slot b ob q n hb hx
 ·exact⟨ob.slots,u.keep b ob q n hb hx⟩
theorem Un.kept(k:∀b u,h.get? b=some u->h'.get? b=some u):Un fs ex H H h h' :=
 ⟨fun b ob q _ _ _=>k b ob q,fun b ob q _ _ _=>⟨ob.slots,k b ob q⟩,fun _ _ _ n _=>n,fun b ob q _=>⟨ob,k b ob q⟩,fun _ _ q=>q,fun _ _ _ q=>q,fun _ ps q=>⟨#[],by rw[q];simp⟩⟩
theorem Un.refl:Un fs ex H H h h:=Un.kept fun _ _ q=>q
theorem Un.laid(k:∀b u,h.get? b=some u->h'.get? b=some u)(hp:h.objs.size<=a)(hn:H a=none):Un fs ex H (upd H a o) h h' where
 keep:=fun b u q _ _ _=>k b u q
 slot:=fun b u q _ _ _=>⟨u.slots,k b u q⟩
 free:=fun b u q n _=>by rw[jh (Nat.ne_of_lt (Nat.lt_of_lt_of_le (Heap.lt_size q) hp))];exact n
 there:=fun b u q _=>⟨u,k b u q⟩
 tups:=fun b xs q=>by rw[jh (kM q hn)];exact q
 frzs:=fun b u xs q=>by rw[jh (kM q hn)];exact q
 tbls:=fun b ps q=>⟨#[],by rw[jh (kM q hn),q];simp⟩
theorem Un.write(mu:Mut (H x))(he:e=x\/H e=some (.own x))(k:∀b u,b≠e->h.get? b=some u->h'.get? b=some u)(heo:∃u,h'.get? e=some u):Un fs ex H (upd H x o) h h':=by
 have hx:∀b,H b=none->b≠x:=fun b n z=>by subst z;rw[n]at mu;exact mu
 have hb:∀b,H b=none->b≠e:=fun b n z=>by
  subst z;rcases he with r|r
  ·exact hx b n r
  ·rw[n]at r;cases r
 have hm:∀b u,H b=some u->¬ Mut (some u)->b≠x:=fun b u q nm z=>by subst z;rw[q]at mu;exact nm mu
 refine⟨fun b u q n _ _=>k b u (hb b n) q,fun b u q n _ _=>⟨u.slots,k b u (hb b n) q⟩,fun b u q n _=>by rw[jh (hx b n)];exact n,fun b u q _=>?_,
  fun b xs q=>by rw[jh (hm b _ q fun z=>z)];exact q,fun b u xs q=>by rw[jh (hm b _ q fun z=>z)];exact q,fun b ps q=>⟨#[],by rw[jh (hm b _ q fun z=>z),q];simp⟩⟩
 by_cases hbe:b=e
 ·subst hbe;exact heo
 ·exact⟨u,k b u hbe q⟩
end
noncomputable def trk(h:Heap)(H:Hp):List Addr:=(List.range h.objs.size).filter fun a=>(H a).isSome
noncomputable def KQ(h:Heap)(H:Hp):Heap:=PySem.W.hideAll h (trk h H)
theorem hidT_size(h:Heap)(H:Hp):(KQ h H).objs.size=h.objs.size:=PySem.W.hideAll_size _ _
theorem hidT_get{h:Heap}{H:Hp}{b:Addr}{o:Obj}(e:h.get? b=some o)(n:H b=none):(KQ h H).get? b=some o :=
 PySem.W.hideAll_get _ e fun hm=>by
  have q:(H b).isSome=true:=(List.mem_filter.mp hm).2;rw[n]at q;simp at q
theorem of_hidT{h:Heap}{H:Hp}{b:Addr}{o:Obj}(e:(KQ h H).get? b=some o):h.get? b=some o/\H b=none:=by
 have e':h.get? b=some o:=PySem.W.of_hideAll (trk h H) e;refine⟨e',?_⟩
 cases q:H b with
 |none=>rfl
 |some x =>
  have hm:b∈trk h H:=List.mem_filter.mpr ⟨List.mem_range.mpr (Heap.lt_size e'),by simp[q]⟩;have z:(KQ h H).get? b=none:=PySem.W.hideAll_none (trk h H) hm;rw[z]at e;cases e
end L2
namespace L2
open PySem PySem.Spec PyProof.Rows
structure Mod (K:PySem.W.Frag) (mg:Str->Option Value) (base:Heap):Prop where
 kin:K.In base
 glob:base.Ns mainGlobals mg
 blt:∃mb,base.Ns builtinsNs mb/\∀x:Str,x ≠ "__name__"->mb x=bootBuiltins x
 nolimit:base.NoLimit/\base.NoDigits
structure Cx where
 prog:Program
 w:World
 K:PySem.W.Frag
 mg:Str->Option Value
 base:Heap
 A:Around
 N:List Str
 s₀:Shared
 H₀:Hp
 env:Env
 outer:List Env
 stack:List Env
 ex:List Addr
 fn:Str->Bool
 calm:Bool
 pn:List (Addr×Obj)
 xe:Value->Shared->Prop
noncomputable def frs(l:List Env):List Addr:=l.filterMap (·.frame)
abbrev Cx.fs(X:Cx):List Addr:=frs X.outer
noncomputable def Vis(sc:Scope)(x:Str):Prop:=sc.names.lookup x=some .local\/sc.names.lookup x=some .cell\/sc.names.lookup x=some .free
noncomputable def Loc(sc:Scope)(x:Str):Prop:=sc.names.lookup x=some .local\/sc.names.lookup x=some .cell
noncomputable def Look(env:Env)(h:Heap)(m:Str->Option Value)(x:Str)(u:Value):Prop :=
 (env.kindOf x=some .local/\m x=some u)\/((env.kindOf x=some .cell\/env.kindOf x=some .free)/\∃c,env.cells.lookup x=some c/\h.IsCell c (some u))
structure Cx.Ok (X:Cx):Prop where
 mod:Mod X.K X.mg X.base
 kind:X.env.scope.kind=.function
 glob:X.env.globals=mainGlobals
 blt:X.env.builtins=builtinsNs
 above:X.s₀.heap.objs.size<=X.env.locals
 inj:∀x y c,X.env.cells.lookup x=some c->X.env.cells.lookup y=some c->x=y
 has:∀x,(X.env.kindOf x=some .cell\/X.env.kindOf x=some .free)->∃c,X.env.cells.lookup x=some c
 cab:∀x c,X.fn x=true->X.env.cells.lookup x=some c->X.s₀.heap.objs.size<=c
 hd:X.calm=true->X.A.handled=none
 frames:X.A.frames=some X.stack
 stk:X.stack=X.outer\/(X.stack=X.env::X.outer/\X.env.frame=some X.env.locals)
 exf:∀b∈X.ex,b≠X.env.locals/\∀x c,X.env.cells.lookup x=some c->c≠b
 bs:∀b o,X.base.get? b=some o->X.s₀.heap.get? b=some o/\X.H₀ b=none
 bsz:X.base.objs.size<=X.s₀.heap.objs.size
 noex:∀b o,X.base.get? b=some o->b ∉ X.ex
 exfs:∀b∈X.ex,b ∉ X.fs
 funs:X.s₀.heap.FunFrames X.base X.outer
 frf:∀b∈X.fs,X.H₀ b=none
structure Inv (X:Cx) (pins:List (Addr×Obj)) (σ:List (Option V)) (H:Hp) (s:Shared):Prop where
 ok:X.Ok
 os:s.os=X.s₀.os
 bare:AllBare s.gens
 base:Un X.fs X.ex X.H₀ H X.s₀.heap s.heap
 loc:∃m,s.heap.Ns X.env.locals m/\∀(i:Nat) (x:Str) (v:V),X.N[i]?=some x->σ[i]?=some (some v)->Vis X.env.scope x->∃u,jM v u/\Look X.env s.heap m x u
 cell:∀x c,X.env.cells.lookup x=some c->∃v,s.heap.IsCell c v
 free:H X.env.locals=none
 freeC:∀x c,X.env.cells.lookup x=some c->H c=none
 pin:∀p∈X.pn++pins,s.heap.get? p.1=some p.2/\H p.1=none/\p.1≠X.env.locals/\p.1 ∉ X.fs/\∀v,p.2.data ≠ .cell v
 hok:HOk X.prog X.w H s.heap
 len:σ.length=X.N.length
section
variable {X:Cx} {pins:List (Addr×Obj)} {σ:List (Option V)} {H H':Hp} {s:Shared} {h':Heap}
theorem Cx.Ok.nofr(ok:X.Ok){b:Addr}{o:Obj}(e:X.base.get? b=some o):b ∉ X.fs:=fun hb=>by
 have:=(ok.funs.mem hb).1;rw[e]at this;cases this
theorem Inv.bs(I:Inv X pins σ H s):∀b o,X.base.get? b=some o->s.heap.get? b=some o/\H b=none:=fun b o e =>
 ⟨I.base.keep b o (I.ok.bs b o e).1 (I.ok.bs b o e).2 (I.ok.nofr e) (I.ok.noex b o e),I.base.free b o (I.ok.bs b o e).1 (I.ok.bs b o e).2 (I.ok.noex b o e)⟩
theorem Inv.bk(I:Inv X pins σ H s):∀b o,X.base.get? b=some o->s.heap.get? b=some o:=fun b o e=>(I.bs b o e).1
theorem Inv.mod(I:Inv X pins σ H s):Mod X.K X.mg X.base:=I.ok.mod
theorem Inv.kIn(I:Inv X pins σ H s):X.K.In s.heap:=I.ok.mod.kin.keeps I.bk
theorem Inv.lt(I:Inv X pins σ H s):X.env.locals<s.heap.objs.size:=let ⟨_,hn,_⟩:=I.loc;hn.lt
theorem Inv.sz(I:Inv X pins σ H s):X.s₀.heap.objs.size<=s.heap.objs.size:=Nat.le_trans I.ok.above (Nat.le_of_lt I.lt)
theorem Inv.nofs(I:Inv X pins σ H s){a:Addr}(h:s.heap.objs.size<=a):a ∉ X.fs:=fun hb=>by
 obtain⟨_,o,ho,_⟩:=I.ok.funs.mem hb;exact absurd (Nat.lt_of_lt_of_le (Heap.lt_size ho) (Nat.le_trans I.sz h)) (Nat.lt_irrefl _)
theorem Inv.cne(I:Inv X pins σ H s):∀x c,X.env.cells.lookup x=some c->c≠X.env.locals:=fun x c e z=>by
 obtain⟨v,o,ho,hd⟩:=I.cell x c e;obtain⟨m,⟨o',es,ep,ho',hd',_⟩,_⟩:=I.loc;rw[z,ho']at ho;cases ho;rw[hd']at hd;cases hd
theorem Inv.funs(I:Inv X pins σ H s):s.heap.FunFrames X.base X.outer:=by
 have all:∀(l:List Env),(∀b∈frs l,b∈X.fs)->X.s₀.heap.FunFrames X.base l->s.heap.FunFrames X.base l:=by
  intro l
  induction l with
  |nil=>intro _ _;trivial
  |cons env r ih =>
   intro hs hl;obtain⟨hk,⟨L,o,hf,hn,ho,hd⟩,hr⟩:=hl;have hL:L∈X.fs:=hs L (by unfold frs;rw[List.filterMap_cons,hf];exact List.mem_cons_self)
   obtain⟨sl,e⟩:=I.base.slot L o ho (I.ok.frf L hL) hL fun z=>I.ok.exfs L z hL
   exact⟨hk,⟨L,_,hf,hn,e,hd⟩,ih (fun b hb=>hs b (by unfold frs;rw[List.filterMap_cons,hf];exact List.mem_cons_of_mem _ hb)) hr⟩
 exact all X.outer (fun _ hb=>hb) I.ok.funs
theorem Inv.stack(I:Inv X pins σ H s):s.heap.FunFrames X.base X.stack:=by
 rcases I.ok.stk with e|⟨e,hf⟩
 ·rw[e];exact I.funs
 ·rw[e];obtain⟨m,hn,_⟩:=I.loc;refine .cons (by rw[I.ok.kind];decide) hf hn ?_ I.funs;exact Heap.get?_none_of_le (Nat.le_trans I.ok.bsz I.ok.above)
theorem Inv.stkSub(I:Inv X pins σ H s):∀b∈frs X.stack,b∈X.env.locals::X.fs:=fun b hb=>by
 rcases I.ok.stk with e|⟨e,hf⟩
 ·rw[e]at hb;exact List.mem_cons_of_mem _ hb
 ·rw[e]at hb;unfold frs at hb;rw[List.filterMap_cons,hf]at hb;exact hb
theorem Inv.stkFree(I:Inv X pins σ H s):∀b∈frs X.stack,H b=none:=fun b hb=>by
 rcases List.mem_cons.mp (I.stkSub b hb) with e|hb
 ·rw[e];exact I.free
 ·obtain⟨_,o,ho,_⟩:=I.ok.funs.mem hb
  exact I.base.free b o ho (I.ok.frf b hb) fun z=>I.ok.exfs b z hb
theorem Inv.step{g':Array GenState}{t':Nat}{d':Drawn}{ch:List Addr}(I:Inv X pins σ H s)
 (hch:∀b∈ch,(b∈X.ex\/X.s₀.heap.objs.size<=b)/\b≠X.env.locals/\(∀x c,X.env.cells.lookup x=some c->c≠b)/\∀p∈X.pn++pins,p.1≠b)
 (keep:∀b o,b≠X.env.locals->b ∉ X.fs->b ∉ ch->s.heap.get? b=some o->H b=none->h'.get? b=some o)
 (slot:∀b o,b≠X.env.locals->b∈X.fs->b ∉ ch->s.heap.get? b=some o->H b=none->∃sl,h'.get? b=some { o with slots:=sl }) (free:∀b o,b ∉ ch->s.heap.get? b=some o->H b=none->H' b=none)
 (there:∀b o,b ∉ ch->s.heap.get? b=some o->∃o',h'.get? b=some o')
 (tups:∀b xs,H b=some (.tup xs)->H' b=some (.tup xs)) (frzs:∀b o u,H b=some (.frz o u)->H' b=some (.frz o u)) (tbls:∀b ps,H b=some (.tbl ps)->∃more,H' b=some (.tbl (ps++more)))
 (ns:∀m,s.heap.Ns X.env.locals m->h'.Ns X.env.locals m) (hok:HOk X.prog X.w H' h') (hg:AllBare g') :
 Inv X pins σ H' { s with heap:=h',gens:=g',drawn:=d',toks:=t' }:=by
 have neL:∀b o,X.s₀.heap.get? b=some o->b≠X.env.locals:=fun b o e=>Nat.ne_of_lt (Nat.lt_of_lt_of_le (Heap.lt_size e) I.ok.above)
 have neC:∀b o,X.s₀.heap.get? b=some o->b ∉ X.ex->b ∉ ch:=fun b o e hx hb=>by
  rcases(hch b hb).1 with z|z
  ·exact hx z
  ·exact absurd (Nat.lt_of_lt_of_le (Heap.lt_size e) z) (Nat.lt_irrefl _)
 have cellK:∀x c,X.env.cells.lookup x=some c->∀v,s.heap.IsCell c v->h'.IsCell c v:=fun x c e v ⟨o,ho,hd⟩=>by
  have nch:c ∉ ch:=fun z=>(hch c z).2.2.1 x c e rfl
  by_cases hc:c∈X.fs
  ·obtain⟨sl,q⟩:=slot c o (I.cne x c e) hc nch ho (I.freeC x c e);exact⟨_,q,hd⟩
  ·exact⟨o,keep c o (I.cne x c e) hc nch ho (I.freeC x c e),hd⟩
 refine⟨I.ok,I.os,hg,⟨fun b o e n hb hx=>?_,fun b o e n hb hx=>?_,fun b o e n hx=>?_,fun b o e hx=>?_,fun b xs e=>tups b xs (I.base.tups b xs e),fun b o xs e=>frzs b o xs (I.base.frzs b o xs e),fun b ps e=>?_⟩,?_,fun x c e=>?_,?_,fun x c e=>?_,fun p hp=>?_,hok,I.len⟩
 ·exact keep b o (neL b o e) hb (neC b o e hx) (I.base.keep b o e n hb hx) (I.base.free b o e n hx)
 ·obtain⟨sl,e1⟩:=I.base.slot b o e n hb hx;obtain⟨sl',e2⟩:=slot b _ (neL b o e) hb (neC b o e hx) e1 (I.base.free b o e n hx);exact⟨sl',e2⟩
 ·obtain⟨o',e1⟩:=I.base.there b o e hx;exact free b o' (neC b o e hx) e1 (I.base.free b o e n hx)
 ·obtain⟨o',e1⟩:=I.base.there b o e hx;exact there b o' (neC b o e hx) e1
 ·obtain⟨m1,e1⟩:=I.base.tbls b ps e;obtain⟨m2,e2⟩:=tbls b _ e1;exact⟨m1++m2,by rw[e2,Array.append_assoc]⟩
 ·obtain⟨m,hn,hl⟩:=I.loc;refine⟨m,ns m hn,fun i x v e1 e2 e3=>?_⟩;obtain⟨u,r,l⟩:=hl i x v e1 e2 e3;refine⟨u,r,?_⟩;rcases l with l|⟨k,c,e,z⟩
  ·exact .inl l
  ·exact .inr ⟨k,c,e,cellK x c e _ z⟩
 ·obtain⟨v,z⟩:=I.cell x c e;exact⟨v,cellK x c e v z⟩
 ·obtain⟨m,⟨o,_,_,ho,_⟩,_⟩:=I.loc;exact free _ o (fun z=>(hch _ z).2.1 rfl) ho I.free
 ·obtain⟨v,o,ho,hd⟩:=I.cell x c e;exact free c o (fun z=>(hch c z).2.2.1 x c e rfl) ho (I.freeC x c e)
 ·obtain⟨e,n,ne,nf,d⟩:=I.pin p hp
  have nch:p.1 ∉ ch:=fun z=>(hch p.1 z).2.2.2 p hp rfl
  exact⟨keep p.1 p.2 ne nf nch e n,free p.1 p.2 nch e n,ne,nf,d⟩
theorem Inv.un{t':Nat}(I:Inv X pins σ H s)(u:Un X.fs [] H H' s.heap h')(hok:HOk X.prog X.w H' h'):Inv X pins σ H' { s with heap:=h',toks:=t' }:=by
 obtain⟨m,⟨o,es,ep,ho,r⟩,_⟩:=id I.loc;obtain⟨sl,hL⟩:=u.any ho I.free (by simp)
 exact I.step (g':=s.gens) (d':=s.drawn) (ch:=[]) (fun _ z=>nomatch z) (fun b o _ hb _ e n=>u.keep b o e n hb (by simp)) (fun b o _ hb _ e n=>u.slot b o e n hb (by simp)) (fun b o _ e n=>u.free b o e n (by simp)) (fun b o _ e=>u.there b o e (by simp)) u.tups u.frzs u.tbls (fun m' hm=>by
  obtain⟨o',es',ep',ho',r'⟩:=hm;rw[ho]at ho';cases ho'
  exact⟨_,es',ep',hL,r'⟩) hok I.bare
theorem Inv.call{g':Array GenState}{t':Nat}{d':Drawn}{ch:List Addr}(I:Inv X pins σ H s)(u:Un (frs X.stack) ch H H' s.heap h')(hok:HOk X.prog X.w H' h')(hg:AllBare g')
 (hch:∀b∈ch,(b∈X.ex\/X.s₀.heap.objs.size<=b)/\b≠X.env.locals/\(∀x c,X.env.cells.lookup x=some c->c≠b)/\∀p∈X.pn++pins,p.1≠b) :
 Inv X pins σ H' { s with heap:=h',gens:=g',drawn:=d',toks:=t' }:=by
 obtain⟨m,⟨o,es,ep,ho,r⟩,_⟩:=id I.loc
 obtain⟨sl,hL⟩:=u.any ho I.free fun z=>(hch _ z).2.1 rfl
 exact I.step (ch:=ch) hch (fun b o hL hb hc e n=>u.keep b o e n (fun z=>(List.mem_cons.mp (I.stkSub b z)).elim hL hb) hc) (fun b o _ _ hc e n=>u.any e n hc) (fun b o hc e n=>u.free b o e n hc) (fun b o hc e=>u.there b o e hc) u.tups u.frzs u.tbls (fun m' hm=>by
  obtain⟨o',es',ep',ho',r'⟩:=hm;rw[ho]at ho';cases ho'
  exact⟨_,es',ep',hL,r'⟩) hok hg
theorem Inv.turned{t':Nat}{it:Addr}(I:Inv X pins σ H s)(k:∀b o,b≠it->s.heap.get? b=some o->h'.get? b=some o)(hn:H it=none)(hL:it≠X.env.locals)
 (h1:it∈X.ex\/X.s₀.heap.objs.size<=it) (h2:∀x c,X.env.cells.lookup x=some c->c≠it) (h3:∀p∈X.pn++pins,p.1≠it):Inv X pins σ H { s with heap:=h',toks:=t' }:=by
 have nit:∀b u,H b=some u->b≠it:=fun b u e z=>by rw[z,hn]at e;cases e
 refine I.step (g':=s.gens) (d':=s.drawn) (ch:=[it]) (fun b hb=>?_) (fun b o _ _ hc e _=>k b o (fun z=>hc (by simp[z])) e) (fun b o _ _ hc e _=>⟨o.slots,k b o (fun z=>hc (by simp[z])) e⟩) (fun _ _ _ _ n=>n)
  (fun b o hc e=>⟨o,k b o (fun z=>hc (by simp[z])) e⟩) (fun _ _ e=>e) (fun _ _ _ e=>e) (fun b ps e=>⟨#[],by rw[e];simp⟩) (fun m hm=>?_) (fun b u e=>?_) I.bare
 ·have e:b=it:=by simpa using hb
  subst e;exact⟨h1,hL,h2,h3⟩
 ·obtain⟨o,es,ep,ho,r⟩:=hm;exact⟨o,es,ep,k _ o (Ne.symm hL) ho,r⟩
 ·refine(I.hok b u e).stay (fun c v hc q=>k c v ?_ q) (fun _ q=>q) fun _ _ q=>q
  rcases hc with z|z
  ·rw[z];exact nit b u e
  ·exact nit c _ z
theorem Inv.tok(I:Inv X pins σ H s)(t:Nat):Inv X pins σ H { s with toks:=t }:=I.un (h':=s.heap) (t':=t) Un.refl I.hok
theorem Inv.kept{t':Nat}(I:Inv X pins σ H s)(k:∀b u,s.heap.get? b=some u->h'.get? b=some u):Inv X pins σ H { s with heap:=h',toks:=t' }:=I.un (Un.kept k) (I.hok.kept k)
theorem Inv.laid{a:Addr}{o:HO}{t':Nat}(I:Inv X pins σ H s)(k:∀b u,s.heap.get? b=some u->h'.get? b=some u)(hp:s.heap.objs.size<=a)(new:ql X.prog X.w (upd H a o) h' a o) :
 Inv X pins σ (upd H a o) { s with heap:=h',toks:=t' }:=I.un (Un.laid k hp (I.hok.fresh hp)) (I.hok.laid k hp new)
theorem Inv.write{x e:Addr}{o:HO}{t':Nat}(I:Inv X pins σ H s)(mu:Mut (H x))(he:e=x\/H e=some (.own x))(k:∀b u,b≠e->s.heap.get? b=some u->h'.get? b=some u)(heo:∃u,h'.get? e=some u)
 (new:ql X.prog X.w (upd H x o) h' x o):Inv X pins σ (upd H x o) { s with heap:=h',toks:=t' }:=I.un (Un.write mu he k heo) (I.hok.write mu he k heo new)
theorem Inv.pins_of{pins':List (Addr×Obj)}(I:Inv X pins σ H s)(h:∀p∈pins',s.heap.get? p.1=some p.2/\H p.1=none/\p.1≠X.env.locals/\p.1 ∉ X.fs/\∀v,p.2.data ≠ .cell v):Inv X pins' σ H s :=
 ⟨I.ok,I.os,I.bare,I.base,I.loc,I.cell,I.free,I.freeC,fun p hp=>(List.mem_append.mp hp).elim (fun z=>I.pin p (List.mem_append_left _ z)) (h p),I.hok,I.len⟩
theorem nodup_ix{N:List Str}(hN:N.Nodup){i j:Nat}{x:Str}(a:N[i]?=some x)(b:N[j]?=some x):i=j:=by
 obtain⟨h1,e1⟩:=List.getElem?_eq_some_iff.mp a;obtain⟨h2,e2⟩:=List.getElem?_eq_some_iff.mp b;exact(List.getElem_inj hN).mp (e1.trans e2.symm)
theorem JO{M:Model}{A:Around}{E:Value->Shared->Prop}{i:Nat}{x:Str}{v:V}{u:Value}{Q:Unit->Shared->Prop}(I:Inv X pins σ H s)(hN:X.N.Nodup)(hi:X.N[i]?=some x)(hx:Loc X.env.scope x)(r:jM v u)
 (h:∀s',Inv X pins (σ.set i (some v)) H s'->(∃a,Heap.SameBut a s.heap s'.heap/\(a=X.env.locals\/X.env.cells.lookup x=some a))->Q () s') (hf:X.fn x=true\/X.env.scope.names.lookup x=some .local:=by first|exact .inl rfl|exact .inr rfl|assumption):wpAny M A (storeName X.env x u) Q E s:=by
 obtain⟨m,hn,hl⟩:=id I.loc
 have hcls:(X.env.scope.kind == .class ||(X.env.scope.kind == .module&&X.env.locals != X.env.globals))=false:=by rw[I.ok.kind];rfl
 have hiσ:i<σ.length:=by rw[I.len];exact(List.getElem?_eq_some_iff.mp hi).1
 have cne:=I.cne
 have tracked:∀ {a:Addr} {h':Heap},(∃o,s.heap.get? a=some o/\H a=none)->Heap.SameBut a s.heap h'->HOk X.prog X.w H h':=fun {a h'} ha hs b ob e=>by
  obtain⟨_,_,hfree⟩:=ha
  refine(I.hok b ob e).stay (fun c w' hc q=>(hs.2 c ?_).trans q) (fun _ q=>q) fun _ _ q=>q
  rintro rfl;rcases hc with rfl|hc
  ·rw[hfree]at e;cases e
  ·rw[hfree]at hc;cases hc
 rcases hx with hk|hk
 ·refine wpAny_storeName_local hk hn (fun h' hn' hs=>?_) hcls;obtain⟨oL,_,_,hoL,_⟩:=id hn;refine h _ ⟨I.ok,I.os,I.bare,⟨fun b o e n hb hx=>?_,fun b o e n hb hx=>?_,I.base.free,fun b o e hx=>?_,I.base.tups,I.base.frzs,I.base.tbls⟩,⟨_,hn',fun j y v' e1 e2 e3=>?_⟩,fun y c e=>?_,I.free,I.freeC,fun p hp=>?_,tracked ⟨oL,hoL,I.free⟩ hs,by simpa using I.len⟩ ⟨_,hs,.inl rfl⟩
  ·exact(hs.2 b (Nat.ne_of_lt (Nat.lt_of_lt_of_le (Heap.lt_size e) I.ok.above))).trans (I.base.keep b o e n hb hx)
  ·obtain⟨sl,e1⟩:=I.base.slot b o e n hb hx;exact⟨sl,(hs.2 b (Nat.ne_of_lt (Nat.lt_of_lt_of_le (Heap.lt_size e) I.ok.above))).trans e1⟩
  ·obtain⟨o',e1⟩:=I.base.there b o e hx;exact⟨o',(hs.2 b (Nat.ne_of_lt (Nat.lt_of_lt_of_le (Heap.lt_size e) I.ok.above))).trans e1⟩
  ·by_cases hj:j=i
   ·subst hj;rw[hi]at e1;cases e1;rw[List.getElem?_set_self hiσ]at e2;cases e2;exact⟨u,r,.inl ⟨hk,by simp⟩⟩
   ·rw[List.getElem?_set_ne (Ne.symm hj)]at e2;obtain⟨u',r',q⟩:=hl j y v' e1 e2 e3;refine⟨u',r',?_⟩;rcases q with⟨k,e⟩|⟨k,c,e,z⟩
    ·refine .inl ⟨k,?_⟩
     have:y≠x:=fun e=>hj (nodup_ix hN e1 (e ▸ hi))
     simp[this,e]
    ·exact .inr ⟨k,c,e,z.sameBut hs (cne y c e)⟩
  ·obtain⟨w',z⟩:=I.cell y c e;exact⟨w',z.sameBut hs (cne y c e)⟩
  ·obtain⟨e,n,ne,nf,d⟩:=I.pin p hp;exact⟨(hs.2 p.1 ne).trans e,n,ne,nf,d⟩
 ·have hfn:X.fn x=true:=by
   rcases hf with z|z
   ·exact z
   ·rw[z]at hk;cases hk
  obtain⟨c,hc⟩:=I.ok.has x (.inl hk);obtain⟨w',z⟩:=I.cell x c hc;refine wpAny_storeName_cell I.ok.kind hk hc z (fun h' hc' hs=>?_);obtain⟨oc,hoc,hocd⟩:=id z;refine h { s with heap:=h' } ⟨I.ok,I.os,I.bare,⟨fun b o e n hb hx=>?_,fun b o e n hb hx=>?_,I.base.free,fun b o e hx=>?_,I.base.tups,I.base.frzs,I.base.tbls⟩,⟨m,hn.sameBut hs (Ne.symm (cne x c hc)),fun j y v' e1 e2 e3=>?_⟩,fun y c' e=>?_,I.free,I.freeC,fun p hp=>?_,tracked ⟨oc,hoc,I.freeC x c hc⟩ hs,by simpa using I.len⟩ ⟨c,hs,.inr hc⟩
  ·exact(hs.2 b (Nat.ne_of_lt (Nat.lt_of_lt_of_le (Heap.lt_size e) (I.ok.cab x c hfn hc)))).trans (I.base.keep b o e n hb hx)
  ·obtain⟨sl,e1⟩:=I.base.slot b o e n hb hx;exact⟨sl,(hs.2 b (Nat.ne_of_lt (Nat.lt_of_lt_of_le (Heap.lt_size e) (I.ok.cab x c hfn hc)))).trans e1⟩
  ·obtain⟨o',e1⟩:=I.base.there b o e hx;exact⟨o',(hs.2 b (Nat.ne_of_lt (Nat.lt_of_lt_of_le (Heap.lt_size e) (I.ok.cab x c hfn hc)))).trans e1⟩
  ·by_cases hj:j=i
   ·subst hj;rw[hi]at e1;cases e1;rw[List.getElem?_set_self hiσ]at e2;cases e2;exact⟨u,r,.inr ⟨.inl hk,c,hc,hc'⟩⟩
   ·rw[List.getElem?_set_ne (Ne.symm hj)]at e2;obtain⟨u',r',q⟩:=hl j y v' e1 e2 e3;refine⟨u',r',?_⟩;rcases q with q|⟨k,c',e,z'⟩
    ·exact .inl q
    ·refine .inr ⟨k,c',e,z'.sameBut hs ?_⟩;rintro rfl;exact hj (nodup_ix hN e1 (I.ok.inj _ _ _ e hc ▸ hi))
  ·by_cases hcc:c'=c
   ·subst hcc;exact⟨_,hc'⟩
   ·obtain⟨w2,z2⟩:=I.cell y c' e;exact⟨w2,z2.sameBut hs hcc⟩
  ·obtain⟨e,n,ne,nf,d⟩:=I.pin p hp;refine⟨(hs.2 p.1 ?_).trans e,n,ne,nf,d⟩;intro q;rw[q,hoc]at e;have q':oc=p.2:=Option.some.inj e;exact d w' (by rw[<- q'];exact hocd)
theorem uj{M:Model}{A:Around}{E:Value->Shared->Prop}{i:Nat}{x:Str}{v:V}{u:Value}{Q:Unit->Shared->Prop}(I:Inv X pins σ H s)(hN:X.N.Nodup)(hi:X.N[i]?=some x)(hx:Loc X.env.scope x)(r:jM v u)
 (h:∀s',Inv X pins (σ.set i (some v)) H s'->Q () s') (hf:X.fn x=true\/X.env.scope.names.lookup x=some .local:=by first|exact .inl rfl|exact .inr rfl|assumption):wpAny M A (storeName X.env x u) Q E s :=
 JO I hN hi hx r (fun s' I' _=>h s' I') hf
theorem Inv.call'{s':Shared}{ch:List Addr}(I:Inv X pins σ H s)(ho:s'.os=s.os)(u:Un (frs X.stack) ch H H' s.heap s'.heap)(hok:HOk X.prog X.w H' s'.heap)(hg:AllBare s'.gens)
 (hch:∀b∈ch,(b∈X.ex\/X.s₀.heap.objs.size<=b)/\b≠X.env.locals/\(∀x c,X.env.cells.lookup x=some c->c≠b)/\∀p∈X.pn++pins,p.1≠b):Inv X pins σ H' s':=by
 obtain⟨h',g',d',t',o'⟩:=s';have e:o'=s.os:=ho;subst e;exact I.call (g':=g') (t':=t') (d':=d') u hok hg hch
end
abbrev XK:=Value->Option Addr->Hp->Prop
abbrev St:=List (Option V)
abbrev VK:=V->Hp->Prop
abbrev TE:=St->Hp->VK->Prop
abbrev TT:=St->Hp->(Bool->Hp->Prop)->Prop
abbrev TA:=St->Hp->(List V->Hp->Prop)->Prop
structure Ends where
 nx:St->Hp->Prop
 rt:VK
 bk:St->Hp->Prop:=fun _ _=>False
 ct:St->Hp->Prop:=fun _ _=>False
abbrev TS:=Ends->St->Hp->Prop
noncomputable def EP(X:Cx)(pins:List (Addr×Obj))(σ:St)(Q:VK)(u:Value)(s':Shared):Prop:=∃v H',Inv X pins σ H' s'/\jM v u/\Q v H'
noncomputable def TP(X:Cx)(pins:List (Addr×Obj))(σ:St)(Q:Bool->Hp->Prop)(b:Bool)(s':Shared):Prop:=∃H',Inv X pins σ H' s'/\Q b H'
noncomputable def AP(X:Cx)(pins:List (Addr×Obj))(σ:St)(Q:List V->Hp->Prop)(us:List Value)(s':Shared):Prop:=∃vs H',Inv X pins σ H' s'/\jA vs us/\Q vs H'
noncomputable def SP(X:Cx)(pins:List (Addr×Obj))(D:Ends)(f:Flow)(s':Shared):Prop :=
 match f with
 |.next=>∃σ' H',Inv X pins σ' H' s'/\D.nx σ' H'
 |.brk=>∃σ' H',Inv X pins σ' H' s'/\D.bk σ' H'
 |.cont=>∃σ' H',Inv X pins σ' H' s'/\D.ct σ' H'
 |.ret u=>∃v σ' H',Inv X pins σ' H' s'/\jM v u/\D.rt v H'
noncomputable def PE(X:Cx)(e:Expr)(t:TE):Prop :=
 ∀(pins:List (Addr×Obj)) (s:Shared) (σ:St) (H:Hp) (Q:VK),Inv X pins σ H s->t σ H Q->wpAny (model X.prog X.w) X.A (eval e X.env) (EP X pins σ Q) X.xe s
noncomputable def PT(X:Cx)(e:Expr)(t:TT):Prop :=
 ∀(pins:List (Addr×Obj)) (s:Shared) (σ:St) (H:Hp) (Q:Bool->Hp->Prop),Inv X pins σ H s->t σ H Q->wpAny (model X.prog X.w) X.A (isTrue e X.env (eval e X.env)) (TP X pins σ Q) X.xe s
noncomputable def PW(X:Cx)(e:Expr)(t:TT):Prop :=
 ∀(whole:Sem Value) (pins:List (Addr×Obj)) (s:Shared) (σ:St) (H:Hp) (Q:Bool->Hp->Prop),Inv X pins σ H s->t σ H Q->wpAny (model X.prog X.w) X.A (isTrue e X.env whole) (TP X pins σ Q) X.xe s
theorem PW.pt{X:Cx}{e:Expr}{t:TT}(h:PW X e t):PT X e t:=h _
noncomputable def PA(X:Cx)(es:List Expr)(t:TA):Prop :=
 ∀(pos:Pos) (pins:List (Addr×Obj)) (s:Shared) (σ:St) (H:Hp) (Q:List V->Hp->Prop),Inv X pins σ H s->t σ H Q->wpAny (model X.prog X.w) X.A (spliced (backTo pos (starEach es X.env))) (AP X pins σ Q) X.xe s
noncomputable def PS(X:Cx)(st:Stmt)(t:TS):Prop :=
 ∀(pins:List (Addr×Obj)) (s:Shared) (σ:St) (H:Hp) (D:Ends),Inv X pins σ H s->t D σ H->wpAny (model X.prog X.w) X.A (exec st X.env) (SP X pins D) X.xe s
noncomputable def PSs(X:Cx)(st:List Stmt)(t:TS):Prop :=
 ∀(pins:List (Addr×Obj)) (s:Shared) (σ:St) (H:Hp) (D:Ends),Inv X pins σ H s->t D σ H->wpAny (model X.prog X.w) X.A (execs st X.env) (SP X pins D) X.xe s
theorem thn{α:Type}{t:Sem α}{Q Q':α->Shared->Prop}{M:Model}{A:Around}{E:Value->Shared->Prop}{s:Shared}(h:wpAny M A t Q E s)(hQ:∀a s,Q a s->Q' a s):wpAny M A t Q' E s:=wpAny_mono h hQ fun _ _ x=>x
end L2
namespace L2
open PySem PySem.Spec PyProof.Rows
section
variable {X:Cx}
noncomputable def tVar(i:Nat):TE:=fun σ H Q=>∃v,σ[i]?=some (some v)/\Q v H
noncomputable def tC(v:V):TE:=fun _ H Q=>Q v H
theorem qq{i:Nat}{x:Str}{pos:Pos}(hN:X.N[i]?=some x)(hv:Vis X.env.scope x)(hd:(x == ("__debug__":Str))=false:=by decide)(hcd:(x == ("__classdict__":Str))=false:=by decide):PE X (.Name x pos) (tVar i):=by
 intro pins s σ H Q I h;obtain⟨v,e,h⟩:=h;obtain⟨m,hn,hl⟩:=I.loc;obtain⟨u,r,l⟩:=hl i x v hN e hv
 have fin:EP X pins σ Q u s:=⟨v,H,I,r,h⟩
 rcases l with⟨hk,hm⟩|⟨hk,c,hc,hcell⟩
 ·exact wpAny_Name (wpAny_loadName_local I.ok.kind hk hn hm fin) hd
 ·rcases hk with hk|hk
  ·exact wpAny_Name (wpAny_loadName_cell I.ok.kind hk hc hcell fin) hd
  ·exact wpAny_Name (wpAny_loadName_free I.ok.kind hk hc hcell fin hcd) hd
theorem pe_int{i j pos}:PE X (.Constant (.int i) j pos) (tC (.int i)):=fun _ _ _ H _ I h=>wpAny_Constant_int ⟨.int i,H,I.tok _,⟨_,rfl⟩,h⟩
theorem pe_bl{b j pos}:PE X (.Constant (.bool b) j pos) (tC (.bl b)):=fun _ _ _ H _ I h=>Constant_bool ⟨.bl b,H,I,rfl,h⟩
theorem pe_non{j pos}:PE X (.Constant .none j pos) (tC .non):=fun _ _ _ H _ I h=>Constant_none ⟨.non,H,I,rfl,h⟩
theorem uG{x j pos}:PE X (.Constant (.str x) j pos) (tC (.str x)):=fun _ _ _ H _ I h=>Calls.Constant_str ⟨.str x,H,I.tok _,⟨_,rfl⟩,h⟩
noncomputable def Gl(X:Cx)(x:Str):Prop:=X.env.kindOf x=some .globalImplicit
theorem yi{E:Value->Shared->Prop}{pins:List (Addr×Obj)}{s:Shared}{σ:St}{H:Hp}{x:Str}{u:Value}{pos:Pos}{Q:Value->Shared->Prop}(I:Inv X pins σ H s)(hg:Gl X x)(hm:X.mg x=some u)(h:Q u s)
 (hd:(x == ("__debug__":Str))=false:=by decide):wpAny (model X.prog X.w) X.A (eval (.Name x pos) X.env) Q E s :=
 Calls.Name_function_global I.ok.kind hg (Calls.loadGlobal_global (by rw[I.ok.glob];exact I.mod.glob.keeps I.bk) hm h) hd
theorem KG{E:Value->Shared->Prop}{pins:List (Addr×Obj)}{s:Shared}{σ:St}{H:Hp}{x:Str}{u:Value}{pos:Pos}{Q:Value->Shared->Prop}(I:Inv X pins σ H s)(hg:Gl X x)(hm:X.mg x=none)(hv:bootBuiltins x=some u)(h:Q u s)
 (hn:x ≠ "__name__":=by decide) (hd:(x == ("__debug__":Str))=false:=by decide):wpAny (model X.prog X.w) X.A (eval (.Name x pos) X.env) Q E s:=by
 obtain⟨mb,h1,h2⟩:=I.mod.blt;exact Calls.Name_function_global I.ok.kind hg (Calls.loadGlobal_builtin (by rw[I.ok.glob];exact I.mod.glob.keeps I.bk) hm (by rw[I.ok.blt];exact h1.keeps I.bk) ((h2 x hn).trans hv) h) hd
theorem K4{x:Str}{v:V}{u:Value}{pos:Pos}(hg:Gl X x)(hm:X.mg x=some u)(r:jM v u)(hd:(x == ("__debug__":Str))=false:=by decide):PE X (.Name x pos) (tC v) :=
 fun _ _ _ H _ I h=>yi I hg hm ⟨v,H,I,r,h⟩ hd
theorem pe_bltn{x:Str}{v:V}{u:Value}{pos:Pos}(hg:Gl X x)(hm:X.mg x=none)(hv:bootBuiltins x=some u)(r:jM v u)(hn:x ≠ "__name__":=by decide)(hd:(x == ("__debug__":Str))=false:=by decide):PE X (.Name x pos) (tC v) :=
 fun _ _ _ H _ I h=>KG I hg hm hv ⟨v,H,I,r,h⟩ hn hd
variable {a b:Expr} {ta tb:TE} {pos:Pos}
noncomputable def PC(X:Cx)(op:CmpOp)(a b:Expr)(t:TE):Prop :=
 ∀(pins:List (Addr×Obj)) (s:Shared) (σ:St) (H:Hp) (Q:VK),Inv X pins σ H s->t σ H Q ->
  wpAny (model X.prog X.w) X.A (eval a X.env) (fun v s₁=>wpAny (model X.prog X.w) X.A (eval b X.env) (fun u s₂=>wpAny (model X.prog X.w) X.A (compareOp op v u) (EP X pins σ Q) X.xe s₂) X.xe s₁) X.xe s
theorem nobehind(b:Expr){op:CmpOp}(h:op ≠ .In)(h2:op ≠ .NotIn):behindInMarks op b=false:=by
 have e1:(op == CmpOp.In)=false:=by cases op<;>first|rfl|exact absurd rfl h
 have e2:(op == CmpOp.NotIn)=false:=by cases op<;>first|rfl|exact absurd rfl h2
 cases b<;>simp[behindInMarks,e1,e2]
noncomputable def tIsN(ta:TE):TE:=fun σ H Q=>ta σ H fun x H1=>Q (.bl (decide (x=.non))) H1
theorem jM.none_iff{x:V}{v:Value}(r:jM x v):(v == Value.none)=decide (x=.non):=by
 cases x with
 |non=>cases r;rfl
 |bl _=>cases r;rfl
 |int _=>obtain⟨t,rfl⟩:=r;rfl
 |str _=>obtain⟨t,rfl⟩:=r;rfl
 |byt _=>obtain⟨t,rfl⟩:=r;rfl
 |flt _=>obtain⟨t,rfl⟩:=r;rfl
 |ref _=>cases r;rfl
 |ty _=>cases r;rfl
theorem pc_isN{j pos'}(ha:PE X a ta):PC X .Is a (.Constant .none j pos') (tIsN ta):=by
 intro pins s σ H Q I h
 refine thn (ha pins s σ H _ I h) fun v s1 ⟨x,H1,I1,r1,q1⟩=>?_
 exact Constant_none (is_none_gen ⟨.bl _,H1,I1,by rw[r1.none_iff];rfl,q1⟩)
noncomputable def tB(t:TE):TT:=fun σ H Q=>t σ H fun x H1=>∃c,x=.bl c/\Q c H1
theorem pt_cmp{op:CmpOp}{t:TE}(h:PC X op a b t)(h1:behindInMarks op b=false:=by first|exact nobehind _ (by decide) (by decide)|rfl):PT X (.Compare a [op] [b] pos) (tB t):=by
 intro pins s σ H Q I hw;refine wpAny_isTrue_Compare1 (thn (h pins s σ H _ I hw) fun v s1 h1=>thn h1 fun u s2 h2=>thn h2 fun c s3 ⟨x,H1,I1,r1,q1⟩=>?_) h1;obtain⟨d,rfl,q⟩:=q1;cases r1;exact wpAny_truthy_bool ⟨H1,I1,q⟩
theorem pt_val{e:Expr}{t:TE}(h:PE X e t)(he:∀whole,isTrue e X.env whole=(do let v <- whole;standAt e.pos;holding [v] (truthy v)):=by intro _;rfl):PT X e (tB t):=by
 intro pins s σ H Q I hw;refine isTrue_plain (thn (h pins s σ H _ I hw) fun v s1 ⟨x,H1,I1,r1,q1⟩=>?_) (he _);obtain⟨d,rfl,q⟩:=q1;cases r1;exact wpAny_truthy_bool ⟨H1,I1,q⟩
variable {tA tB':TT} {rest:List Expr}
noncomputable def tAnd(t u:TT):TT:=fun σ H Q=>t σ H fun c H1=>if c=true then u σ H1 Q else Q false H1
noncomputable def tOr(t u:TT):TT:=fun σ H Q=>t σ H fun c H1=>if c=true then Q true H1 else u σ H1 Q
noncomputable def tNot(t:TT):TT:=fun σ H Q=>t σ H fun c H1=>Q (!c) H1
theorem pw_and1(ha:PT X a tA):PW X (.BoolOp .And [a] pos) tA:=by
 intro wh pins s σ H Q I h;refine isTrue_and (thn (ha pins s σ H Q I h) fun c s1 e=>?_)
 cases c with
 |true=>exact isTrue_and_nil e
 |false=>exact e
theorem pw_or1(ha:PT X a tA):PW X (.BoolOp .Or [a] pos) tA:=by
 intro wh pins s σ H Q I h;refine isTrue_or (thn (ha pins s σ H Q I h) fun c s1 e=>?_)
 cases c with
 |false=>exact isTrue_or_nil e
 |true=>exact e
theorem pw_and(ha:PT X a tA)(hb:PW X (.BoolOp .And (b::rest) pos) tB'):PW X (.BoolOp .And (a::b::rest) pos) (tAnd tA tB'):=by
 intro wh pins s σ H Q I h;refine isTrue_and (thn (ha pins s σ H _ I h) fun c s1 ⟨H1,I1,q1⟩=>?_)
 cases c with
 |true=>exact hb wh pins s1 σ H1 Q I1 q1
 |false=>exact⟨H1,I1,q1⟩
theorem pw_or(ha:PT X a tA)(hb:PW X (.BoolOp .Or (b::rest) pos) tB'):PW X (.BoolOp .Or (a::b::rest) pos) (tOr tA tB'):=by
 intro wh pins s σ H Q I h;refine isTrue_or (thn (ha pins s σ H _ I h) fun c s1 ⟨H1,I1,q1⟩=>?_)
 cases c with
 |true=>exact⟨H1,I1,q1⟩
 |false=>exact hb wh pins s1 σ H1 Q I1 q1
theorem pt_not(ha:PT X a tA):PT X (.UnaryOp .Not a pos) (tNot tA):=by
 intro pins s σ H Q I h;exact isTrue_not (ha pins s σ H (fun c H1=>Q (!c) H1) I h)
noncomputable def tAndV(ta tb:TE):TE:=fun σ H Q=>ta σ H fun x H1=>∃c,x=.bl c/\if c=true then tb σ H1 Q else Q (.bl false) H1
noncomputable def tOrV(ta tb:TE):TE:=fun σ H Q=>ta σ H fun x H1=>∃c,x=.bl c/\if c=true then Q (.bl true) H1 else tb σ H1 Q
noncomputable def tNotV(ta:TE):TE:=fun σ H Q=>ta σ H fun x H1=>∃c,x=.bl c/\Q (.bl (!c)) H1
theorem pe_one{op}{t:TE}(h:PE X a t):PE X (.BoolOp op [a] pos) t:=fun pins s σ H Q I hw=>BoolOp_one (h pins s σ H Q I hw)
theorem pe_and(ha:PE X a ta)(hb:PE X (.BoolOp .And (b::rest) pos) tb):PE X (.BoolOp .And (a::b::rest) pos) (tAndV ta tb):=by
 intro pins s σ H Q I h;refine BoolOp_and (thn (ha pins s σ H _ I h) fun v s1 ⟨x,H1,I1,r1,q1⟩=>?_);obtain⟨c,rfl,q1⟩:=q1;cases r1;refine wpAny_truthy_bool ?_
 cases c with
 |true=>exact hb pins s1 σ H1 Q I1 q1
 |false=>exact⟨.bl false,H1,I1,rfl,q1⟩
theorem pe_or(ha:PE X a ta)(hb:PE X (.BoolOp .Or (b::rest) pos) tb):PE X (.BoolOp .Or (a::b::rest) pos) (tOrV ta tb):=by
 intro pins s σ H Q I h;refine BoolOp_or (thn (ha pins s σ H _ I h) fun v s1 ⟨x,H1,I1,r1,q1⟩=>?_);obtain⟨c,rfl,q1⟩:=q1;cases r1;refine wpAny_truthy_bool ?_
 cases c with
 |false=>exact hb pins s1 σ H1 Q I1 q1
 |true=>exact⟨.bl true,H1,I1,rfl,q1⟩
theorem pe_not(ha:PE X a ta):PE X (.UnaryOp .Not a pos) (tNotV ta):=by
 intro pins s σ H Q I h;refine UnaryOp_ (thn (ha pins s σ H _ I h) fun v s1 ⟨x,H1,I1,r1,q1⟩=>?_);obtain⟨c,rfl,q1⟩:=q1;cases r1;exact not_of (wpAny_truthy_bool ⟨.bl (!c),H1,I1,rfl,q1⟩)
noncomputable def tIf(t:TT)(ta tb:TE):TE:=fun σ H Q=>t σ H fun c H1=>if c=true then ta σ H1 Q else tb σ H1 Q
theorem pe_ifExp{c:Expr}(hc:PT X c tA)(ha:PE X a ta)(hb:PE X b tb):PE X (.IfExp c a b pos) (tIf tA ta tb):=by
 intro pins s σ H Q I h;refine wpAny_IfExp (thn (hc pins s σ H _ I h) fun d s1 ⟨H1,I1,q1⟩=>?_)
 cases d with
 |true=>exact ha pins s1 σ H1 Q I1 q1
 |false=>exact hb pins s1 σ H1 Q I1 q1
end
end L2
namespace L2
open PySem PySem.Spec PyProof.Rows
noncomputable def SqL(K:PySem.W.Frag)(H:Hp)(a:Addr)(xs:List V):Prop :=
 Rd H a (.lst xs) \/
  ∃(o:Obj) (its:Array Value) (n:Nat),K.lookup a=some o/\o.cls=.type "list" /\ o.dict=none/\o.data=.seq its n/\its.size<=sizeLine/\jA xs its.toList
noncomputable def SqT(K:PySem.W.Frag)(H:Hp)(a:Addr)(xs:List V):Prop :=
 Rd H a (.tup xs) \/
  ∃(o:Obj) (its:Array Value) (n:Nat),K.lookup a=some o/\o.cls=.type "tuple" /\ o.data=.seq its n/\its.size<=sizeLine/\jA xs its.toList
noncomputable def absV:Value->Option V
 |.none=>some .non
 |.bool b=>some (.bl b)
 |.int i _=>some (.int i)
 |.str x _=>some (.str x)
 |.bytes b _=>some (.byt b)
 |.float b _=>some (.flt b)
 |.ref a=>some (.ref a)
 |.type n=>some (.ty n)
 |_=>none
theorem jM.abs{x:V}{u:Value}(r:jM x u):absV u=some x:=by
 cases x with
 |non=>cases r;rfl
 |bl _=>cases r;rfl
 |int _=>obtain⟨t,rfl⟩:=r;rfl
 |str _=>obtain⟨t,rfl⟩:=r;rfl
 |byt _=>obtain⟨t,rfl⟩:=r;rfl
 |flt _=>obtain⟨t,rfl⟩:=r;rfl
 |ref _=>cases r;rfl
 |ty _=>cases r;rfl
theorem jM.inj{x y:V}{u:Value}(r:jM x u)(q:jM y u):x=y:=Option.some.inj (r.abs.symm.trans q.abs)
theorem jA.inj:∀ {xs ys:List V} {us:List Value},jA xs us->jA ys us->xs=ys
 |_,_,_,.nil,.nil=>rfl
 |_,_,_,.cons r t,.cons r' t'=>by rw[r.inj r',jA.inj t t']
section
variable {X:Cx} {pins:List (Addr×Obj)} {σ:St} {H:Hp} {s:Shared} {a:Addr} {xs ys:List V}
theorem SqL.of{K:PySem.W.Frag}(h:H a=some (.lst xs)):SqL K H a xs:=.inl (.inl h)
theorem SqT.of{K:PySem.W.Frag}(h:H a=some (.tup xs)):SqT K H a xs:=.inl (.inl h)
theorem Inv.list(I:Inv X pins σ H s)(h:SqL X.K H a xs):∃its:List Value,jA xs its/\PlainL s.heap a its.toArray/\xs.length<=sizeLine:=by
 rcases h with h|⟨o,its,n,hk,hc,hd,hs,hz,r⟩
 ·obtain⟨z,its,n,r,e⟩:=h.ok I.hok;exact⟨its,r,⟨_,n,e,rfl,rfl,rfl⟩,z⟩
 ·refine⟨its.toList,r,⟨o,n,I.kIn a o hk,hc,hd,by simpa using hs⟩,?_⟩;have e:=r.length;simp only[Array.length_toList]at e;omega
theorem Inv.tuple(I:Inv X pins σ H s)(h:SqT X.K H a xs):∃its:List Value,jA xs its/\IsTup s.heap a its.toArray/\xs.length<=sizeLine:=by
 rcases h with h|⟨o,its,n,hk,hc,hs,hz,r⟩
 ·obtain⟨z,its,r,p⟩:=h.ok I.hok;exact⟨its,r,p,z⟩
 ·refine⟨its.toList,r,⟨o,I.kIn a o hk,hc,n,by simpa using hs⟩,?_⟩;have e:=r.length;simp only[Array.length_toList]at e;omega
theorem Inv.list_inj(I:Inv X pins σ H s)(h:SqL X.K H a xs)(h':SqL X.K H a ys):xs=ys:=by
 obtain⟨its,r,⟨o,n,e,_,_,d⟩,_⟩:=I.list h;obtain⟨its',r',⟨o',n',e',_,_,d'⟩,_⟩:=I.list h';rw[e]at e';cases e';rw[d]at d';injection d' with d1 _
 have:its=its':=by simpa using congrArg Array.toList d1
 subst this;exact r.inj r'
theorem Inv.tuple_inj(I:Inv X pins σ H s)(h:SqT X.K H a xs)(h':SqT X.K H a ys):xs=ys:=by
 obtain⟨its,r,⟨o,e,_,n,d⟩,_⟩:=I.tuple h;obtain⟨its',r',⟨o',e',_,n',d'⟩,_⟩:=I.tuple h';rw[e]at e';cases e';rw[d]at d';injection d' with d1 _
 have:its=its':=by simpa using congrArg Array.toList d1
 subst this;exact r.inj r'
end
abbrev Cx.wish(X:Cx)(E:Value->Shared->Prop):Cx:={ X with xe:=E }
abbrev Cx.nox(X:Cx):Cx:=X.wish fun _ _=>False
theorem Cx.Ok.wish{X:Cx}(ok:X.Ok)(E:Value->Shared->Prop):(X.wish E).Ok :=
 ⟨ok.mod,ok.kind,ok.glob,ok.blt,ok.above,ok.inj,ok.has,ok.cab,ok.hd,ok.frames,ok.stk,ok.exf,ok.bs,ok.bsz,ok.noex,ok.exfs,ok.funs,ok.frf⟩
theorem Cx.Ok.unwish{X:Cx}{E:Value->Shared->Prop}(ok:(X.wish E).Ok):X.Ok :=
 ⟨ok.mod,ok.kind,ok.glob,ok.blt,ok.above,ok.inj,ok.has,ok.cab,ok.hd,ok.frames,ok.stk,ok.exf,ok.bs,ok.bsz,ok.noex,ok.exfs,ok.funs,ok.frf⟩
section
variable {X:Cx} {pins:List (Addr×Obj)} {σ:St} {H:Hp} {s:Shared} {E:Value->Shared->Prop}
theorem Inv.wish(I:Inv X pins σ H s)(E:Value->Shared->Prop):Inv (X.wish E) pins σ H s:=⟨I.ok.wish E,I.os,I.bare,I.base,I.loc,I.cell,I.free,I.freeC,I.pin,I.hok,I.len⟩
theorem Inv.unwish(I:Inv (X.wish E) pins σ H s):Inv X pins σ H s:=⟨I.ok.unwish,I.os,I.bare,I.base,I.loc,I.cell,I.free,I.freeC,I.pin,I.hok,I.len⟩
theorem SP.unwish{D:Ends}{f:Flow}{s':Shared}(h:SP (X.wish E) pins D f s'):SP X pins D f s':=by
 cases f with
 |next=>obtain⟨σ',H',I,q⟩:=h;exact⟨σ',H',I.unwish,q⟩
 |brk=>obtain⟨σ',H',I,q⟩:=h;exact⟨σ',H',I.unwish,q⟩
 |cont=>obtain⟨σ',H',I,q⟩:=h;exact⟨σ',H',I.unwish,q⟩
 |ret u=>obtain⟨v,σ',H',I,r,q⟩:=h;exact⟨v,σ',H',I.unwish,r,q⟩
theorem PT.nox{e:Expr}{t:TT}(h:PT X.nox e t):PT X e t:=fun pins s σ H Q I hw =>
 wpAny_mono (h pins s σ H Q (I.wish _) hw) (fun _ _ ⟨H',I',q⟩=>⟨H',I'.unwish,q⟩) fun _ _ z=>False.elim z
theorem PSs.nox{st:List Stmt}{t:TS}(h:PSs X.nox st t):PSs X st t:=fun pins s σ H D I hw =>
 wpAny_mono (h pins s σ H D (I.wish _) hw) (fun _ _ q=>q.unwish) fun _ _ z=>False.elim z
end
section
variable {X:Cx} {st:Stmt} {rest:List Stmt} {t u:TS} {e:Expr} {te:TE} {pos:Pos}
noncomputable def tNext:TS:=fun D σ H=>D.nx σ H
noncomputable def tSeq(t u:TS):TS:=fun D σ H=>t { D with nx:=u D } σ H
theorem xA:PSs X [] tNext:=fun _ _ σ H _ I h=>wpAny_execs_nil ⟨σ,H,I,h⟩
theorem kf(h1:PS X st t)(h2:PSs X rest u):PSs X (st::rest) (tSeq t u):=by
 intro pins s σ H D I h;refine wpAny_execs_cons (thn (h1 pins s σ H { D with nx:=u D } I h) fun f s1 q=>?_)
 cases f with
 |next =>
  obtain⟨σ',H',I',q⟩:=q
  exact h2 pins s1 σ' H' D I' q
 |ret v=>exact q
 |brk=>exact q
 |cont=>exact q
noncomputable def tBreak:TS:=fun D σ H=>D.bk σ H
noncomputable def tCont:TS:=fun D σ H=>D.ct σ H
theorem ps_break:PS X (.Break pos) tBreak:=fun _ _ σ H _ I h=>wpAny_Break ⟨σ,H,I,h⟩
theorem ps_continue:PS X (.Continue pos) tCont:=fun _ _ σ H _ I h=>wpAny_Continue ⟨σ,H,I,h⟩
theorem Inv.quiet{pins:List (Addr×Obj)}{σ:St}{H:Hp}{s:Shared}(I:Inv X pins σ H s):interactive X.env=false:=by simp[interactive,I.ok.kind]
noncomputable def tDrop(te:TE):TS:=fun D σ H=>te σ H fun _ H1=>D.nx σ H1
theorem ps_expr(he:PE X e te)(hs:swapsWith e none pos.line X.env=pure false:=by rfl):PS X (.Expr e pos) (tDrop te):=by
 intro pins s σ H D I h;exact wpAny_Expr_any (thn (he pins s σ H _ I h) fun v s1 ⟨x,H1,I1,r1,q1⟩=>⟨σ,H1,I1,q1⟩) I.quiet hs
noncomputable def tRet(te:TE):TS:=fun D σ H=>te σ H D.rt
theorem uw(he:PE X e te):PS X (.Return (some e) pos) (tRet te):=by
 intro pins s σ H D I h;exact wpAny_Return_some (thn (he pins s σ H _ I h) fun v s1 ⟨x,H1,I1,r1,q1⟩=>⟨x,σ,H1,I1,r1,q1⟩)
noncomputable def tIfS(c:TT)(t u:TS):TS:=fun D σ H=>c σ H fun b H1=>if b=true then t D σ H1 else u D σ H1
theorem ps_if{c:Expr}{a b:List Stmt}{tc:TT}(hc:PT X c tc)(ha:PSs X a t)(hb:PSs X b u):PS X (.If c a b pos) (tIfS tc t u):=by
 intro pins s σ H D I h;refine wpAny_If (thn (hc pins s σ H _ I h) fun d s1 ⟨H1,I1,q1⟩=>?_)
 cases d with
 |true=>exact ha pins s1 σ H1 D I1 q1
 |false=>exact hb pins s1 σ H1 D I1 q1
noncomputable def tNever:TS:=fun _ _ _=>False
theorem ps_never:PS X st tNever:=fun _ _ _ _ _ _ h=>h.elim
end
abbrev TG:=V->St->Hp->(St->Hp->Prop)->Prop
abbrev TGs:=List V->St->Hp->(St->Hp->Prop)->Prop
noncomputable def PG(X:Cx)(target:Expr)(t:TG):Prop :=
 ∀(pins:List (Addr×Obj)) (s:Shared) (σ:St) (H:Hp) (v:V) (u:Value) (Q:St->Hp->Prop),Inv X pins σ H s->jM v u->t v σ H Q ->
  wpAny (model X.prog X.w) X.A (assign target X.env u) (fun _ s'=>∃σ' H',Inv X pins σ' H' s'/\Q σ' H') X.xe s
noncomputable def PGs(X:Cx)(ts:List Expr)(t:TGs):Prop :=
 ∀(pins:List (Addr×Obj)) (s:Shared) (σ:St) (H:Hp) (vs:List V) (us:List Value) (Q:St->Hp->Prop),Inv X pins σ H s->jA vs us->t vs σ H Q ->
  wpAny (model X.prog X.w) X.A (assignInOrder ((assignEach ts X.env).map (·.2)) us) (fun _ s'=>∃σ' H',Inv X pins σ' H' s'/\Q σ' H') X.xe s
section
variable {X:Cx} {pos:Pos}
noncomputable def gName(i:Nat):TG:=fun v σ H Q=>Q (σ.set i (some v)) H
theorem pg_name{i:Nat}{x:Str}(hN:X.N.Nodup)(hi:X.N[i]?=some x)(hx:Loc X.env.scope x)(hf:X.fn x=true\/X.env.scope.names.lookup x=some .local:=by first|exact .inl rfl|exact .inr rfl|assumption):PG X (.Name x pos) (gName i):=by
 intro pins s σ H v u Q I r h;exact wpAny_assign_Name (uj I hN hi hx r (fun s' I'=>⟨_,H,I',h⟩) hf)
noncomputable def gNil:TGs:=fun vs σ H Q=>vs=[]/\Q σ H
noncomputable def gCons(t:TG)(u:TGs):TGs:=fun vs σ H Q=>∃v r,vs=v::r/\t v σ H fun σ' H'=>u r σ' H' Q
theorem pgs_nil:PGs X [] gNil:=by
 intro pins s σ H vs us Q I r h;obtain⟨e,h⟩:=h;subst e;cases r;exact assignInOrder_nil ⟨σ,H,I,h⟩
theorem pgs_cons{e:Expr}{es:List Expr}{t:TG}{u:TGs}(h1:PG X e t)(h2:PGs X es u)
 (hs:(assignEach (e::es) X.env).map (·.2)=assign e X.env::(assignEach es X.env).map (·.2):=by rfl):PGs X (e::es) (gCons t u):=by
 intro pins s σ H vs us Q I r h;obtain⟨v,vr,e1,h⟩:=h;subst e1
 cases r with
 |cons r rr =>
  rw[hs];refine assignInOrder_cons (thn (h1 pins s σ H _ _ _ I r h) fun _ s1 ⟨σ1,H1,I1,q1⟩=>?_);exact h2 pins s1 σ1 H1 _ _ Q I1 rr q1
noncomputable def gTup(K:PySem.W.Frag)(n:Nat)(t:TGs):TG:=fun v σ H Q=>∃a xs,v=.ref a/\SqT K H a xs/\xs.length=n/\t xs σ H Q
theorem pg_tup{es:List Expr}{k:Nat}{t:TGs}{n:Nat}(hc:X.calm=true)(h:PGs X es t)
 (hn:(assignEach es X.env).length=n:=by rfl) (hst:(assignEach es X.env).findIdx? (·.1)=none:=by rfl):PG X (.Tuple es k pos) (gTup X.K n t):=by
 intro pins s σ H v u Q I r hw;obtain⟨a,xs,e1,hq,hl,hw⟩:=hw;subst e1;cases r;obtain⟨its,rv,ht,hz⟩:=I.tuple hq
 refine assign_Tuple_tuple (I.ok.hd hc) ht (by simp[hn,<- hl,rv.length]) hst fun h' hx=>?_
 have I1:Inv X pins σ H { s with heap:=h' }:=I.kept (t':=s.toks) fun b o e=>hx b o (Nat.ne_of_lt (Heap.lt_size e)) e
 exact h pins _ σ H xs _ Q I1 (by simpa using rv) hw
noncomputable def tAsg(te:TE)(g:TG):TS:=fun D σ H=>te σ H fun x H1=>g x σ H1 D.nx
theorem ps_asg{tg e:Expr}{te:TE}{g:TG}(he:PE X e te)(hg:PG X tg g)(hs:swapsWithSole [tg] e pos.line X.env=pure false:=by rfl)(hw:swappedStores [tg] e X.env=pure none:=by rfl)
 (h1:(assignEach [tg] X.env).map (·.2)=[assign tg X.env]:=by rfl):PS X (.Assign [tg] e pos) (tAsg te g):=by
 intro pins s σ H D I h;refine wpAny_Assign_stores (thn (he pins s σ H _ I h) fun v s1 ⟨x,H1,I1,r1,q1⟩=>?_) hs hw;rw[h1]
 exact thn (hg pins s1 σ H1 x v _ I1 r1 q1) fun _ s2 q=>q
theorem uH{i:Nat}{x:Str}{e:Expr}{te:TE}{pos':Pos}(hN:X.N.Nodup)(hi:X.N[i]?=some x)(hx:Loc X.env.scope x)(he:PE X e te)(hs:swapsWith e (some (.Name x pos')) pos.line X.env=pure false:=by rfl)(hf:X.fn x=true\/X.env.scope.names.lookup x=some .local:=by first|exact .inl rfl|exact .inr rfl|assumption) :
 PS X (.Assign [.Name x pos'] e pos) (tAsg te (gName i)):=by
 intro pins s σ H D I h;refine wpAny_Assign_Name (thn (he pins s σ H _ I h) fun v s1 ⟨y,H1,I1,r1,q1⟩=>?_) hs;exact uj I1 hN hi hx r1 (fun s2 I2=>⟨_,H1,I2,q1⟩) hf
end
section
variable {X:Cx} {pos:Pos}
noncomputable def tWhile(c:TT)(tb:TS):TS:=fun D σ H=>∃W:Nat->St->Hp->Prop,(∃m,W m σ H)/\∀m σ H,W m σ H ->
 c σ H fun b H1=>if b=true then ∃N:St->Hp->Prop,(∀σ' H',N σ' H'->∃m',m'<m/\W m' σ' H')/\tb { D with nx:=N,ct:=N,bk:=D.nx } σ H1 else D.nx σ H1
theorem ps_while{c:Expr}{body:List Stmt}{tc:TT}{tb:TS}(hp:PassesOwn (model X.prog X.w) X.A X.env X.xe)(hc:PT X c tc)(hb:PSs X body tb):PS X (.While c body [] pos) (tWhile tc tb):=by
 intro pins s σ H D I h;obtain⟨W,⟨m0,w0⟩,turn⟩:=h;refine wpAny_While (codeAny_whileLoop (fun n s'=>∃σ' H',Inv X pins σ' H' s'/\W n σ' H') ?_ m0 ⟨σ,H,I,w0⟩);rintro n s1 ⟨σ1,H1,I1,w1⟩;refine wpAny_passesOwn hp (thn (hc pins s1 σ1 H1 _ I1 (turn n σ1 H1 w1)) fun b s2 ⟨H2,I2,q2⟩=>?_)
 cases b with
 |true =>
  obtain⟨N,hN,q2⟩:=q2;rw[if_pos rfl];refine wpAny_passesOwn hp (thn (hb pins s2 σ1 H2 _ I2 q2) fun f s3 q3=>?_)
  cases f with
  |next =>
   obtain⟨σ3,H3,I3,n3⟩:=q3;obtain⟨m',hm,w3⟩:=hN σ3 H3 n3
   exact⟨m',hm,σ3,H3,I3,w3⟩
  |cont =>
   obtain⟨σ3,H3,I3,n3⟩:=q3;obtain⟨m',hm,w3⟩:=hN σ3 H3 n3
   exact⟨m',hm,σ3,H3,I3,w3⟩
  |brk=>exact q3
  |ret v=>exact q3
 |false =>
  rw[if_neg Bool.false_ne_true];exact wpAny_execs_nil ⟨σ1,H2,I2,q2⟩
end
structure It where
 go:Nat->Hp->Prop
 yld:Nat->Hp->V->Hp->Prop
 stop:Nat->Hp->Prop
noncomputable def vD(X:Cx)(pins:List (Addr×Obj))(H:Hp)(b:Addr):Prop :=
 H b=none/\b≠X.env.locals/\b ∉ X.fs/\(b∈X.ex\/X.s₀.heap.objs.size<=b)/\(∀x c,X.env.cells.lookup x=some c->c≠b)/\∀p∈X.pn++pins,p.1≠b
theorem Inv.fpOk{X:Cx}{pins:List (Addr×Obj)}{σ:St}{H H':Hp}{s:Shared}{b:Addr}(I:Inv X pins σ H s)(hb:s.heap.objs.size<=b)(hn:H' b=none):vD X pins H' b:=by
 refine⟨hn,Nat.ne_of_gt (Nat.lt_of_lt_of_le I.lt hb),I.nofs hb,.inr (Nat.le_trans I.sz hb),fun x c e z=>?_,fun p hp z=>?_⟩
 ·obtain⟨v,q⟩:=I.cell x c e;exact absurd (Nat.lt_of_lt_of_le q.lt (by rw[z];exact hb)) (Nat.lt_irrefl _)
 ·exact absurd (Nat.lt_of_lt_of_le (Heap.lt_size (I.pin p hp).1) (by rw[z];exact hb)) (Nat.lt_irrefl _)
structure Turn (P:Program) (w:World) (K:PySem.W.Frag) (tg:Expr) (J:It) (fp:List Addr) (it:Addr) (tn:Nat->Heap->Prop):Prop where
 mem:it∈fp
 obj:∀i h,tn i h->∀b∈fp,∃o,h.get? b=some o/\∀v,o.data ≠ .cell v
 keep:∀i h h',tn i h->(∀b∈fp,∀o,h.get? b=some o->h'.get? b=some o)->tn i h'
 item:∀(X:Cx),X.prog=P->X.w=w->X.K=K->X.calm=true->∀(i:Nat) (pins:List (Addr×Obj)) (s:Shared) (σ:St) (H:Hp) (E:Value->Shared->Prop),Inv X pins σ H s->(∀b∈fp,vD X pins H b)->tn i s.heap->J.go i H ->
  wpAny (model P w) X.A (pyNext (.ref it)) (fun r s1=>∃u,r=some u /\
   wpAny (model P w) X.A (letOwnedTupleGo tg (.ref it) u) (fun _ s2=>∃x H',Inv X pins σ H' s2/\jM x u/\J.yld i H x H'/\tn (i+1) s2.heap/\∀b∈fp,H' b=none) E s1) E s
 done:∀(X:Cx),X.prog=P->X.w=w->X.K=K->X.calm=true->∀(i:Nat) (pins:List (Addr×Obj)) (s:Shared) (σ:St) (H:Hp) (E:Value->Shared->Prop),Inv X pins σ H s->(∀b∈fp,vD X pins H b)->tn i s.heap->J.stop i H ->
  wpAny (model P w) X.A (pyNext (.ref it)) (fun r s1=>r=none/\Inv X pins σ H s1) E s
 self:∀(A:Around) (i:Nat) (s:Shared) (Q:Value->Shared->Prop) (E:Value->Shared->Prop),tn i s.heap->Q (.ref it) s->wpAny (model P w) A (pyIter (.ref it)) Q E s
abbrev TI:=St->Hp->(It->Hp->Prop)->Prop
noncomputable def PIE(X:Cx)(pins:List (Addr×Obj))(σ:St)(tg:Expr)(R:It->Hp->Prop)(itv:Value)(s2:Shared):Prop :=
 ∃(it:Addr) (fp:List Addr) (tn:Nat->Heap->Prop) (J:It) (H':Hp),itv=.ref it/\Inv X pins σ H' s2/\Turn X.prog X.w X.K tg J fp it tn/\tn 0 s2.heap/\(∀b∈fp,vD X pins H' b)/\R J H'
noncomputable def PI(X:Cx)(tg iter:Expr)(wi:TI):Prop :=
 ∀(pins:List (Addr×Obj)) (s:Shared) (σ:St) (H:Hp) (R:It->Hp->Prop),Inv X pins σ H s->wi σ H R ->
  wpAny (model X.prog X.w) X.A (eval iter X.env) (fun v s1=>wpAny (model X.prog X.w) X.A (pyIter v) (PIE X pins σ tg R) X.xe s1) X.xe s
theorem go_of{M:Model}{A:Around}{E:Value->Shared->Prop}{s:Shared}{tg:Expr}{it:Addr}{u:Value}{o:Obj}{n:String}{vs:Array Value}{Q:Unit->Shared->Prop}(ho:s.heap.get? it=some o)(hc:o.cls=.type n)(hd:o.data=.fields vs)
 (hn:["enumerate","zip","dict_itemiterator","dict_reverseitemiterator","odict_iterator","itertools.zip_longest","itertools.pairwise"].contains n=false) (hQ:Q () s):wpAny M A (letOwnedTupleGo tg (.ref it) u) Q E s:=by
 unfold letOwnedTupleGo
 cases tg<;>first
  |exact wpAny_pure hQ
  |(cases u<;>first
   |exact wpAny_pure hQ
   |(refine wpAny_bind (wpAny_load ho ?_)
     rw[hc,hd];show wpAny M A (if (["enumerate","zip","dict_itemiterator","dict_reverseitemiterator","odict_iterator","itertools.zip_longest","itertools.pairwise"].contains n&&vs[0]? == some (rawInt _))=true then _ else _) Q E s;rw[if_neg (by intro h;rw[hn,Bool.false_and]at h;cases h)]
     exact wpAny_pure hQ))
noncomputable def Itl(K:PySem.W.Frag)(a:Addr):It :=
 ⟨fun i H=>∃xs x,SqL K H a xs/\xs[i]?=some x,fun i H x H'=>H'=H/\∀xs,SqL K H a xs->xs[i]?=some x,fun i H=>∃xs,SqL K H a xs/\xs.length<=i⟩
noncomputable def Itt(K:PySem.W.Frag)(a:Addr):It :=
 ⟨fun i H=>∃xs x,SqT K H a xs/\xs[i]?=some x,fun i H x H'=>H'=H/\∀xs,SqT K H a xs->xs[i]?=some x,fun i H=>∃xs,SqT K H a xs/\xs.length<=i⟩
theorem turn_list{P:Program}{w:World}{K:PySem.W.Frag}{tg:Expr}(a it:Addr):Turn P w K tg (Itl K a) [it] it (fun i h=>h.IsListIter it a i) where
 mem:=by simp
 obj:=fun i h st b hb=>by
  have e:b=it:=by simpa using hb
  subst e;obtain⟨o,e,c,d⟩:=st;exact⟨o,e,fun v z=>by rw[d]at z;cases z⟩
 keep:=fun i h h' st k=>st.at fun o e=>k it (by simp) o e
 item:=by
  intro X hP hw hK hc i pins s σ H E I hf st hg;subst hP hw hK;obtain⟨xs,x,hq,hx⟩:=hg;obtain⟨its,rv,p,hz⟩:=I.list hq;obtain⟨u,hu,ru⟩:=rv.get hx;obtain⟨f0,f1,f2,f3,f4,f5⟩:=hf it (by simp)
  refine wpAny_pyNext_list_item st p.isList (x:=u) (by simpa using hu) fun h' st' sb=>?_
  have I1:Inv X pins σ H { s with heap:=h' }:=I.turned (t':=s.toks) (fun b o hb e=>(sb.2 b hb).trans e) f0 f1 f3 f4 f5;obtain⟨o,e,c,d⟩:=id st';exact⟨u,rfl,go_of (s:={ s with heap:=h' }) e c d (by decide) ⟨x,H,I1,ru,⟨rfl,fun ys hy=>by rw[I.list_inj hy hq];exact hx⟩,st',fun b hb=>(hf b hb).1⟩⟩
 done:=by
  intro X hP hw hK hc i pins s σ H E I hf st hg;subst hP hw hK;obtain⟨xs,hq,hx⟩:=hg;obtain⟨its,rv,p,hz⟩:=I.list hq;obtain⟨f0,f1,f2,f3,f4,f5⟩:=hf it (by simp);have hl:=rv.length
  exact wpAny_pyNext_list_end (I.ok.hd hc) st p.isList (by simp;omega) fun h' eb=>⟨rfl,I.turned (t':=s.toks) (fun b o hb e=>eb b o hb e) f0 f1 f3 f4 f5⟩
 self:=fun _ _ _ _ _ st h=>wpAny_pyIter_listiter st h
theorem turn_tuple{P:Program}{w:World}{K:PySem.W.Frag}{tg:Expr}(a it:Addr):Turn P w K tg (Itt K a) [it] it (fun i h=>h.IsTupleIter it a i) where
 mem:=by simp
 obj:=fun i h st b hb=>by
  have e:b=it:=by simpa using hb
  subst e;obtain⟨o,e,c,d⟩:=st;exact⟨o,e,fun v z=>by rw[d]at z;cases z⟩
 keep:=fun i h h' st k=>st.at fun o e=>k it (by simp) o e
 item:=by
  intro X hP hw hK hc i pins s σ H E I hf st hg;subst hP hw hK;obtain⟨xs,x,hq,hx⟩:=hg;obtain⟨its,rv,p,hz⟩:=I.tuple hq;obtain⟨u,hu,ru⟩:=rv.get hx;obtain⟨f0,f1,f2,f3,f4,f5⟩:=hf it (by simp)
  refine wpAny_pyNext_tuple_item st (show s.heap.IsTuple a its.toArray from p) (x:=u) (by simpa using hu) fun h' st' sb=>?_
  have I1:Inv X pins σ H { s with heap:=h' }:=I.turned (t':=s.toks) (fun b o hb e=>(sb.2 b hb).trans e) f0 f1 f3 f4 f5;obtain⟨o,e,c,d⟩:=id st';exact⟨u,rfl,go_of (s:={ s with heap:=h' }) e c d (by decide) ⟨x,H,I1,ru,⟨rfl,fun ys hy=>by rw[I.tuple_inj hy hq];exact hx⟩,st',fun b hb=>(hf b hb).1⟩⟩
 done:=by
  intro X hP hw hK hc i pins s σ H E I hf st hg;subst hP hw hK;obtain⟨xs,hq,hx⟩:=hg;obtain⟨its,rv,p,hz⟩:=I.tuple hq;obtain⟨f0,f1,f2,f3,f4,f5⟩:=hf it (by simp);have hl:=rv.length
  exact wpAny_pyNext_tuple_end (I.ok.hd hc) st (show s.heap.IsTuple a its.toArray from p) (by simp;omega) fun h' eb=>⟨rfl,I.turned (t':=s.toks) (fun b o hb e=>eb b o hb e) f0 f1 f3 f4 f5⟩
 self:=fun _ _ _ _ _ st h=>wpAny_pyIter_tupleiter st h
end L2
namespace L2
open PySem PySem.Spec PyProof.Rows
section
variable {X:Cx} {tg:Expr}
noncomputable def tFor(wi:TI)(g:TG)(tb:TS):TS:=fun D σ H=>wi σ H fun J H1=>∃W:Nat->Nat->St->Hp->Prop,(∃m,W 0 m σ H1)/\∀i m σ H,W i m σ H ->
 (J.stop i H/\D.nx σ H)\/(J.go i H/\∃N:St->Hp->Prop,(∀σ' H',N σ' H'->∃m',m'<m/\W (i+1) m' σ' H')/\∀x H',J.yld i H x H'->g x σ H' fun σ2 H2=>tb { D with nx:=N,ct:=N,bk:=D.nx } σ2 H2)
noncomputable def K5(fp:List Addr)(h:Heap):List (Addr×Obj):=fp.filterMap fun b=>(h.get? b).map fun o=>(b,o)
theorem qw{fp:List Addr}{h:Heap}{b:Addr}{o:Obj}(hb:b∈fp)(e:h.get? b=some o):(b,o)∈K5 fp h:=List.mem_filterMap.mpr ⟨b,hb,by rw[e];rfl⟩
theorem of_pinsAt{fp:List Addr}{h:Heap}{p:Addr×Obj}(hp:p∈K5 fp h):p.1∈fp/\h.get? p.1=some p.2:=by
 obtain⟨b,hb,e⟩:=List.mem_filterMap.mp hp
 cases q:h.get? b with
 |none=>rw[q]at e;cases e
 |some o =>
  rw[q]at e;have e':(b,o)=p:=Option.some.inj e;subst e';exact⟨hb,q⟩
theorem Inv.pinned{pins:List (Addr×Obj)}{σ:St}{H:Hp}{s:Shared}{fp:List Addr}(I:Inv X pins σ H s)(hf:∀b∈fp,vD X pins H b)(ho:∀b∈fp,∃o,s.heap.get? b=some o/\∀v,o.data ≠ .cell v):Inv X (pins++K5 fp s.heap) σ H s :=
 I.pins_of fun p hp=>(List.mem_append.mp hp).elim (fun z=>I.pin p (List.mem_append_right _ z)) fun z=>by
  obtain⟨hb,e⟩:=of_pinsAt z;obtain⟨f0,f1,f2,_⟩:=hf p.1 hb;obtain⟨o,e',d⟩:=ho p.1 hb;rw[e]at e';cases e';exact⟨e,f0,f1,f2,d⟩
theorem Inv.unpinned{pins pl:List (Addr×Obj)}{σ:St}{H:Hp}{s:Shared}(I:Inv X (pins++pl) σ H s):Inv X pins σ H s:=I.pins_of fun p hp=>I.pin p (List.mem_append_right _ (List.mem_append_left _ hp))
theorem ps_for{iter:Expr}{body:List Stmt}{wi:TI}{g:TG}{tb:TS}{pos:Pos}(hp:PassesOwn (model X.prog X.w) X.A X.env X.xe)(hc:X.calm=true)(hi:PI X tg iter wi)(hg:PG X tg g)(hb:PSs X body tb)
 (hs:∀x,foldedSetIterable iter X.env x=pure x:=by intro _;rfl):PS X (.For tg iter body [] pos) (tFor wi g tb):=by
 intro pins s σ H D I h;refine wpAny_For (thn (hi pins s σ H _ I h) fun v s1 h1=>thn h1 fun itv s2 h2=>?_) hs;obtain⟨it,fp,tn,J,H2,e,I2,T,st2,f2,W,⟨m0,w0⟩,turn⟩:=h2;subst e
 have stat:∀ {H':Hp},(∀b∈fp,H' b=none)->∀b∈fp,vD X pins H' b:=fun hn b hb=>⟨hn b hb,(f2 b hb).2⟩
 refine codeAny_forLoop_any (fun n s'=>∃i σ' H',Inv X pins σ' H' s'/\tn i s'.heap/\(∀b∈fp,H' b=none)/\W i n σ' H') ?_ m0 ⟨0,σ,H2,I2,st2,fun b hb=>(f2 b hb).1,w0⟩;rintro n s3 ⟨i,σ3,H3,I3,st3,fr3,w3⟩;rcases turn i n σ3 H3 w3 with⟨stop,qn⟩|⟨go,N,hN,step⟩
 ·refine wpAny_passesOwn hp (thn (T.done X rfl rfl rfl hc i pins s3 σ3 H3 X.xe I3 (stat fr3) st3 stop) fun r s4 ⟨hr,I4⟩=>?_);subst hr;exact wpAny_execs_nil ⟨σ3,H3,I4,qn⟩
 ·refine wpAny_passesOwn hp (thn (T.item X rfl rfl rfl hc i pins s3 σ3 H3 X.xe I3 (stat fr3) st3 go) fun r s4 ⟨u,hr,h4⟩=>?_);subst hr;refine wpAny_passesOwn hp (thn h4 fun _ s5 ⟨x,H5,I5,r5,y5,st5,fr5⟩=>?_);have I5':=I5.pinned (stat fr5) (T.obj _ _ st5);refine wpAny_passesOwn hp (thn (hg _ s5 σ3 H5 x u _ I5' r5 (step x H5 y5)) fun _ s6 ⟨σ6,H6,I6,q6⟩=>?_);refine wpAny_passesOwn hp (thn (hb _ s6 σ6 H6 _ I6 q6) fun f s7 q7=>?_)
  have again:∀ {σ7:St} {H7:Hp},Inv X (pins++K5 fp s5.heap) σ7 H7 s7->N σ7 H7->∃m,m<n/\∃i σ' H',Inv X pins σ' H' s7/\tn i s7.heap/\(∀b∈fp,H' b=none)/\W i m σ' H':=fun {σ7 H7} I7 n7=>by
   obtain⟨m',hm,w7⟩:=hN σ7 H7 n7;refine⟨m',hm,i+1,σ7,H7,I7.unpinned,T.keep _ _ _ st5 fun b hb o e=>(I7.pin (b,o) (List.mem_append_right _ (List.mem_append_right _ (qw hb e)))).1,fun b hb=>?_,w7⟩;obtain⟨o,e,d⟩:=T.obj _ _ st5 b hb;exact(I7.pin (b,o) (List.mem_append_right _ (List.mem_append_right _ (qw hb e)))).2.1
  cases f with
  |next=>obtain⟨σ7,H7,I7,n7⟩:=q7;exact again I7 n7
  |cont=>obtain⟨σ7,H7,I7,n7⟩:=q7;exact again I7 n7
  |brk=>obtain⟨σ7,H7,I7,q7⟩:=q7;exact⟨σ7,H7,I7.unpinned,q7⟩
  |ret v=>obtain⟨x7,σ7,H7,I7,r7,q7⟩:=q7;exact⟨x7,σ7,H7,I7.unpinned,r7,q7⟩
end
end L2
namespace L2
open PySem PySem.Spec PyProof.Rows
abbrev R2:=V->V->Hp->VK->Prop
noncomputable def OpR(X:Cx)(f:Value->Value->Sem Value)(r:R2):Prop :=
 ∀(pins:List (Addr×Obj)) (s:Shared) (σ:St) (H:Hp) (x y:V) (v u:Value) (Q:VK),Inv X pins σ H s->jM x v->jM y u->r x y H Q ->
  wpAny (model X.prog X.w) X.A (f v u) (EP X pins σ Q) X.xe s
noncomputable def UnR(X:Cx)(f:Value->Sem Value)(r:V->Hp->VK->Prop):Prop :=
 ∀(pins:List (Addr×Obj)) (s:Shared) (σ:St) (H:Hp) (x:V) (v:Value) (Q:VK),Inv X pins σ H s->jM x v->r x H Q ->
  wpAny (model X.prog X.w) X.A (f v) (EP X pins σ Q) X.xe s
noncomputable def k8(X:Cx)(f:Value)(r:List V->Hp->VK->Prop):Prop :=
 ∀(pins:List (Addr×Obj)) (s:Shared) (σ:St) (H:Hp) (xs:List V) (us:List Value) (Q:VK),Inv X pins σ H s->jA xs us->r xs H Q ->
  wpAny (model X.prog X.w) X.A (call f us) (EP X pins σ Q) X.xe s
noncomputable def tOp(r:R2)(ta tb:TE):TE:=fun σ H Q=>ta σ H fun x H1=>tb σ H1 fun y H2=>r x y H2 Q
noncomputable def tUn(r:V->Hp->VK->Prop)(ta:TE):TE:=fun σ H Q=>ta σ H fun x H1=>r x H1 Q
noncomputable def rI(C:Int->Int->Prop)(g:Int->Int->V):R2:=fun x y H Q=>∃i j,x=.int i/\y=.int j/\C i j/\Q (g i j) H
noncomputable def rI0(g:Int->Int->V):R2:=fun x y H Q=>∃i j,x=.int i/\y=.int j/\Q (g i j) H
noncomputable def rU(g:Int->V):V->Hp->VK->Prop:=fun x H Q=>∃i,x=.int i/\Q (g i) H
section
variable {X:Cx} {a b c:Expr} {ta tb tc:TE} {pos:Pos}
theorem binT(ha:PE X a ta)(hb:PE X b tb){pins:List (Addr×Obj)}{s:Shared}{σ:St}{H:Hp}{R:V->V->Hp->Prop}(I:Inv X pins σ H s)
 (h:ta σ H fun x H1=>tb σ H1 fun y H2=>R x y H2) {Q:Value->Shared->Prop} {f:Value->Value->Sem Value}
 (hf:∀v u s2 x y H2,Inv X pins σ H2 s2->jM x v->jM y u->R x y H2->wpAny (model X.prog X.w) X.A (f v u) Q X.xe s2) :
 wpAny (model X.prog X.w) X.A (eval a X.env) (fun v s₁=>wpAny (model X.prog X.w) X.A (eval b X.env) (fun u s₂=>wpAny (model X.prog X.w) X.A (f v u) Q X.xe s₂) X.xe s₁) X.xe s:=by
 refine thn (ha pins s σ H _ I h) fun v s1 ⟨x,H1,I1,r1,q1⟩=>?_
 refine thn (hb pins s1 σ H1 _ I1 q1) fun u s2 ⟨y,H2,I2,r2,q2⟩=>?_
 exact hf v u s2 x y H2 I2 r1 r2 q2
theorem pe_op{op:Operator}{r:R2}(ho:OpR X (binaryOp op) r)(ha:PE X a ta)(hb:PE X b tb):PE X (.BinOp a op b pos) (tOp r ta tb):=by
 intro pins s σ H Q I h;exact wpAny_BinOp (binT ha hb I h fun v u s2 x y H2 I2 rx ry q=>ho pins s2 σ H2 x y v u Q I2 rx ry q)
theorem pe_un{op:UnaryOp}{r:V->Hp->VK->Prop}(ho:UnR X (unaryOp op) r)(ha:PE X a ta):PE X (.UnaryOp op a pos) (tUn r ta):=by
 intro pins s σ H Q I h;exact UnaryOp_ (thn (ha pins s σ H _ I h) fun v s1 ⟨x,H1,I1,r1,q1⟩=>ho pins s1 σ H1 x v Q I1 r1 q1)
theorem opI{f:Value->Value->Sem Value}{C:Int->Int->Prop}{g:Int->Int->Int}
 (rule:∀(i j:Int) (t u:Tok) (s:Shared) (Q:Value->Shared->Prop) (E:Value->Shared->Prop),C i j->Q (.int (g i j) s.toks) { s with toks:=s.toks+1 }->wpAny (model X.prog X.w) X.A (f (.int i t) (.int j u)) Q E s) :
 OpR X f (rI C fun i j=>.int (g i j)):=by
 intro pins s σ H x y v u Q I rx ry h;obtain⟨i,j,rfl,rfl,hc,q⟩:=h;obtain⟨t,rfl⟩:=rx;obtain⟨t',rfl⟩:=ry;exact rule i j t t' s _ _ hc ⟨.int (g i j),H,I.tok _,⟨_,rfl⟩,q⟩
theorem opI0{f:Value->Value->Sem Value}{g:Int->Int->Int}
 (rule:∀(i j:Int) (t u:Tok) (s:Shared) (Q:Value->Shared->Prop) (E:Value->Shared->Prop),Q (.int (g i j) s.toks) { s with toks:=s.toks+1 }->wpAny (model X.prog X.w) X.A (f (.int i t) (.int j u)) Q E s) :
 OpR X f (rI0 fun i j=>.int (g i j)):=by
 intro pins s σ H x y v u Q I rx ry h;obtain⟨i,j,rfl,rfl,q⟩:=h;obtain⟨t,rfl⟩:=rx;obtain⟨t',rfl⟩:=ry;exact rule i j t t' s _ _ ⟨.int (g i j),H,I.tok _,⟨_,rfl⟩,q⟩
theorem opB0{f:Value->Value->Sem Value}{g:Int->Int->Bool}
 (rule:∀(i j:Int) (t u:Tok) (s:Shared) (Q:Value->Shared->Prop) (E:Value->Shared->Prop),Q (.bool (g i j)) s->wpAny (model X.prog X.w) X.A (f (.int i t) (.int j u)) Q E s) :
 OpR X f (rI0 fun i j=>.bl (g i j)):=by
 intro pins s σ H x y v u Q I rx ry h;obtain⟨i,j,rfl,rfl,q⟩:=h;obtain⟨t,rfl⟩:=rx;obtain⟨t',rfl⟩:=ry;exact rule i j t t' s _ _ ⟨.bl (g i j),H,I,rfl,q⟩
theorem two_pow_nn(k:Nat):(0:Int)<=2^k:=by
 rw[two_pow_cast];exact Int.natCast_nonneg _
theorem op_shr:OpR X (binaryOp .RShift) (rI (fun _ j=>0<=j) fun i j=>.int (i / 2^j.toNat)):=opI fun i j _ _ _ _ _ hc q =>
 rshift_int hc (by rw[Int.fdiv_eq_ediv_of_nonneg i (two_pow_nn _)];exact q)
theorem op_and:OpR X (binaryOp .BitAnd) (rI0 fun i j=>.int (Builtin.bitAnd i j)):=opI0 fun _ _ _ _ _ _ _ q=>and_int q
theorem unI{f:Value->Sem Value}{g:Int->Int}
 (rule:∀(i:Int) (t:Tok) (s:Shared) (Q:Value->Shared->Prop) (E:Value->Shared->Prop),Q (.int (g i) s.toks) { s with toks:=s.toks+1 }->wpAny (model X.prog X.w) X.A (f (.int i t)) Q E s) :
 UnR X f (rU fun i=>.int (g i)):=by
 intro pins s σ H x v Q I rx h;obtain⟨i,rfl,q⟩:=h;obtain⟨t,rfl⟩:=rx;exact rule i t s _ _ ⟨.int (g i),H,I.tok _,⟨_,rfl⟩,q⟩
theorem un_neg:UnR X (unaryOp .USub) (rU fun i=>.int (-i)):=unI fun _ _ _ _ _ q=>neg_int q
end
noncomputable def scal:V->V->Bool
 |.non,.non=>true|.non,.int _=>true|.int _,.non=>true|.non,.bl _=>true|.bl _,.non=>true|.non,.str _=>true|.str _,.non=>true
 |.int _,.int _=>true|.bl _,.bl _=>true|.str _,.str _=>true|.byt _,.byt _=>true
 |.int _,.str _=>true|.str _,.int _=>true|.bl _,.str _=>true|.str _,.bl _=>true
 |_,_=>false
noncomputable def rEq:R2:=fun x y H Q=>scal x y=true/\Q (.bl (decide (x=y))) H
theorem dec_int{i j:Int}:decide (V.int i=V.int j)=(i == j):=by
 rw[Bool.eq_iff_iff];simp
theorem dec_bl{i j:Bool}:decide (V.bl i=V.bl j)=(i == j):=by
 rw[Bool.eq_iff_iff];simp
theorem dec_str{i j:Str}:decide (V.str i=V.str j)=(i == j):=by
 rw[Bool.eq_iff_iff];simp
theorem dec_byt{i j:Array UInt8}:decide (V.byt i=V.byt j)=(i.toList == j.toList):=by
 rw[Bool.eq_iff_iff];cases i;cases j;simp
section
variable {X:Cx} {a b c:Expr} {ta tb tc:TE} {pos:Pos}
theorem ka{pins:List (Addr×Obj)}{σ:St}{H:Hp}{s:Shared}{Q:VK}{k k':Bool}(I:Inv X pins σ H s)(q:Q (.bl k) H)(e:k=k'):EP X pins σ Q (.bool k') s:=by
 subst e;exact⟨.bl k,H,I,rfl,q⟩
theorem op_eq:OpR X (compareOp .Eq) rEq:=by
 intro pins s σ H x y v u Q I rx ry h;obtain⟨hs,q⟩:=h
 cases x with
 |non =>
  cases rx
  cases y with
  |non=>cases ry;exact PySem.EqNone.eq_none_none (ka I q (by simp))
  |bl j=>cases ry;exact PySem.EqNone.eq_none_bool (ka I q (by simp))
  |int j=>obtain⟨t',rfl⟩:=ry;exact PySem.EqNone.eq_none_int (ka I q (by simp))
  |str j=>obtain⟨t',rfl⟩:=ry;exact PySem.EqNone.eq_none_str (ka I q (by simp))
  |_=>exact absurd (show false=true from hs) Bool.false_ne_true
 |bl i =>
  cases rx
  cases y with
  |non=>cases ry;exact PySem.EqNone.eq_bool_none (ka I q (by simp))
  |bl j=>cases ry;exact eq_bool (ka I q dec_bl)
  |str j=>obtain⟨t',rfl⟩:=ry;exact PySem.EqMixed.eq_bool_str (ka I q (by simp))
  |_=>exact absurd (show false=true from hs) Bool.false_ne_true
 |int i =>
  obtain⟨t,rfl⟩:=rx
  cases y with
  |non=>cases ry;exact PySem.EqNone.eq_int_none (ka I q (by simp))
  |int j=>obtain⟨t',rfl⟩:=ry;exact eq_int (ka I q dec_int)
  |str j=>obtain⟨t',rfl⟩:=ry;exact PySem.EqMixed.eq_int_str (ka I q (by simp))
  |_=>exact absurd (show false=true from hs) Bool.false_ne_true
 |str i =>
  obtain⟨t,rfl⟩:=rx
  cases y with
  |non=>cases ry;exact PySem.EqNone.eq_str_none (ka I q (by simp))
  |bl j=>cases ry;exact PySem.EqMixed.eq_str_bool (ka I q (by simp))
  |int j=>obtain⟨t',rfl⟩:=ry;exact PySem.EqMixed.eq_str_int (ka I q (by simp))
  |str j=>obtain⟨t',rfl⟩:=ry;exact eq_str (ka I q dec_str)
  |_=>exact absurd (show false=true from hs) Bool.false_ne_true
 |byt i =>
  obtain⟨t,rfl⟩:=rx
  cases y with
  |byt j=>obtain⟨t',rfl⟩:=ry;exact PySem.W.eq_bytes (ka I q dec_byt)
  |_=>exact absurd (show false=true from hs) Bool.false_ne_true
 |_=>cases y<;>exact absurd (show false=true from hs) Bool.false_ne_true
theorem op_lt:OpR X (compareOp .Lt) (rI0 fun i j=>.bl (decide (i<j))):=opB0 fun _ _ _ _ _ _ _ q=>lt_int q
theorem op_le:OpR X (compareOp .LtE) (rI0 fun i j=>.bl (decide (i<=j))):=opB0 fun _ _ _ _ _ _ _ q=>le_int q
theorem op_gt:OpR X (compareOp .Gt) (rI0 fun i j=>.bl (decide (j<i))):=opB0 fun _ _ _ _ _ _ _ q=>gt_int q
theorem op_ge:OpR X (compareOp .GtE) (rI0 fun i j=>.bl (decide (j<=i))):=opB0 fun _ _ _ _ _ _ _ q=>ge_int q
theorem op_in_str:OpR X (compareOp .In) (fun x y H Q=>∃i j,x=.str i/\y=.str j/\Q (.bl (!(Builtin.Str.occurrences j i 0 j.length 1).isEmpty)) H):=by
 intro pins s σ H x y v u Q I rx ry h;obtain⟨i,j,rfl,rfl,q⟩:=h;obtain⟨t,rfl⟩:=rx;obtain⟨t',rfl⟩:=ry;exact in_str (ka I q rfl)
theorem op_isN:OpR X (compareOp .Is) (fun x y H Q=>y=.non/\Q (.bl (decide (x=.non))) H):=by
 intro pins s σ H x y v u Q I rx ry h;obtain⟨rfl,q⟩:=h;cases ry;refine is_none_gen (ka I q ?_)
 cases x<;>first
  |(cases rx;rfl)
  |(obtain⟨t,rfl⟩:=rx;rfl)
theorem op_notN:OpR X (compareOp .IsNot) (fun x y H Q=>y=.non/\Q (.bl (!decide (x=.non))) H):=by
 intro pins s σ H x y v u Q I rx ry h;obtain⟨rfl,q⟩:=h;cases ry;refine isnot_none_gen (ka I q ?_)
 cases x<;>first
  |(cases rx;rfl)
  |(obtain⟨t,rfl⟩:=rx;rfl)
theorem K8:OpR X (compareOp .NotIn) (fun x y H Q=>∃i j,x=.str i/\y=.str j/\Q (.bl (!(!(Builtin.Str.occurrences j i 0 j.length 1).isEmpty))) H):=by
 intro pins s σ H x y v u Q I rx ry h;obtain⟨i,j,rfl,rfl,q⟩:=h;obtain⟨t,rfl⟩:=rx;obtain⟨t',rfl⟩:=ry;exact notIn_str (ka I q rfl)
theorem nomark(b:Expr){op:CmpOp}(h:op ≠ .In:=by decide)(h2:op ≠ .NotIn:=by decide):behindInMarks op b=false:=by
 have e1:(op == CmpOp.In)=false:=by cases op<;>first|rfl|exact absurd rfl h
 have e2:(op == CmpOp.NotIn)=false:=by cases op<;>first|rfl|exact absurd rfl h2
 cases b<;>simp[behindInMarks,e1,e2]
theorem pe_cmpR{op:CmpOp}{r:R2}(ho:OpR X (compareOp op) r)(ha:PE X a ta)(hb:PE X b tb)(hm:behindInMarks op b=false):PE X (.Compare a [op] [b] pos) (tOp r ta tb):=by
 intro pins s σ H Q I h;exact wpAny_Compare1 (binT ha hb I h fun v u s2 x y H2 I2 rx ry q=>ho pins s2 σ H2 x y v u Q I2 rx ry q) hm
noncomputable def tTest(t:TE):TT:=fun σ H Q=>t σ H fun x H'=>∃k,x=.bl k/\Q k H'
theorem pt_cmpR{op:CmpOp}{r:R2}(ho:OpR X (compareOp op) r)(ha:PE X a ta)(hb:PE X b tb)(hm:behindInMarks op b=false):PT X (.Compare a [op] [b] pos) (tTest (tOp r ta tb)):=by
 intro pins s σ H Q I h
 refine wpAny_isTrue_Compare1 (thn (ha pins s σ H _ I h) fun v s1 ⟨x,H1,I1,r1,q1⟩=>thn (hb pins s1 σ H1 _ I1 q1) fun u s2 ⟨y,H2,I2,r2,q2⟩ =>
  thn (ho pins s2 σ H2 x y v u _ I2 r1 r2 q2) fun c s3 ⟨z,H3,I3,r3,k,e,q3⟩=>?_) hm
 subst e;cases r3;exact wpAny_truthy_bool ⟨H3,I3,q3⟩
noncomputable def tChain(r r':R2)(ta tb tc:TE):TE:=fun σ H Q=>ta σ H fun x H1=>tb σ H1 fun y H2=>r x y H2 fun z H3=>∃k,z=.bl k /\
 (if k=true then tc σ H3 fun w' H4=>r' y w' H4 Q else Q (.bl false) H3)
theorem pe_chain{op op':CmpOp}{r r':R2}(ho:OpR X (compareOp op) r)(ho':OpR X (compareOp op') r')(ha:PE X a ta)(hb:PE X b tb)(hc:PE X c tc)
 (hm:lastMarks [op,op'] [b,c]=false:=by with_unfolding_all rfl):PE X (.Compare a [op,op'] [b,c] pos) (tChain r r' ta tb tc):=by
 intro pins s σ H Q I h
 refine Compare_chain (thn (ha pins s σ H _ I h) fun v s1 ⟨x,H1,I1,r1,q1⟩=>chain_link (thn (hb pins s1 σ H1 _ I1 q1) fun u s2 ⟨y,H2,I2,r2,q2⟩ =>
  thn (ho pins s2 σ H2 x y v u _ I2 r1 r2 q2) fun d s3 ⟨z,H3,I3,r3,k,e,q3⟩=>?_)) hm
 subst e;cases r3;refine wpAny_truthy_bool ?_
 cases k with
 |false=>exact ite_ff ⟨.bl false,H3,I3,rfl,q3⟩
 |true=>exact ite_tt (chain_last (thn (hc pins s3 σ H3 _ I3 q3) fun w' s4 ⟨z',H4,I4,r4,q4⟩=>ho' pins s4 σ H4 y z' u w' Q I4 r2 r4 q4))
theorem pt_chain{op op':CmpOp}{r r':R2}(ho:OpR X (compareOp op) r)(ho':OpR X (compareOp op') r')(ha:PE X a ta)(hb:PE X b tb)(hc:PE X c tc)
 (hm:lastMarks [op,op'] [b,c]=false:=by with_unfolding_all rfl):PT X (.Compare a [op,op'] [b,c] pos) (tTest (tChain r r' ta tb tc)):=by
 intro pins s σ H Q I h
 refine isTrue_chain (thn (ha pins s σ H _ I h) fun v s1 ⟨x,H1,I1,r1,q1⟩=>test_link (thn (hb pins s1 σ H1 _ I1 q1) fun u s2 ⟨y,H2,I2,r2,q2⟩ =>
  thn (ho pins s2 σ H2 x y v u _ I2 r1 r2 q2) fun d s3 ⟨z,H3,I3,r3,k,e,q3⟩=>?_)) hm
 subst e;cases r3;refine wpAny_truthy_bool ?_
 cases k with
 |false =>
  obtain⟨k',e',q'⟩:=q3;cases e'
  exact ite_ff ⟨H3,I3,q'⟩
 |true =>
  refine ite_tt (test_last (thn (hc pins s3 σ H3 _ I3 q3) fun w' s4 ⟨z',H4,I4,r4,q4⟩=>thn (ho' pins s4 σ H4 y z' u w' _ I4 r2 r4 q4) fun d' s5 ⟨z2,H5,I5,r5,k2,e2,q5⟩=>?_));subst e2;cases r5;exact wpAny_truthy_bool ⟨H5,I5,q5⟩
theorem v0:(sizeLine:Nat)<2^63:=by rw[sizeLine_eq];decide
theorem op_add_str:OpR X (binaryOp .Add) (fun x y H Q=>∃i j,x=.str i/\y=.str j/\i.length+j.length<=sizeLine/\Q (.str (i++j)) H):=by
 intro pins s σ H x y v u Q I rx ry h;obtain⟨i,j,rfl,rfl,hz,q⟩:=h;obtain⟨t,rfl⟩:=rx;obtain⟨t',rfl⟩:=ry;exact add_str (fun t' tk=>⟨.str (i++j),H,I.tok _,⟨_,rfl⟩,q⟩) hz
theorem qP{x:V}{us:List Value}(r:jA [x] us):∃u,us=[u]/\jM x u:=by
 cases r with
 |cons r1 r2=>cases r2;exact⟨_,rfl,r1⟩
theorem vals2{x y:V}{us:List Value}(r:jA [x,y] us):∃u w',us=[u,w']/\jM x u/\jM y w':=by
 cases r with
 |cons r1 r2 =>
  cases r2 with
  |cons r3 r4=>cases r4;exact⟨_,_,rfl,r1,r3⟩
theorem call_abs:k8 X (.builtin "abs") (fun xs H Q=>∃i,xs=[.int i]/\Q (.int (if i<0 then -i else i)) H):=by
 intro pins s σ H xs us Q I r h;obtain⟨i,rfl,q⟩:=h;obtain⟨u,rfl,t,rfl⟩:=qP r
 exact call_abs_int fun u tk=>⟨.int (if i<0 then -i else i),H,I.tok _,⟨_,rfl⟩,q⟩
theorem call_max2(hc:X.calm=true):k8 X (.builtin "max") (fun xs H Q=>∃i j,xs=[.int i,.int j]/\Q (.int (if j > i then j else i)) H):=by
 intro pins s σ H xs us Q I r h;obtain⟨i,j,rfl,q⟩:=h;obtain⟨u,w',rfl,⟨t,rfl⟩,⟨t',rfl⟩⟩:=vals2 r
 refine max_two_ints (I.ok.hd hc) fun h' tk k=>⟨_,H,I.kept k,?_,q⟩
 by_cases hj:j > i
 ·rw[if_pos hj,if_pos hj];exact⟨_,rfl⟩
 ·rw[if_neg hj,if_neg hj];exact⟨_,rfl⟩
theorem call_min2(hc:X.calm=true):k8 X (.builtin "min") (fun xs H Q=>∃i j,xs=[.int i,.int j]/\Q (.int (if j<i then j else i)) H):=by
 intro pins s σ H xs us Q I r h;obtain⟨i,j,rfl,q⟩:=h;obtain⟨u,w',rfl,⟨t,rfl⟩,⟨t',rfl⟩⟩:=vals2 r
 refine min_two_ints (I.ok.hd hc) fun h' tk k=>⟨_,H,I.kept k,?_,q⟩
 by_cases hj:j<i
 ·rw[if_pos hj,if_pos hj];exact⟨_,rfl⟩
 ·rw[if_neg hj,if_neg hj];exact⟨_,rfl⟩
theorem uu:k8 X (.type "int") (fun xs H Q=>(∃i,xs=[.int i]/\Q (.int i) H)\/∃k,xs=[.bl k]/\Q (.int (if k then 1 else 0)) H):=by
 intro pins s σ H xs us Q I r h;rcases h with⟨i,rfl,q⟩|⟨k,rfl,q⟩
 ·obtain⟨u,rfl,t,rfl⟩:=qP r;exact call_int_int ⟨.int i,H,I,⟨_,rfl⟩,q⟩
 ·obtain⟨u,rfl,r1⟩:=qP r;cases r1;exact call_int_bool ⟨.int (if k then 1 else 0),H,I.tok _,⟨_,rfl⟩,q⟩
theorem Ku:k8 X (.type "str") (fun xs H Q=>∃i,xs=[.int i]/\i.natAbs.log2<1920/\Q (.str (toString i)) H):=by
 intro pins s σ H xs us Q I r h;obtain⟨i,rfl,hz,q⟩:=h;obtain⟨u,rfl,t,rfl⟩:=qP r;exact PySem.P.str_of_int hz ⟨.str _,H,I.tok _,⟨_,rfl⟩,q⟩
end
end L2
namespace L2
open PySem PySem.Spec PyProof.Rows
section
variable {prog:Program} {w:World} {A:Around} {E:Value->Shared->Prop} {s:Shared} {K:PySem.W.Frag} {x dx C f:Addr} {mA:Str->Option Value} {name:Str} {v:Value}
end
section
variable {P:Program} {w:World} {H H':Hp} {h h':Heap} {a C dx:Addr} {fs fs':List (Str×V)}
end
section
variable {X:Cx} {pins:List (Addr×Obj)} {σ:St} {H:Hp} {s:Shared} {a C dx:Addr} {fs:List (Str×V)} {f:Str} {v:V} {A:Around} {E:Value->Shared->Prop}
theorem attr_of{prog:Program}{w:World}{env:Env}{e:Expr}{f:Str}{pos:Pos}{s:Shared}{Q:Value->Shared->Prop}(hb:attributeBase e f env (eval e env)=eval e env)
 (h:wpAny (model prog w) A (eval e env) (fun o s₁=>wpAny (model prog w) A (getAttr o f true) Q E s₁) E s):wpAny (model prog w) A (eval (.Attribute e f pos) env) Q E s :=
 Attribute_any_ h (by rw[arm_eval_Attribute,hb])
end
section
variable {X:Cx} {o e value:Expr} {f:Str} {pos pos' tpos:Pos} {ta tv:TE}
end
section
variable {X:Cx} {pins:List (Addr×Obj)} {σ:St} {H:Hp} {s:Shared} {A:Around} {E:Value->Shared->Prop} {Q:Value->Shared->Prop} {c:Value} {b:Bool}
end
end L2
namespace L2
open PySem PySem.Spec PyProof.Rows
structure Room (k:Nat) (A:Around):Prop where
 hd:2<=k->A.handled=none
 dp:A.depth+3*k+5<recursionLimit
 un:A.units+16*k+200<cLine
theorem Room.mono{j k:Nat}{A:Around}(r:Room k A)(h:j<=k):Room j A:=⟨fun z=>r.hd (by omega),by have:=r.dp;omega,by have:=r.un;omega⟩
theorem Room.deeper{k:Nat}{A:Around}(r:Room (k+1) A)(env:Env):Room k (A.deeper env) :=
 ⟨fun z=>r.hd (by omega),by have:=r.dp;show A.depth+1+3*k+5<_;omega,by have:=r.un;show A.units+3+16*k+200<_;omega⟩
theorem make_depth{A:Around}{C:Addr}{us:List Value}{kw:List (Str×Value)}:(A.under (.builtin "type.__call__" ⟨.ref C::us,kw⟩)).depth=A.depth+1:=by
 first|rfl|simp[Around.under,Code.weight,Code.isCreation,Code.isGuard,Code.isCaller,Code.frames,Code.isFrame,guardIds]
theorem make_units{A:Around}{C:Addr}{us:List Value}{kw:List (Str×Value)}:(A.under (.builtin "type.__call__" ⟨.ref C::us,kw⟩)).units=A.units+1:=by
 first|rfl|simp[Around.under,Code.cUnits,Code.frames,Code.isFrame]
theorem Room.make{k:Nat}{A:Around}(r:Room (k+1) A)(C:Addr)(us:List Value)(kw:List (Str×Value)):Room k (A.under (.builtin "type.__call__" ⟨.ref C::us,kw⟩)) :=
 ⟨fun z=>r.hd (by omega),by have:=r.dp;rw[make_depth];omega,by have:=r.un;rw[make_units];omega⟩
theorem Room.depth{k:Nat}{A:Around}(r:Room k A):A.depth<recursionLimit:=by have:=r.dp;omega
noncomputable def tNil:TA:=fun _ H Q=>Q [] H
noncomputable def tCons(ta:TE)(tr:TA):TA:=fun σ H Q=>ta σ H fun x H1=>tr σ H1 fun xs H2=>Q (x::xs) H2
section
variable {X:Cx} {e:Expr} {es:List Expr} {te:TE} {t:TA} {pos:Pos}
theorem j6:PA X [] tNil:=fun _ _ _ _ H Q I h=>Calls.spliced_nil ⟨[],H,I,.nil,h⟩
theorem ju(ha:PE X e te)(hr:PA X es t)(hs:starEach (e::es) X.env=(false,eval e X.env)::starEach es X.env:=by rfl):PA X (e::es) (tCons te t):=by
 intro pos pins s σ H Q I h;rw[hs];show wpAny _ _ (spliced ((false,eval e X.env)::backTo pos (starEach es X.env))) _ _ s;refine Calls.spliced_cons (thn (ha pins s σ H _ I h) fun u s1 ⟨x,H1,I1,r1,q1⟩=>?_)
 exact thn (hr pos pins s1 σ H1 _ I1 q1) fun us s2 ⟨xs,H2,I2,r2,q2⟩=>⟨x::xs,H2,I2,.cons r1 r2,q2⟩
noncomputable def tTup(t:TA):TE:=fun σ H Q=>t σ H fun xs H1=>xs.length<=sizeLine/\∀p,H1 p=none->Q (.ref p) (upd H1 p (.tup xs))
noncomputable def tLst(t:TA):TE:=fun σ H Q=>t σ H fun xs H1=>xs.length<=sizeLine/\∀p,H1 p=none->Q (.ref p) (upd H1 p (.lst xs))
theorem pe_tup{x1}(h:PA X es t):PE X (.Tuple es x1 pos) (tTup t):=by
 intro pins s σ H Q I hq;refine wpAny_Tuple_spliced (thn (h pos pins s σ H _ I hq) fun us s1 ⟨xs,H1,I1,r,z,q⟩=>⟨by rw[<- r.length];exact z,?_⟩);have hf:H1 s1.heap.objs.size=none:=I1.hok.fresh (Nat.le_refl _);refine⟨.ref s1.heap.objs.size,upd H1 s1.heap.objs.size (.tup xs),I1.laid (t':=s1.toks) (fun b u e=>Heap.get?_push_of_some _ e) (Nat.le_refl _) ?_,rfl,q _ hf⟩;exact⟨z,us,r,⟨_,Heap.get?_push_size _ rfl,rfl,_,rfl⟩⟩
theorem Ja(h:PA X es t):PE X (.List es pos) (tLst t):=by
 intro pins s σ H Q I hq;refine wpAny_List_spliced (thn (h pos pins s σ H _ I hq) fun us s1 ⟨xs,H1,I1,r,z,q⟩=>⟨by rw[<- r.length];exact z,?_⟩);have hf:H1 s1.heap.objs.size=none:=I1.hok.fresh (Nat.le_refl _);refine⟨.ref s1.heap.objs.size,upd H1 s1.heap.objs.size (.lst xs),I1.laid (t':=s1.toks) (fun b u e=>Heap.get?_push_of_some _ e) (Nat.le_refl _) ?_,rfl,q _ hf⟩;exact⟨z,us,0,r,Heap.get?_push_size _ rfl⟩
end
abbrev Sp:=List V->Hp->VK->XK->Prop
abbrev CXT:=List Env->Hp->Shared->XK->Value->Shared->Prop
structure Env0 (P:Program) (w:World) (K:PySem.W.Frag) (mg:Str->Option Value) (base:Heap) (A:Around) (outer:List Env) (s:Shared) (H:Hp):Prop where
 frames:A.frames=some outer
 mod:Mod K mg base
 bs:∀b o,base.get? b=some o->s.heap.get? b=some o/\H b=none
 bsz:base.objs.size<=s.heap.objs.size
 funs:s.heap.FunFrames base outer
 frf:∀b∈frs outer,H b=none
 hok:HOk P w H s.heap
 bare:AllBare s.gens
noncomputable def CE(outer:List Env)(P:Program)(w:World)(H:Hp)(s:Shared)(Q:VK)(u:Value)(s':Shared):Prop :=
 ∃v H',s'.os=s.os/\AllBare s'.gens/\Un (frs outer) [] H H' s.heap s'.heap/\HOk P w H' s'.heap/\jM v u/\Q v H'
noncomputable def CR(CX:CXT)(outer:List Env)(P:Program)(w:World)(H:Hp)(s:Shared)(Q:VK)(E:XK)(r:Result)(s':Shared):Prop :=
 match r with
 |.ok (.ret u)=>CE outer P w H s Q u s'
 |.ok _=>False
 |.error e=>CX outer H s E e s'
structure FnOk (P:Program) (w:World) (K:PySem.W.Frag) (mg:Str->Option Value) (base:Heap) (CX:CXT) (k:Nat) (f:Addr) (fd:FuncData) (ps:List Str) (sp:Sp):Prop where
 len:∀vs H Q E,sp vs H Q E->vs.length=ps.length
 run:∀(A:Around) (outer:List Env) (s:Shared) (H:Hp) (args:Args) (us:List Value) (vs:List V) (Q:VK) (E:XK),Room k A->Env0 P w K mg base A outer s H->BindsTo s fd args (ps.zip us)->jA vs us->sp vs H Q E ->
  codeAny (model P w) A (.call (.ref f) args) (CR CX outer P w H s Q E) s
theorem FnOk.mono{P:Program}{w:World}{K:PySem.W.Frag}{mg:Str->Option Value}{base:Heap}{CX:CXT}{j k:Nat}{f:Addr}{fd:FuncData}{ps:List Str}{sp:Sp}(F:FnOk P w K mg base CX j f fd ps sp)(h:j<=k) :
 FnOk P w K mg base CX k f fd ps sp:=⟨F.len,fun A outer s H args us vs Q E hr=>F.run A outer s H args us vs Q E (hr.mono h)⟩
theorem Env0.make{P:Program}{w:World}{K:PySem.W.Frag}{mg:Str->Option Value}{base:Heap}{A:Around}{outer:List Env}{s:Shared}{H:Hp}(e:Env0 P w K mg base A outer s H)(C:Addr)(us:List Value)(kw:List (Str×Value)) :
 Env0 P w K mg base (A.under (.builtin "type.__call__" ⟨.ref C::us,kw⟩)) outer s H:=⟨by first|exact e.frames|(simpa[Around.under,Code.envs,Code.isFrame,pushEnvs]using e.frames),e.mod,e.bs,e.bsz,e.funs,e.frf,e.hok,e.bare⟩
section
variable {X:Cx} {pins:List (Addr×Obj)} {σ:St} {H:Hp} {s s':Shared}
theorem Inv.env0(I:Inv X pins σ H s):Env0 X.prog X.w X.K X.mg X.base X.A X.stack s H :=
 ⟨I.ok.frames,I.ok.mod,I.bs,Nat.le_trans I.ok.bsz I.sz,I.stack,I.stkFree,I.hok,I.bare⟩
theorem Inv.after{Q:VK}{u:Value}(I:Inv X pins σ H s)(h:CE X.stack X.prog X.w H s Q u s'):EP X pins σ Q u s':=by
 obtain⟨v,H',os,bare,un,hok,r,q⟩:=h;obtain⟨hh,g,d,t,os'⟩:=s';obtain rfl:os'=s.os:=os;exact⟨v,H',I.call (h':=hh) (g':=g) (d':=d) (t':=t) (ch:=[]) un hok bare (fun b z=>absurd z (by simp)),r,q⟩
end
noncomputable def tCall(sp:Sp)(dvs:List V)(E:XK)(t:TA):TE:=fun σ H Q=>t σ H fun vs H1=>sp (vs++dvs) H1 Q E
noncomputable def ud(K:PySem.W.Frag)(fd:FuncData)(ps:List Str)(ds:List Value):Prop :=
 ∀(s:Shared) (us:List Value),K.In s.heap->(us++ds).length=ps.length->BindsTo s fd ⟨us,[]⟩ (ps.zip (us++ds))
theorem ud.all{K:PySem.W.Frag}{fd:FuncData}{ps:List Str}(h:∀us:List Value,us.length=ps.length->bindArgs fd ⟨us,[]⟩=pure (ps.zip us)):ud K fd ps []:=fun s us _ hl=>by
 rw[List.append_nil]at hl ⊢;exact .of_eq (h us hl)
noncomputable def Jp(CX:CXT)(X:Cx)(E:XK):Prop:=∀(pins:List (Addr×Obj)) (σ:St) (H:Hp) (s:Shared) (e:Value) (s':Shared),Inv X pins σ H s->CX X.stack H s E e s'->X.xe e s'
section
variable {X:Cx} {CX:CXT} {k:Nat} {f C:Addr} {fd:FuncData} {ps:List Str} {sp:Sp} {dvs:List V} {ds:List Value} {E:XK} {x m:Str} {p pos apos:Pos} {e o:Expr} {es:List Expr} {ta:TE} {t:TA}
theorem run_fn{pins:List (Addr×Obj)}{σ:St}{H:Hp}{s:Shared}{Q:VK}{us:List Value}{vs:List V}(F:FnOk X.prog X.w X.K X.mg X.base CX k f fd ps sp)(hr:Room k X.A)(hb:ud X.K fd ps ds)(hd:jA dvs ds)(hx:Jp CX X E)
 (I:Inv X pins σ H s) (r:jA vs us) (h:sp (vs++dvs) H Q E):wpAny (model X.prog X.w) X.A (call (.ref f) us) (EP X pins σ Q) X.xe s:=by
 have r2:jA (vs++dvs) (us++ds):=r.append hd
 have hl:(us++ds).length=ps.length:=by rw[<- r2.length];exact F.len _ _ _ _ h
 refine wpAny_call (codeAny_mono (F.run X.A X.stack s H ⟨us,[]⟩ (us++ds) (vs++dvs) Q E hr I.env0 (hb s us I.kIn hl) r2 h) fun r s' hq=>?_)
 cases r with
 |error e=>exact hx pins σ H s e s' I hq
 |ok fl =>
  cases fl with
  |ret u=>exact I.after hq
  |next=>exact False.elim hq
  |brk=>exact False.elim hq
  |cont=>exact False.elim hq
theorem zT(F:FnOk X.prog X.w X.K X.mg X.base CX k f fd ps sp)(hr:Room k X.A)(hg:Gl X x)(hm:X.mg x=some (.ref f))(hk:PySem.W.keepIn X.K (.ref f)=true)(hb:ud X.K fd ps ds)(hd:jA dvs ds)(hx:Jp CX X E)
 (ha:PA X (e::es) t) (hdb:(x == ("__debug__":Str))=false:=by decide) (he:starEach (e::es) X.env=(false,eval e X.env)::starEach es X.env:=by rfl) (hpl:(backTo pos (starEach es X.env)).any (·.1)=false:=by rfl) :
 PE X (.Call (.Name x p) (e::es) [] pos) (tCall sp dvs E t):=by
 intro pins s σ H Q I h;refine wpAny_Call_Name_kw (yi I hg hm ?_ hdb);refine PySem.W.callWith_K (h₀:=X.base) I.ok.mod.kin hk (thn (ha pos pins s σ H _ I h) fun us s1 ⟨vs,H1,I1,r,q⟩=>⟨I1.kIn,?_⟩) he hpl;exact run_fn F hr hb hd hx I1 r q
end
section
variable {X:Cx} {CX:CXT} {k:Nat} {f C:Addr} {fd:FuncData} {ps ks:List Str} {sp:Sp} {E:XK} {x m:Str} {p pos apos kpos:Pos} {e o:Expr} {es:List Expr} {kws:List Keyword} {te ta:TE} {t tk:TA} {nm:Option Str}
variable {g:List Value->List Value->List Value} {gV:List V->List V->List V}
end
structure FnScope (N P:List Str) (sc:Scope):Prop where
 kind:sc.kind=.function
 co:sc.isCoroutine=false
 gen:sc.isGenerator=false
 nd:N.Nodup
 pre:N.take P.length=P
 par:∀x∈P,sc.names.lookup x=some .local\/sc.names.lookup x=some .cell
 nofree:∀y∈sc.names,y.2 ≠ .free
theorem JM{kindOf:Str->Option NameKind}{x:Str}:∀ {binds:List (Str×Value)} {m:Str->Option Value},(∀v,(x,v) ∉ binds)->bindL kindOf binds m x=m x
 |[],_,_=>rfl
 |(n,v)::r,m,h=>by
  unfold bindL;rw[JM fun w hw=>h w (List.mem_cons_of_mem _ hw)];split
  ·have:x≠n:=by rintro rfl;exact h v List.mem_cons_self
   simp[this]
  ·rfl
theorem JL{kindOf:Str->Option NameKind}{x:Str}:∀ {binds:List (Str×Value)} {m:Str->Option Value},(∀v,(x,v) ∉ binds)->bindC kindOf binds m x=m x
 |[],_,_=>rfl
 |(n,v)::r,m,h=>by
  unfold bindC;rw[JL fun w hw=>h w (List.mem_cons_of_mem _ hw)];split
  ·rfl
  ·have:x≠n:=by rintro rfl;exact h v List.mem_cons_self
   simp[this]
theorem JV{kindOf:Str->Option NameKind}{x:Str}{v:Value}:∀ {P:List Str} {vs:List Value} {i:Nat} {m:Str->Option Value},P.Nodup->P[i]?=some x->vs[i]?=some v->kindOf x=some .local ->
 bindL kindOf (P.zip vs) m x=some v
 |[],_,_,_,_,h,_,_=>by simp at h
 |_::_,[],_,_,_,_,h,_=>by simp at h
 |p::P,w::vs,0,m,nd,h1,h2,hk=>by
  simp at h1 h2;subst h1;subst h2;show bindL kindOf ((p,w)::P.zip vs) m p=_;unfold bindL;rw[JM fun v hv=>(List.nodup_cons.mp nd).1 (List.of_mem_zip hv).1,if_pos hk]
  simp
 |p::P,w::vs,i+1,m,nd,h1,h2,hk=>by
  show bindL kindOf ((p,w)::P.zip vs) m x=_;unfold bindL;exact JV (i:=i) (List.nodup_cons.mp nd).2 (by simpa using h1) (by simpa using h2) hk
theorem JS{kindOf:Str->Option NameKind}{x:Str}{v:Value}:∀ {P:List Str} {vs:List Value} {i:Nat} {m:Str->Option Value},P.Nodup->P[i]?=some x->vs[i]?=some v->kindOf x≠some .local ->
 bindC kindOf (P.zip vs) m x=some v
 |[],_,_,_,_,h,_,_=>by simp at h
 |_::_,[],_,_,_,_,h,_=>by simp at h
 |p::P,w::vs,0,m,nd,h1,h2,hk=>by
  simp at h1 h2;subst h1;subst h2;show bindC kindOf ((p,w)::P.zip vs) m p=_;unfold bindC;rw[JL fun v hv=>(List.nodup_cons.mp nd).1 (List.of_mem_zip hv).1,if_neg hk]
  simp
 |p::P,w::vs,i+1,m,nd,h1,h2,hk=>by
  show bindC kindOf ((p,w)::P.zip vs) m x=_;unfold bindC;exact JS (i:=i) (List.nodup_cons.mp nd).2 (by simpa using h1) (by simpa using h2) hk
noncomputable def start(N:List Str)(vs:List V):St:=vs.map some++List.replicate (N.length-vs.length) none
noncomputable def Jl(CX:CXT)(P:Program)(w:World)(K:PySem.W.Frag)(mg:Str->Option Value)(base:Heap)(N:List Str)(qual:Str)(scope:Scope)(f:Addr)(cd:Value)(A:Around)(outer:List Env)(s:Shared)(H:Hp)(E:XK):Cx where
 prog:=P
 w:=w
 K:=K
 mg:=mg
 base:=base
 A:=A.deeper (envOfC qual scope s.heap.objs.size f cd)
 N:=N
 s₀:=s
 H₀:=H
 env:=envOfC qual scope s.heap.objs.size f cd
 outer:=outer
 stack:=envOfC qual scope s.heap.objs.size f cd::outer
 ex:=[]
 calm:=A.handled.isNone
 fn:=fun _=>true
 pn:=[]
 xe:=fun e s'=>wpAny (model P w) (A.deeper (envOfC qual scope s.heap.objs.size f cd)) (leaving (envOfC qual scope s.heap.objs.size f cd) e) (fun _ s''=>CX outer H s E e s'') (fun e' s''=>CX outer H s E e' s'') s'
theorem cell_has{sc:Scope}{n:Nat}{x:Str}(h:sc.names.lookup x=some .cell):∃c,(cellsFrom n sc.names []).lookup x=some c:=by
 have q:=PySem.W.cellsFrom_some sc.names n [] (.inl h);exact Option.isSome_iff_exists.mp q
theorem inv_start{CX:CXT}{P:Program}{w:World}{K:PySem.W.Frag}{mg:Str->Option Value}{base:Heap}{N ps:List Str}{qual:Str}{scope:Scope}{f:Addr}{cd:Value}{A:Around}{outer:List Env}{s s1:Shared}{H:Hp}{E:XK}{us:List Value}{vs:List V}
 (S:FnScope N ps scope) (hd:A.handled.isNone=true->A.handled=none) (e0:Env0 P w K mg base A outer s H) (hl:vs.length=ps.length) (r:jA vs us)
 (x:InCallC s s.heap.objs.size (bindL (envOfC qual scope s.heap.objs.size f cd).kindOf (ps.zip us) fun _=>none) (cellsFrom (s.heap.objs.size+1) scope.names []) (bindC (envOfC qual scope s.heap.objs.size f cd).kindOf (ps.zip us) fun _=>none) s1) :
 Inv (Jl CX P w K mg base N qual scope f cd A outer s H E) [] (start N vs) H s1:=by
 have hpl:ps.length<=N.length:=by have:=congrArg List.length S.pre;rw[List.length_take]at this;omega
 obtain⟨h1,tk,rfl,hk⟩:=x.done
 have noA:∀b:Addr,b ∉ (Jl CX P w K mg base N qual scope f cd A outer s H E).ex:=fun b z=>absurd (show b∈([]:List Addr) from z) (by simp)
 refine⟨⟨e0.mod,S.kind,rfl,rfl,Nat.le_refl _,fun y z c h1 h2=>?_,fun y hy=>?_,fun y c _ h=>?_,hd,Around.frames_deeper e0.frames,.inr ⟨rfl,rfl⟩,fun b z=>absurd z (noA b),e0.bs,e0.bsz,fun b _ _=>noA b,fun b z=>absurd z (noA b),e0.funs,e0.frf⟩,
  rfl,e0.bare,Un.kept hk,⟨_,x.toInCall.ns,fun i y v h1 h2 h3=>?_⟩,fun y c h=>⟨_,x.cell y c h⟩,e0.hok.fresh (Nat.le_refl _),fun y c h=>?_,fun p hp=>absurd (show p∈([]:List (Addr×Obj)) from hp) (by simp),e0.hok.kept hk,?_⟩
 ·exact name_of_addr x.apart (PySem.mem_of_lookup h1) (PySem.mem_of_lookup h2)
 ·have hy:scope.names.lookup y=some .cell\/scope.names.lookup y=some .free:=hy;rcases hy with hy|hy
  ·exact cell_has hy
  ·exact absurd rfl (S.nofree _ (PySem.mem_of_lookup hy))
 ·exact Nat.le_of_lt (x.above y c (PySem.mem_of_lookup h))
 ·have hi:i<vs.length:=by
   unfold start at h2;by_cases hi:i<vs.length
   ·exact hi
   ·rw[List.getElem?_append_right (by simpa using hi)]at h2;rw[List.getElem?_replicate]at h2
    split at h2<;>cases h2
  have ha:vs[i]?=some v:=by
   unfold start at h2;rw[List.getElem?_append_left (by simpa using hi),List.getElem?_map]at h2
   cases e:vs[i]? with
   |none=>rw[e]at h2;cases h2
   |some a=>rw[e]at h2;cases h2;rfl
  obtain⟨u,hu,rv⟩:=r.get ha
  have hp:ps[i]?=some y:=by
   rw[<- S.pre,List.getElem?_take_of_lt (by omega)];exact h1
  have ndP:ps.Nodup:=by rw[<- S.pre];exact S.nd.sublist (List.take_sublist _ _)
  refine⟨u,rv,?_⟩;rcases S.par y (List.mem_of_getElem? hp) with k|k
  ·exact .inl ⟨k,JV ndP hp hu k⟩
  ·obtain⟨c,e⟩:=cell_has (n:=s.heap.objs.size+1) k;refine .inr ⟨.inl k,c,e,?_⟩;have q:=x.cell y c e;rw[JS ndP hp hu (by show scope.names.lookup y≠_;rw[k];decide)]at q;exact q
 ·exact e0.hok.fresh (Nat.le_of_lt (x.above y c (PySem.mem_of_lookup h)))
 ·unfold start;show _=N.length;rw[List.length_append,List.length_map,List.length_replicate];omega
theorem fn_of{CX:CXT}{P:Program}{w:World}{K:PySem.W.Frag}{mg:Str->Option Value}{base:Heap}{k:Nat}{f:Addr}{name qual:Str}{params:Arguments}{body:List Stmt}{scope:Scope}{dV kV doc pm cdv ct oc:Value}{an od:Option Addr}
 {osl:Array (Option Value)} {N ps:List Str} {sp:Sp} (lk:K.lookup f=some ⟨oc,od,.func (PySem.W.fnOf name qual params body scope dV kV doc pm an cdv ct),osl⟩) (hcd:PySem.W.codeIn K cdv qual=true) (S:FnScope N ps scope)
 (len:∀vs H Q E,sp vs H Q E->vs.length=ps.length)
 (hbody:∀(A:Around) (outer:List Env) (s:Shared) (H:Hp) (vs:List V) (Q:VK) (E:XK),Room k (A.deeper (envOfC qual scope s.heap.objs.size f cdv))->sp vs H Q E ->
  ∃t,PSs (Jl CX P w K mg base N qual scope f cdv A outer s H E) body t/\t { nx:=fun _ H'=>Q .non H',rt:=Q } (start N vs) H) :
 FnOk P w K mg base CX (k+1) f (PySem.W.fnOf name qual params body scope dV kV doc pm an cdv ct) ps sp:=by
 refine⟨len,fun A outer s H args us vs Q E hr e0 hb r hsp=>?_⟩;have hl:=len _ _ _ _ hsp
 have KX:K.In s.heap:=e0.mod.kin.keeps fun b o e=>(e0.bs b o e).1
 have lim:s.heap.NoLimit:=e0.mod.nolimit.1.keeps fun b o e=>(e0.bs b o e).1
 have hkind:∀y∈ps.zip us,scope.names.lookup y.1=some .local\/(scope.names.lookup y.1=some .cell/\((cellsFrom (s.heap.objs.size+1) scope.names []).lookup y.1).isSome=true):=fun⟨n,v⟩ hy=>by
  rcases S.par n (List.of_mem_zip hy).1 with q|q
  ·exact .inl q
  ·exact .inr ⟨q,PySem.W.cellsFrom_some _ _ _ (.inl q)⟩
 refine codeAny_call_function hr.depth (KX _ _ lk) rfl S.co S.gen rfl (PySem.W.codeRec_of KX hcd) (hb _ _ _ _ ?_)
 refine wpAny_newFunctionEnv_cells S.kind hkind fun env he s1 x=>?_
 subst he;refine⟨lim.keeps x.toInCall.keep,codeAny_func ?_⟩;obtain⟨t,ht,hq⟩:=hbody A outer s H vs Q E (hr.deeper _) hsp;have I:Inv (Jl CX P w K mg base N qual scope f cdv A outer s H E) [] (start N vs) H s1:=inv_start S (fun z=>by simpa using z) e0 hl r x
 refine wpAny_mono (ht [] s1 (start N vs) H _ I hq) (fun fl s' hs=>?_) fun e s' hs=>hs
 have fin:∀ {σ':St} {H':Hp} {v:V} {u:Value},Inv (Jl CX P w K mg base N qual scope f cdv A outer s H E) [] σ' H' s'->jM v u->Q v H'->CE outer P w H s Q u s' :=
  fun {σ' H' v u} J rv q=>⟨v,H',J.os,J.bare,J.base,J.hok,rv,q⟩
 cases fl with
 |ret u =>
  obtain⟨v,σ',H',J,rv,q⟩:=hs
  exact fin J rv q
 |next =>
  obtain⟨σ',H',J,q⟩:=hs
  exact fin (v:=V.non) (u:=Value.none) J rfl q
 |brk =>
  obtain⟨_,_,_,q⟩:=hs
  exact False.elim q
 |cont =>
  obtain⟨_,_,_,q⟩:=hs;exact False.elim q
end L2
namespace L2
open PySem PySem.Spec PyProof.Rows
section
variable {X:Cx} {x:Str} {p pos:Pos} {e:Expr} {es:List Expr} {t:TA} {id T:String} {r:List V->Hp->VK->Prop}
noncomputable def tCB(r:List V->Hp->VK->Prop)(t:TA):TE:=fun σ H Q=>t σ H fun vs H1=>r vs H1 Q
theorem kr(hc:k8 X (.builtin id) r)(hg:Gl X x)(hm:X.mg x=none)(hv:bootBuiltins x=some (.builtin id))(ha:PA X (e::es) t)(hn:x ≠ "__name__":=by decide)(hdb:(x == ("__debug__":Str))=false:=by decide)
 (he:starEach (e::es) X.env=(false,eval e X.env)::starEach es X.env:=by rfl) (hpl:(backTo pos (starEach es X.env)).any (·.1)=false:=by rfl):PE X (.Call (.Name x p) (e::es) [] pos) (tCB r t):=by
 intro pins s σ H Q I h;refine wpAny_Call_Name_kw (KG I hg hm hv ?_ hn hdb);exact PyProof.Rows.callWith_builtin1 (thn (ha pos pins s σ H _ I h) fun us s1 ⟨vs,H1,I1,r1,q1⟩=>hc pins s1 σ H1 vs us Q I1 r1 q1) he hpl
theorem q0(hc:k8 X (.type T) r)(hg:Gl X x)(hm:X.mg x=none)(hv:bootBuiltins x=some (.type T))(ha:PA X (e::es) t)(hn:x ≠ "__name__":=by decide)(hdb:(x == ("__debug__":Str))=false:=by decide)
 (he:starEach (e::es) X.env=(false,eval e X.env)::starEach es X.env:=by rfl) (hpl:(backTo pos (starEach es X.env)).any (·.1)=false:=by rfl):PE X (.Call (.Name x p) (e::es) [] pos) (tCB r t):=by
 intro pins s σ H Q I h;refine wpAny_Call_Name_kw (KG I hg hm hv ?_ hn hdb);exact PyProof.Rows.callWith_type1 (thn (ha pos pins s σ H _ I h) fun us s1 ⟨vs,H1,I1,r1,q1⟩=>hc pins s1 σ H1 vs us Q I1 r1 q1) he hpl
end
end L2
namespace HT
open PySem PyProof.Rows
section
open PySem.SeqAt
open PySem.AutoSeq1 (wpAny_loadPart')
open PySem.MeetsSeq PySem.MeetsSeq2 PySem.MeetsSeq3
end
section
variable {prog:Program} {w:World} {A:Around} {E:Value->Shared->Prop} {s:Shared}
noncomputable def sIx(n d:Nat):Option Int->Nat
 |none=>d
 |some v=>if v<0 then (v+(n:Int)).toNat else min v.toNat n
end
end HT
namespace L2
open PySem PySem.Spec PyProof.Rows
abbrev TO:=St->Hp->(Option Int->Hp->Prop)->Prop
noncomputable def PO(X:Cx)(e:Option Expr)(t:TO):Prop :=
 ∀(pins:List (Addr×Obj)) (s:Shared) (σ:St) (H:Hp) (Q:Option Int->Hp->Prop),Inv X pins σ H s->t σ H Q ->
  wpAny (model X.prog X.w) X.A (evalPart e X.env) (fun u s'=>∃o H',Inv X pins σ H' s'/\IsPart u o/\Q o H') X.xe s
noncomputable def tNoPart:TO:=fun _ H Q=>Q none H
noncomputable def tPart(t:TE):TO:=fun σ H Q=>t σ H fun x H1=>∃i,x=.int i/\Q (some i) H1
section
variable {X:Cx} {e:Expr} {te:TE} {lo hi:Option Expr} {tl th:TO} {pos p2:Pos}
theorem po_none:PO X none tNoPart:=by
 intro pins s σ H Q I h;rw[evalPart_none];exact wpAny_pure ⟨none,H,I,.none,h⟩
theorem po_some(h:PE X e te):PO X (some e) (tPart te):=by
 intro pins s σ H Q I hw;rw[evalPart_some]
 refine thn (h pins s σ H _ I hw) fun u s1 ⟨x,H1,I1,r1,q1⟩=>?_
 obtain⟨i,rfl,q⟩:=q1;obtain⟨t,rfl⟩:=r1;exact⟨some i,H1,I1,.int i t,q⟩
noncomputable def SlR(X:Cx)(r:V->Option Int->Option Int->Hp->VK->Prop):Prop :=
 ∀(pins:List (Addr×Obj)) (s:Shared) (σ:St) (H:Hp) (x:V) (v vl vu:Value) (lo hi:Option Int) (sl:Addr) (Q:VK),Inv X pins σ H s->jM x v->s.heap.IsSliceOf sl vl vu .none->IsPart vl lo->IsPart vu hi->r x lo hi H Q ->
  ∃T id,typeLookup (.type T) "__getitem__"=pure (some (.builtin id))/\s.TypeIs v T/\wpAny (model X.prog X.w) X.A (getItem v (.ref sl)) (EP X pins σ Q) X.xe s
theorem SlR.or{r r':V->Option Int->Option Int->Hp->VK->Prop}(h:SlR X r)(h':SlR X r'):SlR X (fun x lo hi H Q=>r x lo hi H Q\/r' x lo hi H Q):=by
 intro pins s σ H x v vl vu lo hi sl Q I rx hs pl pu q;rcases q with q|q
 ·exact h pins s σ H x v vl vu lo hi sl Q I rx hs pl pu q
 ·exact h' pins s σ H x v vl vu lo hi sl Q I rx hs pl pu q
noncomputable def tSl(r:V->Option Int->Option Int->Hp->VK->Prop)(te:TE)(tl th:TO):TE:=fun σ H Q=>te σ H fun x H1=>tl σ H1 fun l H2=>th σ H2 fun u H3=>r x l u H3 Q
theorem pe_slice{r:V->Option Int->Option Int->Hp->VK->Prop}(hr:SlR X r)(he:PE X e te)(hl:PO X lo tl)(hu:PO X hi th):PE X (.Subscript e (.Slice lo hi none p2) pos) (tSl r te tl th):=by
 intro pins s σ H Q I h;refine Subscript_ (thn (he pins s σ H _ I h) fun v s1 ⟨x,H1,I1,r1,q1⟩=>?_);refine wpAny_Slice (thn (hl pins s1 σ H1 _ I1 q1) fun vl s2 ⟨l,H2,I2,pl,q2⟩=>thn (hu pins s2 σ H2 _ I2 q2) fun vu s3 ⟨u,H3,I3,pu,q3⟩=>?_);rw[evalPart_none];refine wpAny_pure ?_
 have I4:Inv X pins σ H3 { s3 with heap:=s3.heap.push { cls:=.type "slice",data:=.fields #[vl,vu,.none] } }:=I3.kept (t':=s3.toks) fun b ob q=>Heap.get?_push_of_some _ q
 obtain⟨T,id,hT,ht,hg⟩:=hr pins { s3 with heap:=s3.heap.push { cls:=.type "slice",data:=.fields #[vl,vu,.none] } } σ H3 x v vl vu l u s3.heap.objs.size Q I4 r1 (Heap.IsSliceOf.new ..) pl pu q3;show wpAny (model X.prog X.w) X.A (subscriptTail e (.Slice lo hi none p2) v (.ref s3.heap.objs.size)) (EP X pins σ Q) X.xe { s3 with heap:=s3.heap.push { cls:=.type "slice",data:=.fields #[vl,vu,.none] } };exact tail_any (ops:=[.ref s3.heap.objs.size,v]) ht hT hg (by with_unfolding_all rfl)
noncomputable def cutV(xs:List V)(lo hi:Option Int):List V:=(xs.drop (HT.sIx xs.length 0 lo)).take (HT.sIx xs.length xs.length hi-HT.sIx xs.length 0 lo)
theorem cutV_length(xs:List V)(lo hi:Option Int):(cutV xs lo hi).length<=xs.length:=by
 unfold cutV;rw[List.length_take,List.length_drop];omega
end
end L2
namespace L2
open PySem PySem.Spec PyProof.Rows
noncomputable def ixN(n:Nat)(i:Int):Option Nat:=if 0<=i then (if i<n then some i.toNat else none) else if -(n:Int)<=i then some (i+n).toNat else none
noncomputable def atI{α:Type}(xs:List α)(i:Int):Option α:=(ixN xs.length i).bind fun j=>xs[j]?
theorem ixN_seq{n:Nat}{i:Int}{j:Nat}(h:ixN n i=some j):seqIndex? i n=some j/\j<n /\ -(n:Int)<=i/\i<n:=by
 unfold ixN at h;by_cases h0:0<=i
 ·rw[if_pos h0]at h;by_cases h1:i<n
  ·rw[if_pos h1]at h;have e:i.toNat=j:=Option.some.inj h;exact⟨by rw[seqIndex_of h0 h1,e],by omega,by omega,h1⟩
  ·rw[if_neg h1]at h;cases h
 ·rw[if_neg h0]at h;by_cases h1:-(n:Int)<=i
  ·rw[if_pos h1]at h;have e:(i+n).toNat=j:=Option.some.inj h;exact⟨by rw[seqIndex_neg (by omega) h1,e],by omega,h1,by omega⟩
  ·rw[if_neg h1]at h;cases h
theorem K6{α:Type}{xs:List α}{i:Int}{v:α}(h:atI xs i=some v):∃j,seqIndex? i xs.length=some j/\xs[j]?=some v/\j<xs.length /\ -(xs.length:Int)<=i/\i<xs.length:=by
 unfold atI at h
 cases e:ixN xs.length i with
 |none=>rw[e]at h;cases h
 |some j =>
  rw[e]at h;obtain⟨h1,h2,h3,h4⟩:=ixN_seq e;exact⟨j,h1,h,h2,h3,h4⟩
noncomputable def PlainIx(b:Expr):Prop:=∀o i,subscripted b false o i=operate [o,i] (getItem o i)
noncomputable def IxR(X:Cx)(r:R2):Prop :=
 ∀(value slice:Expr) (pins:List (Addr×Obj)) (s:Shared) (σ:St) (H:Hp) (x y:V) (v u:Value) (Q:VK),Inv X pins σ H s->jM x v->jM y u->r x y H Q ->
  subscripted slice false v u=operate [v,u] (getItem v u)->wpAny (model X.prog X.w) X.A (subscriptTail value slice v u) (EP X pins σ Q) X.xe s
noncomputable def MtR(X:Cx)(id:String)(r:V->List V->Hp->VK->Prop):Prop :=
 ∀(pins:List (Addr×Obj)) (s:Shared) (σ:St) (H:Hp) (x:V) (xs:List V) (v:Value) (us:List Value) (Q:VK),Inv X pins σ H s->jM x v->jA xs us->r x xs H Q ->
  wpAny (model X.prog X.w) X.A (call (.builtin id) (v::us)) (EP X pins σ Q) X.xe s
section
variable {X:Cx} {a b:Expr} {ta tb:TE} {pos:Pos}
theorem pe_ix{r:R2}(hr:IxR X r)(ha:PE X a ta)(hb:PE X b tb)(hs:PlainIx b):PE X (.Subscript a b pos) (tOp r ta tb):=by
 intro pins s σ H Q I h;exact Subscript_ (binT ha hb I h fun v u s2 x y H2 I2 rx ry q=>hr a b pins s2 σ H2 x y v u Q I2 rx ry q (hs _ _))
noncomputable def rIxL(K:PySem.W.Frag):R2:=fun x y H Q=>∃p xs i v,x=.ref p/\y=.int i/\SqL K H p xs/\atI xs i=some v/\Q v H
noncomputable def rIxT(K:PySem.W.Frag):R2:=fun x y H Q=>∃p xs i v,x=.ref p/\y=.int i/\SqT K H p xs/\atI xs i=some v/\Q v H
noncomputable def rIxS:R2:=fun x y H Q=>∃z i c,x=.str z/\y=.int i/\z.length<=sizeLine/\atI z.cps.toList i=some c/\Q (.str ⟨#[c]⟩) H
theorem ix_list:IxR X (rIxL X.K):=by
 intro value slice pins s σ H x y v u Q I rx ry h hs;obtain⟨p,xs,i,z,rfl,rfl,hq,he,q⟩:=h;cases rx;obtain⟨t,rfl⟩:=ry;obtain⟨its,r,pl,hz⟩:=I.list hq;obtain⟨j,h1,h2,h3,h4,h5⟩:=K6 he;obtain⟨w,ew,rw'⟩:=r.get h2;have hl:=r.length;have hn:=v0
 have fin:EP X pins σ Q w s:=⟨z,H,I,rw',q⟩
 by_cases h0:0<=i
 ·have hj:i.toNat=j:=by
   rw[seqIndex_of h0 h5]at h1;exact Option.some.inj h1
  exact item_listR pl.isList h0 (by omega) (by rw[hj];simpa using ew) fin hs
 ·have hj:(i+(its.toArray.size:Int)).toNat=j:=by
   rw[seqIndex_neg (by omega) h4]at h1;rw[List.size_toArray,<- hl];exact Option.some.inj h1
  exact subscriptTail_builtinR (x:=w) pl.isList.typeIs slot_list_getitem.lookup
   (wpAny_getItem_list_neg (Q:=fun r s'=>r=w/\EP X pins σ Q r s') pl.isList (by omega) (by rw[List.size_toArray]<;>omega) (by omega) (by rw[hj];simpa using ew) ⟨rfl,fin⟩) hs
theorem ix_tup:IxR X (rIxT X.K):=by
 intro value slice pins s σ H x y v u Q I rx ry h hs;obtain⟨p,xs,i,z,rfl,rfl,hq,he,q⟩:=h;cases rx;obtain⟨t,rfl⟩:=ry;obtain⟨its,r,pl,hz⟩:=I.tuple hq;obtain⟨j,h1,h2,h3,h4,h5⟩:=K6 he;obtain⟨w,ew,rw'⟩:=r.get h2;have hl:=r.length;have hn:=v0
 have fin:EP X pins σ Q w s:=⟨z,H,I,rw',q⟩
 exact subscriptTail_builtinR (x:=w) pl.typeIs slot_tuple_getitem.lookup
  (getItem_tuple (j:=j) (Q:=fun r s'=>r=w/\EP X pins σ Q r s') pl (by omega) (by omega) (by rw[List.size_toArray,<- hl];exact h1) (by simpa using ew) ⟨rfl,fin⟩) hs
theorem ix_str:IxR X rIxS:=by
 intro value slice pins s σ H x y v u Q I rx ry h hs;obtain⟨z,i,c,rfl,rfl,hz,he,q⟩:=h;obtain⟨t,rfl⟩:=rx;obtain⟨t',rfl⟩:=ry;obtain⟨j,h1,h2,h3,h4,h5⟩:=K6 he
 have hl:z.cps.toList.length=z.length:=by simp[Str.length]
 rw[hl]at h1 h4 h5;have hn:=v0
 exact tail_any (typeIs_str s z t) slot_str_getitem.lookup (getItem_str (c:=c) (by
  have e1:decide (i < -(2^63:Int))=false:=decide_eq_false (by omega);have e2:decide (i ≥ 2^63)=false:=decide_eq_false (by omega)
  rw[e1,e2,Bool.or_false]) (by rw[h1];simpa using h2) ⟨.str ⟨#[c]⟩,H,I.tok _,⟨_,rfl⟩,q⟩) hs
theorem Inv.lst{pins:List (Addr×Obj)}{σ:St}{H:Hp}{s:Shared}{p:Addr}{xs:List V}(I:Inv X pins σ H s)(h:H p=some (.lst xs)) :
 ∃(its:List Value) (n:Nat),jA xs its/\s.heap.get? p=some { cls:=.type "list",data:=.seq its.toArray n }/\xs.length<=sizeLine:=by
 obtain⟨z,its,n,r,e⟩:=I.hok p _ h;exact⟨its,n,r,e,z⟩
theorem K2(lo hi:Option Int)(n:Nat):(sliceBounds lo hi none n).1=((HT.sIx n 0 lo:Nat):Int)/\(sliceBounds lo hi none n).2.1=((HT.sIx n n hi:Nat):Int)/\(sliceBounds lo hi none n).2.2=1:=by
 refine⟨?_,?_,rfl⟩
 ·cases lo with
  |none=>simp[sliceBounds,HT.sIx]
  |some i =>
   simp only[sliceBounds,HT.sIx,Option.getD_none,show (1:Int) > 0 by decide,if_true];by_cases h:i<0
   ·simp only[h,if_true]<;>omega
   ·simp only[h,if_false]<;>omega
 ·cases hi with
  |none=>simp[sliceBounds,HT.sIx]
  |some i =>
   simp only[sliceBounds,HT.sIx,Option.getD_none,show (1:Int) > 0 by decide,if_true];by_cases h:i<0
   ·simp only[h,if_true]<;>omega
   ·simp only[h,if_false]<;>omega
theorem Jw(its:List Value)(lo hi:Option Int):slicePick its.toArray lo hi none=((its.drop (HT.sIx its.length 0 lo)).take (HT.sIx its.length its.length hi-HT.sIx its.length 0 lo)).toArray:=by
 obtain⟨h1,h2,h3⟩:=K2 lo hi its.toArray.size;unfold slicePick;rw[h1,h2,h3]
 simp only[sliceRange_one,pick_run,List.size_toArray]<;>rfl
noncomputable def rSlL(K:PySem.W.Frag):V->Option Int->Option Int->Hp->VK->Prop:=fun x lo hi H Q=>∃a xs,x=.ref a/\SqL K H a xs/\∀p,H p=none->Q (.ref p) (upd H p (.lst (cutV xs lo hi)))
theorem sl_list:SlR X (rSlL X.K):=by
 intro pins s σ H x v vl vu lo hi sl Q I rx hs pl pu h;obtain⟨a,xs,rfl,hx,q⟩:=h;cases rx;obtain⟨its,r,ht,hz⟩:=I.list hx;have hlen:=r.length;refine⟨"list",_,slot_list_getitem.lookup,ht.isList.typeIs,?_⟩;refine wpAny_getItem_list_slice ht.isList hs pl pu .none (by simp) ?_ (by rw[List.size_toArray]<;>omega);rw[Jw,<- hlen];refine⟨.ref s.heap.objs.size,_,I.laid (t':=s.toks) (o:=.lst (cutV xs lo hi)) (fun b ob q=>Heap.get?_push_of_some _ q) (Nat.le_refl _) ?_,rfl,q _ (I.hok.fresh (Nat.le_refl _))⟩;exact⟨Nat.le_trans (cutV_length xs lo hi) hz,_,0,(r.drop (HT.sIx xs.length 0 lo)).take (HT.sIx xs.length xs.length hi-HT.sIx xs.length 0 lo),Heap.get?_push_size _ rfl⟩
noncomputable def zk:V->Bool
 |.non=>true
 |.bl _=>true
 |.int _=>true
 |.str _=>true
 |_=>false
noncomputable def eqV:V->V->Bool
 |.non,.non=>true
 |.bl a,.bl b=>a == b
 |.bl a,.int b=>(if a then 1 else 0) == b
 |.int a,.bl b=>a == (if b then 1 else 0)
 |.int a,.int b=>a == b
 |.str a,.str b=>a == b
 |_,_=>false
theorem eqAt_V{A:Around}{s:Shared}{y x:V}{u v:Value}(ry:jM y u)(rx:jM x v)(fy:zk y=true)(fx:zk x=true):SeqAt.EqAt A s u v (eqV y x):=by
 cases y with
 |non =>
  cases ry
  cases x with
  |non=>cases rx;exact SeqAt.EqAt.same _
  |bl b=>cases rx;exact SeqAt.EqAt.none_bool b
  |int b=>obtain⟨t,rfl⟩:=rx;exact SeqAt.EqAt.none_int b t
  |str b=>obtain⟨t,rfl⟩:=rx;exact SeqAt.EqAt.none_str b t
  |_=>exact absurd (show false=true from fx) Bool.false_ne_true
 |bl a =>
  cases ry
  cases x with
  |non=>cases rx;exact SeqAt.EqAt.bool_none a
  |bl b=>cases rx;exact SeqAt.EqAt.bool_bool a b
  |int b=>obtain⟨t,rfl⟩:=rx;exact SeqAt.EqAt.bool_int a b t
  |str b=>obtain⟨t,rfl⟩:=rx;exact SeqAt.EqAt.bool_str a b t
  |_=>exact absurd (show false=true from fx) Bool.false_ne_true
 |int a =>
  obtain⟨t',rfl⟩:=ry
  cases x with
  |non=>cases rx;exact SeqAt.EqAt.int_none a t'
  |bl b=>cases rx;exact SeqAt.EqAt.int_bool a t' b
  |int b=>obtain⟨t,rfl⟩:=rx;exact SeqAt.EqAt.int_int a t' b t
  |str b=>obtain⟨t,rfl⟩:=rx;exact SeqAt.EqAt.int_str a t' b t
  |_=>exact absurd (show false=true from fx) Bool.false_ne_true
 |str a =>
  obtain⟨t',rfl⟩:=ry
  cases x with
  |non=>cases rx;exact SeqAt.EqAt.str_none a t'
  |bl b=>cases rx;exact SeqAt.EqAt.str_bool a t' b
  |int b=>obtain⟨t,rfl⟩:=rx;exact SeqAt.EqAt.str_int a t' b t
  |str b=>obtain⟨t,rfl⟩:=rx;exact SeqAt.EqAt.str_str a t' b t
  |_=>exact absurd (show false=true from fx) Bool.false_ne_true
 |_=>exact absurd (show false=true from fy) Bool.false_ne_true
noncomputable def eqU(x:V)(u:Value):Bool:=match u with
 |.none=>eqV .non x
 |.bool b=>eqV (.bl b) x
 |.int i _=>eqV (.int i) x
 |.str z _=>eqV (.str z) x
 |_=>false
theorem eqU_of{x y:V}{u:Value}(r:jM y u)(f:zk y=true):eqU x u=eqV y x:=by
 cases y with
 |non=>cases r;rfl
 |bl b=>cases r;rfl
 |int i=>obtain⟨t,rfl⟩:=r;rfl
 |str z=>obtain⟨t,rfl⟩:=r;rfl
 |_=>exact absurd (show false=true from f) Bool.false_ne_true
theorem ua{x:V}:∀ {xs:List V} {us:List Value},jA xs us->xs.all zk=true->us.any (eqU x)=xs.any fun y=>eqV y x
 |_,_,.nil,_=>rfl
 |y::xs,u::us,.cons r t,f=>by
  rw[List.all_cons,Bool.and_eq_true]at f;rw[List.any_cons,List.any_cons,eqU_of r f.1,ua t f.2]
theorem yS{A:Around}{s:Shared}{x:V}{v:Value}(rx:jM x v)(fx:zk x=true):∀ {xs:List V} {us:List Value},jA xs us->xs.all zk=true->∀u∈us,SeqAt.EqAt A s u v (eqU x u)
 |_,_,.nil,_=>fun u hu=>by cases hu
 |y::xs,u::us,.cons r t,f=>fun u' hu=>by
  rw[List.all_cons,Bool.and_eq_true]at f;rcases List.mem_cons.mp hu with rfl|hu
  ·rw[eqU_of r f.1];exact eqAt_V r rx f.1 fx
  ·exact yS rx fx t f.2 u' hu
noncomputable def inV(x:V)(xs:List V):Bool:=xs.any fun y=>eqV y x
noncomputable def rIn(K:PySem.W.Frag)(neg:Bool):R2:=fun x y H Q=>∃p xs,y=.ref p/\(SqL K H p xs\/SqT K H p xs)/\zk x=true/\xs.all zk=true/\Q (.bl (if neg then !inV x xs else inV x xs)) H
theorem JT:OpR X (compareOp .In) (rIn X.K false):=by
 intro pins s σ H x y v u Q I rx ry h;obtain⟨p,xs,rfl,hq,fx,fs,q⟩:=h;cases ry;rcases hq with hq|hq
 ·obtain⟨its,r,pl,hz⟩:=I.list hq;refine SeqAt.in_listAt (eqU x) pl.isList (fun w hw=>yS rx fx r fs w (by simpa using hw)) ⟨.bl _,H,I,rfl,?_⟩;rw[show its.toArray.any (eqU x)=its.any (eqU x) by simp,ua r fs];exact q
 ·obtain⟨its,r,pl,hz⟩:=I.tuple hq;refine SeqAt.in_tupleAt (eqU x) pl (fun w hw=>yS rx fx r fs w (by simpa using hw)) ⟨.bl _,H,I,rfl,?_⟩;rw[show its.toArray.any (eqU x)=its.any (eqU x) by simp,ua r fs];exact q
theorem z8:OpR X (compareOp .NotIn) (rIn X.K true):=by
 intro pins s σ H x y v u Q I rx ry h;obtain⟨p,xs,rfl,hq,fx,fs,q⟩:=h;cases ry;rcases hq with hq|hq
 ·obtain⟨its,r,pl,hz⟩:=I.list hq;refine SeqAt.notIn_listAt (eqU x) pl.isList (fun w hw=>yS rx fx r fs w (by simpa using hw)) ⟨.bl _,H,I,rfl,?_⟩;rw[show its.toArray.any (eqU x)=its.any (eqU x) by simp,ua r fs];exact q
 ·obtain⟨its,r,pl,hz⟩:=I.tuple hq;refine SeqAt.notIn_tupleAt (eqU x) pl (fun w hw=>yS rx fx r fs w (by simpa using hw)) ⟨.bl _,H,I,rfl,?_⟩;rw[show its.toArray.any (eqU x)=its.any (eqU x) by simp,ua r fs];exact q
theorem z9:k8 X (.builtin "len") (fun xs H Q=>∃p ys,xs=[.ref p]/\(SqL X.K H p ys\/SqT X.K H p ys)/\Q (.int ys.length) H):=by
 intro pins s σ H xs us Q I r h;obtain⟨p,ys,rfl,hq,q⟩:=h;obtain⟨u,rfl,rx⟩:=qP r;cases rx;have hn:=v0;rcases hq with hq|hq
 ·obtain⟨its,r',pl,hz⟩:=I.list hq;have hlen:=r'.length;exact Calls.call_len_list pl.isList (by simp only[List.size_toArray]<;>omega) ⟨.int ys.length,H,I.tok _,⟨s.toks+1,by rw[List.size_toArray,hlen]⟩,q⟩
 ·obtain⟨its,r',pl,hz⟩:=I.tuple hq;have hlen:=r'.length;exact len_tuple pl (by simp only[List.size_toArray]<;>omega) ⟨.int ys.length,H,I.tok _,⟨s.toks+1,by rw[List.size_toArray,hlen]⟩,q⟩
theorem Qh:k8 X (.builtin "len") (fun xs H Q=>∃z,xs=[.str z]/\z.length<=sizeLine/\Q (.int z.length) H):=by
 intro pins s σ H xs us Q I r h;obtain⟨z,rfl,hz,q⟩:=h;obtain⟨u,rfl,t,rfl⟩:=qP r;have hn:=v0;exact len_str (by omega) ⟨.int z.length,H,I.tok _,⟨_,rfl⟩,q⟩
theorem yq:k8 X (.type "list") (fun xs H Q=>∃p ys,xs=[.ref p]/\(SqL X.K H p ys\/SqT X.K H p ys)/\∀l,H l=none->Q (.ref l) (upd H l (.lst ys))):=by
 intro pins s σ H xs us Q I r h;obtain⟨p,ys,rfl,hq,q⟩:=h;obtain⟨u,rfl,rx⟩:=qP r;cases rx
 have fin:∀(its:List Value),jA ys its->ys.length<=sizeLine->∀(h':Heap) (c':Nat),(∀b o',s.heap.get? b=some o'->h'.get? b=some o') ->
  h'.get? s.heap.objs.size=some { cls:=.type "list",dict:=none,data:=.seq its.toArray c',slots:=#[] }->EP X pins σ Q (.ref s.heap.objs.size) { s with heap:=h' }:=fun its r' hz h' c' kp e =>
  ⟨.ref s.heap.objs.size,_,I.laid (t':=s.toks) kp (Nat.le_refl _) (show ql X.prog X.w _ h' _ (.lst ys) from ⟨hz,its,c',r',e⟩),rfl,q _ (I.hok.fresh (Nat.le_refl _))⟩
 rcases hq with hq|hq
 ·obtain⟨its,r',pl,hz⟩:=I.list hq;have hlen:=r'.length;obtain⟨o,ho,hc,n,hd⟩:=pl.isList;exact call_list_seq p (.inl rfl) ho hc hd (fun h' c' kp e=>fin its r' hz h' c' kp e) (by simp only[List.size_toArray]<;>omega)
 ·obtain⟨its,r',pl,hz⟩:=I.tuple hq;have hlen:=r'.length;obtain⟨o,ho,hc,n,hd⟩:=pl;exact call_list_seq p (.inr rfl) ho hc hd (fun h' c' kp e=>fin its r' hz h' c' kp e) (by simp only[List.size_toArray]<;>omega)
theorem zi:k8 X (.type "tuple") (fun xs H Q=>∃p ys,xs=[.ref p]/\((SqL X.K H p ys/\∀l,H l=none->Q (.ref l) (upd H l (.tup ys)))\/(SqT X.K H p ys/\Q (.ref p) H))):=by
 intro pins s σ H xs us Q I r h;obtain⟨p,ys,rfl,h⟩:=h;obtain⟨u,rfl,rx⟩:=qP r;cases rx;rcases h with⟨hq,q⟩|⟨hq,q⟩
 ·obtain⟨its,r',pl,hz⟩:=I.list hq;have hlen:=r'.length;refine call_tuple_list pl.isList (fun h' kp=>?_) (by simp only[List.size_toArray]<;>omega);have I1:Inv X pins σ H { s with heap:=h' }:=I.kept (t':=s.toks) kp
  have I2:Inv X pins σ (upd H h'.objs.size (.tup ys)) { s with heap:=h'.push { cls:=.type "tuple",data:=.seq its.toArray } } :=
   I1.laid (t':=s.toks) (fun b o e=>Heap.get?_push_of_some _ e) (Nat.le_refl _) (show ql X.prog X.w _ _ _ (.tup ys) from ⟨hz,its,r',IsTup.new _ _⟩)
  exact⟨.ref h'.objs.size,_,I2,rfl,q _ (I1.hok.fresh (Nat.le_refl _))⟩
 ·obtain⟨its,r',pl,hz⟩:=I.tuple hq;exact call_tuple_same pl ⟨.ref p,H,I,rfl,q⟩
noncomputable def tyV(K:PySem.W.Frag)(T:String)(x:V)(H:Hp):Prop:=match x with
 |.str _=>T="str"
 |.int _=>T="int"
 |.ref p=>(T="list" /\ ∃xs,SqL K H p xs)\/(T="tuple" /\ ∃o,K.lookup p=some o/\o.cls=.type "tuple" /\ o.dict=none) \/
  (T="dict" /\ ((∃kvs,H p=some (.dK kvs))\/∃kvs,H p=some (.dT kvs)))\/(T="set" /\ ∃S n,H p=some (.set S n))
 |_=>False
theorem tyV_is{pins:List (Addr×Obj)}{σ:St}{H:Hp}{s:Shared}{T:String}{x:V}{v:Value}(I:Inv X pins σ H s)(r:jM x v)(ty:tyV X.K T x H) :
 s.TypeIs v T/\∀a,v=.ref a->∃ob,s.heap.get? a=some ob/\ob.dict=none:=by
 cases x with
 |str z =>
  obtain⟨t,rfl⟩:=r;cases (show T="str" from ty)
  exact⟨typeIs_str s z t,fun _ e=>nomatch e⟩
 |int i =>
  obtain⟨t,rfl⟩:=r;cases (show T="int" from ty)
  exact⟨typeIs_int s i t,fun _ e=>nomatch e⟩
 |ref p =>
  cases r;rcases ty with⟨rfl,xs,hq⟩|⟨rfl,o,hk,hc,hd⟩|⟨rfl,hk⟩|⟨rfl,S,n,hk⟩
  ·obtain⟨its,_,pl,_⟩:=I.list hq;refine⟨pl.isList.typeIs,fun a e=>?_⟩;cases e;obtain⟨o,n,e,c,hd,_⟩:=pl;exact⟨o,e,hd⟩
  ·refine⟨⟨o,I.kIn p o hk,hc⟩,fun a e=>?_⟩;cases e;exact⟨o,I.kIn _ o hk,hd⟩
  ·have z:∃o,s.heap.get? p=some o/\o.ExactDict:=by
    rcases hk with⟨kvs,hk⟩|⟨kvs,hk⟩
    ·obtain⟨_,_,_,_,o,_,_,e,ex,_⟩:=I.hok p _ hk;exact⟨o,e,ex⟩
    ·obtain⟨_,_,_,_,o,_,_,e,ex,_⟩:=I.hok p _ hk;exact⟨o,e,ex⟩
   obtain⟨o,e,ex⟩:=z;refine⟨⟨o,e,ex.1⟩,fun a e2=>?_⟩;cases e2;exact⟨o,e,ex.2.1⟩
  ·obtain⟨o,_,_,_,e,ex,_⟩:=I.hok p _ hk;refine⟨⟨o,e,ex.1⟩,fun a e2=>?_⟩;cases e2
   exact⟨o,e,ex.2.1⟩
 |_=>exact False.elim ty
noncomputable def tBM0(K:PySem.W.Frag)(T:String)(r:V->List V->Hp->VK->Prop)(to:TE):TE:=fun σ H Q=>to σ H fun x H1=>tyV K T x H1/\r x [] H1 Q
noncomputable def tBM(K:PySem.W.Frag)(T:String)(r:V->List V->Hp->VK->Prop)(to:TE)(t:TA):TE:=fun σ H Q=>to σ H fun x H1=>tyV K T x H1/\t σ H1 fun xs H2=>r x xs H2 Q
variable {o e:Expr} {es:List Expr} {to:TE} {t:TA} {name:Str} {apos cpos:Pos} {T id:String} {r:V->List V->Hp->VK->Prop}
theorem pe_bm0(pa:PlainAttrs T)(slot:Slot T name id)(hty:typeOf (.builtin id)=pure (.type "method_descriptor"))(hm:MtR X id r)(ho:PE X o to)
 (hbase:attributeBase o name X.env (eval o X.env)=eval o X.env:=by rfl) (hline:(apos.endLine == cpos.line)=true:=by rfl):PE X (.Call (.Attribute o name apos) [] [] cpos) (tBM0 X.K T r to):=by
 intro pins s σ H Q I h;refine wpAny_Call_method0_late hbase hline (thn (ho pins s σ H _ I h) fun v s1 ⟨x,H1,I1,r1,ty,q1⟩=>?_);obtain⟨h1,h2⟩:=tyV_is I1 r1 ty;exact⟨T,id,pa,slot,hty,h1,h2,Calls.callWith_builtin rfl (PySem.evalArgs_none (hm pins s1 σ H1 x [] v [] Q I1 r1 .nil q1))⟩
theorem pe_bm(pa:PlainAttrs T)(slot:Slot T name id)(hty:typeOf (.builtin id)=pure (.type "method_descriptor"))(hm:MtR X id r)(ho:PE X o to)(ha:PA X (e::es) t)
 (hbase:attributeBase o name X.env (eval o X.env)=eval o X.env:=by rfl)
 (hfew:((backTo cpos (starEach (e::es) X.env)).all (fun x=>!x.1)&&(backToKw cpos (keywordEach [] X.env)).all (fun x=>x.1.isSome)
  && decide ((e::es).length+([]:List Keyword).length+(if ([]:List Keyword).isEmpty then 0 else 1)<30))=true:=by rfl)
 (hline:(apos.endLine == cpos.line)=true:=by rfl) (hs:starEach (e::es) X.env=(false,eval e X.env)::starEach es X.env:=by rfl) (hplain:(backTo cpos (starEach es X.env)).any (·.1)=false:=by rfl) :
 PE X (.Call (.Attribute o name apos) (e::es) [] cpos) (tBM X.K T r to t):=by
 intro pins s σ H Q I h;refine wpAny_Call_method_late hbase hfew hline rfl (thn (ho pins s σ H _ I h) fun v s1 ⟨x,H1,I1,r1,ty,q1⟩=>?_);obtain⟨h1,h2⟩:=tyV_is I1 r1 ty;refine⟨T,id,pa,slot,hty,h1,h2,?_⟩;have hA:=ha cpos pins s1 σ H1 _ I1 q1;rw[hs]at hA ⊢;refine Calls.callWith_builtin (by show (false ||(backTo cpos (starEach es X.env)).any (·.1))=false;rw[hplain]<;>rfl) (Calls.evalArgs_plain ?_)
 exact thn hA fun us s2 ⟨vs,H2,I2,r2,q2⟩=>hm pins s2 σ H2 x vs v us Q I2 r1 r2 q2
/- xs.append(e),list.index on a module's tuple .. are MtR facts of 06m -/
end
end L2
namespace L2
open PySem PySem.Spec PyProof.Rows
noncomputable def MtM(X:Cx)(id:String)(r:V->List V->Hp->VK->Prop):Prop :=
 ∀(pins:List (Addr×Obj)) (s:Shared) (σ:St) (H:Hp) (x:V) (xs:List V) (v:Value) (us:List Value) (Q:VK),Inv X pins σ H s->jM x v->jA xs us->r x xs H Q ->
  wpAny (model X.prog X.w) X.A (call (.builtin id) (v::us)) (EP X pins σ Q) X.xe s
theorem jA.one:∀ {x:V} {us:List Value},jA [x] us->∃u,us=[u]/\jM x u
 |_,_,.cons r .nil=>⟨_,rfl,r⟩
theorem jA.rep{xs:List V}{us:List Value}(h:jA xs us):∀k:Nat,jA (List.replicate k xs).flatten (List.replicate k us).flatten
 |0=>.nil
 |k+1=>by
  rw[List.replicate_succ,List.replicate_succ,List.flatten_cons,List.flatten_cons];exact jA.append h (jA.rep h k)
theorem foldl_rep(its:List Value):∀(k:Nat) (acc:List Value),
 List.foldl (fun x1 x2=>x1++x2) acc.toArray (List.replicate k its.toArray)=(acc++(List.replicate k its).flatten).toArray
 |0,acc=>by simp
 |k+1,acc=>by
  have e:acc.toArray++its.toArray=(acc++its).toArray:=by simp
  have e2:(acc++its)++(List.replicate k its).flatten=acc++(List.replicate (k+1) its).flatten:=by
   rw[List.replicate_succ,List.flatten_cons,List.append_assoc]
  rw[<- e2,<- foldl_rep its k (acc++its),<- e,List.replicate_succ,List.foldl_cons]
section
variable {X:Cx} {pins:List (Addr×Obj)} {σ:St} {H:Hp} {s:Shared} {l b:Addr} {xs ys zs:List V}
theorem Inv.lset{its its':List Value}{n:Nat}{f:Array Value->Array Value}{t':Nat}(I:Inv X pins σ H s)(hH:H l=some (.lst xs))
 (e:s.heap.get? l=some { cls:=.type "list",data:=.seq its.toArray n }) (hf:f its.toArray=its'.toArray) (hv:jA ys its') (hz:ys.length<=sizeLine) :
 Inv X pins σ (upd H l (.lst ys)) { s with heap:=s.heap.update l (Obj.mapSeq f),toks:=t' }:=by
 have q:=PySem.IsL.update e f;rw[hf]at q;refine I.write (x:=l) (e:=l) (by rw[hH];exact trivial) (.inl rfl) (fun b' u hb hu=>(Heap.get?_update_other s.heap (Obj.mapSeq f) (Ne.symm hb)).trans hu) ⟨_,q⟩ ?_;exact⟨hz,its',_,hv,q⟩
theorem Inv.lnew{its:List Value}{t':Nat}(I:Inv X pins σ H s)(hv:jA ys its)(hz:ys.length<=sizeLine) :
 Inv X pins σ (upd H s.heap.objs.size (.lst ys)) { s with heap:=s.heap.push { cls:=.type "list",data:=.seq its.toArray },toks:=t' } :=
 I.laid (fun _ _ q=>Heap.get?_push_of_some _ q) (Nat.le_refl _) ⟨hz,its,0,hv,Heap.get?_push_size _ rfl⟩
theorem Inv.fresh(I:Inv X pins σ H s):H s.heap.objs.size=none:=I.hok.fresh (Nat.le_refl _)
theorem Inv.lstM(I:Inv X pins σ H s)(hH:H l=some (.lst xs)):xs.length<=sizeLine/\∃(its:List Value) (n:Nat),jA xs its/\xs.length=its.length/\s.heap.get? l=some { cls:=.type "list",data:=.seq its.toArray n }:=by
 obtain⟨z,its,n,r,e⟩:=I.hok l _ hH;exact⟨z,its,n,r,r.length,e⟩
theorem notLongL{n:Nat}(h:n<=sizeLine):Builtin.List.listTooLong n=false:=by
 unfold Builtin.List.listTooLong;exact decide_eq_false (by omega)
end
section
variable {X:Cx}
noncomputable def rAppend:V->List V->Hp->VK->Prop:=fun x vs H Q=>∃l xs y,x=.ref l/\vs=[y]/\H l=some (.lst xs)/\xs.length<sizeLine/\Q .non (upd H l (.lst (xs ++ [y])))
theorem mt_append:MtM X "list.append" rAppend:=by
 intro pins s σ H x vs v us Q I rx rv h;obtain⟨l,xs,y,rfl,rfl,hH,hz,q⟩:=h;cases rx;obtain⟨u,rfl,ru⟩:=rv.one;obtain⟨z,its,n,r,hl,e⟩:=I.lstM hH;refine call_meets F.slot_list_append ⟨_,e,rfl⟩ F.entry_list_append (F.args_list_append_2 _ _) (PySem.list_append l its.toArray n u (by rw[List.size_toArray];omega)) ⟨e,?_⟩;refine⟨.non,_,I.lset (its':=its ++ [u]) hH e (by simp) (r.append (.cons ru .nil)) ?_,rfl,q⟩;rw[List.length_append,List.length_singleton];omega
theorem len_rep{α:Type}(xs:List α)(k:Nat):(List.replicate k xs).flatten.length=k*xs.length:=by
 induction k with
 |zero=>simp
 |succ k ih=>rw[List.replicate_succ,List.flatten_cons,List.length_append,ih,Nat.succ_mul,Nat.add_comm]
end
section
variable {prog:Program} {w:World} {A:Around} {E:Value->Shared->Prop} {s:Shared}
set_option maxRecDepth 100000 in
end
section
variable {X:Cx}
end
end L2
namespace Att
open PySem PySem.W PySem.Calls PyProof.Rows
theorem vf{P:Params}{h:Heap}:∀(ns:List Int) (vs:List Value),WellAll P h vs (ns.map WData.int)->IntsAre vs ns:=by
 intro ns
 induction ns with
 |nil =>
  intro vs w;rw[List.map_nil]at w;cases w
  exact .nil
 |cons n ns ih =>
  intro vs w;rw[List.map_cons]at w
  cases w with
  |cons a b =>
   cases a;exact .cons _ _ (ih _ b)
theorem script_of{l:OpenLaw}{n:Nat}(hn:l.most=some n){P:Params}{h:Heap}{args:List WData}{vals:List Value}
 (hpre:l.row.toRowW.claim.pre args=true) (hwl:WellAll P h vals args) :
 ∃a vs ns,vals=[Value.ref a]/\args=[WData.list (ns.map WData.int)]/\h.get? a=some { cls:=.type "list",data:=.seq vs.toArray }/\IntsAre vs ns/\ns.length<=n:=by
 have hsh:WShape.hasAll [] args [.list .int]=true:=(pre_splitW hpre).1;have hc:l.pre.holds [] { args:=args }=true:=(pre_splitW hpre).2;obtain⟨d,r,rfl,h1,h2⟩:=hasAllW_cons hsh;obtain rfl:=hasAllW_nil h2;obtain⟨xs,rfl,h3⟩:=hasW_list h1;obtain⟨ns,rfl⟩:=items_int h3
 have hlen:ns.length<=n:=by
  unfold OpenLaw.pre at hc
  have h4:(WTm.not (.lt (.lit (.int (n:Int))) (.len (.arg 0)))).holds [] { args:=[.list (ns.map .int)] }=true:=by
   have h4:=(holds_andW hc).1;rw[hn]at h4;exact h4
  have h5:=condW_of h4 (w_not (w_lt w_lit (w_len_list (w_arg rfl))));rw[List.length_map]at h5
  refine Nat.le_of_not_lt fun q=>?_
  have q':(n:Int)<((ns.length:Nat):Int):=by omega
  first
   |(rw[decide_eq_true q']at h5;exact absurd h5 (by decide))
   |(simp at h5;omega)
 cases hwl with
 |cons w1 w2 =>
  cases w2
  cases w1 with
  |list ho hall=>exact⟨_,_,ns,rfl,rfl,ho,vf ns _ hall,hlen⟩
theorem post_true(l:OpenLaw)(args:List WData):l.row.toRowW.claim.post args (.bool true) args=true :=
 postW_of (r:=l.row.toRowW) (X:=(true == true))
  (show WShape.has [] (.bool true) .bool=true by first|rfl|decide|simp[WShape.has,WShape.arms,WShape.armsAll])
  (show (WTm.eq .res (.lit (.bool true))).value [] { args:=args,res:=some (.bool true),after:=args }=some (.bool (true == true)) from w_eq_bool (w_res rfl) w_lit) rfl
theorem attach_call{l:OpenLaw}{n:Nat}{q:Program}{loose:List Str}{XP:(Str->Option Value)->Heap->Prop}{YP:World->Heap->Prop}{d:DefRec}
 (hn:l.most=some n) (hdf:d.params.defaults=[])
 (call:∀(w:World) (s₀ s₁:Shared) (mg mb:Str->Option Value) (fa:Addr) (o:Obj) (pm cd doc:Value) (a:Addr) (vs:List Value) (ns:List Int),
  Ground q loose [] XP w s₀ mg mb s₁.heap->YP w s₁.heap ->
  s₁.heap.get? fa=some o->o.data=.func (docDef d.name d.params d.body d.scope pm cd doc)->s₁.heap.CodeRec cd d.name->mg d.name=some (.ref fa) ->
  s₁.heap.get? a=some { cls:=.type "list",data:=.seq vs.toArray }->IntsAre vs ns->ns.length<=n->s₁.gens=#[] ->
  codeAny (model l.prog w) callerA (.call (.ref fa) ⟨[.ref a],[]⟩) (fun r s'=>r=.ok (.ret (.bool true))/\OldK s₁.heap s'.heap/\s'.os=s₁.os/\AllBare s'.gens) s₁) :
 WalkO q loose XP YP l.row.toRowW d [] (fun f vs=>PySem.call f vs):=by
 intro w s₀ s₁ mg mb G Y fa o pm cd doc dV kV ho hd hcd hD hmg hg args vals as hpre hlay hrd hwl hlo;obtain rfl:dV=.none:=Dflts.none hD hdf;obtain rfl:kV=.none:=Dflts.noKw hD;obtain⟨a,vs,ns,rfl,rfl,hobj,hints,hlen⟩:=script_of hn hpre hwl;refine enter_call (codeAny_mono (call w s₀ s₁ mg mb fa o pm cd doc a vs ns G Y ho (fd_plain hd) hcd hmg hobj hints hlen hg) fun r s' hq=>?_);obtain⟨rfl,h2,h3,h4⟩:=hq;exact⟨.inl ⟨.bool true,.bool true,[],rfl,fun _=>rfl,.bool true,post_true l _,fun _=>⟨List.Pairwise.nil,fun _ hm=>(nomatch hm)⟩⟩,h2,h3,h4⟩
section
variable {prog:Program} {w:World} {A:Around} {E:Value->Shared->Prop} {s:Shared} {K:Frag}
end
end Att
namespace L2
open PySem PySem.Spec PyProof.Rows
theorem xX:∀ {vs:List Value} {ns:List Int},IntsAre vs ns->jA (ns.map V.int) vs
 |_,_,.nil=>.nil
 |_,_,.cons n t h=>.cons ⟨t,rfl⟩ (xX h)
noncomputable def Only(H:Hp):Prop:=∀b,H b=none\/∃o xs,H b=some (.frz o (.lst xs))
theorem law_call{P:Program}{w:World}{K:PySem.W.Frag}{mg mb:Str->Option Value}{CX:CXT}{k:Nat}{fa a:Addr}{fd:FuncData}{x:Str}{sp:Sp}{s₁:Shared}{vs:List Value}{ns:List Int}
 (KX:K.In s₁.heap) (hns:s₁.heap.Ns mainGlobals mg) (hb:s₁.heap.Ns builtinsNs mb) (hbb:∀x:Str,x ≠ "__name__"->mb x=bootBuiltins x) (hlim:s₁.heap.NoLimit/\s₁.heap.NoDigits) (hg:s₁.gens=#[])
 (ha:s₁.heap.get? a=some { cls:=.type "list",data:=.seq vs.toArray }) (hi:IntsAre vs ns) (hl:ns.length<=sizeLine) (hr:Room k callerA)
 (F:∀base:Heap,K.In base->base.Ns mainGlobals mg->FnOk P w K mg base CX k fa fd [x] sp) (hbind:∀(s:Shared) (u:Value),BindsTo s fd ⟨[u],[]⟩ [(x,u)])
 (hsp:∀H:Hp,Only H->SqL K H a (ns.map V.int)->sp [.ref a] H (fun v _=>v=.bl true) fun _ _ _=>False)
 (hCX:∀H e s',CX [] H s₁ (fun _ _ _=>False) e s'->False) :
 codeAny (model P w) callerA (.call (.ref fa) ⟨[.ref a],[]⟩) (fun r s'=>r=.ok (.ret (.bool true))/\OldK s₁.heap s'.heap/\s'.os=s₁.os/\AllBare s'.gens) s₁:=by
 have rv:=xX hi;have lenV:=hi.length
 have core:∀H:Hp,Only H->SqL K H a (ns.map V.int)->HOk P w H s₁.heap->(∀b,H b≠none->b=a)->(H a≠none->K.lookup a=none) ->
  codeAny (model P w) callerA (.call (.ref fa) ⟨[.ref a],[]⟩) (fun r s'=>r=.ok (.ret (.bool true))/\OldK s₁.heap s'.heap/\s'.os=s₁.os/\AllBare s'.gens) s₁:=by
  intro H hO hS hok hA hK
  have base_of:∀ {b:Addr} {o:Obj},s₁.heap.get? b=some o->H b=none->(KQ s₁.heap H).get? b=some o:=fun e n=>hidT_get e n
  have noA:∀ {b:Addr} {o:Obj} {es:Array DictEntry} {ep:Nat},s₁.heap.get? b=some o->o.data=.dict es ep->H b=none:=fun {b o es ep} e d=>by
   cases q:H b with
   |none=>rfl
   |some u =>
    have e':b=a:=hA b (by rw[q];simp);subst e';rw[ha]at e;cases e;have d':Data.seq vs.toArray _=Data.dict es ep:=d;cases d'
  have nsK:∀ {b:Addr} {m:Str->Option Value},s₁.heap.Ns b m->(KQ s₁.heap H).Ns b m:=fun {b m} ⟨o,es,ep,e,d,r⟩=>⟨o,es,ep,base_of e (noA e d),d,r⟩
  have hKb:K.In (KQ s₁.heap H):=fun b o e=>base_of (KX b o e) (by
   cases q:H b with
   |none=>rfl
   |some u =>
    have e':b=a:=hA b (by rw[q];simp);subst e'
    rw[hK (by rw[q];simp)]at e;cases e)
  have hM:Mod K mg (KQ s₁.heap H):=⟨hKb,nsK hns,⟨mb,nsK hb,hbb⟩,(let ⟨mc,h1,h2⟩:=hlim.1;⟨mc,nsK h1,h2⟩),(let ⟨mc,h1,h2⟩:=hlim.2;⟨mc,nsK h1,h2⟩)⟩
  have e0:Env0 P w K mg (KQ s₁.heap H) callerA [] s₁ H:=⟨rfl,hM,fun b o e=>of_hidT e,Nat.le_of_eq (hidT_size _ _),trivial,fun b hb=>absurd (show b∈([]:List Addr) from hb) (by simp),hok,.of_eq hg⟩
  refine codeAny_mono ((F _ hKb (nsK hns)).run callerA [] s₁ H ⟨[.ref a],[]⟩ [.ref a] [.ref a] _ _ hr e0 (hbind s₁ (.ref a)) (.cons rfl .nil) (hsp H hO hS)) fun r s' h=>?_
  cases r with
  |error e=>exact(hCX H e s' h).elim
  |ok fl =>
   cases fl with
   |next=>exact False.elim h
   |brk=>exact False.elim h
   |cont=>exact False.elim h
   |ret u =>
    obtain⟨v,H',os,bare,un,hok',r',q⟩:=h;have q':v=.bl true:=q;subst q';obtain rfl:u=Value.bool true:=r';refine⟨rfl,OldK.of_keep fun b o e=>?_,os,bare⟩
    cases q:H b with
    |none=>exact un.keep b o e q (by intro z;exact absurd (show b∈([]:List Addr) from z) (by simp)) (by simp)
    |some u =>
     rcases hO b with z|⟨ob,xs,z⟩
     ·rw[q]at z;cases z
     ·have z2:=un.frzs b ob _ z;obtain⟨e1,_⟩:=hok b _ z;obtain⟨e2,_⟩:=hok' b _ z2;rw[e]at e1;cases e1;exact e2
 cases hk:K.lookup a with
 |some o =>
  have e:=KX a o hk;rw[ha]at e;cases e
  refine core (fun _=>none) (fun _=>.inl rfl) (.inr ⟨_,vs.toArray,_,hk,rfl,rfl,rfl,by rw[List.size_toArray,lenV];exact hl,by simpa using rv⟩) (fun b u z=>by have z':(none:Option HO)=some u:=z;cases z') (fun b z=>absurd rfl z) fun z=>absurd rfl z
 |none =>
  refine core (fun b=>if b=a then some (.frz { cls:=.type "list",data:=.seq vs.toArray } (.lst (ns.map V.int))) else none) (fun b=>?_) (.inl (.inr ⟨{ cls:=.type "list",data:=.seq vs.toArray },if_pos rfl⟩)) (fun b u z=>?_) (fun b z=>?_) fun _=>hk
  ·by_cases hb:b=a
   ·exact .inr ⟨_,_,if_pos hb⟩
   ·exact .inl (if_neg hb)
  ·by_cases hb:b=a
   ·have z':=(if_pos hb).symm.trans z;cases z';subst hb;exact⟨ha,by rw[List.length_map];exact hl,vs,_,rv,ha⟩
   ·have z':=(if_neg hb).symm.trans z;cases z'
  ·by_cases hb:b=a
   ·exact hb
   ·exact absurd (if_neg hb) z
end L2
namespace L2
open PySem PySem.Spec PyProof.Rows
theorem walk_of{l:PySem.W.OpenLaw}{n k:Nat}{q:Program}{loose:List Str}{XP:(Str->Option Value)->Heap->Prop}{YP:World->Heap->Prop}{d:DefRec}{K:Params->PySem.W.Frag}{CX:World->CXT}{sp:World->Sp}{x:Str}
 (hn:l.most=some n) (hn2:n<=sizeLine) (hdf:d.params.defaults=[]) (hr:Room k callerA)
 (hY:∀(w:World) (h:Heap),YP w h->(K w.params).In h)
 (F:∀(w:World) (mg:Str->Option Value) (fa:Addr) (h:Heap),(K w.params).In h->h.Ns mainGlobals mg->mg d.name=some (.ref fa) ->
  ∃fd:FuncData,(∀(s:Shared) (u:Value),BindsTo s fd ⟨[u],[]⟩ [(x,u)]) /\
   ∀base:Heap,(K w.params).In base->base.Ns mainGlobals mg->FnOk l.prog w (K w.params) mg base (CX w) k fa fd [x] (sp w))
 (hsp:∀(w:World) (H:Hp) (a:Addr) (ns:List Int),ns.length<=n->Only H->SqL (K w.params) H a (ns.map V.int)->sp w [.ref a] H (fun v _=>v=.bl true) fun _ _ _=>False)
 (hCX:∀(w:World) (H:Hp) (s:Shared) (e:Value) (s':Shared),CX w [] H s (fun _ _ _=>False) e s'->False) :
 PySem.W.WalkO q loose XP YP l.row.toRowW d [] (fun f vs=>PySem.call f vs):=by
 refine Att.attach_call hn hdf fun w s₀ s₁ mg mb fa o pm cd doc a vs ns G Y ho hd hcd hmg hobj hints hlen hg=>?_
 have KX:=hY w _ Y;obtain⟨fd,hb,hF⟩:=F w mg fa _ KX G.T.g hmg
 exact law_call KX G.T.g G.T.b G.T.builtins ⟨G.T.nolimit,G.T.nodigits⟩ hg hobj hints (Nat.le_trans hlen hn2) hr hF hb (fun H hO hS=>hsp w H a ns hlen hO hS) fun H e s'=>hCX w H s₁ e s'
end L2
/- THE LAST THEOREM (shape;LID,My.* are yours):
   My.Adr: a structure of the addresses that your layer names (classes,functions);My.Txt K t: a structure (Prop) of the equations over K;
   My.txt_mk:{K} {implicit addresses ..} (e1:nsIn K mainGlobals "law"=some (some (.ref f))) (e2:K.lookup f=some ⟨oc,od,.func (fnOf "law" "law" params body scope dV kV doc pm an cdv ct),sl⟩) (e3:codeIn K cdv "law"=true) ..:∃t,My.Txt K t
set_option maxRecDepth 100000 in
set_option maxHeartbeats 0 in
theorem PySem.Challenge.cw_LID_holds : PySem.Challenge.rw_LID.Holds := by
 w_on;o_law;k_head;(case hw=>w_witness2)
 k_fill
 refine L2.walk_of (l:=PySem.Challenge.rw_LID) (n:=63) (k:=40) (x:="script") (CX:=fun w=>..) (sp:=fun _=>My.sp_law) rfl (by decide) rfl ⟨rfl,by decide,by decide⟩ (fun w h Y=>PySem.W.kIn_of Y) ?F ?S ?C
 case F =>
  intro w mg fa h KX G hmg
  have T:∃t,My.Txt (L2.KOf KX) t:=by
   dsimp only[L2.KOf]                          -- K must stand as «<heap const> w.params» for k_is
   refine' My.txt_mk ?e1 ?e2 ?e3 ..
   (case e1=>PySem.W.k_is)                    -- in the order: a name -> its address -> its object -> its parts
   (case e2=>PySem.W.k_is)
   ..
  obtain⟨t,T⟩:=T;have e0:=hmg.symm.trans (PySem.W.mg_of KX G T.law)
  cases e0                                       -- fa is the law's own address
  exact⟨_,fun s u=>.of_eq rfl,fun base kb nb=>My.law_fn T kb nb⟩     -- if «.of_eq rfl» comes too early: refine'⟨_,?b,fun base kb nb=>My.law_fn T kb nb⟩;exact fun s u=>.of_eq rfl
 case S=>exact fun w H a ns hl hO hS=>..
 case C=>exact ..
(the tactic k_is has no namespace: write k_is) -/
namespace L2
open PySem PySem.Spec PyProof.Rows
noncomputable def qQ(s:Stmt):Arguments:=match s with
 |.FunctionDef _ a _ _ _ _ _ _ _ _=>a
 |_=>{ posonlyargs:=[],args:=[],vararg:=none,kwonlyargs:=[],kw_defaults:=[],kwarg:=none,defaults:=[] }
noncomputable def jY(s:Stmt):List Stmt:=match s with
 |.FunctionDef _ _ b _ _ _ _ _ _ _=>b
 |_=>[]
noncomputable def jj(s:Stmt):Scope:=match s with
 |.FunctionDef _ _ _ _ _ _ sc _ _ _=>sc
 |_=>{ kind:=.function,names:=[],isGenerator:=false,isCoroutine:=false }
abbrev E0:XK:=fun _ _ _=>False
structure Fun (K:PySem.W.Frag) (x qual:Str) (st:Stmt) (f:Addr) (fd:FuncData):Prop where
 ex:∃(oc:Value) (od:Option Addr) (kV doc pm:Value) (an:Option Addr) (cdv ct:Value) (osl:Array (Option Value)),
  fd=PySem.W.fnOf x qual (qQ st) (jY st) (jj st) .none kV doc pm an cdv ct/\K.lookup f=some ⟨oc,od,.func fd,osl⟩/\PySem.W.codeIn K cdv qual=true
 kp:PySem.W.keepIn K (.ref f)=true
section
variable {P:Program} {w:World} {K:PySem.W.Frag} {mg:Str->Option Value} {base:Heap}
theorem fun_mk{x qual:Str}{st:Stmt}{f:Addr}{oc:Value}{od an:Option Addr}{osl:Array (Option Value)}{kV doc pm cdv ct:Value}(l:K.lookup f=some ⟨oc,od,.func (PySem.W.fnOf x qual (qQ st) (jY st) (jj st) .none kV doc pm an cdv ct),osl⟩)
 (c:PySem.W.codeIn K cdv qual=true) (k:PySem.W.keepIn K (.ref f)=true):Fun K x qual st f (PySem.W.fnOf x qual (qQ st) (jY st) (jj st) .none kV doc pm an cdv ct):=⟨⟨oc,od,kV,doc,pm,an,cdv,ct,osl,rfl,l,c⟩,k⟩
end
section
variable {X:Cx}
end
noncomputable def jc(H H':Hp):Prop:=∀b o,H b=some o->H' b=some o
theorem jc.refl(H:Hp):jc H H:=fun _ _ h=>h
theorem jc.trans{H H1 H2:Hp}(a:jc H H1)(b:jc H1 H2):jc H H2:=fun c o h=>b c o (a c o h)
theorem jc.free{H H':Hp}(e:jc H H'){l:Addr}(h:H' l=Option.none):H l=Option.none:=by
 cases q:H l with
 |none=>rfl
 |some o =>
  rw[e l o q]at h;cases h
theorem jc.seq{K:PySem.W.Frag}{H H':Hp}{a:Addr}{xs:List V}(e:jc H H')(h:SqL K H a xs):SqL K H' a xs:=by
 rcases h with(h|⟨o,h⟩)|h
 ·exact .inl (.inl (e _ _ h))
 ·exact .inl (.inr ⟨o,e _ _ h⟩)
 ·exact .inr h
end L2
namespace Z
open PySem
set_option genInjectivity true in
inductive D where
 |non|bl (b:Bool)|int (i:Int)|str (x:Str)|tup (xs:List D)|lst (xs:List D)
mutual
noncomputable def eqD:D->D->Bool
 |.non,.non=>true
 |.bl a,.bl b=>a == b
 |.bl a,.int j=>(if a then 1 else 0) == j
 |.int i,.bl b=>i == (if b then 1 else 0)
 |.int i,.int j=>i == j
 |.str x,.str y=>x == y
 |.tup xs,.tup ys=>xr xs ys
 |.lst xs,.lst ys=>xr xs ys
 |_,_=>false
noncomputable def xr:List D->List D->Bool
 |[],[]=>true
 |x::xs,y::ys=>eqD x y&&xr xs ys
 |_,_=>false
end
mutual
noncomputable def kt:D->Nat
 |.tup xs=>xY xs+1
 |.lst xs=>xY xs+1
 |_=>0
noncomputable def xY:List D->Nat
 |[]=>0
 |x::xs=>max (kt x) (xY xs)
end
mutual
noncomputable def nol:D->Bool
 |.tup xs=>nols xs
 |.lst _=>false
 |_=>true
noncomputable def nols:List D->Bool
 |[]=>true
 |x::xs=>nol x&&nols xs
end
structure XD where
 c:Nat
 t:Str
 f:List D
inductive BOp where
 |add|sub|mul|fdiv|mod|shl|shr|band|pow
 deriving DecidableEq
inductive COp where
 |eq|ne|lt|le|gt|ge|isN|notN|isT|notT
 |inn|nin
 deriving DecidableEq
inductive Bi where
 |abs|max|min|len|int|list|sum|all|any|tuple|str
 deriving DecidableEq
inductive Mt where
 |bitlen
 deriving DecidableEq
inductive Ty where
 |int|bool|tuple|list|str
 deriving DecidableEq
inductive SOp where
 |idx|join|part
 deriving DecidableEq
noncomputable def SOp.nm:SOp->Str
 |.idx=>"index"
 |.join=>"join"
 |.part=>"partition"
inductive Ex where
 |var (i:Nat)
 |cst (d:D)
 |con (k:Nat)
 |bin (o:BOp) (a b:Ex)
 |neg (a:Ex)
 |not (a:Ex)
 |cmp (o:COp) (a b:Ex)
 |chain (o p:COp) (a b c:Ex)
 |and (a b:Ex)
 |or (a b:Ex)
 |ife (c a b:Ex)
 |tup (es:List Ex)
 |lst (es:List Ex)
 |ix (a b:Ex)
 |call (f:Nat) (es:List Ex)
 |bi (f:Bi) (es:List Ex)
 |meth (m:Mt) (o:Ex)
 |isi (a:Ex) (t:Ty)
 |compR (es:List Ex) (e:Ex)
 |compE (a e:Ex)
 |compF (a c e:Ex)
 |slc (a l h:Ex)
 |sm (o:SOp) (a b:Ex)
 |fst (es:List Ex)
inductive Sm where
 |nop
 |seq (a b:Sm)
 |set (i:Nat) (e:Ex)
 |unp (is:List Nat) (e:Ex)
 |ret (e:Ex)
 |ite (c:Ex) (a b:Sm)
 |whl (c:Ex) (b:Sm)
 |forR (i:Nat) (es:List Ex) (b:Sm)
 |brk|cnt
 |never
 |new (i:Nat)
 |app (i:Nat) (e:Ex)
 |shr (i:Nat)
 |raise (x:Str)
 |retX (fs:List (Nat×List Ex)) (f:Nat) (es:List Ex)
 |tryX (b:Sm) (hs:List (Str×Str×Bool))
 |raiseA (x:Str) (e:Ex)
 |setX (i:Nat) (fs:List (Nat×List Ex)) (f:Nat) (es:List Ex)
 |retP (w:Str) (f:Nat) (es:List Ex)
inductive Sl where
 |sh (d:D)
 |ow (ds:List D)
 |ot (rows:List (List D))
abbrev Sto:=List (Option Sl)
noncomputable def getS:Sto->Nat->Option Sl
 |[],_=>none
 |x::_,0=>x
 |_::r,i+1=>getS r i
noncomputable def setS:Sto->Nat->Option Sl->Sto
 |[],_,_=>[]
 |_::r,0,v=>v::r
 |x::r,i+1,v=>x::setS r i v
abbrev bits(i:Int):Nat:=Builtin.Int.intBits i
noncomputable def lim:Nat:=16777216
noncomputable def zm(i j:Int):Prop:=bits i<=64\/bits j<=64\/bits i+bits j<=134217728
noncomputable def ShlOk(i j:Int):Prop:=0<=j/\(bits i:Int)+j<=134217728
noncomputable def PowOk(i j:Int):Prop:=0<=j/\(bits i:Int)*j<=134217728
noncomputable def ue(n:Nat)(k:Int):Prop:=(-9223372036854775808<=k/\k<9223372036854775808)/\n*k.toNat<=lim
noncomputable def yN(f:Int->Int->(D->Prop)->Prop):D->D->(D->Prop)->Prop
 |.int i,.int j,Q=>f i j Q
 |_,_,_=>False
noncomputable def addD:D->D->(D->Prop)->Prop
 |.int i,.int j,Q=>Q (.int (i+j))
 |.str x,.str y,Q=>x.length+y.length<=lim/\Q (.str (x++y))
 |.lst xs,.lst ys,Q=>xs.length+ys.length<=lim/\Q (.lst (xs++ys))
 |_,_,_=>False
noncomputable def mulD:D->D->(D->Prop)->Prop
 |.int i,.int j,Q=>zm i j/\Q (.int (i*j))
 |.lst xs,.int k,Q=>ue xs.length k/\Q (.lst (List.replicate k.toNat xs).flatten)
 |.str x,.int k,Q=>ue x.length k/\Q (.str ⟨(List.replicate k.toNat x.cps.toList).flatten.toArray⟩)
 |_,_,_=>False
noncomputable def xt:BOp->D->D->(D->Prop)->Prop
 |.add=>addD
 |.sub=>yN fun i j Q=>Q (.int (i-j))
 |.mul=>mulD
 |.fdiv=>yN fun i j Q=>(j≠0/\bits j<=9000)/\Q (.int (i.fdiv j))
 |.mod=>yN fun i j Q=>j≠0/\Q (.int (i.fmod j))
 |.shl=>yN fun i j Q=>ShlOk i j/\Q (.int (i*2^j.toNat))
 |.shr=>yN fun i j Q=>0<=j/\Q (.int (i / 2^j.toNat))
 |.band=>yN fun i j Q=>Q (.int (Builtin.bitAnd i j))
 |.pow=>yN fun i j Q=>PowOk i j/\Q (.int (i^j.toNat))
noncomputable def isNonD:D->Bool
 |.non=>true
 |_=>false
noncomputable def nonD(t:Bool):D->D->(D->Prop)->Prop
 |x,.non,Q=>Q (.bl (isNonD x == t))
 |_,_,_=>False
noncomputable def isTD(t:Bool):D->D->(D->Prop)->Prop
 |.bl b,.bl c,Q=>Q (.bl ((b == c) == t))
 |_,_,_=>False
noncomputable def lexlt(p q:Int×Int):Bool:=decide (p.1<q.1\/(p.1=q.1/\p.2<q.2))
noncomputable def prD(p:Int×Int):D:=.tup [.int p.1,.int p.2]
noncomputable def sortD:D->(D->Prop)->Prop
 |.lst xs,Q=>xs.length<64/\((∃ns:List Int,xs=ns.map D.int/\∀ms:List Int,ms.Perm ns->ms.Pairwise (·<=·)->Q (.lst (ms.map D.int))) \/
  ∃ps:List (Int×Int),xs=ps.map prD/\∀qs:List (Int×Int),qs.Perm ps->qs.Pairwise (fun a b=>lexlt b a=false)->Q (.lst (qs.map prD)))
 |_,_=>False
noncomputable def inD(t:Bool):D->D->(D->Prop)->Prop
 |.str i,.str j,Q=>Q (.bl ((!(Builtin.Str.occurrences j i 0 j.length 1).isEmpty) == t))
 |.str i,.lst ys,Q=>∃ss:List Str,ys=ss.map .str/\ys.length<=lim/\Q (.bl (ss.contains i == t))
 |.int i,.lst ys,Q=>∃ns:List Int,ys=ns.map .int/\ys.length<=lim/\Q (.bl (ns.contains i == t))
 |.tup xs,.lst ys,Q=>∃z:(Int×Int)×List (Int×Int),.tup xs=prD z.1/\ys=z.2.map prD/\Q (.bl (z.2.contains z.1 == t))
 |_,_,_=>False
noncomputable def kT:COp->D->D->(D->Prop)->Prop
 |.eq=>fun x y Q=>min (kt x) (kt y)<=100/\Q (.bl (eqD x y))
 |.ne=>fun x y Q=>min (kt x) (kt y)<=100/\Q (.bl (!eqD x y))
 |.lt=>yN fun i j Q=>Q (.bl (decide (i<j)))
 |.le=>yN fun i j Q=>Q (.bl (decide (i<=j)))
 |.gt=>yN fun i j Q=>Q (.bl (decide (j<i)))
 |.ge=>yN fun i j Q=>Q (.bl (decide (j<=i)))
 |.isN=>nonD true
 |.notN=>nonD false
 |.isT=>isTD true
 |.notT=>isTD false
 |.inn=>inD true
 |.nin=>inD false
noncomputable def atD(xs:List D)(i:Int):Option D :=
 if 0<=i then xs[i.toNat]? else if -(xs.length:Int)<=i then xs[(i+xs.length).toNat]? else none
noncomputable def ixD:D->D->(D->Prop)->Prop
 |.lst xs,.int i,Q=>∃d,atD xs i=some d/\Q d
 |.tup xs,.int i,Q=>∃d,atD xs i=some d/\Q d
 |.str x,.int i,Q=>∃c,(x.length<=lim/\0<=i/\x.cps[i.toNat]?=some c)/\Q (.str ⟨#[c]⟩)
 |_,_,_=>False
noncomputable def tyD:Ty->D->Bool
 |.int,.int _=>true
 |.int,.bl _=>true
 |.bool,.bl _=>true
 |.tuple,.tup _=>true
 |.list,.lst _=>true
 |.str,.str _=>true
 |_,_=>false
noncomputable def zH(f:D->(D->Prop)->Prop):List D->(D->Prop)->Prop
 |[x],Q=>f x Q
 |_,_=>False
noncomputable def two2(f:D->D->(D->Prop)->Prop):List D->(D->Prop)->Prop
 |[x,y],Q=>f x y Q
 |_,_=>False
noncomputable def absD:D->(D->Prop)->Prop
 |.int i,Q=>Q (.int (if i<0 then -i else i))
 |_,_=>False
noncomputable def lenD:D->(D->Prop)->Prop
 |.lst xs,Q=>Q (.int xs.length)
 |.tup xs,Q=>Q (.int xs.length)
 |.str x,Q=>x.length<=lim/\Q (.int x.length)
 |_,_=>False
noncomputable def toIntD:D->(D->Prop)->Prop
 |.int i,Q=>Q (.int i)
 |.bl b,Q=>Q (.int (if b then 1 else 0))
 |.str x,Q=>∃v,((x.length<=640\/(640<(PySem.numSeenOf x).length/\x.length<=lim))/\PySem.intText? x=some v)/\Q (.int v)
 |_,_=>False
noncomputable def toStrD:D->(D->Prop)->Prop
 |.int i,Q=>i.natAbs.log2<1920/\Q (.str (toString i:String))
 |_,_=>False
noncomputable def toListD:D->(D->Prop)->Prop
 |.lst xs,Q=>Q (.lst xs)
 |.tup xs,Q=>Q (.lst xs)
 |_,_=>False
noncomputable def toTupD:D->(D->Prop)->Prop
 |.lst xs,Q=>Q (.tup xs)
 |.tup xs,Q=>Q (.tup xs)
 |_,_=>False
noncomputable def zX(f:List D->(D->Prop)->Prop):D->(D->Prop)->Prop
 |.lst xs,Q=>f xs Q
 |_,_=>False
noncomputable def pick(mx:Bool)(a b:Int):Int:=if mx then (if b > a then b else a) else (if b<a then b else a)
noncomputable def mmF(mx:Bool)(d:Int):List Int->Int
 |[]=>d
 |n::ns=>ns.foldl (pick mx) n
noncomputable def minD:List D->(D->Prop)->Prop
 |[x],Q=>zX (fun xs Q=>∃ns:List Int,xs=ns.map .int/\ns ≠ []/\Q (.int (mmF false 0 ns))) x Q
 |[x,y],Q=>yN (fun i j Q=>Q (.int (if j<i then j else i))) x y Q
 |_,_=>False
noncomputable def biD:Bi->List D->(D->Prop)->Prop
 |.abs=>zH absD
 |.max=>two2 (yN fun i j Q=>Q (.int (if j > i then j else i)))
 |.min=>minD
 |.len=>zH lenD
 |.int=>zH toIntD
 |.list=>zH toListD
 |.tuple=>zH toTupD
 |.str=>zH toStrD
 |.sum=>zH (zX fun xs Q=>∃ns:List Int,xs=ns.map .int/\Q (.int ns.sum))
 |.all=>zH (zX fun xs Q=>∃bs:List Bool,xs=bs.map .bl/\Q (.bl (bs.all id)))
 |.any=>zH (zX fun xs Q=>∃bs:List Bool,xs=bs.map .bl/\Q (.bl (bs.any id)))
noncomputable def sIx(n d:Nat):Option Int->Nat
 |none=>d
 |some v=>if v<0 then (v+(n:Int)).toNat else min v.toNat n
noncomputable def cutD(xs:List D)(lo hi:Option Int):List D:=(xs.drop (sIx xs.length 0 lo)).take (sIx xs.length xs.length hi-sIx xs.length 0 lo)
noncomputable def Kr(x:Str)(lo hi:Option Int):Str:=⟨((x.cps.toList.drop (sIx x.length 0 lo)).take (sIx x.length x.length hi-sIx x.length 0 lo)).toArray⟩
noncomputable def slD:D->Option Int->Option Int->(D->Prop)->Prop
 |.lst xs,lo,hi,Q=>Q (.lst (cutD xs lo hi))
 |.str x,lo,hi,Q=>x.length<=lim/\Q (.str (Kr x lo hi))
 |_,_,_,_=>False
noncomputable def partS(x y:Str):List D:=match Builtin.Str.occurrences x y 0 x.length 1 with
 |i::_=>[.str (Builtin.Str.strSub x 0 i),.str y,.str (Builtin.Str.strSub x (i+y.length) x.length)]
 |[]=>[.str x,.str Str.empty,.str Str.empty]
noncomputable def smD:SOp->Str->D->(D->Prop)->Prop
 |.idx,x,.str y,Q=>∃i r,Builtin.Str.occurrences x y 0 x.length 1=i::r/\Q (.int (i:Nat))
 |.join,x,.lst ys,Q=>∃ss:List Str,(x.length=0/\ys=ss.map .str/\(ss.map (·.length)).sum<=lim)/\Q (.str ⟨(ss.map (·.cps.toList)).flatten.toArray⟩)
 |.part,x,.str y,Q=>(y.length≠0/\x.length<=lim)/\Q (.tup (partS x y))
 |_,_,_,_=>False
noncomputable def kD:Ex->Bool
 |.cst .non=>true
 |_=>false
noncomputable def vN(R:Option Int->Prop):D->Prop
 |.int i=>R (some i)
 |_=>False
noncomputable def prt(b:Bool)(w:(D->Prop)->Prop)(R:Option Int->Prop):Prop:=if b=true then R none else w (vN R)
noncomputable def strD(x:D)(f:Str->Prop):Prop:=match x with|.str xs=>f xs|_=>False
noncomputable def mmD(mx:Bool):D->D->(D->Prop)->Prop
 |.lst xs,.int d,Q=>∃ns:List Int,xs=ns.map .int/\Q (.int (mmF mx d ns))
 |_,_,_=>False
noncomputable def mtD:Mt->D->(D->Prop)->Prop
 |.bitlen,.int i,Q=>Q (.int (bits i))
 |_,_,_=>False
noncomputable def fmtS:D->Option Str
 |.str x=>some x
 |.int i=>if i.natAbs.log2<1920 then some (toString i:String) else none
 |_=>none
structure Ctr where
 pre:List D->Prop
 res:List D->D->Prop
 exn:List D->XD->Prop:=fun _ _=>False
structure Cfg where
 ct:Nat->Ctr
 cn:Nat->D
 fr:Nat->Bool:=fun _=>false
 f2:Nat->Bool:=fun _=>false
 E:XD->Prop:=fun _=>False
noncomputable def Ctr.wp(c:Ctr)(ds:List D)(Q:D->Prop)(E:XD->Prop):Prop:=c.pre ds/\(∀d,c.res ds d->Q d)/\∀x,c.exn ds x->E x
noncomputable def itemsD:D->Option (List D)
 |.lst xs=>some xs
 |.tup xs=>some xs
 |.str x=>some (x.cps.toList.map fun c=>.str ⟨#[c]⟩)
 |_=>none
noncomputable def kc(lo st:Int):Nat->List D
 |0=>[]
 |n+1=>.int lo::kc (lo+st) st n
noncomputable def xi(i:Int):Prop:=-4611686018427387904<=i/\i<4611686018427387904
noncomputable def rgD:List D->(List D->Prop)->Prop
 |[.int hi],Q=>xi hi/\Q (kc 0 1 hi.toNat)
 |[.int lo,.int hi],Q=>(xi lo/\xi hi)/\Q (kc lo 1 (hi-lo).toNat)
 |[.int lo,.int hi,.int st],Q=>(xi lo/\xi hi/\0<st/\st<1000)/\Q (kc lo st (if lo<hi then (hi-lo-1) / st+1 else 0).toNat)
 |_,_=>False
noncomputable def isL(f:List D->Prop):D->Prop
 |.lst xs=>f xs
 |_=>False
noncomputable def rowsD(rows:List (List D)):D:=.lst (rows.map .lst)
noncomputable def obD(f:List (List D)->Prop)(p:Prop):Option Sl->Prop
 |some (.ot rows)=>f rows
 |some (.sh _)=>p
 |_=>False
noncomputable def otD(f:List (List D)->Prop):Option Sl->Prop
 |some (.ot rows)=>f rows
 |_=>False
noncomputable def isB(Q:Bool->Prop):D->Prop
 |.bl k=>Q k
 |_=>False
noncomputable def xT(f:D->(D->Prop)->Prop):List D->(List D->Prop)->Prop
 |[],Q=>Q []
 |d::ds,Q=>f d fun y=>xT f ds fun ys=>Q (y::ys)
noncomputable def qk(p:D->(Bool->Prop)->Prop)(f:D->(D->Prop)->Prop):List D->(List D->Prop)->Prop
 |[],Q=>Q []
 |d::ds,Q=>p d fun b=>if b=true then f d fun y=>qk p f ds fun ys=>Q (y::ys) else qk p f ds Q
mutual
noncomputable def wpE(C:Cfg):Ex->Sto->(D->Prop)->Prop
 |.var i,σ,Q=>match getS σ i with|some (.sh d)=>Q d|_=>False
 |.cst d,_,Q=>Q d
 |.con k,_,Q=>Q (C.cn k)
 |.bin o a b,σ,Q=>wpE C a σ fun x=>wpE C b σ fun y=>xt o x y Q
 |.neg a,σ,Q=>wpE C a σ fun x=>match x with|.int i=>Q (.int (-i))|_=>False
 |.not a,σ,Q=>wpE C a σ fun x=>match x with|.bl c=>Q (.bl (!c))|_=>False
 |.cmp o a b,σ,Q=>wpE C a σ fun x=>wpE C b σ fun y=>kT o x y Q
 |.chain o p a b c,σ,Q=>wpE C a σ fun x=>wpE C b σ fun y=>kT o x y fun z=>match z with
  |.bl k=>if k=true then wpE C c σ fun u=>kT p y u Q else Q (.bl false)
  |_=>False
 |.and a b,σ,Q=>wpE C a σ fun x=>match x with|.bl k=>if k=true then wpE C b σ Q else Q (.bl false)|_=>False
 |.or a b,σ,Q=>wpE C a σ fun x=>match x with|.bl k=>if k=true then Q (.bl true) else wpE C b σ Q|_=>False
 |.ife c a b,σ,Q=>wpE C c σ fun x=>match x with|.bl k=>if k=true then wpE C a σ Q else wpE C b σ Q|_=>False
 |.tup es,σ,Q=>wpEs C es σ fun ds=>Q (.tup ds)
 |.lst es,σ,Q=>wpEs C es σ fun ds=>Q (.lst ds)
 |.ix a b,σ,Q=>wpE C a σ fun x=>wpE C b σ fun y=>ixD x y Q
 |.call f es,σ,Q=>wpEs C es σ fun ds=>(C.ct f).wp ds Q C.E
 |.bi f es,σ,Q=>wpEs C es σ fun ds=>biD f ds Q
 |.meth m o,σ,Q=>wpE C o σ fun x=>mtD m x Q
 |.isi a t,σ,Q=>wpE C a σ fun x=>Q (.bl (tyD t x))
 |.compR es e,σ,Q=>wpEs C es σ fun ds=>rgD ds fun xs=>xs.length<=lim/\xT (fun d Q=>wpE C e (σ ++ [some (.sh d)]) Q) xs fun ys=>Q (.lst ys)
 |.compE a e,σ,Q=>wpE C a σ fun d=>∃xs,itemsD d=some xs/\xs.length<=lim/\xT (fun d Q=>wpE C e (σ ++ [some (.sh d)]) Q) xs fun ys=>Q (.lst ys)
 |.slc a l h,σ,Q=>wpE C a σ fun x=>prt (kD l) (fun R=>wpE C l σ R) fun y=>prt (kD h) (fun R=>wpE C h σ R) fun z=>slD x y z Q
 |.sm o a b,σ,Q=>wpE C a σ fun x=>strD x fun x=>wpE C b σ fun y=>smD o x y Q
 |.fst es,σ,Q=>xI C es [] σ fun l=>(∀c∈l,c<1114112)/\Q (.str ⟨l.toArray⟩)
 |.compF a c e,σ,Q=>wpE C a σ fun d=>∃xs,itemsD d=some xs/\xs.length<=lim/\qk (fun d Q=>wpE C c (σ ++ [some (.sh d)]) (isB Q)) (fun d Q=>wpE C e (σ ++ [some (.sh d)]) Q) xs fun ys=>Q (.lst ys)
noncomputable def xI(C:Cfg):List Ex->List Nat->Sto->(List Nat->Prop)->Prop
 |[],out,_,Q=>Q out
 |e::es,out,σ,Q=>wpE C e σ fun d=>∃z,(fmtS d=some z/\out.length+z.length<=lim)/\xI C es (out++z.cps.toList) σ Q
noncomputable def wpEs(C:Cfg):List Ex->Sto->(List D->Prop)->Prop
 |[],_,Q=>Q []
 |e::es,σ,Q=>wpE C e σ fun d=>wpEs C es σ fun ds=>Q (d::ds)
end
section
variable {C:Cfg} {σ:Sto} {Q:D->Prop}
theorem wE_var:wpE C (.var i) σ Q=(match getS σ i with|some (.sh d)=>Q d|_=>False):=rfl
theorem wE_cst:wpE C (.cst d) σ Q=(Q d):=rfl
theorem wE_con:wpE C (.con k) σ Q=(Q (C.cn k)):=rfl
theorem wE_bin:wpE C (.bin o a b) σ Q=(wpE C a σ fun x=>wpE C b σ fun y=>xt o x y Q):=rfl
theorem wE_neg:wpE C (.neg a) σ Q=(wpE C a σ fun x=>match x with|.int i=>Q (.int (-i))|_=>False):=rfl
theorem wE_not:wpE C (.not a) σ Q=(wpE C a σ fun x=>match x with|.bl c=>Q (.bl (!c))|_=>False):=rfl
theorem wE_cmp:wpE C (.cmp o a b) σ Q=(wpE C a σ fun x=>wpE C b σ fun y=>kT o x y Q):=rfl
theorem wE_chain:wpE C (.chain o p a b c) σ Q=(wpE C a σ fun x=>wpE C b σ fun y=>kT o x y fun z=>match z with
 |.bl k=>if k=true then wpE C c σ fun u=>kT p y u Q else Q (.bl false)
 |_=>False):=rfl
theorem wE_and:wpE C (.and a b) σ Q=(wpE C a σ fun x=>match x with|.bl k=>if k=true then wpE C b σ Q else Q (.bl false)|_=>False):=rfl
theorem wE_or:wpE C (.or a b) σ Q=(wpE C a σ fun x=>match x with|.bl k=>if k=true then Q (.bl true) else wpE C b σ Q|_=>False):=rfl
theorem wE_ife:wpE C (.ife c a b) σ Q=(wpE C c σ fun x=>match x with|.bl k=>if k=true then wpE C a σ Q else wpE C b σ Q|_=>False):=rfl
theorem wE_tup:wpE C (.tup es) σ Q=(wpEs C es σ fun ds=>Q (.tup ds)):=rfl
theorem wE_lst:wpE C (.lst es) σ Q=(wpEs C es σ fun ds=>Q (.lst ds)):=rfl
theorem wE_ix:wpE C (.ix a b) σ Q=(wpE C a σ fun x=>wpE C b σ fun y=>ixD x y Q):=rfl
theorem wE_call:wpE C (.call f es) σ Q=(wpEs C es σ fun ds=>(C.ct f).wp ds Q C.E):=rfl
theorem wE_bi:wpE C (.bi f es) σ Q=(wpEs C es σ fun ds=>biD f ds Q):=rfl
theorem wE_meth:wpE C (.meth m o) σ Q=(wpE C o σ fun x=>mtD m x Q):=rfl
theorem wE_isi:wpE C (.isi a t) σ Q=(wpE C a σ fun x=>Q (.bl (tyD t x))):=rfl
theorem wE_compR:wpE C (.compR es e) σ Q=(wpEs C es σ fun ds=>rgD ds fun xs=>xs.length<=lim/\xT (fun d Q=>wpE C e (σ ++ [some (.sh d)]) Q) xs fun ys=>Q (.lst ys)):=rfl
theorem wE_compE:wpE C (.compE a e) σ Q=(wpE C a σ fun d=>∃xs,itemsD d=some xs/\xs.length<=lim/\xT (fun d Q=>wpE C e (σ ++ [some (.sh d)]) Q) xs fun ys=>Q (.lst ys)):=rfl
theorem wE_slc:wpE C (.slc a l h) σ Q=(wpE C a σ fun x=>prt (kD l) (fun R=>wpE C l σ R) fun y=>prt (kD h) (fun R=>wpE C h σ R) fun z=>slD x y z Q):=rfl
theorem wE_sm:wpE C (.sm o a b) σ Q=(wpE C a σ fun x=>strD x fun x=>wpE C b σ fun y=>smD o x y Q):=rfl
theorem wE_fst:wpE C (.fst es) σ Q=(xI C es [] σ fun l=>(∀c∈l,c<1114112)/\Q (.str ⟨l.toArray⟩)):=rfl
theorem wE_compF:wpE C (.compF a c e) σ Q=(wpE C a σ fun d=>∃xs,itemsD d=some xs/\xs.length<=lim/\qk (fun d Q=>wpE C c (σ ++ [some (.sh d)]) (isB Q)) (fun d Q=>wpE C e (σ ++ [some (.sh d)]) Q) xs fun ys=>Q (.lst ys)):=rfl
end
structure DE where
 nx:Sto->Prop
 rt:D->Prop
 bk:Sto->Prop:=fun _=>False
 ct:Sto->Prop:=fun _=>False
 rf:List D->Prop:=fun _=>False
 xn:XD->Prop:=fun _=>False
 rg:List (List D)->Prop:=fun _=>False
noncomputable def setAll:List Nat->List D->Sto->Option Sto
 |[],[],σ=>some σ
 |i::is,d::ds,σ=>setAll is ds (setS σ i (some (.sh d)))
 |_,_,_=>none
noncomputable def forL(body:DE->Sto->Prop)(i:Nat)(K:DE):List D->Sto->Prop
 |[],σ=>K.nx σ
 |d::ds,σ=>body { K with nx:=forL body i K ds,ct:=forL body i K ds,bk:=K.nx } (setS σ i (some (.sh d)))
noncomputable def whileW(c:Sto->(Bool->Prop)->Prop)(body:DE->Sto->Prop)(K:DE)(σ:Sto):Prop :=
 ∃W:Nat->Sto->Prop,(∃m,W m σ)/\∀m σ,W m σ->c σ fun t=>if t=true then
  body { K with nx:=fun σ'=>∃m',m'<m/\W m' σ',ct:=fun σ'=>∃m',m'<m/\W m' σ',bk:=K.nx } σ else K.nx σ
noncomputable def fldOk(x:Str)(d:D):Prop:=x="Dependent"->∃xs,d=.lst xs
noncomputable def hndl(rt:D->Prop)(h:Str×Str×Bool)(z:XD):Prop:=z.t=h.1/\(if h.2.2=true then ∃d,z.f=[d]/\rt (.tup [.str h.2.1,d]) else rt (.str h.2.1))
noncomputable def hnd(rt:D->Prop):List (Str×Str×Bool)->XD->Prop
 |[],_=>False
 |[h],z=>hndl rt h z
 |h::r,z=>hndl rt h z\/hnd rt r z
theorem JN{rt rt':D->Prop}(k:∀d,rt d->rt' d){h:Str×Str×Bool}{z:XD}(w:hndl rt h z):hndl rt' h z:=by
 unfold hndl at *;refine⟨w.1,?_⟩;have w2:=w.2;split
 ·next e=>rw[if_pos e]at w2;obtain⟨d,e1,e2⟩:=w2;exact⟨d,e1,k _ e2⟩
 ·next e=>rw[if_neg e]at w2;exact k _ w2
theorem hnd_mono{rt rt':D->Prop}(k:∀d,rt d->rt' d):∀(hs:List (Str×Str×Bool)) {z:XD},hnd rt hs z->hnd rt' hs z
 |[],_,w=>w.elim
 |[_],_,w=>JN k w
 |_::b::r,_,w=>w.elim (fun q=>.inl (JN k q)) fun q=>.inr (hnd_mono k (b::r) q)
noncomputable def wpN(C:Cfg)(σ:Sto)(f:Nat)(es:List Ex):List (Nat×List Ex)->(D->Prop)->(XD->Prop)->Prop
 |[],Q,E=>wpEs C es σ fun ds=>(C.ct f).wp ds Q E
 |gr::rest,Q,E=>wpN C σ f es rest (fun d=>wpEs C gr.2 σ fun ds=>(C.ct gr.1).wp (d::ds) Q C.E) E
noncomputable def ocD(f:List D->Prop)(g:List (List D)->Prop):Option Sl->Prop
 |some (.ow ds)=>f ds
 |some (.ot rows)=>g rows
 |_=>False
noncomputable def ownD(f:List D->Prop):Option Sl->Prop
 |some (.ow ds)=>f ds
 |_=>False
noncomputable def insD(K:DE)(σ:Sto)(i:Nat)(ds:List D)(v:D):D->Prop
 |.int k=>(0<=k/\k<=ds.length/\ds.length<lim)/\K.nx (setS σ i (some (.ow (ds.take k.toNat++v::ds.drop k.toNat))))
 |_=>False
noncomputable def app2D(K:DE)(σ:Sto)(i:Nat)(rows:List (List D))(w:(D->Prop)->Prop):D->Prop
 |.int k=>∃row,(0<=k/\rows[k.toNat]?=some row/\row.length<lim)/\w fun y=>K.nx (setS σ i (some (.ot (rows.set k.toNat (row ++ [y])))))
 |_=>False
noncomputable def popD(K:DE)(σ:Sto)(i j:Nat)(ms ls:List D):D->Prop
 |.int k=>∃d,(0<=k/\ls[k.toNat]?=some d/\ms.length<lim/\k<16777216)/\K.nx (setS (setS σ j (some (.ow (ls.eraseIdx k.toNat)))) i (some (.ow (ms ++ [d]))))
 |_=>False
noncomputable def wpS(C:Cfg):Sm->DE->Sto->Prop
 |.nop,K,σ=>K.nx σ
 |.seq a b,K,σ=>wpS C a { K with nx:=fun σ'=>wpS C b K σ' } σ
 |.set i e,K,σ=>wpE C e σ fun d=>K.nx (setS σ i (some (.sh d)))
 |.unp is e,K,σ=>wpE C e σ fun d=>match d with|.tup ds=>∃σ',setAll is ds σ=some σ'/\K.nx σ'|.lst ds=>∃σ',setAll is ds σ=some σ'/\K.nx σ'|_=>False
 |.ret e,K,σ=>wpE C e σ K.rt
 |.ite c a b,K,σ=>wpE C c σ (isB fun t=>if t=true then wpS C a K σ else wpS C b K σ)
 |.whl c b,K,σ=>whileW (fun σ Q=>wpE C c σ (isB Q)) (fun K σ=>wpS C b K σ) K σ
 |.forR i es b,K,σ=>wpEs C es σ fun ds=>rgD ds fun xs=>forL (fun K σ=>wpS C b K σ) i K xs σ
 |.brk,K,σ=>K.bk σ
 |.cnt,K,σ=>K.ct σ
 |.never,_,_=>False
 |.new i,K,σ=>K.nx (setS σ i (some (.ow [])))
 |.app i e,K,σ=>match getS σ i with|some (.ow ds)=>ds.length<lim/\wpE C e σ fun d=>K.nx (setS σ i (some (.ow (ds ++ [d]))))|_=>False
 |.shr i,K,σ=>match getS σ i with|some (.ow ds)=>K.nx (setS σ i (some (.sh (.lst ds))))|_=>False
 |.raise x,K,_=>K.xn ⟨0,x,[]⟩
 |.raiseA x e,K,σ=>wpE C e σ fun d=>fldOk x d/\K.xn ⟨0,x,[d]⟩
 |.setX i fs f es,K,σ=>wpN C σ f es fs (fun d=>K.nx (setS σ i (some (.sh d)))) K.xn
 |.retP w f es,K,σ=>wpN C σ f es [] (fun d=>K.rt (.tup [.str w,d])) K.xn
 |.retX fs f es,K,σ=>wpN C σ f es fs K.rt K.xn
 |.tryX b hs,K,σ=>wpS C b { K with xn:=hnd K.rt hs } σ
section
variable {C:Cfg} {K:DE} {σ:Sto}
theorem wS_seq:wpS C (.seq a b) K σ=(wpS C a { K with nx:=fun σ'=>wpS C b K σ' } σ):=rfl
theorem wS_unp:wpS C (.unp is e) K σ=(wpE C e σ fun d=>match d with|.tup ds=>∃σ',setAll is ds σ=some σ'/\K.nx σ'|.lst ds=>∃σ',setAll is ds σ=some σ'/\K.nx σ'|_=>False):=rfl
theorem wS_new:wpS C (.new i) K σ=(K.nx (setS σ i (some (.ow [])))):=rfl
theorem wS_app:wpS C (.app i e) K σ=(match getS σ i with|some (.ow ds)=>ds.length<lim/\wpE C e σ fun d=>K.nx (setS σ i (some (.ow (ds ++ [d]))))|_=>False):=rfl
theorem wS_shr:wpS C (.shr i) K σ=(match getS σ i with|some (.ow ds)=>K.nx (setS σ i (some (.sh (.lst ds))))|_=>False):=rfl
end
theorem qX{f:Int->Int->(D->Prop)->Prop}{x y:D}{Q Q':D->Prop}(hf:∀i j,f i j Q->f i j Q')(w:yN f x y Q):yN f x y Q':=by
 cases x<;>first|exact w.elim|(cases y<;>first|exact w.elim|exact hf _ _ w)
theorem JD{o:BOp}{x y:D}{Q Q':D->Prop}(h:∀d,Q d->Q' d)(w:xt o x y Q):xt o x y Q':=by
 cases o<;>first|exact qX (fun i j z=>h _ z) w|exact qX (fun i j z=>⟨z.1,h _ z.2⟩) w|skip
 ·cases x<;>first|exact w.elim|(cases y<;>first|exact w.elim|exact h _ w|exact⟨w.1,h _ w.2⟩)
 ·cases x<;>first|exact w.elim|(cases y<;>first|exact w.elim|exact h _ w|exact⟨w.1,h _ w.2⟩)
theorem kR{o:COp}{x y:D}{Q Q':D->Prop}(h:∀d,Q d->Q' d)(w:kT o x y Q):kT o x y Q':=by
 cases o<;>first|exact qX (fun i j z=>h _ z) w|exact⟨w.1,h _ w.2⟩|skip
 ·cases y<;>first|exact w.elim|exact h _ w
 ·cases y<;>first|exact w.elim|exact h _ w
 ·cases x<;>first|exact w.elim|(cases y<;>first|exact w.elim|(next k=>cases k<;>first|exact w.elim|exact h _ w))
 ·cases x<;>first|exact w.elim|(cases y<;>first|exact w.elim|(next k=>cases k<;>first|exact w.elim|exact h _ w))
 ·cases x<;>first|exact w.elim|(cases y<;>first|exact w.elim|exact h _ w|exact⟨w.choose,w.choose_spec.1,w.choose_spec.2.1,h _ w.choose_spec.2.2⟩)
 ·cases x<;>first|exact w.elim|(cases y<;>first|exact w.elim|exact h _ w|exact⟨w.choose,w.choose_spec.1,w.choose_spec.2.1,h _ w.choose_spec.2.2⟩)
theorem ixD_mono{x y:D}{Q Q':D->Prop}(h:∀d,Q d->Q' d)(w:ixD x y Q):ixD x y Q':=by
 unfold ixD at *
 split at w<;>first|exact⟨w.choose,w.choose_spec.1,h _ w.choose_spec.2⟩|exact w.elim
theorem JI{f:D->(D->Prop)->Prop}{xs:List D}{Q Q':D->Prop}(hf:∀x,f x Q->f x Q')(w:zH f xs Q):zH f xs Q':=by
 match xs,w with
 |[x],w=>exact hf x w
theorem JG{f:D->D->(D->Prop)->Prop}{xs:List D}{Q Q':D->Prop}(hf:∀x y,f x y Q->f x y Q')(w:two2 f xs Q):two2 f xs Q':=by
 match xs,w with
 |[x,y],w=>exact hf x y w
theorem minD_mono{Q Q':D->Prop}(h:∀d,Q d->Q' d):∀ {xs:List D},minD xs Q->minD xs Q'
 |[x],w=>by
  cases x<;>first|exact w.elim|exact⟨w.choose,w.choose_spec.1,w.choose_spec.2.1,h _ w.choose_spec.2.2⟩
 |[x,y],w=>qX (fun i j z=>h _ z) w
theorem biD_mono{f:Bi}{xs:List D}{Q Q':D->Prop}(h:∀d,Q d->Q' d)(w:biD f xs Q):biD f xs Q':=by
 cases f<;>first|exact minD_mono h w|exact JI (f:=sortD) (fun x z=>sortD_mono h z) w|exact JG (fun x y z=>qX (fun i j z=>⟨z.1,h _ z.2⟩) z) w|exact JG (fun x y z=>qX (fun i j z=>h _ z) z) w|refine JI (fun x z=>?_) w
 all_goals cases x<;>first|exact z.elim|exact h _ z|exact And.intro z.1 (h _ z.2)|exact⟨z.choose,z.choose_spec.1,h _ z.choose_spec.2⟩
theorem mtD_mono{f:Mt}{x:D}{Q Q':D->Prop}(h:∀d,Q d->Q' d)(w:mtD f x Q):mtD f x Q':=by
 unfold mtD at *
 split at w<;>first|exact h _ w|exact⟨w.1,h _ w.2⟩|exact w.elim
theorem Ctr.wp_mono{c:Ctr}{ds:List D}{Q Q':D->Prop}{E:XD->Prop}(h:∀d,Q d->Q' d)(w:c.wp ds Q E):c.wp ds Q' E:=⟨w.1,fun d r=>h d (w.2.1 d r),w.2.2⟩
theorem jW{Q Q':Bool->Prop}(h:∀k,Q k->Q' k){d:D}(w:isB Q d):isB Q' d:=by
 cases d<;>first|exact h _ w|exact w.elim
theorem vF{ds:List D}{Q Q':List D->Prop}(h:∀d,Q d->Q' d)(w:rgD ds Q):rgD ds Q':=by
 unfold rgD at *;split at w
 ·exact⟨w.1,h _ w.2⟩
 ·exact⟨w.1,h _ w.2⟩
 ·exact⟨w.1,h _ w.2⟩
 ·exact w.elim
theorem ko{f:D->(D->Prop)->Prop}(hf:∀d {Q Q':D->Prop},(∀y,Q y->Q' y)->f d Q->f d Q'):∀(xs:List D) {Q Q':List D->Prop},(∀ys,Q ys->Q' ys)->xT f xs Q->xT f xs Q'
 |[],Q,Q',h,w=>h _ w
 |d::ds,Q,Q',h,w=>hf d (fun y wy=>ko hf ds (fun ys=>h _) wy) w
theorem qC{p:D->(Bool->Prop)->Prop}{f:D->(D->Prop)->Prop}(hp:∀d {Q Q':Bool->Prop},(∀y,Q y->Q' y)->p d Q->p d Q')(hf:∀d {Q Q':D->Prop},(∀y,Q y->Q' y)->f d Q->f d Q') :
 ∀(xs:List D) {Q Q':List D->Prop},(∀ys,Q ys->Q' ys)->qk p f xs Q->qk p f xs Q'
 |[],Q,Q',h,w=>h _ w
 |d::ds,Q,Q',h,w=>hp d (fun b wb=>by
  cases b with
  |true=>exact hf d (fun y wy=>qC hp hf ds (fun ys=>h _) wy) wb
  |false=>exact qC hp hf ds h wb) w
theorem slD_mono{x:D}{l h:Option Int}{Q Q':D->Prop}(k:∀d,Q d->Q' d)(w:slD x l h Q):slD x l h Q':=by
 unfold slD at *
 split at w<;>first|exact w.elim|exact k _ w|exact⟨w.1,k _ w.2⟩
theorem smD_mono{o:SOp}{x:Str}{y:D}{Q Q':D->Prop}(k:∀d,Q d->Q' d)(w:smD o x y Q):smD o x y Q':=by
 unfold smD at *;split at w
 ·obtain⟨i,r,e,q⟩:=w;exact⟨i,r,e,k _ q⟩
 ·obtain⟨ss,e,q⟩:=w;exact⟨ss,e,k _ q⟩
 ·exact⟨w.1,k _ w.2⟩
 ·exact w.elim
theorem intO_mono{R R':Option Int->Prop}(h:∀o,R o->R' o){d:D}(w:vN R d):vN R' d:=by
 cases d<;>first|exact w.elim|exact h _ w
theorem um{b:Bool}{w:(D->Prop)->Prop}(hw:∀ {Q Q':D->Prop},(∀d,Q d->Q' d)->w Q->w Q'){R R':Option Int->Prop}(h:∀o,R o->R' o)(k:prt b w R):prt b w R':=by
 unfold prt at *;split
 ·next e=>rw[if_pos e]at k;exact h _ k
 ·next e=>rw[if_neg e]at k;exact hw (fun d=>intO_mono h) k
mutual
theorem ja{C:Cfg}:∀(e:Ex) {σ:Sto} {Q Q':D->Prop},(∀d,Q d->Q' d)->wpE C e σ Q->wpE C e σ Q'
 |.var i,σ,Q,Q',h,w=>by
  rw[wE_var]at w ⊢
  cases g:getS σ i with
  |none=>rw[g]at w;exact w.elim
  |some z=>rw[g]at w;cases z<;>first|exact h _ w|exact w.elim
 |.cst d,σ,Q,Q',h,w=>by exact h _ w
 |.con k,σ,Q,Q',h,w=>by exact h _ w
 |.bin o a b,σ,Q,Q',h,w=>by
  exact ja a (fun x wx=>ja b (fun y wy=>JD h wy) wx) w
 |.neg a,σ,Q,Q',h,w=>by
  exact ja a (fun x wx=>by cases x<;>first|exact h _ wx|exact wx.elim) w
 |.not a,σ,Q,Q',h,w=>by
  exact ja a (fun x wx=>by cases x<;>first|exact h _ wx|exact wx.elim) w
 |.cmp o a b,σ,Q,Q',h,w=>by
  exact ja a (fun x wx=>ja b (fun y wy=>kR h wy) wx) w
 |.chain o p a b c,σ,Q,Q',h,w=>by
  refine ja a (fun x wx=>ja b (fun y wy=>kR (fun z wz=>?_) wy) wx) w
  cases z with
  |bl k=>cases k with
   |true=>exact ja c (fun u wu=>kR h wu) wz
   |false=>exact h _ wz
  |_=>exact wz.elim
 |.and a b,σ,Q,Q',h,w=>by
  refine ja a (fun x wx=>?_) w
  cases x with
  |bl k=>cases k with
   |true=>exact ja b h wx
   |false=>exact h _ wx
  |_=>exact wx.elim
 |.or a b,σ,Q,Q',h,w=>by
  refine ja a (fun x wx=>?_) w
  cases x with
  |bl k=>cases k with
   |true=>exact h _ wx
   |false=>exact ja b h wx
  |_=>exact wx.elim
 |.ife c a b,σ,Q,Q',h,w=>by
  refine ja c (fun x wx=>?_) w
  cases x with
  |bl k=>cases k with
   |true=>exact ja a h wx
   |false=>exact ja b h wx
  |_=>exact wx.elim
 |.tup es,σ,Q,Q',h,w=>by exact jq es (fun ds=>h _) w
 |.lst es,σ,Q,Q',h,w=>by exact jq es (fun ds=>h _) w
 |.ix a b,σ,Q,Q',h,w=>by
  exact ja a (fun x wx=>ja b (fun y wy=>ixD_mono h wy) wx) w
 |.call f es,σ,Q,Q',h,w=>by exact jq es (fun ds=>Ctr.wp_mono h) w
 |.bi f es,σ,Q,Q',h,w=>by exact jq es (fun ds=>biD_mono h) w
 |.meth m o,σ,Q,Q',h,w=>by exact ja o (fun x=>mtD_mono h) w
 |.isi a t,σ,Q,Q',h,w=>by exact ja a (fun x=>h _) w
 |.compR es e,σ,Q,Q',h,w=>by
  exact jq es (fun ds=>vF fun xs wx=>⟨wx.1,ko (f:=fun d Q=>wpE C e (σ ++ [some (.sh d)]) Q) (fun d _ _ hq=>ja e hq) xs (fun ys=>h _) wx.2⟩) w
 |.compE a e,σ,Q,Q',h,w=>by
  exact ja a (fun d ⟨xs,e1,wx⟩=>⟨xs,e1,wx.1,ko (f:=fun d Q=>wpE C e (σ ++ [some (.sh d)]) Q) (fun d _ _ hq=>ja e hq) xs (fun ys=>h _) wx.2⟩) w
 |.slc a l u,σ,Q,Q',h,w=>by
  exact ja a (fun x wx=>um (fun hq=>ja l hq) (fun y wy=>um (fun hq=>ja u hq) (fun z=>slD_mono h) wy) wx) w
 |.sm o a b,σ,Q,Q',h,w=>by
  refine ja a (fun x wx=>?_) w
  cases x<;>first|exact wx.elim|exact ja b (fun y wy=>smD_mono h wy) wx
 |.fst es,σ,Q,Q',h,w=>by exact zd es (fun l q=>⟨q.1,h _ q.2⟩) w
 |.compF a c e,σ,Q,Q',h,w=>by
  exact ja a (fun d ⟨xs,e1,wx⟩=>⟨xs,e1,wx.1,qC (p:=fun d Q=>wpE C c (σ ++ [some (.sh d)]) (isB Q)) (f:=fun d Q=>wpE C e (σ ++ [some (.sh d)]) Q) (fun d _ _ hq=>ja c fun _=>jW hq) (fun d _ _ hq=>ja e hq) xs (fun ys=>h _) wx.2⟩) w
theorem zd{C:Cfg}:∀(es:List Ex) {out:List Nat} {σ:Sto} {Q Q':List Nat->Prop},(∀d,Q d->Q' d)->xI C es out σ Q->xI C es out σ Q'
 |[],out,σ,Q,Q',h,w=>by unfold xI at *;exact h _ w
 |e::es,out,σ,Q,Q',h,w=>by
  unfold xI at *;exact ja e (fun d ⟨z,a,wd⟩=>⟨z,a,zd es h wd⟩) w
theorem jq{C:Cfg}:∀(es:List Ex) {σ:Sto} {Q Q':List D->Prop},(∀d,Q d->Q' d)->wpEs C es σ Q->wpEs C es σ Q'
 |[],σ,Q,Q',h,w=>by unfold wpEs at *;exact h _ w
 |e::es,σ,Q,Q',h,w=>by
  unfold wpEs at *;exact ja e (fun d wd=>jq es (fun ds=>h _) wd) w
end
structure DE.le (K K':DE):Prop where
 nx:∀σ,K.nx σ->K'.nx σ
 rt:∀d,K.rt d->K'.rt d
 bk:∀σ,K.bk σ->K'.bk σ
 ct:∀σ,K.ct σ->K'.ct σ
 rf:∀ds,K.rf ds->K'.rf ds
 xn:∀x,K.xn x->K'.xn x:=by exact fun _ z=>z
 rg:∀rows,K.rg rows->K'.rg rows:=by exact fun _ z=>z
theorem ze{body:DE->Sto->Prop}(hb:∀K K' σ,DE.le K K'->body K σ->body K' σ){i:Nat}{K K':DE}(h:DE.le K K'):∀(xs:List D) {σ:Sto},forL body i K xs σ->forL body i K' xs σ
 |[],σ,w=>h.nx _ w
 |d::ds,σ,w=>by
  unfold forL at *;refine hb _ _ _ ?_ w;exact⟨fun _=>ze hb h ds,h.rt,h.nx,fun _=>ze hb h ds,h.rf,h.xn,h.rg⟩
theorem qz{C:Cfg}{σ:Sto}{f:Nat}{es:List Ex}:∀(fs:List (Nat×List Ex)) {Q Q':D->Prop} {E E':XD->Prop},(∀d,Q d->Q' d)->(∀y,E y->E' y)->wpN C σ f es fs Q E->wpN C σ f es fs Q' E'
 |[],Q,Q',E,E',h,h',w=>by
  unfold wpN at *
  exact jq es (fun ds wd=>⟨wd.1,fun d r=>h _ (wd.2.1 d r),fun y r=>h' _ (wd.2.2 y r)⟩) w
 |gr::rest,Q,Q',E,E',h,h',w=>by
  unfold wpN at *;exact qz rest (fun d=>jq gr.2 fun ds=>Ctr.wp_mono h) h' w
theorem jn{C:Cfg}:∀(s:Sm) {K K':DE} {σ:Sto},DE.le K K'->wpS C s K σ->wpS C s K' σ
 |.nop,K,K',σ,h,w=>by exact h.nx _ w
 |.seq a b,K,K',σ,h,w=>by
  refine jn a ?_ w
  exact⟨fun _=>jn b h,h.rt,h.bk,h.ct,h.rf,h.xn,h.rg⟩
 |.set i e,K,K',σ,h,w=>by exact ja e (fun _=>h.nx _) w
 |.unp is e,K,K',σ,h,w=>by
  refine ja e (fun d wd=>?_) w
  cases d<;>first|exact⟨wd.choose,wd.choose_spec.1,h.nx _ wd.choose_spec.2⟩|exact wd.elim
 |.ret e,K,K',σ,h,w=>by exact ja e h.rt w
 |.ite c a b,K,K',σ,h,w=>by
  refine ja c (fun d=>jW fun k wk=>?_) w
  cases k with
  |true=>exact jn a h wk
  |false=>exact jn b h wk
 |.whl c b,K,K',σ,h,w=>by
  obtain⟨W,w0,turn⟩:=w;refine⟨W,w0,fun m σ hW=>ja c (fun d=>jW fun k wk=>?_) (turn m σ hW)⟩
  cases k with
  |true =>
   refine jn b ?_ wk
   exact⟨fun _ z=>z,h.rt,h.nx,fun _ z=>z,h.rf,h.xn,h.rg⟩
  |false=>exact h.nx _ wk
 |.forR i es b,K,K',σ,h,w=>by
  exact jq es (fun ds=>vF fun xs=>ze (body:=fun K σ=>wpS C b K σ) (fun K K' σ h=>jn b h) h xs) w
 |.brk,K,K',σ,h,w=>by exact h.bk _ w
 |.cnt,K,K',σ,h,w=>by exact h.ct _ w
 |.never,K,K',σ,h,w=>by exact w.elim
 |.new i,K,K',σ,h,w=>by exact h.nx _ w
 |.app i e,K,K',σ,h,w=>by
  rw[wS_app]at w ⊢
  cases g:getS σ i with
  |none=>rw[g]at w;exact w.elim
  |some z =>
   rw[g]at w
   cases z with
   |sh d=>exact w.elim
   |ot _=>exact w.elim
   |ow ds=>exact⟨w.1,ja e (fun _=>h.nx _) w.2⟩
 |.shr i,K,K',σ,h,w=>by
  rw[wS_shr]at w ⊢
  cases g:getS σ i with
  |none=>rw[g]at w;exact w.elim
  |some z =>
   rw[g]at w
   cases z with
   |sh d=>exact w.elim
   |ot _=>exact w.elim
   |ow ds=>exact h.nx _ w
 |.raise x,K,K',σ,h,w=>by exact h.xn _ w
 |.retX fs f es,K,K',σ,h,w=>by
  exact qz fs (fun d=>h.rt _) (fun y=>h.xn _) w
 |.raiseA x e,K,K',σ,h,w=>by
  exact ja e (fun d q=>⟨q.1,h.xn _ q.2⟩) w
 |.setX i fs f es,K,K',σ,h,w=>by
  exact qz fs (fun d=>h.nx _) (fun y=>h.xn _) w
 |.retP x f es,K,K',σ,h,w=>by
  exact qz [] (fun d=>h.rt _) (fun y=>h.xn _) w
 |.tryX b hs,K,K',σ,h,w=>by
  refine jn b ?_ w;exact⟨h.nx,h.rt,h.bk,h.ct,h.rf,fun z q=>hnd_mono h.rt hs q,h.rg⟩
end Z
namespace Z
open PySem
theorem xj(i:Int):bits i=if i=0 then 0 else i.natAbs.log2+1:=by
 unfold bits Builtin.Int.intBits;by_cases h:i=0
 ·simp[h]
 ·simp[h]
theorem jg{i:Int}{n:Nat}:bits i<=n ↔ i.natAbs<2^n:=by
 rw[xj];by_cases h:i=0
 ·subst h;simp[Nat.two_pow_pos]
 ·rw[if_neg h]
  have h0:i.natAbs≠0:=by omega
  rw[<- Nat.log2_lt h0];omega
theorem vk(i:Int):i.natAbs<2^bits i:=jg.mp (Nat.le_refl _)
theorem xy{i:Int}{n:Nat}:n<bits i ↔ 2^n<=i.natAbs:=by
 have:=@jg i n;omega
theorem u8{i:Int}(h:i≠0):2^(bits i-1)<=i.natAbs:=by
 refine xy.mp ?_
 have:bits i≠0:=by rw[xj,if_neg h];omega
 omega
theorem kX{i:Int}(h:i≠0):0<bits i:=by rw[xj,if_neg h];omega
theorem yQ{i:Int}{n:Nat}:bits i=n+1 ↔ 2^n<=i.natAbs/\i.natAbs<2^(n+1):=by
 have h1:=@jg i (n+1);have h2:=@xy i n;constructor
 ·intro h;exact⟨h2.mp (by omega),h1.mp (by omega)⟩
 ·intro ⟨a,b⟩;have:=h1.mpr b;have:=h2.mpr a;omega
theorem zV(i:Int):bits (-i)=bits i:=by
 rw[xj,xj,Int.natAbs_neg];by_cases h:i=0
 ·simp[h]
 ·rw[if_neg h,if_neg (by omega)]
theorem zN(i:Int):bits (i.natAbs:Int)=bits i:=by
 rw[xj,xj,Int.natAbs_natCast];by_cases h:i=0
 ·simp[h]
 ·rw[if_neg h,if_neg (by omega)]
theorem j5(a b:Int):bits (a*b)<=bits a+bits b:=by
 rw[jg,Int.natAbs_mul,Nat.pow_add];have h1:=vk a;have h2:=vk b;exact Nat.mul_lt_mul'' h1 h2
theorem yW{a b:Int}(h:a.natAbs<=b.natAbs):bits a<=bits b:=by
 rw[jg];have:=vk b;omega
theorem jz(n:Nat):bits (2^n:Int)=n+1:=by
 rw[yQ]
 have e:((2:Int)^n).natAbs=2^n:=by rw[Int.natAbs_pow];rfl
 rw[e];exact⟨Nat.le_refl _,Nat.pow_lt_pow_right (by decide) (by omega)⟩
theorem uZ{n:Nat}{i:Int}(h0:0<=i)(h:i<2^n):bits i<=n:=by
 rw[jg]
 have:(i.natAbs:Int)<2^n:=by omega
 exact_mod_cast this
theorem two_pow_pos(n:Nat):(0:Int)<2^n:=by
 have:=Nat.two_pow_pos n
 exact_mod_cast this
theorem jr{a b:Int}(h:0<=b):a.fdiv b=a / b:=Int.fdiv_eq_ediv_of_nonneg a h
theorem ji{a b:Int}(h:0<=b):a.fmod b=a%b:=Int.fmod_eq_emod_of_nonneg a h
theorem JP{a b:Int}(h:0<b):bits (a / b)<=bits a:=by
 refine yW ?_;by_cases h0:0<=a
 ·have h1:0<=a / b:=Int.ediv_nonneg h0 (Int.le_of_lt h);have h2:a / b<=a:=Int.ediv_le_self b h0;omega
 ·have h1:a / b<0:=Int.ediv_neg_of_neg_of_pos (by omega) h
  have h2:a<=a / b:=by
   have:=Int.le_ediv_iff_mul_le (a:=a) (b:=a) h
   have h3:a*b<=a:=by
    have:=Int.mul_le_mul_of_nonpos_left (a:=a) (b:=b) (c:=1) (by omega) (by omega);omega
   omega
  omega
end Z
namespace Z
open PySem
noncomputable def startS(n:Nat)(ds:List D):Sto:=ds.map (fun d=>some (.sh d))++List.replicate (n-ds.length) none
noncomputable def jC(C:Cfg)(n:Nat)(b:Sm)(c:Ctr):Prop:=∀ds,c.pre ds->wpS C b { nx:=fun _=>c.res ds .non,rt:=c.res ds } (startS n ds)
noncomputable def KeepsF(C:Cfg)(n:Nat)(b:Sm)(c:Ctr):Prop:=∀ds,c.pre ds->wpS C b { nx:=fun _=>False,rt:=fun _=>False,rf:=fun xs=>c.res ds (.lst xs) } (startS n ds)
noncomputable def KeepsG(C:Cfg)(n:Nat)(b:Sm)(c:Ctr):Prop:=∀ds,c.pre ds->wpS C b { nx:=fun _=>False,rt:=fun _=>False,rg:=fun rows=>c.res ds (rowsD rows) } (startS n ds)
noncomputable def vP(C:Cfg)(n:Nat)(b:Sm)(c:Ctr):Prop:=∀ds,c.pre ds->wpS C b { nx:=fun _=>c.res ds .non,rt:=c.res ds,xn:=c.exn ds } (startS n ds)
noncomputable def KeepsQ(C:Cfg)(n:Nat)(b:Sm)(c:Ctr):Prop:=∀ds,c.pre ds->wpS C b { nx:=fun _=>False,rt:=fun d=>nol d=true/\c.res ds d,rg:=fun rows=>c.res ds (rowsD rows),xn:=c.exn ds } (startS n ds)
noncomputable def KeepsY(C:Cfg)(n:Nat)(b:Sm)(c:Ctr):Prop:=∀ds,c.pre ds->wpS C b { nx:=fun _=>False,rt:=fun _=>False,rf:=fun xs=>c.res ds (.lst xs),xn:=c.exn ds } (startS n ds)
section
variable {C:Cfg} {K:DE} {σ:Sto}
theorem ws_raise{x:Str}:wpS C (.raise x) K σ=K.xn ⟨0,x,[]⟩:=rfl
theorem y9{x:Str}{e:Ex}:wpS C (.raiseA x e) K σ=wpE C e σ fun d=>fldOk x d/\K.xn ⟨0,x,[d]⟩:=rfl
theorem ws_setX{i f:Nat}{es:List Ex}:wpS C (.setX i [] f es) K σ=wpEs C es σ fun ds=>(C.ct f).wp ds (fun d=>K.nx (setS σ i (some (.sh d)))) K.xn:=rfl
theorem ws_setN{i g f:Nat}{r es:List Ex}{fs:List (Nat×List Ex)}:wpS C (.setX i ((g,r)::fs) f es) K σ=wpS C (.retX fs f es) { K with rt:=fun d=>wpEs C r σ fun ds=>(C.ct g).wp (d::ds) (fun d=>K.nx (setS σ i (some (.sh d)))) C.E } σ:=rfl
theorem ws_retX{f:Nat}{es:List Ex}:wpS C (.retX [] f es) K σ=wpEs C es σ fun ds=>(C.ct f).wp ds K.rt K.xn:=rfl
theorem ws_tryX{b:Sm}{hs:List (Str×Str×Bool)}:wpS C (.tryX b hs) K σ=wpS C b { K with xn:=hnd K.rt hs } σ:=rfl
theorem ws_nop:wpS C .nop K σ=K.nx σ:=rfl
theorem jp{a b:Sm}:wpS C (.seq a b) K σ=wpS C a { K with nx:=fun σ'=>wpS C b K σ' } σ:=rfl
theorem ws_set{i:Nat}{e:Ex}:wpS C (.set i e) K σ=wpE C e σ fun d=>K.nx (setS σ i (some (.sh d))):=rfl
noncomputable def unpD(is:List Nat)(K:DE)(σ:Sto):D->Prop
 |.tup ds=>∃σ',setAll is ds σ=some σ'/\K.nx σ'
 |.lst ds=>∃σ',setAll is ds σ=some σ'/\K.nx σ'
 |_=>False
theorem ws_unp{is:List Nat}{e:Ex}:wpS C (.unp is e) K σ=wpE C e σ (unpD is K σ):=by
 rw[wS_unp];congr 1
theorem ws_ret{e:Ex}:wpS C (.ret e) K σ=wpE C e σ K.rt:=rfl
theorem kZ{c:Ex}{a b:Sm}:wpS C (.ite c a b) K σ=wpE C c σ (isB fun t=>if t=true then wpS C a K σ else wpS C b K σ):=rfl
theorem ws_brk:wpS C .brk K σ=K.bk σ:=rfl
theorem ws_cnt:wpS C .cnt K σ=K.ct σ:=rfl
theorem ws_never:wpS C .never K σ=False:=rfl
noncomputable def appD(K:DE)(σ:Sto)(i:Nat)(w:(D->Prop)->Prop):Option Sl->Prop
 |some (.ow ds)=>ds.length<lim/\w fun d=>K.nx (setS σ i (some (.ow (ds ++ [d]))))
 |_=>False
noncomputable def stoD(K:DE)(σ:Sto)(i:Nat)(ds:List D)(d:D):D->Prop
 |.int k=>(0<=k/\k<ds.length)/\K.nx (setS σ i (some (.ow (ds.set k.toNat d))))
 |_=>False
noncomputable def stoW(K:DE)(σ:Sto)(i:Nat)(w:(D->Prop)->Prop)(u:(D->Prop)->Prop):Option Sl->Prop
 |some (.ow ds)=>w fun d=>u (stoD K σ i ds d)
 |_=>False
theorem appD_ow{i:Nat}{w:(D->Prop)->Prop}{ds:List D}:appD K σ i w (some (.ow ds))=(ds.length<lim/\w fun d=>K.nx (setS σ i (some (.ow (ds ++ [d]))))):=rfl
theorem stoD_int{i:Nat}{ds:List D}{d:D}{k:Int}:stoD K σ i ds d (.int k)=((0<=k/\k<ds.length)/\K.nx (setS σ i (some (.ow (ds.set k.toNat d))))):=rfl
theorem stoW_ow{i:Nat}{w u:(D->Prop)->Prop}{ds:List D}:stoW K σ i w u (some (.ow ds))=w fun d=>u (stoD K σ i ds d):=rfl
theorem ownD_ow{f:List D->Prop}{ds:List D}:ownD f (some (.ow ds))=f ds:=rfl
theorem ws_new{i:Nat}:wpS C (.new i) K σ=K.nx (setS σ i (some (.ow []))):=rfl
theorem ws_app{i:Nat}{e:Ex}:wpS C (.app i e) K σ=appD K σ i (wpE C e σ) (getS σ i):=by
 rw[wS_app];unfold appD
 cases getS σ i with
 |none=>rfl
 |some z=>cases z<;>rfl
theorem ws_shr{i:Nat}:wpS C (.shr i) K σ=ownD (fun ds=>K.nx (setS σ i (some (.sh (.lst ds))))) (getS σ i):=by
 rw[wS_shr];unfold ownD
 cases getS σ i with
 |none=>rfl
 |some z=>cases z<;>rfl
theorem ws_seq_set{i:Nat}{e:Ex}{b:Sm}:wpS C (.seq (.set i e) b) K σ=wpE C e σ fun d=>wpS C b K (setS σ i (some (.sh d))):=by rw[jp,ws_set]
theorem ws_seq_unp{is:List Nat}{e:Ex}{b:Sm}:wpS C (.seq (.unp is e) b) K σ=wpE C e σ (unpD is { K with nx:=fun σ'=>wpS C b K σ' } σ):=by rw[jp,ws_unp]
theorem ws_seq_ret{e:Ex}{b:Sm}:wpS C (.seq (.ret e) b) K σ=wpE C e σ K.rt:=by rw[jp,ws_ret]
theorem ws_seq_new{i:Nat}{b:Sm}:wpS C (.seq (.new i) b) K σ=wpS C b K (setS σ i (some (.ow []))):=by rw[jp,ws_new]
theorem ws_seq_app{i:Nat}{e:Ex}{b:Sm}:wpS C (.seq (.app i e) b) K σ=appD { K with nx:=fun σ'=>wpS C b K σ' } σ i (wpE C e σ) (getS σ i):=by rw[jp,ws_app]
theorem ws_seq_shr{i:Nat}{b:Sm}:wpS C (.seq (.shr i) b) K σ=ownD (fun ds=>wpS C b K (setS σ i (some (.sh (.lst ds))))) (getS σ i):=by rw[jp,ws_shr]
theorem isL_lst{f:List D->Prop}{xs:List D}:isL f (.lst xs)=f xs:=rfl
theorem insD_int{i:Nat}{ds:List D}{d:D}{k:Int}:insD K σ i ds d (.int k)=((0<=k/\k<=ds.length/\ds.length<lim)/\K.nx (setS σ i (some (.ow (ds.take k.toNat++d::ds.drop k.toNat))))):=rfl
theorem obD_ot{f:List (List D)->Prop}{p:Prop}{rows:List (List D)}:obD f p (some (.ot rows))=f rows:=rfl
theorem obD_sh{f:List (List D)->Prop}{p:Prop}{d:D}:obD f p (some (.sh d))=p:=rfl
theorem ocD_ow{f:List D->Prop}{g:List (List D)->Prop}{ds:List D}:ocD f g (some (.ow ds))=f ds:=rfl
theorem ocD_ot{f:List D->Prop}{g:List (List D)->Prop}{rows:List (List D)}:ocD f g (some (.ot rows))=g rows:=rfl
theorem otD_ot{f:List (List D)->Prop}{rows:List (List D)}:otD f (some (.ot rows))=f rows:=rfl
theorem app2D_int{i:Nat}{rows:List (List D)}{w:(D->Prop)->Prop}{k:Int}:app2D K σ i rows w (.int k)=∃row,(0<=k/\rows[k.toNat]?=some row/\row.length<lim)/\w fun y=>K.nx (setS σ i (some (.ot (rows.set k.toNat (row ++ [y]))))):=rfl
theorem popD_int{i j:Nat}{ms ls:List D}{k:Int}:popD K σ i j ms ls (.int k)=∃d,(0<=k/\ls[k.toNat]?=some d/\ms.length<lim/\k<16777216)/\K.nx (setS (setS σ j (some (.ow (ls.eraseIdx k.toNat)))) i (some (.ow (ms ++ [d])))):=rfl
theorem ws_forR{i:Nat}{es:List Ex}{b:Sm}:wpS C (.forR i es b) K σ=wpEs C es σ fun ds=>rgD ds fun xs=>forL (fun K σ=>wpS C b K σ) i K xs σ:=rfl
end
theorem forL_cons{body:DE->Sto->Prop}{i:Nat}{K:DE}{d:D}{ds:List D}{σ:Sto}:forL body i K (d::ds) σ=body { K with nx:=forL body i K ds,ct:=forL body i K ds,bk:=K.nx } (setS σ i (some (.sh d))):=rfl
theorem KK{body:DE->Sto->Prop}{i:Nat}{K:DE}(P:List D->Sto->Prop)(hb:∀K K' σ,DE.le K K'->body K σ->body K' σ) :
 ∀(xs:List D) (σ:Sto),P xs σ->(∀d ds σ,P (d::ds) σ->body { K with nx:=P ds,ct:=P ds,bk:=K.nx } (setS σ i (some (.sh d))))->(∀σ,P [] σ->K.nx σ)->forL body i K xs σ
 |[],σ,h0,hs,he=>he σ h0
 |d::ds,σ,h0,hs,he=>by
  rw[forL_cons];refine hb _ _ _ ?_ (hs d ds σ h0);exact⟨fun σ' p=>KK P hb ds σ' p hs he,fun _ z=>z,fun _ z=>z,fun σ' p=>KK P hb ds σ' p hs he,fun _ z=>z,fun _ z=>z,fun _ z=>z⟩
theorem forS_by{C:Cfg}{b:Sm}{i:Nat}{K:DE}{xs:List D}{σ:Sto}(P:List D->Sto->Prop)(h0:P xs σ)(hs:∀d ds σ,P (d::ds) σ->wpS C b { K with nx:=P ds,ct:=P ds,bk:=K.nx } (setS σ i (some (.sh d))))(he:∀σ,P [] σ->K.nx σ) :
 forL (fun K σ=>wpS C b K σ) i K xs σ:=KK (body:=fun K σ=>wpS C b K σ) P (fun K K' σ h w=>jn b h w) xs σ h0 hs he
theorem whileW_by{c:Sto->(Bool->Prop)->Prop}{body:DE->Sto->Prop}{K:DE}{σ:Sto}(P:Sto->Prop)(μ:Sto->Nat)(h0:P σ)
 (hs:∀σ,P σ->c σ fun t=>if t=true then body { K with nx:=fun σ'=>μ σ'<μ σ/\P σ',ct:=fun σ'=>μ σ'<μ σ/\P σ',bk:=K.nx } σ else K.nx σ)
 (hc:∀σ Q Q',(∀t,Q t->Q' t)->c σ Q->c σ Q') (hb:∀K K' σ,DE.le K K'->body K σ->body K' σ):whileW c body K σ:=by
 refine⟨fun m σ=>m=μ σ/\P σ,⟨_,rfl,h0⟩,?_⟩;rintro m σ ⟨rfl,p⟩;refine hc σ _ _ (fun t w=>?_) (hs σ p)
 cases t with
 |true =>
  refine hb _ _ _ ?_ w
  exact⟨fun σ' ⟨l,p'⟩=>⟨_,l,rfl,p'⟩,fun _ z=>z,fun _ z=>z,fun σ' ⟨l,p'⟩=>⟨_,l,rfl,p'⟩,fun _ z=>z,fun _ z=>z,fun _ z=>z⟩
 |false=>exact w
theorem qJ{C:Cfg}{c:Ex}{b:Sm}{K:DE}{σ:Sto}(P:Sto->Prop)(μ:Sto->Nat)(h0:P σ)
 (hs:∀σ,P σ->wpE C c σ (isB fun t=>if t=true then wpS C b { K with nx:=fun σ'=>μ σ'<μ σ/\P σ',ct:=fun σ'=>μ σ'<μ σ/\P σ',bk:=K.nx } σ else K.nx σ)):wpS C (.whl c b) K σ:=by
 exact whileW_by P μ h0 hs (fun σ Q Q' h w=>ja c (fun d=>jW h) w) fun K K' σ h w=>jn b h w
theorem eq_non_non:eqD .non .non=true:=by unfold eqD;rfl
theorem eq_non_bl{v:Bool}:eqD .non (.bl v)=false:=by unfold eqD;rfl
theorem eq_non_int{v:Int}:eqD .non (.int v)=false:=by unfold eqD;rfl
theorem eq_non_str{v:Str}:eqD .non (.str v)=false:=by unfold eqD;rfl
theorem eq_non_tup{v:List D}:eqD .non (.tup v)=false:=by unfold eqD;rfl
theorem eq_non_lst{v:List D}:eqD .non (.lst v)=false:=by unfold eqD;rfl
theorem eq_bl_non{u:Bool}:eqD (.bl u) .non=false:=by unfold eqD;rfl
theorem eq_bl_bl{u:Bool}{v:Bool}:eqD (.bl u) (.bl v)=(u == v):=by unfold eqD;rfl
theorem eq_bl_int{u:Bool}{v:Int}:eqD (.bl u) (.int v)=((if u then 1 else 0) == v):=by unfold eqD;rfl
theorem eq_bl_str{u:Bool}{v:Str}:eqD (.bl u) (.str v)=false:=by unfold eqD;rfl
theorem eq_bl_tup{u:Bool}{v:List D}:eqD (.bl u) (.tup v)=false:=by unfold eqD;rfl
theorem eq_bl_lst{u:Bool}{v:List D}:eqD (.bl u) (.lst v)=false:=by unfold eqD;rfl
theorem eq_int_non{u:Int}:eqD (.int u) .non=false:=by unfold eqD;rfl
theorem eq_int_bl{u:Int}{v:Bool}:eqD (.int u) (.bl v)=(u == (if v then 1 else 0)):=by unfold eqD;rfl
theorem eq_int_int{u:Int}{v:Int}:eqD (.int u) (.int v)=(u == v):=by unfold eqD;rfl
theorem eq_int_str{u:Int}{v:Str}:eqD (.int u) (.str v)=false:=by unfold eqD;rfl
theorem eq_int_tup{u:Int}{v:List D}:eqD (.int u) (.tup v)=false:=by unfold eqD;rfl
theorem eq_int_lst{u:Int}{v:List D}:eqD (.int u) (.lst v)=false:=by unfold eqD;rfl
theorem eq_str_non{u:Str}:eqD (.str u) .non=false:=by unfold eqD;rfl
theorem eq_str_bl{u:Str}{v:Bool}:eqD (.str u) (.bl v)=false:=by unfold eqD;rfl
theorem eq_str_int{u:Str}{v:Int}:eqD (.str u) (.int v)=false:=by unfold eqD;rfl
theorem eq_str_str{u:Str}{v:Str}:eqD (.str u) (.str v)=(u == v):=by unfold eqD;rfl
theorem eq_str_tup{u:Str}{v:List D}:eqD (.str u) (.tup v)=false:=by unfold eqD;rfl
theorem eq_str_lst{u:Str}{v:List D}:eqD (.str u) (.lst v)=false:=by unfold eqD;rfl
theorem eq_tup_non{u:List D}:eqD (.tup u) .non=false:=by unfold eqD;rfl
theorem eq_tup_bl{u:List D}{v:Bool}:eqD (.tup u) (.bl v)=false:=by unfold eqD;rfl
theorem eq_tup_int{u:List D}{v:Int}:eqD (.tup u) (.int v)=false:=by unfold eqD;rfl
theorem eq_tup_str{u:List D}{v:Str}:eqD (.tup u) (.str v)=false:=by unfold eqD;rfl
theorem eq_tup_tup{u:List D}{v:List D}:eqD (.tup u) (.tup v)=xr u v:=by unfold eqD;rfl
theorem eq_tup_lst{u:List D}{v:List D}:eqD (.tup u) (.lst v)=false:=by unfold eqD;rfl
theorem eq_lst_non{u:List D}:eqD (.lst u) .non=false:=by unfold eqD;rfl
theorem eq_lst_bl{u:List D}{v:Bool}:eqD (.lst u) (.bl v)=false:=by unfold eqD;rfl
theorem eq_lst_int{u:List D}{v:Int}:eqD (.lst u) (.int v)=false:=by unfold eqD;rfl
theorem eq_lst_str{u:List D}{v:Str}:eqD (.lst u) (.str v)=false:=by unfold eqD;rfl
theorem eq_lst_tup{u:List D}{v:List D}:eqD (.lst u) (.tup v)=false:=by unfold eqD;rfl
theorem eq_lst_lst{u:List D}{v:List D}:eqD (.lst u) (.lst v)=xr u v:=by unfold eqD;rfl
theorem eqs_nn:xr [] []=true:=by unfold xr;rfl
theorem eqs_nc{y:D}{ys:List D}:xr [] (y::ys)=false:=by unfold xr;rfl
theorem eqs_cn{y:D}{ys:List D}:xr (y::ys) []=false:=by unfold xr;rfl
theorem eqs_cc{x y:D}{xs ys:List D}:xr (x::xs) (y::ys)=(eqD x y&&xr xs ys):=by rw[xr]
theorem dep_non:kt .non=0:=by unfold kt;rfl
theorem dep_bl{u:Bool}:kt (.bl u)=0:=by unfold kt;rfl
theorem dep_int{u:Int}:kt (.int u)=0:=by unfold kt;rfl
theorem dep_str{u:Str}:kt (.str u)=0:=by unfold kt;rfl
theorem dep_tup{u:List D}:kt (.tup u)=xY u+1:=by unfold kt;rfl
theorem dep_lst{u:List D}:kt (.lst u)=xY u+1:=by unfold kt;rfl
theorem deps_n:xY []=0:=by unfold xY;rfl
theorem deps_c{x:D}{xs:List D}:xY (x::xs)=max (kt x) (xY xs):=by rw[xY]
section
variable {Q:D->Prop} {i j:Int}
theorem bin_add:xt .add (.int i) (.int j) Q=Q (.int (i+j)):=rfl
theorem bin_adds{x y:Str}:xt .add (.str x) (.str y) Q=(x.length+y.length<=lim/\Q (.str (x++y))):=rfl
theorem bin_addl{x y:List D}:xt .add (.lst x) (.lst y) Q=(x.length+y.length<=lim/\Q (.lst (x++y))):=rfl
theorem bin_sub:xt .sub (.int i) (.int j) Q=Q (.int (i-j)):=rfl
theorem bin_mul:xt .mul (.int i) (.int j) Q=(zm i j/\Q (.int (i*j))):=rfl
theorem bin_mull{x:List D}{k:Int}:xt .mul (.lst x) (.int k) Q=(ue x.length k/\Q (.lst (List.replicate k.toNat x).flatten)):=rfl
theorem bin_fdiv:xt .fdiv (.int i) (.int j) Q=((j≠0/\bits j<=9000)/\Q (.int (i.fdiv j))):=rfl
theorem bin_mod:xt .mod (.int i) (.int j) Q=(j≠0/\Q (.int (i.fmod j))):=rfl
theorem bin_shl:xt .shl (.int i) (.int j) Q=(ShlOk i j/\Q (.int (i*2^j.toNat))):=rfl
theorem bin_shr:xt .shr (.int i) (.int j) Q=(0<=j/\Q (.int (i / 2^j.toNat))):=rfl
theorem bin_band:xt .band (.int i) (.int j) Q=Q (.int (Builtin.bitAnd i j)):=rfl
theorem bin_pow:xt .pow (.int i) (.int j) Q=(PowOk i j/\Q (.int (i^j.toNat))):=rfl
theorem cmp_eq{x y:D}:kT .eq x y Q=(min (kt x) (kt y)<=100/\Q (.bl (eqD x y))):=rfl
theorem cmp_ne{x y:D}:kT .ne x y Q=(min (kt x) (kt y)<=100/\Q (.bl (!eqD x y))):=rfl
theorem cmp_lt:kT .lt (.int i) (.int j) Q=Q (.bl (decide (i<j))):=rfl
theorem cmp_le:kT .le (.int i) (.int j) Q=Q (.bl (decide (i<=j))):=rfl
theorem cmp_gt:kT .gt (.int i) (.int j) Q=Q (.bl (decide (j<i))):=rfl
theorem cmp_ge:kT .ge (.int i) (.int j) Q=Q (.bl (decide (j<=i))):=rfl
theorem cmp_isT{b:Bool}:kT .isT (.bl b) (.bl true) Q=Q (.bl b):=by cases b<;>rfl
theorem cmp_notT{b:Bool}:kT .notT (.bl b) (.bl true) Q=Q (.bl (!b)):=by cases b<;>rfl
theorem ix_lst{xs:List D}:ixD (.lst xs) (.int i) Q=∃d,atD xs i=some d/\Q d:=rfl
theorem ix_tup{xs:List D}:ixD (.tup xs) (.int i) Q=∃d,atD xs i=some d/\Q d:=rfl
theorem bi_abs:biD .abs [.int i] Q=Q (.int (if i<0 then -i else i)):=rfl
theorem bi_max:biD .max [.int i,.int j] Q=Q (.int (if j > i then j else i)):=rfl
theorem bi_min:biD .min [.int i,.int j] Q=Q (.int (if j<i then j else i)):=rfl
theorem bi_lenl{xs:List D}:biD .len [.lst xs] Q=Q (.int xs.length):=rfl
theorem bi_lent{xs:List D}:biD .len [.tup xs] Q=Q (.int xs.length):=rfl
theorem bi_int:biD .int [.int i] Q=Q (.int i):=rfl
theorem bi_intb{b:Bool}:biD .int [.bl b] Q=Q (.int (if b then 1 else 0)):=rfl
theorem bi_listl{xs:List D}:biD .list [.lst xs] Q=Q (.lst xs):=rfl
theorem bi_str{i:Int}:biD .str [.int i] Q=(i.natAbs.log2<1920/\Q (.str (toString i:String))):=rfl
theorem bi_tupl{xs:List D}:biD .tuple [.lst xs] Q=Q (.tup xs):=rfl
theorem bi_tupt{xs:List D}:biD .tuple [.tup xs] Q=Q (.tup xs):=rfl
theorem bi_listt{xs:List D}:biD .list [.tup xs] Q=Q (.lst xs):=rfl
theorem uh{α:Type}{f:α->D}(hf:∀a b,f a=f b->a=b):∀ {xs ys:List α},xs.map f=ys.map f->xs=ys
 |[],[],_=>rfl
 |[],_::_,h=>by simp at h
 |_::_,[],h=>by simp at h
 |x::xs,y::ys,h=>by
  simp only[List.map_cons,List.cons.injEq]at h;rw[hf _ _ h.1,uh hf h.2]
theorem bi_sum{ns:List Int}{Q:D->Prop}:biD .sum [.lst (ns.map .int)] Q ↔ Q (.int ns.sum):=by
 unfold biD zH zX;exact⟨fun⟨ms,e,q⟩=>by rw[uh (fun a b h=>by injection h) e];exact q,fun q=>⟨ns,rfl,q⟩⟩
theorem bi_all{bs:List Bool}{Q:D->Prop}:biD .all [.lst (bs.map .bl)] Q ↔ Q (.bl (bs.all id)):=by
 unfold biD zH zX;exact⟨fun⟨ms,e,q⟩=>by rw[uh (fun a b h=>by injection h) e];exact q,fun q=>⟨bs,rfl,q⟩⟩
theorem bi_any{bs:List Bool}{Q:D->Prop}:biD .any [.lst (bs.map .bl)] Q ↔ Q (.bl (bs.any id)):=by
 unfold biD zH zX;exact⟨fun⟨ms,e,q⟩=>by rw[uh (fun a b h=>by injection h) e];exact q,fun q=>⟨bs,rfl,q⟩⟩
theorem mm_ints{mx:Bool}{ns:List Int}{d:Int}{Q:D->Prop}:mmD mx (.lst (ns.map .int)) (.int d) Q ↔ Q (.int (mmF mx d ns)):=by
 unfold mmD;exact⟨fun⟨ms,e,q⟩=>by rw[uh (fun a b h=>by injection h) e];exact q,fun q=>⟨ns,rfl,q⟩⟩
theorem mt_bits:mtD .bitlen (.int i) Q=Q (.int (bits i)):=rfl
theorem uF{P:Bool->Prop}{b:Bool}:isB P (.bl b)=P b:=rfl
theorem unp_lst{is:List Nat}{K:DE}{σ:Sto}{ds:List D}:unpD is K σ (.lst ds)=∃σ',setAll is ds σ=some σ'/\K.nx σ':=rfl
theorem unp_tup{is:List Nat}{K:DE}{σ:Sto}{ds:List D}:unpD is K σ (.tup ds)=∃σ',setAll is ds σ=some σ'/\K.nx σ':=rfl
theorem rg_1{P:List D->Prop}:rgD [.int i] P=(xi i/\P (kc 0 1 i.toNat)):=rfl
theorem rg_2{P:List D->Prop}:rgD [.int i,.int j] P=((xi i/\xi j)/\P (kc i 1 (j-i).toNat)):=rfl
theorem rg_3{P:List D->Prop}{k:Int}:rgD [.int i,.int j,.int k] P=((xi i/\xi j/\0<k/\k<1000)/\P (kc i k (if i<j then (j-i-1) / k+1 else 0).toNat)):=rfl
end
theorem atD_0{x:D}{xs:List D}:atD (x::xs) 0=some x:=rfl
theorem atD_1{x y:D}{xs:List D}:atD (x::y::xs) 1=some y:=rfl
theorem atD_2{x y z:D}{xs:List D}:atD (x::y::z::xs) 2=some z:=rfl
theorem atD_3{x y z u:D}{xs:List D}:atD (x::y::z::u::xs) 3=some u:=rfl
theorem aI{a b:Prop}(x:a)(y:b):a/\b:=⟨x,y⟩
noncomputable def zC:=aI @popD_int<|aI @otD_ot<|aI @obD_ot<|aI @obD_sh<|aI @app2D_int<|aI @isL_lst<|aI @insD_int<|aI @appD_ow<|aI @stoD_int<|aI @stoW_ow<|aI @ownD_ow<|aI @ocD_ow<|aI @ocD_ot<|aI @bin_add<|aI @bin_adds<|aI @bin_addl<|aI @bin_sub<|aI @bin_mul<|aI @bin_mull<|aI @bin_fdiv<|aI @bin_mod<|aI @bin_shl<|aI @bin_shr<|aI @bin_band<|aI @bin_pow<|aI @cmp_eq<|aI @cmp_ne<|aI @cmp_lt<|aI @cmp_le<|aI @cmp_gt<|aI @cmp_ge<|aI @cmp_isT<|aI @cmp_notT<|aI @ix_lst<|aI @ix_tup<|aI @bi_abs<|aI @bi_max<|aI @bi_min<|aI @bi_lenl<|aI @bi_lent<|aI @bi_int<|aI @bi_intb<|aI @bi_listl<|aI @bi_listt<|aI @bi_tupl<|aI @bi_tupt<|aI @bi_sum<|aI @bi_all<|aI @bi_any<|aI @mm_ints<|aI @mt_bits<|aI @uF<|aI @unp_tup<|aI @unp_lst<|aI @rg_1<|aI @rg_2<|aI @rg_3<|aI @eq_non_non<|aI @eq_non_bl<|aI @eq_non_int<|aI @eq_non_str<|aI @eq_non_tup<|aI @eq_non_lst<|aI @eq_bl_non<|aI @eq_bl_bl<|aI @eq_bl_int<|aI @eq_bl_str<|aI @eq_bl_tup<|aI @eq_bl_lst<|aI @eq_int_non<|aI @eq_int_bl<|aI @eq_int_int<|aI @eq_int_str<|aI @eq_int_tup<|aI @eq_int_lst<|aI @eq_str_non<|aI @eq_str_bl<|aI @eq_str_int<|aI @eq_str_str<|aI @eq_str_tup<|aI @eq_str_lst<|aI @eq_tup_non<|aI @eq_tup_bl<|aI @eq_tup_int<|aI @eq_tup_str<|aI @eq_tup_tup<|aI @eq_tup_lst<|aI @eq_lst_non<|aI @eq_lst_bl<|aI @eq_lst_int<|aI @eq_lst_str<|aI @eq_lst_tup<|aI @eq_lst_lst<|aI @eqs_nn<|aI @eqs_nc<|aI @eqs_cn<|aI @eqs_cc<|aI @dep_non<|aI @dep_bl<|aI @dep_int<|aI @dep_str<|aI @dep_tup<|aI @dep_lst<|aI @deps_n<|aI @deps_c<|aI @decide_eq_true_eq<|aI @Bool.not_eq_true'<|aI @Bool.and_eq_true<|aI @Bool.not_true<|aI @Bool.not_false<|aI @decide_eq_false_iff_not<|aI @false_implies<|aI @and_true<|aI @true_and<|aI @and_false<|aI @false_and<|aI @Nat.min_self<|aI @Nat.max_self<|aI @Nat.zero_le<|aI @Nat.min_zero<|aI @Nat.zero_min<|aI @Nat.max_zero<|aI @Nat.zero_max<|aI @atD_0<|aI @atD_1<|aI @atD_2<|aI @atD_3<|aI @Bool.true_eq_false<|aI @Bool.false_eq_true<|aI @not_false_eq_true<|aI @not_true_eq_false<|aI @Bool.and_true<|aI @Bool.true_and<|aI @Bool.and_false<|aI @Bool.false_and<|aI @Bool.or_true<|aI @Bool.true_or<|aI @Bool.or_false<|aI @Bool.false_or<|@Int.cast_ofNat_Int
noncomputable def zP:=aI @ws_nop<|aI @jp<|aI @ws_set<|aI @ws_unp<|aI @ws_ret<|aI @kZ<|aI @ws_brk<|aI @ws_cnt<|aI @ws_never<|aI @ws_new<|aI @ws_app<|@ws_shr
noncomputable def zS:=aI @ws_seq_set<|aI @ws_seq_unp<|aI @ws_seq_ret<|aI @ws_seq_new<|aI @ws_seq_app<|aI @ws_seq_shr<|aI @ws_nop<|aI @ws_ret<|aI @ws_brk<|aI @ws_cnt<|@ws_never
noncomputable def xu(σ:Sto)(i:Nat):Int:=match getS σ i with|some (.sh (.int k))=>k|_=>0
theorem jJ{i j:Int}(h:bits i+bits j<=134217728):zm i j:=.inr (.inr h)
noncomputable def v9:Sm :=
 (.seq (.set 1 (.cst (.int 1)))
 (.seq (.set 2 (.cst (.int 2)))
 (.seq (.set 3 (.var 0))
 (.seq (.whl (.cmp .gt (.var 3) (.cst (.int 0))) (.seq (.ite (.cmp .eq (.bin .mod (.var 3) (.cst (.int 2))) (.cst (.int 1))) (.seq (.set 1 (.bin .mul (.var 1) (.var 2)))
  .nop) .nop)
  (.seq (.set 2 (.bin .mul (.var 2) (.var 2)))
  (.seq (.set 3 (.bin .fdiv (.var 3) (.cst (.int 2))))
  .nop))))
 (.seq (.ret (.var 1))
 .nop)))))
noncomputable def KU(i_two_to:Nat):Sm :=
 (.seq (.ite (.cmp .lt (.ix (.var 0) (.cst (.int 1))) (.cst (.int 0))) (.seq (.ret (.tup [(.ix (.var 0) (.cst (.int 0))),(.call i_two_to [(.neg (.ix (.var 0) (.cst (.int 1))))])]))
  .nop) .nop)
 (.seq (.ret (.tup [(.bin .mul (.ix (.var 0) (.cst (.int 0))) (.call i_two_to [(.ix (.var 0) (.cst (.int 1)))])),(.cst (.int 1))]))
 .nop))
noncomputable def kH:Ctr where
 pre ds:=match ds with|[.int n]=>0<=n/\n<=1000000|_=>False
 res ds d:=match ds with|[.int n]=>d=.int (2^n.toNat)|_=>False
theorem k_two_to{C:Cfg}:jC C 4 v9 kH:=by
 rintro ds h;simp only[kH]at h;split at h
 case h_2=>exact h.elim
 next n =>
 obtain⟨n,rfl⟩:∃m:Nat,n=m:=⟨n.toNat,by lia⟩
 have hn:n<=1000000:=by lia
 try simp only[zP,zC,wE_var,wE_cst,wE_con,wE_bin,wE_neg,wE_not,wE_cmp,wE_chain,wE_and,wE_or,wE_ife,wE_tup,wE_lst,wE_ix,wE_call,wE_bi,wE_meth,wE_isi,wE_compR,wE_compE,wE_slc,wE_sm,wE_fst,wE_compF,wpEs,getS,setS,setAll,tyD,itemsD,Ctr.wp,startS,List.map,List.replicate,Nat.reduceSub,Nat.reduceAdd,reduceIte,Nat.reduceLeDiff,Nat.reduceLT,Int.reduceEq,Int.reduceNeg,Int.reduceLT,Int.reduceLE,Int.reduceSub,Int.reduceAdd,Int.reduceBEq,List.map_cons,List.map_nil,List.replicate_succ,List.replicate_zero,List.length_cons,List.length_nil,List.cons_append,List.nil_append,List.append_nil,forall_eq,forall_eq',implies_true,if_true,if_false,ite_true,ite_false,Option.some.injEq,exists_eq_left',exists_eq_left,ne_eq,beq_iff_eq,beq_self_eq_true,beq_eq_false_iff_ne,Option.isSome_some,v9,kH,Int.toNat_natCast]
 refine qJ (fun σ=>∃j:Nat,2^j<=2*n+2/\σ=[some (.sh (.int n)),some (.sh (.int (2^(n%2^j)))),some (.sh (.int (2^(2^j)))),some (.sh (.int ((n / 2^j:Nat):Int)))]) (fun σ=>(xu σ 3).toNat) ?_ ?_
 ·refine⟨0,by lia,?_⟩;simp[Nat.mod_one]
 ·rintro σ ⟨j,hj,rfl⟩
  try simp only[zP,zC,wE_var,wE_cst,wE_con,wE_bin,wE_neg,wE_not,wE_cmp,wE_chain,wE_and,wE_or,wE_ife,wE_tup,wE_lst,wE_ix,wE_call,wE_bi,wE_meth,wE_isi,wE_compR,wE_compE,wE_slc,wE_sm,wE_fst,wE_compF,wpEs,getS,setS,setAll,tyD,itemsD,Ctr.wp,startS,List.map,List.replicate,Nat.reduceSub,Nat.reduceAdd,reduceIte,Nat.reduceLeDiff,Nat.reduceLT,Int.reduceEq,Int.reduceNeg,Int.reduceLT,Int.reduceLE,Int.reduceSub,Int.reduceAdd,Int.reduceBEq,List.map_cons,List.map_nil,List.replicate_succ,List.replicate_zero,List.length_cons,List.length_nil,List.cons_append,List.nil_append,List.append_nil,forall_eq,forall_eq',implies_true,if_true,if_false,ite_true,ite_false,Option.some.injEq,exists_eq_left',exists_eq_left,ne_eq,beq_iff_eq,beq_self_eq_true,beq_eq_false_iff_ne,Option.isSome_some,xu]
  by_cases h0:0<n / 2^j
  ·rw[if_pos (by lia)]
   have hle:2^j<=n:=by
    rcases Nat.lt_or_ge n (2^j) with h|h
    ·rw[Nat.div_eq_of_lt h]at h0;lia
    ·exact h
   have e1:((n / 2^j:Nat):Int).fmod 2=((n / 2^j%2:Nat):Int):=by rw[ji (by decide)];lia
   have e2:((n / 2^j:Nat):Int).fdiv 2=((n / 2^(j+1):Nat):Int):=by
    rw[jr (by decide),Nat.pow_succ,<- Nat.div_div_eq_div_mul];lia
   have e3:(2:Int)^2^j*2^2^j=2^2^(j+1):=by rw[<- Int.pow_add,Nat.pow_succ];congr 1;lia
   have m2:zm ((2:Int)^2^j) (2^2^j):=jJ (by rw[jz];lia)
   have lt:(((n / 2^(j+1):Nat):Int)).toNat<(((n / 2^j:Nat):Int)).toNat:=by
    have:n / 2^(j+1)<n / 2^j:=by rw[Nat.pow_succ,<- Nat.div_div_eq_div_mul];lia
    lia
   have hj':2^(j+1)<=2*n+2:=by rw[Nat.pow_succ];lia
   rw[e1,e2,e3]
   have dec:n%2^(j+1)=n%2^j+2^j*(n / 2^j%2):=by rw[Nat.pow_succ,Nat.mod_mul]
   by_cases ho:n / 2^j%2=1
   ·rw[if_pos (by lia)]
    have e4:(2:Int)^(n%2^j)*2^2^j=2^(n%2^(j+1)):=by rw[<- Int.pow_add,dec,ho];congr 1;lia
    have hm:n%2^j<2^j:=Nat.mod_lt _ (Nat.two_pow_pos j);have m1:zm ((2:Int)^(n%2^j)) (2^2^j):=jJ (by rw[jz,jz];lia);exact⟨m1,m2,by decide,lt,j+1,hj',by rw[e4]⟩
   ·rw[if_neg (by lia)]
    have e4:n%2^(j+1)=n%2^j:=by
     have:n / 2^j%2=0:=by lia
     rw[dec,this];lia
    exact⟨m2,by decide,lt,j+1,hj',by rw[e4]⟩
  ·rw[if_neg (by lia)]
   have:n<2^j:=by
    rcases Nat.lt_or_ge n (2^j) with h|h
    ·exact h
    ·have:=Nat.div_pos h (Nat.two_pow_pos j);lia
   rw[Nat.mod_eq_of_lt this]
theorem jO{C:Cfg}{a b:Sm}{K:DE}{σ:Sto}(P:Sto->Prop)(h1:wpS C a { K with nx:=P } σ)(h2:∀σ',P σ'->wpS C b K σ'):wpS C (.seq a b) K σ:=by
 rw[jp];refine jn a ?_ h1;exact⟨fun σ' p=>h2 σ' p,fun _ z=>z,fun _ z=>z,fun _ z=>z,fun _ z=>z,fun _ z=>z,fun _ z=>z⟩
noncomputable def xC:Ctr where
 pre ds:=match ds with|[.tup [.int w,.int p]]=>(-1000000<=p/\p<=1000000)/\bits w<=1000000|_=>False
 res ds d:=match ds with|[.tup [.int w,.int p]]=>d=.tup [.int (if p<0 then w else w*2^p.toNat),.int (if p<0 then 2^(-p).toNat else 1)]|_=>False
theorem k_value{C:Cfg}{i:Nat}(h1:C.ct i=kH):jC C 1 (KU i) xC:=by
 rintro ds h;simp only[xC]at h;split at h
 case h_2=>exact h.elim
 next w p =>
 obtain⟨⟨p1,p2⟩,hw⟩:=h
 try simp only[zP,zC,wE_var,wE_cst,wE_con,wE_bin,wE_neg,wE_not,wE_cmp,wE_chain,wE_and,wE_or,wE_ife,wE_tup,wE_lst,wE_ix,wE_call,wE_bi,wE_meth,wE_isi,wE_compR,wE_compE,wE_slc,wE_sm,wE_fst,wE_compF,wpEs,getS,setS,setAll,tyD,itemsD,Ctr.wp,startS,List.map,List.replicate,Nat.reduceSub,Nat.reduceAdd,reduceIte,Nat.reduceLeDiff,Nat.reduceLT,Int.reduceEq,Int.reduceNeg,Int.reduceLT,Int.reduceLE,Int.reduceSub,Int.reduceAdd,Int.reduceBEq,List.map_cons,List.map_nil,List.replicate_succ,List.replicate_zero,List.length_cons,List.length_nil,List.cons_append,List.nil_append,List.append_nil,forall_eq,forall_eq',implies_true,if_true,if_false,ite_true,ite_false,Option.some.injEq,exists_eq_left',exists_eq_left,ne_eq,beq_iff_eq,beq_self_eq_true,beq_eq_false_iff_ne,Option.isSome_some,KU,xC,h1,kH]
 by_cases hp:p<0
 ·rw[if_pos hp];simp only[hp,if_true];exact⟨⟨by lia,by lia⟩,trivial⟩
 ·rw[if_neg hp];simp only[hp,if_false];refine⟨⟨by lia,by lia⟩,jJ ?_,trivial⟩;rw[jz];lia
end Z
local macro_rules | `(tactic|lia)=>`(tactic|lia -abstractProof)
local macro_rules | `(tactic|dsimp! only[$ls,*])=>`(tactic|try simp only[Z.zC,Z.wE_var,Z.wE_cst,Z.wE_con,Z.wE_bin,Z.wE_neg,Z.wE_not,Z.wE_cmp,Z.wE_chain,Z.wE_and,Z.wE_or,Z.wE_ife,Z.wE_tup,Z.wE_lst,Z.wE_ix,Z.wE_call,Z.wE_bi,Z.wE_meth,Z.wE_isi,Z.wE_compR,Z.wE_compE,Z.wE_slc,Z.wE_sm,Z.wE_fst,Z.wE_compF,Z.wpEs,Z.getS,Z.setS,Z.setAll,Z.tyD,Z.itemsD,Z.startS,List.map,List.replicate,Nat.reduceSub,Nat.reduceAdd,reduceIte,Nat.reduceLeDiff,Nat.reduceLT,Int.reduceEq,Int.reduceNeg,Int.reduceLT,Int.reduceLE,Int.reduceSub,Int.reduceAdd,Int.reduceBEq,List.map_cons,List.map_nil,List.replicate_succ,List.replicate_zero,List.length_cons,List.length_nil,List.cons_append,List.nil_append,List.append_nil,forall_eq,forall_eq',implies_true,if_true,if_false,ite_true,ite_false,Option.some.injEq,exists_eq_left',exists_eq_left,ne_eq,beq_iff_eq,beq_self_eq_true,beq_eq_false_iff_ne,Option.isSome_some,$ls,*])
local macro_rules | `(tactic|simp_arith only[$ls,*])=>`(tactic|try simp only[Z.zC,Z.wE_var,Z.wE_cst,Z.wE_con,Z.wE_bin,Z.wE_neg,Z.wE_not,Z.wE_cmp,Z.wE_chain,Z.wE_and,Z.wE_or,Z.wE_ife,Z.wE_tup,Z.wE_lst,Z.wE_ix,Z.wE_call,Z.wE_bi,Z.wE_meth,Z.wE_isi,Z.wE_compR,Z.wE_compE,Z.wE_slc,Z.wE_sm,Z.wE_fst,Z.wE_compF,Z.wpEs,Z.getS,Z.setS,Z.setAll,Z.tyD,Z.itemsD,Z.Ctr.wp,Z.startS,List.map,List.replicate,Nat.reduceSub,Nat.reduceAdd,reduceIte,Nat.reduceLeDiff,Nat.reduceLT,Int.reduceEq,Int.reduceNeg,Int.reduceLT,Int.reduceLE,Int.reduceSub,Int.reduceAdd,Int.reduceBEq,List.map_cons,List.map_nil,List.replicate_succ,List.replicate_zero,List.length_cons,List.length_nil,List.cons_append,List.nil_append,List.append_nil,forall_eq,forall_eq',implies_true,if_true,if_false,ite_true,ite_false,Option.some.injEq,exists_eq_left',exists_eq_left,ne_eq,beq_iff_eq,beq_self_eq_true,beq_eq_false_iff_ne,Option.isSome_some,$ls,*])
local macro_rules | `(tactic|simp_all_arith! only[$ls,*])=>`(tactic|dsimp! only[Z.zP,Z.Ctr.wp,$ls,*])
local macro_rules | `(tactic|simp_all! only[$ls,*])=>`(tactic|dsimp! only[Z.zS,$ls,*])
local macro_rules | `(tactic|simp_arith! only[$ls,*])=>`(tactic|simp_arith only[Z.zS,$ls,*])
namespace Z
open PySem
noncomputable def zJ:Sm :=
 (.seq (.ite (.cmp .eq (.var 0) (.lst [])) (.seq (.ret (.bin .mul (.var 1) (.cst (.int 7919))))
  .nop) .nop)
 (.seq (.ret (.bin .add (.ix (.var 0) (.bin .mod (.var 1) (.bi .len [(.var 0)]))) (.bin .mul (.bin .fdiv (.var 1) (.bi .len [(.var 0)])) (.cst (.int 104729)))))
 .nop))
noncomputable def yC:Sm :=
 (.seq (.set 2 (.bin .mod (.bin .add (.bin .mul (.var 0) (.cst (.int 6364136223846793005))) (.bin .mul (.bin .add (.var 1) (.cst (.int 1))) (.cst (.int 1442695040888963407)))) (.cst (.int 340282366920938463463374607431768211507))))
 (.seq (.ret (.bin .mod (.bin .mul (.var 2) (.var 2)) (.cst (.int 340282366920938463463374607431768211297))))
 .nop))
noncomputable def zw:Sm :=
 (.seq (.ite (.cmp .eq (.var 0) (.cst (.int 0))) (.seq (.ret (.tup [(.cst (.int 0)),(.cst (.int 0))]))
  .nop) .nop)
 (.seq (.set 2 (.bin .band (.var 0) (.bin .sub (.cst (.int 0)) (.var 0))))
 (.seq (.ret (.tup [(.bin .fdiv (.var 0) (.var 2)),(.bin .sub (.bin .add (.var 1) (.meth .bitlen (.var 2))) (.cst (.int 1)))]))
 .nop)))
noncomputable def yH:Sm :=
 (.seq (.ret (.and (.isi (.var 0) .int) (.not (.isi (.var 0) .bool))))
 .nop)
noncomputable def yM(i_law_drawn i_law_cell:Nat):Sm :=
 (.seq (.ret (.ix (.lst [(.bin .add (.cst (.int 8)) (.bin .mod (.call i_law_drawn [(.call i_law_cell [(.var 0),(.var 1)]),(.var 1)]) (.cst (.int 57)))),(.cst (.int 8)),(.cst (.int 53)),(.cst (.int 64))]) (.bin .mod (.call i_law_drawn [(.call i_law_cell [(.var 0),(.var 1)]),(.bin .add (.var 1) (.cst (.int 1)))]) (.cst (.int 4)))))
 .nop)
theorem atD_some{xs:List D}{i:Int}(h0:0<=i)(h1:i<xs.length):∃d,atD xs i=some d/\d∈xs:=by
 have h:i.toNat<xs.length:=by lia
 refine⟨xs[i.toNat],?_,List.getElem_mem h⟩;unfold atD;rw[if_pos h0,List.getElem?_eq_getElem h]
theorem script_at{ns:List Int}{i:Int}(h0:0<=i)(h1:i<ns.length):∃n,atD (ns.map .int) i=some (.int n):=by
 obtain⟨d,e,m⟩:=atD_some (xs:=ns.map .int) h0 (by simpa using h1);obtain⟨n,_,rfl⟩:=List.mem_map.mp m;exact⟨n,e⟩
noncomputable def yO:Ctr where
 pre ds:=∃(ns:List Int) (k:Int),ds=[.lst (ns.map .int),.int k]/\ns.length<=63/\0<=k
 res ds d:=∃i,d=.int i
theorem eqDs_nil(ns:List Int):xr (ns.map .int) []=decide (ns=[]):=by
 cases ns<;>simp[eqD,xr]
theorem k_cell{C:Cfg}:jC C 2 zJ yO:=by
 rintro ds ⟨ns,k,rfl,hl,hk⟩
 simp_all_arith! only[zJ,yO,List.length_map]
 refine⟨by lia,?_⟩;rw[eqDs_nil];simp only[decide_eq_true_eq];by_cases hn:ns=[]
 ·rw[if_pos hn];exact⟨.inr (.inl (by decide)),_,rfl⟩
 ·rw[if_neg hn];have hp:0<ns.length:=List.length_pos_iff.mpr hn;have hb:bits (ns.length:Int)<=64:=uZ (by lia) (by lia);rw[ji (by lia)];obtain⟨n,e⟩:=script_at (ns:=ns) (i:=k%ns.length) (Int.emod_nonneg _ (by lia)) (Int.emod_lt_of_pos _ (by lia));refine⟨by lia,_,e,⟨by lia,by lia⟩,.inr (.inl (by decide)),?_⟩
  simp_all_arith! only[]
  exact⟨_,rfl⟩
noncomputable def qh:Ctr where
 pre ds:=match ds with|[.int _,.int _]=>True|_=>False
 res ds d:=∃i,d=.int i/\0<=i/\i<340282366920938463463374607431768211297
theorem k_drawn{C:Cfg}:jC C 3 yC qh:=by
 rintro ds h;simp only[qh]at h;split at h
 case h_2=>exact h.elim
 next c k =>
 simp_all_arith! only[yC,qh]
 rw[ji (by decide),ji (by decide)];have b1:bits ((c*6364136223846793005+(k+1)*1442695040888963407)%340282366920938463463374607431768211507)<=129:=uZ (Int.emod_nonneg _ (by decide)) (Int.lt_trans (Int.emod_lt_of_pos _ (by decide)) (by decide));refine⟨.inr (.inl (by decide)),.inr (.inl (by decide)),jJ (by lia),_,rfl,Int.emod_nonneg _ (by decide),Int.emod_lt_of_pos _ (by decide)⟩
theorem two_part:∀n:Nat,0<n->∃v m,n=2^v*m/\m%2=1:=by
 intro n
 induction n using Nat.strongRecOn with
 |ind n ih =>
  intro hn;by_cases h:n%2=1
  ·exact⟨0,n,by simp,h⟩
  ·obtain⟨v,m,e,hm⟩:=ih (n / 2) (by lia) (by lia);refine⟨v+1,m,?_,hm⟩;rw[Nat.pow_succ,Nat.mul_right_comm,<- e];lia
theorem Kd:∀(v m:Nat),m%2=1->(2^v*m) &&& (2^v*m-1)=2^v*(m-1)
 |0,m,h=>by
  simp only[Nat.pow_zero,Nat.one_mul]
  refine Nat.eq_of_testBit_eq fun i=>?_
  rw[Nat.testBit_and]
  cases i with
  |zero=>simp only[Nat.testBit_zero];have:(m-1)%2=0:=by lia
         simp[h,this]
  |succ i=>simp only[Nat.testBit_succ];have:(m-1) / 2=m / 2:=by lia
           rw[this];simp
 |v+1,m,h=>by
  have ih:=Kd v m h;have hp:0<2^v*m:=Nat.mul_pos (Nat.two_pow_pos v) (by lia)
  have e1:2^(v+1)*m=2*(2^v*m):=by rw[Nat.pow_succ];grind
  have e2:2^(v+1)*(m-1)=2*(2^v*(m-1)):=by rw[Nat.pow_succ];grind
  rw[e1,e2];generalize hA:2^v*m=A at *
  refine Nat.eq_of_testBit_eq fun i=>?_
  rw[Nat.testBit_and]
  cases i with
  |zero=>simp only[Nat.testBit_zero];simp
  |succ i =>
   simp only[Nat.testBit_succ]
   have a1:(2*A) / 2=A:=by lia
   have a2:(2*A-1) / 2=A-1:=by lia
   have a3:2*(2^v*(m-1)) / 2=2^v*(m-1):=by lia
   rw[a1,a2,a3,<- ih,Nat.testBit_and]
theorem low_of{w:Int}(h:w≠0):∃(v:Nat) (m:Int),w=m*2^v/\m%2=1/\Builtin.bitAnd w (0-w)=2^v:=by
 obtain⟨v,m,e,hm⟩:=two_part w.natAbs (by lia);have hl:=Kd v m hm;rw[<- e]at hl
 have hp:(2^v*(m-1):Nat)=w.natAbs-2^v:=by rw[Nat.mul_sub,<- e];simp
 have hle:2^v<=w.natAbs:=by rw[e];exact Nat.le_mul_of_pos_right _ (by lia)
 have cast:((2^v:Nat):Int)=2^v:=by simp
 have ecast:(w.natAbs:Int)=2^v*m:=by rw[e];simp
 by_cases hw:0<=w
 ·refine⟨v,m,?_,by lia,?_⟩
  ·rw[Int.mul_comm,<- ecast];lia
  ·unfold Builtin.bitAnd
   have d1:decide (0<=w)=true:=by simpa using hw
   have d2:decide (0<=0-w)=false:=by simp;lia
   rw[d1,d2];simp only[Builtin.bitNot]
   have e1:w.toNat=w.natAbs:=by lia
   have e2:(-(0-w)-1).toNat=w.natAbs-1:=by lia
   rw[e1,e2,hl,hp];lia
 ·refine⟨v,-m,?_,by lia,?_⟩
  ·rw[Int.neg_mul,Int.mul_comm,<- ecast];lia
  ·unfold Builtin.bitAnd
   have d1:decide (0<=w)=false:=by simpa using hw
   have d2:decide (0<=0-w)=true:=by simp;lia
   rw[d1,d2];simp only[Builtin.bitNot]
   have e1:(0-w).toNat=w.natAbs:=by lia
   have e2:(-w-1).toNat=w.natAbs-1:=by lia
   rw[e1,e2,hl,hp];lia
structure Num (n:Nat) (w p:Int):Prop where
 odd:w%2=1\/(w=0/\p=0)
 sz:w.natAbs<2^n
structure Bare (w p w' p':Int):Prop where
 nought:w=0->w'=0/\p'=0
 same:w≠0->∃v:Nat,w=w'*2^v/\p'=p+v/\w'%2=1
theorem Bare.num{w p w' p':Int}{n:Nat}(b:Bare w p w' p')(h:w.natAbs<2^n):Num n w' p':=by
 by_cases hw:w=0
 ·obtain⟨rfl,rfl⟩:=b.nought hw;exact⟨.inr ⟨rfl,rfl⟩,Nat.two_pow_pos n⟩
 ·obtain⟨v,e,_,ho⟩:=b.same hw;refine⟨.inl ho,?_⟩
  have:w.natAbs=w'.natAbs*2^v:=by rw[e,Int.natAbs_mul,Int.natAbs_pow];rfl
  have:w'.natAbs*1<=w'.natAbs*2^v:=Nat.mul_le_mul_left _ (Nat.two_pow_pos v);lia
theorem Bare.pow{w p w' p':Int}{n:Nat}(b:Bare w p w' p')(h:w.natAbs<2^n):(w'=0/\p'=0)\/(p<=p'/\p'<p+n):=by
 by_cases hw:w=0
 ·exact .inl (b.nought hw)
 ·obtain⟨v,e,ep,ho⟩:=b.same hw;refine .inr ⟨by lia,?_⟩
  have:w.natAbs=w'.natAbs*2^v:=by rw[e,Int.natAbs_mul,Int.natAbs_pow];rfl
  have:1*2^v<=w'.natAbs*2^v:=Nat.mul_le_mul_right _ (by lia)
  have:2^v<2^n:=by lia
  have:=(Nat.pow_lt_pow_iff_right (a:=2) (by decide)).mp this;lia
noncomputable def uV:Ctr where
 pre ds:=match ds with|[.int w,.int _]=>bits w<=9000|_=>False
 res ds d:=match ds with|[.int w,.int p]=>∃w' p',d=.tup [.int w',.int p']/\Bare w p w' p'|_=>False
theorem k_bare{C:Cfg}:jC C 3 zw uV:=by
 rintro ds h;simp only[uV]at h;split at h
 case h_2=>exact h.elim
 next w p =>
 simp_all_arith! only[zw,uV]
 by_cases hw:w=0
 ·rw[if_pos hw];exact⟨0,0,rfl,fun _=>⟨rfl,rfl⟩,fun z=>absurd hw z⟩
 ·rw[if_neg hw];obtain⟨v,m,e,ho,el⟩:=low_of hw;rw[el,jz]
  have hv:v+1<=bits w:=by
   have:v<bits w:=by
    rw[xy,e,Int.natAbs_mul,Int.natAbs_pow];exact Nat.le_mul_of_pos_left _ (by lia)
   lia
  have hp:=two_pow_pos v;refine⟨⟨by lia,by lia⟩,m,p+v,?_,fun z=>absurd z hw,fun _=>⟨v,e,rfl,ho⟩⟩
  have:w.fdiv (2^v)=m:=by rw[jr (by lia),e,Int.mul_ediv_cancel _ (by lia)]
  rw[this,show p+((v+1:Nat):Int)-1=p+v by lia]
theorem shl_one{n:Nat}:(1:Int)*2^n=2^n:=Int.one_mul _
noncomputable def isInt:D->Bool
 |.int _=>true
 |_=>false
noncomputable def kJ:Ctr where
 pre ds:=match ds with|[_]=>True|_=>False
 res ds d:=match ds with|[x]=>d=.bl (isInt x)|_=>False
theorem k_whole{C:Cfg}:jC C 1 yH kJ:=by
 rintro ds h;simp only[kJ]at h;split at h
 case h_2=>exact h.elim
 next x =>
 cases x<;>simp_all_arith! only[yH,kJ,isInt]
theorem x6(i:Int):(if i<0 then -i else i)=i.natAbs:=by split<;>lia
noncomputable def yZ:Ctr where
 pre ds:=∃(ns:List Int) (k:Int),ds=[.lst (ns.map .int),.int k]/\ns.length<=63/\0<=k
 res ds d:=∃i,d=.int i/\8<=i/\i<=64
theorem k_width{C:Cfg}{i j:Nat}(h1:C.ct i=qh)(h2:C.ct j=yO):jC C 2 (yM i j) yZ:=by
 rintro ds ⟨ns,k,rfl,hl,hk⟩
 simp_all_arith! only[yM,yZ,h1,h2,yO,qh]
 have pc:∃(ns':List Int) (k':Int),[.lst (ns.map .int),.int k]=[D.lst (ns'.map .int),.int k']/\ns'.length<=63/\0<=k':=⟨ns,k,rfl,hl,hk⟩
 refine⟨pc,?_⟩;rintro d ⟨c,rfl⟩
 simp_all_arith! only[]
 rintro d ⟨m,rfl,m0,m1⟩
 simp_all_arith! only[]
 refine⟨pc,?_⟩;rintro d ⟨c,rfl⟩
 simp_all_arith! only[]
 rintro d ⟨m',rfl,m0',m1'⟩
 simp_all_arith! only[]
 rw[ji (by decide),ji (by decide)];obtain⟨d,e,hd⟩:=atD_some (xs:=[.int (8+m%57),.int 8,.int 53,.int 64]) (i:=m'%4) (by lia) (by simp;lia);refine⟨d,e,?_⟩;simp only[List.mem_cons,List.not_mem_nil,or_false]at hd
 rcases hd with rfl|rfl|rfl|rfl<;>exact⟨_,rfl,by lia,by lia⟩
theorem zn{P:Int->Prop}:∀(n:Nat) (lo st:Int),(∀i:Nat,i<n->P (lo+i*st))->∀d∈kc lo st n,∃i,d=.int i/\P i
 |0,lo,st,h,d,hd=>by simp[kc]at hd
 |n+1,lo,st,h,d,hd=>by
  simp only[kc,List.mem_cons]at hd;rcases hd with rfl|hd
  ·exact⟨lo,rfl,by simpa using h 0 (by lia)⟩
  ·refine zn n (lo+st) st (fun i hi=>?_) d hd;have:=h (i+1) (by lia)
   have e:lo+st+i*st=lo+((i+1:Nat):Int)*st:=by grind
   rw[e];exact this
noncomputable def ui:Ctr where
 pre ds:=∃ns:List Int,ds=[.lst (ns.map .int)]/\ns.length<=63
 res ds d:=d=.bl true
theorem for_law{C:Cfg}{b:Sm}{i:Nat}{K:DE}{xs:List D}{σ:Sto}(I:D->Prop)(P:Sto->Prop)(hx:∀d∈xs,I d)(h0:P σ)(hs:∀d σ,I d->P σ->wpS C b { K with nx:=P,ct:=P,bk:=K.nx } (setS σ i (some (.sh d))))(he:∀σ,P σ->K.nx σ) :
 forL (fun K σ=>wpS C b K σ) i K xs σ :=
 forS_by (fun ds σ=>(∀d∈ds,I d)/\P σ) ⟨hx,h0⟩ (fun d ds σ ⟨h1,h2⟩=>by
  refine jn b ?_ (hs d σ (h1 d (List.mem_cons_self ..)) h2)
  exact⟨fun _ p=>⟨fun e he=>h1 e (List.mem_cons_of_mem _ he),p⟩,fun _ z=>z,fun _ z=>z,fun _ p=>⟨fun e he=>h1 e (List.mem_cons_of_mem _ he),p⟩,fun _ z=>z,fun _ z=>z,fun _ z=>z⟩) fun σ ⟨_,h2⟩=>he σ h2
theorem forR_law{C:Cfg}{b:Sm}{i:Nat}{es:List Ex}{K:DE}{σ:Sto}(I:D->Prop)(P:Sto->Prop)(hx:wpEs C es σ fun ds=>rgD ds fun xs=>∀d∈xs,I d)(h0:P σ)(hs:∀d σ,I d->P σ->wpS C b { K with nx:=P,ct:=P,bk:=K.nx } (setS σ i (some (.sh d))))(he:∀σ,P σ->K.nx σ) :
 wpS C (.forR i es b) K σ:=by
 rw[ws_forR];exact jq es (fun ds=>vF fun xs hx=>for_law I P hx h0 hs he) hx
theorem turns_ok{n lo hi:Int}(h:0<=n)(h1:0<=lo)(h2:lo<=1000)(h3:0<=hi)(h4:hi<=1000):xi (if (if n<hi then n else hi) > lo then (if n<hi then n else hi) else lo):=by
 unfold xi
 split<;>split<;>lia
end Z
namespace Z
open PySem PySem.Spec PyProof.Rows L2
noncomputable def dum(N:List Str):Str:=⟨Array.replicate N.length 32⟩
noncomputable def qg(N:List Str)(x:Str):List Str:=N.map (fun y=>if y=x then dum N else y) ++ [x]
noncomputable def qx(scope:Scope)(x:Str)(cl:List (Str×Addr))(C:Addr):List (Str×Addr):=if scope.names.lookup x=some .cell then (x,C+1)::cl else cl
theorem Jk{scope:Scope}{x y:Str}{cl:List (Str×Addr)}{C:Addr}(h:y≠x):(qx scope x cl C).lookup y=cl.lookup y:=by
 unfold qx;split
 ·rw[List.lookup_cons,show (y == x)=false from beq_eq_false_iff_ne.mpr h]
 ·rfl
theorem kS{scope:Scope}{x y:Str}{cl:List (Str×Addr)}{C c:Addr}(h:(qx scope x cl C).lookup y=some c):(y=x/\c=C+1/\scope.names.lookup x=some .cell)\/cl.lookup y=some c:=by
 unfold qx at h;split at h
 ·next hc =>
  by_cases e:y=x
  ·subst e;rw[List.lookup_cons,show (y == y)=true from beq_self_eq_true y]at h;cases h;exact .inl ⟨rfl,rfl,hc⟩
  ·rw[List.lookup_cons,show (y == x)=false from beq_eq_false_iff_ne.mpr e]at h;exact .inr h
 ·exact .inr h
theorem vU{scope:Scope}{x:Str}{cl:List (Str×Addr)}{C:Addr}(h:scope.names.lookup x=some .cell):(qx scope x cl C).lookup x=some (C+1):=by
 unfold qx;rw[if_pos h,List.lookup_cons,show (x == x)=true from beq_self_eq_true x]
theorem KT:∀ {names:List (Str×NameKind)} {n:Nat} {acc:List (Str×Addr)} {h:Heap},(names.filter fun y=>y.2 == .cell)=[]->cellsFrom n names acc=acc/\pushCells h names=h
 |[],n,acc,h,_=>⟨rfl,rfl⟩
 |(m,k)::r,n,acc,h,e=>by
  cases hk:k == NameKind.cell with
  |true=>simp[List.filter_cons,hk]at e
  |false =>
   have e':(r.filter fun y=>y.2 == .cell)=[]:=by simpa[List.filter_cons,hk]using e
   unfold cellsFrom pushCells;simp only[hk,Bool.false_eq_true,if_false];exact KT e'
theorem cf_one{x:Str}:∀ {names:List (Str×NameKind)} {n:Nat} {acc:List (Str×Addr)} {h:Heap},(names.filter fun y=>y.2 == .cell)=[(x,.cell)]->cellsFrom n names acc=(x,n)::acc/\pushCells h names=h.push { cls:=.type "cell",data:=.cell none }
 |[],n,acc,h,e=>by simp at e
 |(m,k)::r,n,acc,h,e=>by
  cases hk:k == NameKind.cell with
  |true =>
   have e':m=x/\(r.filter fun y=>y.2 == .cell)=[]:=by
    have:((m,k)::(r.filter fun y=>y.2 == .cell))=[(x,.cell)]:=by rw[<- e];simp[List.filter_cons,hk]
    simp only[List.cons.injEq,Prod.mk.injEq]at this;exact⟨this.1.1,this.2⟩
   unfold cellsFrom pushCells;simp only[hk,if_true];obtain⟨z1,z2⟩:=KT (n:=n+1) (acc:=(m,n)::acc) (h:=h.push { cls:=.type "cell",data:=.cell none }) e'.2;rw[z1,z2,e'.1]
   exact⟨rfl,rfl⟩
  |false =>
   have e':(r.filter fun y=>y.2 == .cell)=[(x,.cell)]:=by simpa[List.filter_cons,hk]using e
   unfold cellsFrom pushCells;simp only[hk,Bool.false_eq_true,if_false];exact cf_one e'
theorem qO{env:Env}:∀ {names:List (Str×NameKind)} {x:Str},names.lookup x=some .cell ->
 (names.map fun(n,k)=>if (k == NameKind.free&&env.scope.kind == .function&&env.kindOf n == some .cell) then (n,NameKind.cell) else (n,k)).lookup x=some .cell
 |[],_,h=>by simp at h
 |(n,k)::r,x,h=>by
  have ih:=@qO env r x;show List.lookup x ((if (k == NameKind.free&&env.scope.kind == .function&&env.kindOf n == some .cell)=true then (n,NameKind.cell) else (n,k))::_)=_
  cases hx:x == n with
  |true =>
   simp only[List.lookup_cons,hx]at h;cases h
   simp[List.lookup_cons,hx]
  |false =>
   simp only[List.lookup_cons,hx]at h;by_cases hc:(k == NameKind.free&&env.scope.kind == .function&&env.kindOf n == some .cell)=true
   ·rw[if_pos hc];simp only[List.lookup_cons,hx];exact ih h
   ·rw[if_neg hc];simp only[List.lookup_cons,hx];exact ih h
theorem newEnv_comp{M:Model}{A:Around}{E:Value->Shared->Prop}{s:Shared}{scope:Scope}{globals:Addr}{cl:List (Str×Addr)}{x qual:Str}{env:Env}{bi:Addr}{Q:Env->Shared->Prop}
 (hc:(scope.names.filter fun y=>y.2 == .cell)=if scope.names.lookup x=some .cell then [(x,.cell)] else [])
 (hQ:∀h',h'.Ns s.heap.objs.size (fun _=>none)->(∀b o,s.heap.get? b=some o->h'.get? b=some o)->(scope.names.lookup x=some .cell->h'.IsCell (s.heap.objs.size+1) none) ->
  Q (newEnv scope s.heap.objs.size globals (qx scope x cl s.heap.objs.size) qual none .none (some env) bi) { s with heap:=h' }) :
 wpAny M A (newFunctionEnv scope globals cl [] qual none .none (some env) bi) Q E s:=by
 simp only[newFunctionEnv,Option.isSome_some,if_true];refine wpAny_bind (wpAny_alloc ?_);refine wpAny_bind (wpAny_layCells _ (fun name kind cells=>by cases hkc:kind == NameKind.cell<;>simp[hkc]) _ _ _ _ ?_);rw[show ({ s with heap:=s.heap.push { cls:=.type "dict",data:=.dict #[] } }:Shared).heap.objs.size=s.heap.objs.size+1 from Heap.size_push ..];refine wpAny_bind ?_;rw[List.forIn_nil];refine wpAny_pure (wpAny_pure ?_)
 have old:∀b o,s.heap.get? b=some o->(s.heap.push { cls:=.type "dict",data:=.dict #[] }).get? b=some o:=fun b o e=>Heap.get?_push_of_some _ e
 by_cases h:scope.names.lookup x=some .cell
 ·rw[if_pos h]at hc;obtain⟨e1,e2⟩:=cf_one (n:=s.heap.objs.size+1) (acc:=cl) (h:=s.heap.push { cls:=.type "dict",data:=.dict #[] }) hc;rw[e1,e2]
  have q:=hQ ((s.heap.push { cls:=.type "dict",data:=.dict #[] }).push { cls:=.type "cell",data:=.cell none }) ((Heap.Ns.new s.heap (.type "dict")).keeps fun b o e=>Heap.get?_push_of_some _ e) (fun b o e=>Heap.get?_push_of_some _ (old b o e)) fun _=>by
   have:=Heap.get?_push_size (s.heap.push { cls:=.type "dict",data:=.dict #[] }) (o:={ cls:=.type "cell",data:=.cell none }) rfl;rw[Heap.size_push]at this;exact⟨_,this,rfl⟩
  unfold qx at q;rw[if_pos h]at q;exact q
 ·rw[if_neg h]at hc;obtain⟨e1,e2⟩:=KT (n:=s.heap.objs.size+1) (acc:=cl) (h:=s.heap.push { cls:=.type "dict",data:=.dict #[] }) hc;rw[e1,e2]
  have q:=hQ (s.heap.push { cls:=.type "dict",data:=.dict #[] }) (Heap.Ns.new s.heap (.type "dict")) old fun z=>absurd z h
  unfold qx at q;rw[if_neg h]at q;exact q
noncomputable def qo(X:Cx)(s:Shared)(H:Hp)(fp:List Addr)(x:Str)(scope:Scope)(cl:List (Str×Addr))(C:Addr):Cx :=
 { X with N:=qg X.N x,s₀:=s,H₀:=H,env:=compEnvC scope (qx scope x cl C) C X.env,outer:=X.stack,stack:=X.stack,ex:=fp,fn:=fun y=>decide (scope.names.lookup x=some .cell)&&decide (y=x),pn:=[],xe:=fun _ _=>False }
structure CompOk (X:Cx) (x:Str) (scope:Scope) (cl:List (Str×Addr)):Prop where
 clos:closureFor scope X.env=pure cl
 kind:scope.kind=.function
 cell:(scope.names.filter fun y=>y.2 == .cell)=if scope.names.lookup x=some .cell then [(x,.cell)] else []
 names:∀y∈scope.names,y.2=.local->scope.names.lookup y.1=some .local
 loc:scope.names.lookup x=some .local\/scope.names.lookup x=some .cell
 only:∀y,(relabel scope X.env).names.lookup y=some .local->y=x\/(y ∉ X.N/\y≠(dum X.N))
 vis:∀y,y≠x->((relabel scope X.env).names.lookup y=some .cell\/(relabel scope X.env).names.lookup y=some .free)->Vis X.env.scope y/\X.env.scope.names.lookup y≠some .local/\∃c,cl.lookup y=some c
 sub:∀y c,cl.lookup y=some c->X.env.cells.lookup y=some c
 ne:x≠(dum X.N)
 noE:X.env.scope.names.lookup (dum X.N)=none
section
variable {X:Cx} {x:Str} {scope:Scope} {cl:List (Str×Addr)}
theorem blockN_last:(qg X.N x)[X.N.length]?=some x:=by
 unfold qg;rw[List.getElem?_append_right (by simp)];simp
theorem JW{i:Nat}{y:Str}(h:(qg X.N x)[i]?=some y)(hy:y≠x):i<X.N.length/\(X.N[i]?=some y\/y=(dum X.N)):=by
 unfold qg at h;by_cases hi:i<X.N.length
 ·refine⟨hi,?_⟩;rw[List.getElem?_append_left (by simpa using hi),List.getElem?_map,List.getElem?_eq_getElem hi]at h;simp only[Option.map_some,Option.some.injEq]at h;split at h
  ·exact .inr h.symm
  ·rw[List.getElem?_eq_getElem hi,h];exact .inl rfl
 ·exfalso;rw[List.getElem?_append_right (by simpa using hi)]at h;simp only[List.length_map]at h;rcases Nat.eq_or_lt_of_le (Nat.not_lt.mp hi) with z|z
  ·rw[<- z]at h;simp at h;exact hy h.symm
  ·rw[List.getElem?_eq_none (by simp;lia)]at h;cases h
theorem Ka(nd:X.N.Nodup)(he:(dum X.N) ∉ X.N)(hx:x≠(dum X.N)):(qg X.N x).Nodup:=by
 unfold qg;generalize dum X.N=dm at he hx ⊢;rw[List.nodup_append];refine⟨?_,by simp,?_⟩
 ·generalize X.N=N at nd he
  induction N with
  |nil=>simp
  |cons a r ih =>
   simp only[List.mem_cons,not_or]at he;have nd':=List.nodup_cons.mp nd;rw[List.map_cons,List.nodup_cons];refine⟨?_,ih nd'.2 he.2⟩;intro hm;obtain⟨b,hb,e⟩:=List.mem_map.mp hm;by_cases h1:a=x
   ·rw[if_pos h1]at e;by_cases h2:b=x
    ·exact nd'.1 (by rw[h1,<- h2];exact hb)
    ·rw[if_neg h2]at e;exact he.2 (e ▸ hb)
   ·rw[if_neg h1]at e;by_cases h2:b=x
    ·rw[if_pos h2]at e;exact he.1 e
    ·rw[if_neg h2]at e;exact nd'.1 (e ▸ hb)
 ·intro a ha b hb;simp only[List.mem_cons,List.not_mem_nil,or_false]at hb;subst hb;obtain⟨c,hc,e⟩:=List.mem_map.mp ha;by_cases h:c=b
  ·rw[if_pos h]at e;rw[<- e];exact Ne.symm hx
  ·rw[if_neg h]at e;rw[<- e];exact h
end
section
variable {X:Cx} {x:Str} {scope:Scope} {cl:List (Str×Addr)} {pins:List (Addr×Obj)} {σ:L2.St} {H:Hp} {s:Shared} {fp:List Addr}
theorem comp_ok(I:Inv X pins σ H s)(co:CompOk X x scope cl)(hf:∀b∈fp,vD X pins H b){C:Addr}(hC:s.heap.objs.size<=C)(hfp:∀b∈fp,b<s.heap.objs.size):(qo X s H fp x scope cl C).Ok where
 mod:=I.ok.mod
 kind:=co.kind
 glob:=I.ok.glob
 blt:=I.ok.blt
 above:=hC
 inj:=fun y z c h1 h2=>by
  have no:∀w,cl.lookup w≠some (C+1):=fun w e=>by
   obtain⟨v,q⟩:=I.cell w _ (co.sub w _ e);have:=q.lt;exact absurd (Nat.lt_of_lt_of_le this hC) (by lia)
  rcases kS h1 with⟨rfl,rfl,_⟩|k1
  ·rcases kS h2 with⟨rfl,_,_⟩|k2
   ·rfl
   ·exact absurd k2 (no z)
  ·rcases kS h2 with⟨rfl,rfl,_⟩|k2
   ·exact absurd k1 (no y)
   ·exact I.ok.inj y z c (co.sub y c k1) (co.sub z c k2)
 has:=fun y hy=>by
  by_cases e:y=x
  ·subst e;rcases co.loc with z|z
   ·have q:(relabel scope X.env).names.lookup y=some .local:=lookup_relabel_local z;have hy':(relabel scope X.env).names.lookup y=some .cell\/(relabel scope X.env).names.lookup y=some .free:=hy;rw[q]at hy'
    rcases hy' with r|r<;>cases r
   ·exact⟨C+1,vU z⟩
  ·obtain⟨c,hc⟩:=(co.vis y e hy).2.2;exact⟨c,(Jk e).trans hc⟩
 cab:=fun y c h e=>by
  have h:(decide (scope.names.lookup x=some .cell)&&decide (y=x))=true:=h;simp only[Bool.and_eq_true,decide_eq_true_eq]at h;obtain⟨h1,rfl⟩:=h;have e:(qx scope y cl C).lookup y=some c:=e;rw[vU h1]at e;cases e;show s.heap.objs.size<=C+1;lia
 hd:=I.ok.hd
 frames:=I.ok.frames
 stk:=.inl rfl
 exf:=fun b hb=>⟨fun e=>by have:=hfp b hb;rw[e]at this;exact absurd (Nat.lt_of_lt_of_le this hC) (Nat.lt_irrefl _),fun y c h=>by
  rcases kS h with⟨_,rfl,_⟩|h
  ·have:=hfp b hb;intro z;rw[<- z]at this;exact absurd (Nat.lt_of_lt_of_le this hC) (by lia)
  ·exact(hf b hb).2.2.2.2.1 y c (co.sub y c h)⟩
 bs:=I.bs
 bsz:=Nat.le_trans I.ok.bsz I.sz
 noex:=fun b o e hb=>by
  rcases(hf b hb).2.2.2.1 with z|z
  ·exact I.ok.noex b o e z
  ·exact absurd (Nat.lt_of_lt_of_le (Heap.lt_size e) (Nat.le_trans I.ok.bsz z)) (Nat.lt_irrefl _)
 exfs:=fun b hb hb'=>by
  rcases List.mem_cons.mp (I.stkSub b hb') with z|z
  ·exact(hf b hb).2.1 z
  ·exact(hf b hb).2.2.1 z
 funs:=I.stack
 frf:=I.stkFree
theorem comp_inv(I:Inv X pins σ H s)(co:CompOk X x scope cl)(hf:∀b∈fp,vD X pins H b){C:Addr}{h':Heap}{tk:Nat}{m:Str->Option Value}(hC:s.heap.objs.size<=C)(hfp:∀b∈fp,b<s.heap.objs.size)
 (hk:∀b o,s.heap.get? b=some o->h'.get? b=some o) (hn:h'.Ns C m) (hce:scope.names.lookup x=some .cell->∃v,h'.IsCell (C+1) v):Inv (qo X s H fp x scope cl C) [] (σ ++ [none]) H { s with heap:=h',toks:=tk } where
 ok:=comp_ok I co hf hC hfp
 os:=rfl
 bare:=I.bare
 base:=Un.kept hk
 loc:=by
  refine⟨m,hn,fun i y v h1 h2 h3=>?_⟩
  have hi:i<σ.length:=by
   rcases Nat.lt_or_ge i σ.length with z|z
   ·exact z
   ·rw[List.getElem?_append_right z]at h2;rcases Nat.eq_or_lt_of_le z with y|y
    ·rw[<- y]at h2;simp at h2
    ·rw[List.getElem?_eq_none (by simp;lia)]at h2;cases h2
  rw[List.getElem?_append_left hi]at h2;by_cases hyx:y=x
  ·exfalso;subst hyx;have h1':(qg X.N y)[i]?=some y:=h1;unfold qg at h1'
   have hi':i<X.N.length:=by rw[<- I.len];exact hi
   rw[List.getElem?_append_left (by simpa using hi'),List.getElem?_map,List.getElem?_eq_getElem hi']at h1';simp only[Option.map_some,Option.some.injEq]at h1';split at h1'
   ·exact co.ne h1'.symm
   ·next hne=>exact hne h1'
  ·have hvis:(relabel scope X.env).names.lookup y=some .cell\/(relabel scope X.env).names.lookup y=some .free:=by
    rcases h3 with z|z|z
    ·rcases co.only y z with q|⟨q1,q2⟩
     ·exact absurd q hyx
     ·exfalso;rcases(JW h1 hyx).2 with r|r
      ·exact q1 (List.mem_of_getElem? r)
      ·exact q2 r
    ·exact .inl z
    ·exact .inr z
   obtain⟨v1,v2,c,hc⟩:=co.vis y hyx hvis;obtain⟨_,hN|hN⟩:=JW h1 hyx
   ·obtain⟨m0,hn0,hl⟩:=I.loc;obtain⟨u,r,l⟩:=hl i y v hN h2 v1;refine⟨u,r,.inr ⟨hvis,c,(Jk hyx).trans hc,?_⟩⟩;rcases l with⟨k,_⟩|⟨_,c',hc',z⟩
    ·exact absurd k v2
    ·rw[co.sub y c hc]at hc';cases hc';obtain⟨o,ho,hd⟩:=z;exact⟨o,hk c o ho,hd⟩
   ·exfalso;subst hN
    rcases v1 with z|z|z<;>(rw[co.noE]at z;cases z)
 cell:=fun y c h=>by
  rcases kS h with⟨_,rfl,z⟩|h
  ·exact hce z
  ·obtain⟨v,o,ho,hd⟩:=I.cell y c (co.sub y c h);exact⟨v,o,hk c o ho,hd⟩
 free:=I.hok.fresh hC
 freeC:=fun y c h=>by
  rcases kS h with⟨_,rfl,_⟩|h
  ·exact I.hok.fresh (Nat.le_trans hC (Nat.le_succ _))
  ·exact I.freeC y c (co.sub y c h)
 pin:=fun p hp=>nomatch hp
 hok:=I.hok.kept hk
 len:=by
  show (σ ++ [none]).length=(qg X.N x).length;unfold qg;simp[I.len]
end
noncomputable def tests(ifs:List Expr)(env:Env):Sem Bool:=forIn ifs true fun c r=>if r=true then do let ok <- isTrue c env (eval c env);pure (ForInStep.yield ok) else pure (ForInStep.yield r)
noncomputable def PTs(X:Cx)(ifs:List Expr)(t:TT):Prop:=∀(pins:List (Addr×Obj)) (s:Shared) (σ:L2.St) (H:Hp) (Q:Bool->Hp->Prop),Inv X pins σ H s->t σ H Q->wpAny (model X.prog X.w) X.A (tests ifs X.env) (TP X pins σ Q) X.xe s
theorem vj{X:Cx}:PTs X [] fun _ H Q=>Q true H:=fun _ _ _ H _ I h=>wpAny_pure ⟨H,I,h⟩
theorem pts_one{X:Cx}{c:Expr}{t:TT}(h:PT X c t):PTs X [c] t:=fun pins s σ H Q I w=>wpAny_tests_one (h pins s σ H Q I w)
section
variable {prog:Program} {w:World} {A:Around} {R:Result->Shared->Prop} {s:Shared}
theorem comp_loop{elt target iter:Expr}{ifs:List Expr}{scope:Scope}{pos:Pos}{it acc:Value}{env:Env}(I:Nat->Shared->Prop)
 (turn:∀n s,I n s->wpAny (model prog w) A (pyNext it) (fun r s₁=>match r with
  |none=>R (.ok .next) s₁
  |some v=>wpAny (model prog w) A (letOwnedTupleGo target it v) (fun _ s₁=>wpAny (model prog w) A (assign target env v) (fun _ s₂=>wpAny (model prog w) A (tests ifs env) (fun ok s₃ =>
   if ok=true then wpAny (model prog w) A (eval elt env) (fun x s₃ =>
    wpAny (model prog w) A (call (.builtin "list.append") [acc,x]) (fun _ s₄=>∃m,m<n/\I m s₄) (fun _ _=>False) s₃) (fun _ _=>False) s₃
   else ∃m,m<n/\I m s₃) (fun _ _=>False) s₂) (fun _ _=>False) s₁) (fun _ _=>False) s₁) (fun _ _=>False) s)
 (n:Nat) (h:I n s):codeAny (model prog w) A (.compLoop (.ListComp elt [⟨target,iter,ifs,0⟩] scope pos) 0 it acc env) R s:=by
 refine codeAny_loop rfl I (fun n s hI=>?_) n h;show wpAny _ _ ((compTurn (.ListComp elt [⟨target,iter,ifs,0⟩] scope pos) 0 it acc env).onRaise (fun x=>do noteFrame x env;theTreesLotGoes x)) _ _ s;refine wpAny_noted ?_;rw[compTurn_list];refine wpAny_bind (wpAny_standAt (wpAny_bind (wpAny_mono (turn n s hI) (fun r s₁ h₁=>?_) fun _ _ z=>z.elim)))
 cases r with
 |none=>exact wpAny_pure h₁
 |some v =>
  refine wpAny_bind (wpAny_mono h₁ (fun _ s₂ h₂=>wpAny_bind (wpAny_mono h₂ (fun _ s₃ h₃=>wpAny_bind (wpAny_mono h₃ (fun ok s₄ h₄=>?_) fun _ _ z=>z.elim)) fun _ _ z=>z.elim)) fun _ _ z=>z.elim)
  cases ok with
  |false=>exact wpAny_pure ⟨rfl,h₄⟩
  |true=>exact wpAny_bind (wpAny_bind (wpAny_mono h₄ (fun x s₄ h₄=>wpAny_bind (wpAny_mono h₄ (fun _ s₅ h₅=>wpAny_pure (wpAny_pure ⟨rfl,h₅⟩)) fun _ _ z=>z.elim)) fun _ _ z=>z.elim))
end
noncomputable def vC(wi:TI)(tt:TT)(te:TE):TE:=fun σ H Q=>wi σ H fun J H1=>∃W:Nat->Nat->List V->Hp->Prop,(∃m,W 0 m [] H1)/\∀i m ys H,W i m ys H ->
 (J.stop i H/\ys.length<=sizeLine/\∀p,H p=none->Q (.ref p) (upd H p (.lst ys)))\/(J.go i H/\ys.length<sizeLine/\∀x H',J.yld i H x H'->tt (σ ++ [some x]) H' fun b H1 =>
  if b=true then te (σ ++ [some x]) H1 fun y H2=>∃m',m'<m/\W (i+1) m' (ys ++ [y]) H2 else ∃m',m'<m/\W (i+1) m' ys H1)
noncomputable def tYes:TT:=fun _ H Q=>Q true H
section
variable {X:Cx} {x:Str} {scope:Scope} {cl:List (Str×Addr)}
theorem J2{px pos:Pos}{iter elt:Expr}{ifs:List Expr}{wi:TI}{tt:TT}{te:TE}{use:Option (Value->Sem Unit)}{Qf:VK}{Qv:Value->Shared->Prop}{pins:List (Addr×Obj)}{s:Shared}{σ:L2.St}{H:Hp}(hc:X.calm=true)(nd:X.N.Nodup)(hE:(dum X.N) ∉ X.N)(co:CompOk X x scope cl)(hi:PI X (.Name x px) iter wi)
 (ht:∀s H fp C,PTs (qo X s H fp x scope cl C) ifs tt) (he:∀s H fp C,PE (qo X s H fp x scope cl C) elt te) (hs:∀v,foldedSetIterable iter X.env v=pure v) (I:Inv X pins σ H s) (h:vC wi tt te σ H Qf)
 (fin:∀(D C:Addr) (H':Hp) (s4:Shared) (m:Str->Option Value),Inv X pins σ H' s4->s4.heap.Ns C m->vD X pins H' C->Qf (.ref D) H'->compPost (model X.prog X.w) X.A X.xe use Qv (.ref D) C (.ok .next) s4) :
 wpAny (model X.prog X.w) X.A (comprehension (.ListComp elt [⟨.Name x px,iter,ifs,0⟩] scope pos) scope X.env (firstIterPos [⟨.Name x px,iter,ifs,0⟩] pos) (newList []) (firstAsync [⟨.Name x px,iter,ifs,0⟩]) (firstIter [⟨.Name x px,iter,ifs,0⟩] X.env) use) Qv X.xe s:=by
 refine wpAny_comprehension_free (g:=⟨.Name x px,iter,ifs,0⟩) (gs:=[]) rfl hs co.clos co.kind co.names ?_
 refine thn (hi pins s σ H _ I h) fun v s1 h1=>thn h1 fun itv s2 h2=>?_
 obtain⟨it,fp,tn,J,H2,e,I2,T,st2,f2,W,⟨m0,w0⟩,turn⟩:=h2;subst e
 have hfp:∀b∈fp,b<s2.heap.objs.size:=fun b hb=>by
  obtain⟨o,e,_⟩:=T.obj _ _ st2 b hb;exact Heap.lt_size e
 refine wpAny_newObj_type (newEnv_comp (x:=x) co.cell fun h₁ hns₁ hsb₁ hce₁=>?_);dsimp only at hns₁ hsb₁ hce₁ ⊢;generalize hG:s2.heap.push { cls:=.type "list",dict:=none,data:=.seq ([]:List Value).toArray }=G at hns₁ hsb₁ hce₁ ⊢
 have hCs:G.objs.size=s2.heap.objs.size+1:=by rw[<- hG,Heap.size_push]
 obtain⟨D,hD⟩:∃D:Addr,s2.heap.objs.size=D:=⟨_,rfl⟩
 obtain⟨C,hC⟩:∃C:Addr,G.objs.size=C:=⟨_,rfl⟩
 rw[hD]at hCs;rw[hD];rw[hC]at hCs hns₁ hce₁ ⊢
 have hDC:D≠C:=by rw[hCs];exact Nat.ne_of_lt (Nat.lt_succ_self _)
 have old:∀b o,s2.heap.get? b=some o->h₁.get? b=some o:=fun b o e=>hsb₁ b o (hG ▸ Heap.get?_push_of_some _ e)
 have hacc:h₁.PlainList D #[]:=⟨_,hsb₁ _ _ (hG ▸ (hD ▸ Heap.get?_push_size s2.heap rfl))⟩
 let X':=qo X s2 H2 fp x scope cl C
 have hCle:s2.heap.objs.size<=C:=by rw[hD,hCs];exact Nat.le_succ _
 have I3:Inv X' [] (σ ++ [none]) H2 { s2 with heap:=h₁ }:=comp_inv I2 co f2 hCle hfp old hns₁ fun z=>⟨_,hce₁ z⟩
 have ndX:X'.N.Nodup:=Ka nd hE co.ne
 have hDL:D≠X.env.locals:=by rw[<- hD];exact Nat.ne_of_gt I2.lt
 have hDf:D ∉ frs X.stack:=fun hb=>by
  rcases List.mem_cons.mp (I2.stkSub D hb) with z|z
  ·exact hDL z
  ·exact I2.nofs (Nat.le_of_eq hD) z
 have hDfp:D ∉ fp:=fun hb=>by have:=hfp D hb;rw[hD]at this;exact absurd this (Nat.lt_irrefl _)
 have hDc:∀y c,(qx scope x cl C).lookup y=some c->c≠D:=fun y c e z=>by
  rcases kS e with⟨_,e,_⟩|e
  ·rw[e,hCs]at z;have z:(D+1+1:Nat)=D:=z;lia
  obtain⟨v,q⟩:=I2.cell y c (co.sub y c e);have:=q.lt;rw[z,<- hD]at this;exact absurd this (Nat.lt_irrefl _)
 have stat:∀ {H':Hp} {ob:Obj},(∀b∈fp,H' b=none)->∀b∈fp,vD X' [(D,ob)] H' b:=fun {H' ob} hn b hb=>by
  obtain⟨g0,g1,g2,g3,g4,g5⟩:=f2 b hb;refine⟨hn b hb,fun z=>?_,fun z=>?_,.inl hb,fun y c e=>?_,fun p hp z=>?_⟩
  rotate_left 2
  ·rcases kS e with⟨_,rfl,_⟩|e
   ·have:=hfp b hb;intro z;rw[<- z]at this;exact absurd (Nat.lt_of_lt_of_le this hCle) (by lia)
   ·exact g4 y c (co.sub y c e)
  rotate_left
  ·have:=hfp b hb;rw[show b=C from z]at this;exact absurd (Nat.lt_of_lt_of_le this hCle) (Nat.lt_irrefl _)
  ·rcases List.mem_cons.mp (I2.stkSub b z) with y|y
   ·exact g1 y
   ·exact g2 y
  ·have hp':p=(D,ob):=by simpa[X',qo]using hp
   subst hp';have z':D=b:=z;exact hDfp (z' ▸ hb)
 have pinD:∀ {τ:L2.St} {H':Hp} {s':Shared} {n:Nat} {us:List Value},Inv X' [] τ H' s'->s'.heap.get? D=some { cls:=.type "list",data:=.seq us.toArray n }->H' D=none->Inv X' [(D,{ cls:=.type "list",data:=.seq us.toArray n })] τ H' s':=fun {τ H' s' n us} J e hn =>
  J.pins_of fun p hp=>by
   have hp':p=(D,{ cls:=.type "list",data:=.seq us.toArray n }):=by simpa using hp
   subst hp';exact⟨e,hn,hDC,hDf,fun v z=>by cases z⟩
 have loop:codeAny (model X.prog X.w) X.A (.compLoop (.ListComp elt [⟨.Name x px,iter,ifs,0⟩] scope pos) 0 (.ref it) (.ref D) (compEnvC scope (qx scope x cl C) C X.env))
  (compPost (model X.prog X.w) X.A X.xe use Qv (.ref D) C) { s2 with heap:=h₁ }:=by
  refine comp_loop (fun n s'=>∃(i:Nat) (o:Option V) (ys:List V) (us:List Value) (H':Hp),Inv X' [] (σ ++ [o]) H' s'/\tn i s'.heap/\(∀b∈fp,H' b=none)/\s'.heap.PlainList D us.toArray/\jA ys us/\H' D=none/\W i n ys H') ?_ m0
   ⟨0,none,[],[],H2,I3,T.keep _ _ _ st2 fun b hb o e=>old b o e,fun b hb=>(f2 b hb).1,hacc,.nil,I2.hok.fresh (Nat.le_of_eq hD),w0⟩
  rintro n s3 ⟨i,o3,ys,us,H3,J3,st3,fr3,⟨n3,pl3⟩,vl3,hD3,w3⟩;have J3':=pinD J3 pl3 hD3;rcases turn i n ys H3 w3 with⟨stop,hl,q⟩|⟨go,hl,step⟩
  ·refine wpAny_mono (T.done X' rfl rfl rfl hc i _ s3 _ H3 (fun _ _=>False) J3' (stat fr3) st3 stop) (fun r s4 ⟨hr,J4⟩=>?_) fun _ _ z=>z
   subst hr;obtain⟨m4,hn4,_⟩:=J4.loc;have eD:s4.heap.get? D=some { cls:=.type "list",data:=.seq us.toArray n3 }:=(J4.pin _ (List.mem_append_right _ (List.mem_cons_self ..))).1
   have nC:∀b o,s2.heap.get? b=some o->b≠C:=fun b o e z=>by
    have:=Heap.lt_size e;rw[z]at this;exact absurd (Nat.lt_of_lt_of_le this hCle) (Nat.lt_irrefl _)
   have nD:∀b o,s2.heap.get? b=some o->b≠D:=fun b o e z=>by
    have:=Heap.lt_size e;rw[z,hD]at this;exact absurd this (Nat.lt_irrefl _)
   have tD:∀b u,H3 b=some u->b≠D:=fun b u e=>kM e hD3
   have hCn:H3 C=none:=J4.free;have U4:Un (frs X.stack) fp H2 H3 s2.heap s4.heap:=J4.base
   have U:Un (frs X.stack) fp H2 (upd H3 D (.lst ys)) s2.heap s4.heap:={
    keep:=fun b o e hn hb hx=>U4.keep b o e hn hb hx
    slot:=fun b o e hn hb hx=>by
     obtain⟨sl,q⟩:=U4.slot b o e hn hb hx;exact⟨sl,q⟩
    free:=fun b o e hn hx=>by rw[jh (nD b o e)];exact U4.free b o e hn hx
    there:=fun b o e hx=>by
     obtain⟨o',q⟩:=U4.there b o e hx;exact⟨o',q⟩
    tups:=fun b xs e=>by have:=U4.tups b xs e;rw[jh (tD b _ this)];exact this
    frzs:=fun b o u e=>by have:=U4.frzs b o u e;rw[jh (tD b _ this)];exact this
    tbls:=fun b ps e=>by
     obtain⟨more,this⟩:=U4.tbls b ps e
     exact⟨more,by rw[jh (tD b _ this)];exact this⟩ }
   have K:HOk X.prog X.w (upd H3 D (.lst ys)) s4.heap:=fun b u e=>by
    by_cases hb:b=D
    ·subst hb;rw[jm]at e;cases e;exact⟨hl,us,n3,vl3,eD⟩
    ·rw[jh hb]at e
     exact(J4.hok b u e).stay (fun c v hc q=>q) (fun c z=>by rw[jh (tD c _ z)];exact z) fun c xs z=>by rw[jh (tD c _ z)];exact z
   have I4:Inv X pins σ (upd H3 D (.lst ys)) s4:=I2.call' J4.os U K J4.bare fun b hb=>by
    obtain⟨g0,g1,g2,g3,g4,g5⟩:=f2 b hb;exact⟨g3,g1,g4,g5⟩
   exact fin D C _ s4 m4 I4 hn4 (I2.fpOk hCle (by rw[jh (Ne.symm hDC)];exact hCn)) (q D hD3)
  ·refine wpAny_mono (T.item X' rfl rfl rfl hc i _ s3 _ H3 (fun _ _=>False) J3' (stat fr3) st3 go) (fun r s4 ⟨u,hr,h4⟩=>?_) fun _ _ z=>z
   subst hr
   refine wpAny_mono h4 (fun _ s5 ⟨xv,H5,J5,r5,y5,st5,fr5⟩=>?_) fun _ _ z=>z
   have J5':=J5.pinned (stat fr5) (T.obj _ _ st5);have hlen:σ.length=X.N.length:=I2.len;refine wpAny_assign_Name (uj J5' ndX (i:=X.N.length) blockN_last (co.loc.elim (fun z=>.inl (lookup_relabel_local z)) fun z=>.inr (qO z)) r5 (fun s6 J6=>?_) (co.loc.elim (fun z=>.inr (lookup_relabel_local z)) fun z=>.inl (by show (decide (scope.names.lookup x=some .cell)&&decide (x=x))=true;simp[z])))
   have eσ:(σ ++ [o3]).set X.N.length (some xv)=σ ++ [some xv]:=by rw[<- hlen];simp
   rw[eσ]at J6
   refine thn (ht s2 H2 fp C _ s6 _ H5 _ J6 (step xv H5 y5)) fun b s6 ⟨H6,J6,w6⟩=>?_
   cases b with
   |false =>
    obtain⟨m',hm,w7⟩:=w6;have pD:=J6.pin (D,_) (List.mem_append_right _ (List.mem_append_left _ (List.mem_cons_self ..)));refine⟨m',hm,i+1,some xv,ys,us,H6,J6.pins_of fun p hp=>(nomatch hp),T.keep _ _ _ st5 fun b hb o e=>(J6.pin (b,o) (List.mem_append_right _ (List.mem_append_right _ (qw hb e)))).1,fun b hb=>?_,⟨n3,pD.1⟩,vl3,pD.2.1,w7⟩;obtain⟨o,e,_⟩:=T.obj _ _ st5 b hb
    exact(J6.pin (b,o) (List.mem_append_right _ (List.mem_append_right _ (qw hb e)))).2.1
   |true =>
   refine thn (he s2 H2 fp C _ s6 _ H6 _ J6 w6) fun y s7 ⟨yv,H7,J7,r7,m',hm,w7⟩=>?_
   have pD:=J7.pin (D,_) (List.mem_append_right _ (List.mem_append_left _ (List.mem_cons_self ..)))
   have pl7:s7.heap.PlainList D us.toArray:=⟨n3,pD.1⟩
   have hsz:us.toArray.size<=sizeLine:=by have:=vl3.length;simp;lia
   refine wpAny_list_append_plain (hsz:=hsz) pl7 fun h₈ pl8 sb8=>?_
   refine⟨m',hm,i+1,some xv,ys ++ [yv],us ++ [y],H7,?_,?_,?_,?_,vl3.append (.cons r7 .nil),pD.2.1,w7⟩
   ·have J7':Inv X' [] (σ ++ [some xv]) H7 s7:=J7.pins_of fun p hp=>nomatch hp
    exact J7'.turned (t':=s7.toks) (it:=D) (fun b o hb e=>(sb8.2 b hb).trans e) pD.2.1 hDC (.inr (Nat.le_of_eq hD)) hDc fun p hp=>nomatch hp
   ·refine T.keep _ _ _ st5 fun b hb o e=>?_
    have:=(J7.pin (b,o) (List.mem_append_right _ (List.mem_append_right _ (qw hb e)))).1;exact(sb8.2 b fun z=>hDfp (z ▸ hb)).trans this
   ·intro b hb;obtain⟨o,e,_⟩:=T.obj _ _ st5 b hb;exact(J7.pin (b,o) (List.mem_append_right _ (List.mem_append_right _ (qw hb e)))).2.1
   ·have e:(us ++ [y]).toArray=us.toArray.push y:=by simp
    rw[e];exact pl8
 exact codeAny_compStart_list loop (T.self _ _ _ _ _ (T.keep _ _ _ st2 fun b hb o e=>old b o e) loop)
theorem K9{px pos:Pos}{iter elt:Expr}{ifs:List Expr}{wi:TI}{tt:TT}{te:TE}(hc:X.calm=true)(nd:X.N.Nodup)(hE:(dum X.N) ∉ X.N)(co:CompOk X x scope cl)(hi:PI X (.Name x px) iter wi)
 (ht:∀s H fp C,PTs (qo X s H fp x scope cl C) ifs tt) (he:∀s H fp C,PE (qo X s H fp x scope cl C) elt te) (hs:∀v,foldedSetIterable iter X.env v=pure v):PE X (.ListComp elt [⟨.Name x px,iter,ifs,0⟩] scope pos) (vC wi tt te):=by
 intro pins s σ H Q I h;rw[eval_ListComp]
 refine J2 hc nd hE co hi ht he hs I h fun D C H' s4 m I4 hn hC q=>?_
 obtain⟨g0,g1,g2,g3,g4,g5⟩:=hC;exact⟨m,hn,fun h' sb=>⟨.ref D,H',I4.turned (t':=s4.toks) (fun b o hb e=>(sb.2 b hb).trans e) g0 g1 g3 g4 g5,rfl,q⟩⟩
theorem ps_comp{px py pos spos:Pos}{y:Str}{i:Nat}{iter elt:Expr}{ifs:List Expr}{wi:TI}{tt:TT}{te:TE}(hc:X.calm=true)(nd:X.N.Nodup)(hE:(dum X.N) ∉ X.N)(co:CompOk X x scope cl)(hi:PI X (.Name x px) iter wi)
 (ht:∀s H fp C,PTs (qo X s H fp x scope cl C) ifs tt) (he:∀s H fp C,PE (qo X s H fp x scope cl C) elt te) (hs:∀v,foldedSetIterable iter X.env v=pure v)
 (hsw:swapsWith (.ListComp elt [⟨.Name x px,iter,ifs,0⟩] scope pos) (some (.Name y py)) spos.line X.env=pure true) (hy:X.N[i]?=some y) (hl:L2.Loc X.env.scope y) (hf:X.fn y=true\/X.env.scope.names.lookup y=some .local) :
 PS X (.Assign [.Name y py] (.ListComp elt [⟨.Name x px,iter,ifs,0⟩] scope pos) spos) (fun D σ H=>vC wi tt te σ H fun v H'=>D.nx (σ.set i (some v)) H'):=by
 intro pins s σ H D I h;rw[exec_Assign_Name_used _ _ _ _ hsw];refine wpAny_bind (wpAny_standAt (wpAny_bind ?_));show wpAny _ X.A (do let _ <- comprehension (.ListComp elt [⟨.Name x px,iter,ifs,0⟩] scope pos) scope X.env (firstIterPos [⟨.Name x px,iter,ifs,0⟩] pos) (newList []) (firstAsync [⟨.Name x px,iter,ifs,0⟩]) (firstIter [⟨.Name x px,iter,ifs,0⟩] X.env) (some (assign (.Name y py) X.env))) _ _ s;refine wpAny_bind (wpAny_mono (J2 (Qv:=fun _ s'=>SP X pins D .next s') hc nd hE co hi ht he hs I h fun Da C H' s4 m I4 hn hC q=>?_) (fun _ s' hq=>wpAny_pure (wpAny_pure hq)) fun _ _ z=>z);refine wpAny_assign_Name (JO I4 nd hy hl (v:=.ref Da) rfl (fun s5 I5 ⟨a,sb,ha⟩=>?_) hf);obtain⟨g0,g1,g2,g3,g4,g5⟩:=hC
 have haC:a≠C:=by
  rcases ha with z|z
  ·rw[z];exact Ne.symm g1
  ·exact g4 y a z
 refine⟨m,hn.sameBut sb (Ne.symm haC),fun h' sb'=>?_⟩;exact⟨_,H',I5.turned (t':=s5.toks) (fun b o hb e=>(sb'.2 b hb).trans e) g0 g1 g3 g4 g5,q⟩
end
end Z
namespace Z
open PySem PySem.Spec PyProof.Rows L2
noncomputable def minus(H:Hp)(O:List Addr):Hp:=fun a=>if a∈O then none else H a
theorem je(H:Hp)(O:List Addr):jc (minus H O) H:=fun b o h=>by
 unfold minus at h;split at h
 ·cases h
 ·exact h
theorem jd{H H':Hp}{O:List Addr}(e:jc H H'):jc (minus H O) (minus H' O):=fun b o h=>by
 unfold minus at *;split at h
 ·cases h
 ·next hb=>rw[if_neg hb];exact e b o h
theorem jI{H:Hp}{O O':List Addr}(e:∀a∈O',a∈O):jc (minus H O) (minus H O'):=fun b o h=>by
 unfold minus at *;split at h
 ·cases h
 ·next hb=>rw[if_neg fun z=>hb (e b z)];exact h
theorem kG{H:Hp}{O:List Addr}{a:Addr}(h:a ∉ O):minus H O a=H a:=by unfold minus;rw[if_neg h]
theorem kF{K:PySem.W.Frag}{H H':Hp}{a:Addr}{xs:List V}(e:jc H H')(h:SqT K H a xs):SqT K H' a xs:=by
 rcases h with(h|⟨o,h⟩)|h
 ·exact .inl (.inl (e _ _ h))
 ·exact .inl (.inr ⟨o,e _ _ h⟩)
 ·exact .inr h
mutual
noncomputable def Is(K:PySem.W.Frag)(S:Hp):D->V->Prop
 |.non,v=>v=.non
 |.bl b,v=>v=.bl b
 |.int i,v=>v=.int i
 |.str x,v=>v=.str x/\PyData.strOk x=true
 |.tup xs,v=>∃a vs,v=.ref a/\SqT K S a vs/\Iss K S xs vs
 |.lst xs,v=>∃a vs,v=.ref a/\SqL K S a vs/\Iss K S xs vs
noncomputable def Iss(K:PySem.W.Frag)(S:Hp):List D->List V->Prop
 |[],vs=>vs=[]
 |d::ds,vs=>∃v r,vs=v::r/\Is K S d v/\Iss K S ds r
end
section
variable {K:PySem.W.Frag} {S S':Hp}
mutual
theorem Is.mono(e:jc S S'):∀(d:D) {v:V},Is K S d v->Is K S' d v
 |.non,v,h=>by unfold Is at *;exact h
 |.bl b,v,h=>by unfold Is at *;exact h
 |.int i,v,h=>by unfold Is at *;exact h
 |.str x,v,h=>by unfold Is at *;exact h
 |.tup xs,v,h=>by
  unfold Is at *;obtain⟨a,vs,h1,h2,h3⟩:=h
  exact⟨a,vs,h1,kF e h2,Iss.mono e xs h3⟩
 |.lst xs,v,h=>by
  unfold Is at *;obtain⟨a,vs,h1,h2,h3⟩:=h;exact⟨a,vs,h1,e.seq h2,Iss.mono e xs h3⟩
theorem Iss.mono(e:jc S S'):∀(ds:List D) {vs:List V},Iss K S ds vs->Iss K S' ds vs
 |[],vs,h=>by unfold Iss at *;exact h
 |d::ds,vs,h=>by
  unfold Iss at *;obtain⟨v,r,h1,h2,h3⟩:=h;exact⟨v,r,h1,Is.mono e d h2,Iss.mono e ds h3⟩
end
theorem Iss.length:∀ {ds:List D} {vs:List V},Iss K S ds vs->vs.length=ds.length
 |[],vs,h=>by unfold Iss at h;subst h;rfl
 |d::ds,vs,h=>by
  unfold Iss at h;obtain⟨v,r,rfl,_,h3⟩:=h;simp[Iss.length h3]
theorem Iss.get:∀ {ds:List D} {vs:List V} {i:Nat} {d:D},Iss K S ds vs->ds[i]?=some d->∃v,vs[i]?=some v/\Is K S d v
 |[],vs,i,d,h,e=>by simp at e
 |x::ds,vs,i,d,h,e=>by
  unfold Iss at h;obtain⟨v,r,rfl,h2,h3⟩:=h
  cases i with
  |zero=>simp at e;subst e;exact⟨v,rfl,h2⟩
  |succ i =>
   obtain⟨w,e1,e2⟩:=Iss.get (i:=i) (d:=d) h3 (by simpa using e);exact⟨w,by simpa using e1,e2⟩
theorem Iss.append:∀ {ds es:List D} {vs ws:List V},Iss K S ds vs->Iss K S es ws->Iss K S (ds++es) (vs++ws)
 |[],es,vs,ws,h,g=>by unfold Iss at h;subst h;exact g
 |x::ds,es,vs,ws,h,g=>by
  unfold Iss at h;obtain⟨v,r,rfl,h2,h3⟩:=h;show Iss K S (x::(ds++es)) (v::(r++ws));unfold Iss;exact⟨v,_,rfl,h2,h3.append g⟩
theorem jk{i:Int}{v:V}(h:Is K S (.int i) v):v=.int i:=by unfold Is at h;exact h
theorem kI{i:Bool}{v:V}(h:Is K S (.bl i) v):v=.bl i:=by unfold Is at h;exact h
theorem yE{v:V}(h:Is K S .non v):v=.non:=by unfold Is at h;exact h
theorem jN{x:Str}{v:V}(h:Is K S (.str x) v):v=.str x/\PyData.strOk x=true:=by unfold Is at h;exact h
theorem kQ{xs:List D}{v:V}(h:Is K S (.tup xs) v):∃a vs,v=.ref a/\SqT K S a vs/\Iss K S xs vs:=by unfold Is at h;exact h
theorem jD{xs:List D}{v:V}(h:Is K S (.lst xs) v):∃a vs,v=.ref a/\SqL K S a vs/\Iss K S xs vs:=by unfold Is at h;exact h
theorem jF(i:Int):Is K S (.int i) (.int i):=by unfold Is;rfl
theorem jH(i:Bool):Is K S (.bl i) (.bl i):=by unfold Is;rfl
theorem non_is:Is K S .non .non:=by unfold Is;rfl
theorem j9{x:Str}(h:PyData.strOk x=true):Is K S (.str x) (.str x):=by unfold Is;exact⟨rfl,h⟩
theorem tup_is{xs:List D}{a:Addr}{vs:List V}(h:S a=some (.tup vs))(g:Iss K S xs vs):Is K S (.tup xs) (.ref a):=by unfold Is;exact⟨a,vs,rfl,SqT.of h,g⟩
theorem K7{xs:List D}{a:Addr}{vs:List V}(h:SqT K S a vs)(g:Iss K S xs vs):Is K S (.tup xs) (.ref a):=by unfold Is;exact⟨a,vs,rfl,h,g⟩
theorem xf{xs:List D}{a:Addr}{vs:List V}(h:SqL K S a vs)(g:Iss K S xs vs):Is K S (.lst xs) (.ref a):=by unfold Is;exact⟨a,vs,rfl,h,g⟩
end
mutual
noncomputable def zy:D->PyData
 |.non=>.none
 |.bl b=>.bool b
 |.int i=>.int i
 |.str x=>.str x
 |.tup xs=>.tuple (xw xs)
 |.lst xs=>.list (xw xs)
noncomputable def xw:List D->List PyData
 |[]=>[]
 |x::xs=>zy x::xw xs
end
mutual
theorem zL:∀a b:D,PyData.eqv (zy a) (zy b)=eqD a b
 |a,b=>by
  cases a<;>cases b<;>simp only[zy,PyData.eqv,eqD]
  ·exact uS _ _
  ·exact uS _ _
theorem uS:∀a b:List D,PyData.eqvAll (xw a) (xw b)=xr a b
 |[],[]=>by simp only[xw,PyData.eqvAll,xr]
 |[],_::_=>by simp only[xw,PyData.eqvAll,xr]
 |_::_,[]=>by simp only[xw,PyData.eqvAll,xr]
 |x::xs,y::ys=>by simp only[xw,PyData.eqvAll,xr];rw[zL x y,uS xs ys]
end
mutual
theorem yD:∀a:D,(zy a).depth=kt a
 |.non=>rfl
 |.bl _=>rfl
 |.int _=>rfl
 |.str _=>rfl
 |.tup xs=>by simp only[zy,PyData.depth,kt];rw[uz xs]
 |.lst xs=>by simp only[zy,PyData.depth,kt];rw[uz xs]
theorem uz:∀a:List D,PyData.depthAll (xw a)=xY a
 |[]=>rfl
 |x::xs=>by simp only[xw,PyData.depthAll,xY];rw[yD x,uz xs]
end
section
variable {X:Cx} {pins:List (Addr×Obj)} {σ:L2.St} {H:Hp} {s:Shared}
mutual
theorem Is.reads(I:Inv X pins σ H s):∀(d:D) {v:V} {u:Value},Is X.K H d v->jM v u->(∃as,Reads s.heap u (zy d) as)/\(zy d).canLay0=true
 |.non,v,u,h,r=>by cases yE h;cases r;exact⟨⟨_,.none⟩,rfl⟩
 |.bl b,v,u,h,r=>by cases kI h;cases r;exact⟨⟨_,.bool b⟩,rfl⟩
 |.int i,v,u,h,r=>by cases jk h;obtain⟨t,rfl⟩:=r;exact⟨⟨_,.int i t⟩,rfl⟩
 |.str x,v,u,h,r=>by obtain⟨rfl,o⟩:=jN h;obtain⟨t,rfl⟩:=r;exact⟨⟨_,.str x t⟩,o⟩
 |.tup xs,v,u,h,r=>by
  obtain⟨a,vs,rfl,h1,h2⟩:=kQ h;cases r;obtain⟨its,rv,⟨o,e1,e2,n,e3⟩,_⟩:=I.tuple h1;obtain⟨⟨as,ra⟩,c⟩:=Iss.reads I xs h2 rv
  exact⟨⟨as,.tuple e1 e2 e3 (by simpa using ra)⟩,c⟩
 |.lst xs,v,u,h,r=>by
  obtain⟨a,vs,rfl,h1,h2⟩:=jD h;cases r;obtain⟨its,rv,pl,_⟩:=I.list h1;obtain⟨o,e1,e2,n,e3⟩:=pl.isList;obtain⟨⟨as,ra⟩,c⟩:=Iss.reads I xs h2 rv;exact⟨⟨_,.list e1 e2 e3 (by simpa using ra)⟩,c⟩
theorem Iss.reads(I:Inv X pins σ H s):∀(ds:List D) {vs:List V} {us:List Value},Iss X.K H ds vs->jA vs us->(∃as,ReadsAll s.heap us (xw ds) as)/\PyData.canLayAll0 (xw ds)=true
 |[],vs,us,h,r=>by
  unfold Iss at h;subst h;cases r
  exact⟨⟨_,.nil⟩,rfl⟩
 |d::ds,vs,us,h,r=>by
  unfold Iss at h;obtain⟨v,q,rfl,h1,h2⟩:=h
  cases r with
  |cons r1 r2 =>
   obtain⟨⟨as,ra⟩,c1⟩:=Is.reads I d h1 r1;obtain⟨⟨bs,rb⟩,c2⟩:=Iss.reads I ds h2 r2;exact⟨⟨_,.cons ra rb⟩,by simp only[xw,PyData.canLayAll0];rw[c1,c2];rfl⟩
end
end
end Z
namespace Z
open PySem PySem.Spec PyProof.Rows L2
section
variable {prog:Program} {w:World} {A:Around} {E:Value->Shared->Prop}
theorem draw_go{l it:Addr}{vs:Array Value}(hd:l≠it):∀(m i:Nat) {s:Shared} {Q:List Value->Shared->Prop},s.heap.IsListIter it l i->s.heap.IsList l vs->i+m=vs.size ->
 (∀h₂,h₂.IsListIter it l (i+m)->h₂.IsList l vs->Heap.SameBut it s.heap h₂->Q (vs.toList.drop i) { s with heap:=h₂ })->wpAny (model prog w) A (draw (.ref it) m) Q E s
 |0,i,s,Q,a1,a2,e,q=>by
  have z:=q s.heap a1 a2 (Heap.SameBut.refl ..);rw[List.drop_of_length_le (by simp;lia)]at z
  exact wpAny_pure z
 |m+1,i,s,Q,a1,a2,e,q=>by
  have lt:i<vs.size:=by lia
  show wpAny _ _ (pyNext (.ref it) >>= _) _ _ _;refine wpAny_bind (wpAny_pyNext_list_item (x:=vs[i]) a1 a2 (by simp[lt]) ?_);intro h₁ b1 b2;have c2:h₁.IsList l vs:=a2.extBut b2.extBut hd;refine wpAny_bind (wpAny_holding (draw_go hd m (i+1) b1 c2 (by lia) ?_));intro h₂ d1 d2 d3;have z:=q h₂ (by rw[Nat.add_comm m 1,<- Nat.add_assoc];exact d1) d2 (b2.trans d3)
  have cut:vs.toList.drop i=vs[i]::vs.toList.drop (i+1):=by rw[List.drop_eq_getElem_cons (by simpa using lt)];simp
  rw[cut]at z;exact wpAny_pure z
theorem unpack_l{l:Addr}{vs:Array Value}{tg:List (Bool×(Value->Sem Unit))}{Q:Unit->Shared->Prop}{s:Shared}(hh:A.handled=none)(hl:s.heap.IsList l vs)(hn:tg.length=vs.size)(hz:tg.findIdx? (·.1)=none)
 (q:∀h₂,(∀b o,s.heap.get? b=some o->h₂.get? b=some o)->wpAny (model prog w) A (assignInOrder (tg.map (·.2)) vs.toList) Q E { s with heap:=h₂ }):wpAny (model prog w) A (unpack (.ref l) tg) Q E s:=by
 have new:∀b o,s.heap.get? b=some o->b≠s.heap.objs.size:=fun b o e=>Nat.ne_of_lt (Heap.lt_size e)
 have hd:l≠s.heap.objs.size:=by obtain⟨o,e,_⟩:=hl;exact new l o e
 unfold unpack;rw[hn,hz];refine wpAny_bind (wpAny_holding ?_);unfold unpackItems notIterableAtAll;refine wpAny_bind (wpAny_bind (wpAny_specialOf hl.typeIs slot_list_iter.lookup (wpAny_pure ?_)));simp only[Bool.false_eq_true,if_false];refine wpAny_bind (wpAny_holding (wpAny_pyIter_list hl ?_));refine wpAny_bind (wpAny_holding (draw_go hd vs.size 0 ⟨_,Heap.get?_push_size _ rfl,rfl,rfl⟩ (hl.push _) (by lia) ?_));intro h₁ a1 a2 a3;simp only[List.drop_zero];rw[if_neg (by simp)];refine wpAny_bind (wpAny_holding (wpAny_pyNext_list_end hh a1 a2 (by simp) ?_));intro h₂ b1;simp only[Option.isSome_none,Bool.false_eq_true,if_false];exact wpAny_pure (q h₂ fun b o e=>b1 b o (new b o e) (a3.extBut b o (new b o e) (Heap.get?_push_of_some _ e)))
end
noncomputable def gLst(K:PySem.W.Frag)(n:Nat)(t:TGs):TG:=fun v σ H Q=>∃a xs,v=.ref a/\SqL K H a xs/\xs.length=n/\t xs σ H Q
noncomputable def gSq(K:PySem.W.Frag)(n:Nat)(t:TGs):TG:=fun v σ H Q=>gTup K n t v σ H Q\/gLst K n t v σ H Q
theorem pg_sq{X:Cx}{es:List Expr}{k:Nat}{pos:Pos}{t:TGs}{n:Nat}(hc:X.calm=true)(h:PGs X es t)(hn:(assignEach es X.env).length=n)(hst:(assignEach es X.env).findIdx? (·.1)=none):PG X (.Tuple es k pos) (gSq X.K n t):=by
 intro pins s σ H v u Q I r w;rcases w with w|⟨a,xs,rfl,hq,hl,w⟩
 ·exact pg_tup hc h hn hst pins s σ H v u Q I r w
 ·cases r;obtain⟨its,rv,p,hz⟩:=I.list hq;rw[assign_Tuple];refine wpAny_bind (wpAny_standAt (unpack_l (I.ok.hd hc) p.isList (by simp[hn,<- hl,rv.length]) hst fun h₂ keep=>?_));exact h pins _ σ H xs _ Q (I.kept (t':=s.toks) keep) (by simpa using rv) w
section
variable {prog:Program} {w:World} {A:Around} {R:Result->Shared->Prop} {I S:Addr} {fp wr:List Addr} {G:Array GenState->Array GenState->Prop} {P:Nat->Value->Prop} {St:Nat->Shared->Prop} {ns:List Int}
theorem vh:(toString "min" ++ toString ".loop":String)="min.loop":=by decide
theorem uI{s s':Shared}(mv:Moved wr G s s')(f:Obj->Obj):Moved (S::wr) G s { s' with heap:=s'.heap.update S f } :=
 ⟨fun b o hb eb=>(Heap.get?_update_other _ _ (fun x=>hb (by rw[x];exact List.mem_cons_self))).trans (mv.heap b o (fun x=>hb (List.mem_cons_of_mem _ x)) eb),mv.gens,mv.drawn,mv.os,mv.toks⟩
theorem drop_at{i:Nat}(h:i<ns.length):ns.drop i=ns.getD i 0::ns.drop (i+1):=by rw[List.drop_eq_getElem_cons h];simp[h]
theorem min_go(W:WalksS prog w A.in1 I fp wr G ns.length P St)(hv:∀i v,P i v->∃t,v=.int (ns.getD i 0) t)(hS:S ∉ fp)(kw:List (Str×Value)):∀(k i:Nat) (s:Shared) (m:Int) (t:Tok) (c:Nat),i+k=ns.length->St i s ->
 s.heap.get? S=some { cls:=.type "list",dict:=none,data:=.seq #[.int m t,.int m t] c,slots:=#[] }->(∀s' t',Moved (S::wr) G s s'->R (.ok (.ret (.int ((ns.drop i).foldl (pick false) m) t'))) s') ->
 codeAny (model prog w) A (.builtin "min.loop" ⟨[.ref I,.none,.ref S],kw⟩) R s
 |0,i,s,m,t,c,e,a1,a2,q=>by
  have Sw:S ∉ wr:=fun z=>hS (W.sub _ z)
  refine codeAny_builtin F.entry_min_loop ?_;rw[Around.under_plainId F.plain_min_loop _];refine wpAny_bind (m:=seqItems? (.ref S)) (wpAny_seqItems a2 rfl ?_);refine wpAny_bind (m:=tryCatch (pyNext (.ref I)) _) (wpAny_tryCatch (W.done s _ _ (by rw[<- e];exact a1) ?_));intro s' mv;have b2:=mv.heap S _ Sw a2;refine wpAny_bind (m:=updateSeq S (fun _=>#[])) (wpAny_updateSeq b2 rfl (wpAny_bind (wpAny_letGo (wpAny_pure ?_))));have z:=q _ t (uI mv (Obj.mapSeq fun _=>#[]));rw[List.drop_of_length_le (by lia)]at z
  exact z
 |k+1,i,s,m,t,c,e,a1,a2,q=>by
  have Sw:S ∉ wr:=fun z=>hS (W.sub _ z)
  have lt:i<ns.length:=by lia
  rw[drop_at lt,List.foldl_cons]at q;refine codeAny_builtin F.entry_min_loop ?_;rw[Around.under_plainId F.plain_min_loop _];refine wpAny_bind (m:=seqItems? (.ref S)) (wpAny_seqItems a2 rfl ?_);refine wpAny_bind (m:=tryCatch (pyNext (.ref I)) _) (wpAny_tryCatch (W.item i s _ _ lt a1 ?_));intro v s' pv b1 mv;obtain⟨t₁,rfl⟩:=hv i v pv;have b2:=mv.heap S _ Sw a2;generalize hn:ns.getD i 0=n at *;have cmp:=CmpOf.ints_lt (prog:=prog) (w:=w) (A:=A.in1) (P:=fun j v=>∃t,v=.int (if j=0 then n else m) t) (fun j=>if j=0 then n else m) (fun _ _ h=>h);refine wpAny_bind (m:=tryCatch (holding [.int n t₁,.int n t₁] (richCompare .Lt (.int n t₁) (.int m t) >>= _)) _) (wpAny_tryCatch (wpAny_holding (wpAny_bind (cmp 0 1 _ _ _ _ _ ⟨t₁,rfl⟩ ⟨t,rfl⟩ ?_))));simp only[if_true,Nat.one_ne_zero,if_false];refine wpAny_bind (wpAny_holding (wpAny_truthy_bool (wpAny_bind (wpAny_letGo (wpAny_pure ?_)))))
  have moved:Moved (S::wr) G s s':=mv.mono fun b hb=>List.mem_cons_of_mem _ hb
  by_cases lo:n<m
  ·simp only[lo,decide_true,if_true]
   have pk:pick false m n=n:=by unfold pick;simp[lo]
   rw[pk]at q;refine wpAny_bind (wpAny_updateSeq b2 rfl (wpAny_bind (wpAny_letGo ?_)));rw[vh];refine wpAny_pure ⟨plainId_quiet F.plain_min_loop _,min_go W hv hS kw k (i+1) _ n t₁ _ (by lia) (W.frame _ s' _ s'.toks b1 (Nat.le_refl _) ?_) (Heap.get?_update_self _ b2 rfl) ?_⟩
   ·intro b hb o eb;exact(Heap.get?_update_other _ _ (fun x=>hS (by rw[x];exact hb))).trans eb
   ·intro s₂ t₂ m₂;exact q s₂ t₂ (Moved.trans W.gtrans (uI mv _) m₂)
  ·simp only[lo,decide_false,Bool.false_eq_true,if_false]
   have pk:pick false m n=m:=by unfold pick;simp[lo]
   rw[pk]at q;refine wpAny_bind (wpAny_letGo ?_);rw[vh];exact wpAny_pure ⟨plainId_quiet F.plain_min_loop _,min_go W hv hS kw k (i+1) s' m t c (by lia) b1 b2 fun s₂ t₂ m₂=>q s₂ t₂ (Moved.trans W.gtrans moved m₂)⟩
end
section
variable {prog:Program} {w:World} {A:Around} {E:Value->Shared->Prop} {I:Addr} {fp wr:List Addr} {G:Array GenState->Array GenState->Prop} {P:Nat->Value->Prop} {St:Nat->Shared->Prop} {ns:List Int}
theorem fn_again{id:String}{b:Builtin}{args:List Value}{kw:List (Str×Value)}{Q:Value->Shared->Prop}{s:Shared}(hk:builtinKind id=none)(hp:plainId id=true)(hb:entryFor table id=some b)(ha:argsOk id ⟨args,kw⟩)
 (hc:wpAny (model prog w) A.in1 (b ⟨args,kw⟩) (fun fin s'=>∃c',fin=.again c'/\c'.quiet=true/\codeAny (model prog w) A c' (fun r s'=>match r with|.ok (.ret v)=>Q v s'|.ok _=>False|.error e=>E e s') s') E s) :
 wpAny (model prog w) A (call (.builtin id) args kw) Q E s:=by
 refine wpAny_call (codeAny_call_builtin hp hb ?_)
 have fin:=wpAny_mono hc (Q':=fun fin s'=>match fin with
  |.done f=>(match (Except.ok f:Result) with|.ok (.ret v)=>Q v s'|.ok _=>False|.error e=>E e s')
  |.again c'=>c'.quiet=true/\codeAny (model prog w) A c' (fun r s'=>match r with|.ok (.ret v)=>Q v s'|.ok _=>False|.error e=>E e s') s')
  (fun _ _ ⟨c',e,z⟩=>by subst e;exact z) fun _ _ z=>z
 simp only[checkBuiltinCall,hk]
 cases hs:Manifest.signature? id with
 |none=>exact wpAny_pure fin
 |some sig =>
  have e:Bind.checkArgs id sig ⟨args,kw⟩=pure ():=by simpa only[argsOk,hs]using ha
  simp only[e];exact wpAny_pure fin
end
theorem u4:∀ {ns:List Int} {us:List Value},jA (ns.map V.int) us->∀i v,us[i]?=some v->∃t,v=Value.int (ns.getD i 0) t
 |[],us,r,i,v,h=>by cases r;simp at h
 |n::ns,us,r,i,v,h=>by
  cases r with
  |cons r1 r2 =>
   cases i with
   |zero=>simp at h;subst h;obtain⟨t,e⟩:=r1;exact⟨t,by simpa using e⟩
   |succ i=>simpa using u4 r2 i v (by simpa using h)
theorem Inv.moved'{X:Cx}{pins:List (Addr×Obj)}{τ:L2.St}{H:Hp}{s s':Shared}{o:Obj}{tk:Nat}(I:Inv X pins τ H s)(m:Moved [s.heap.objs.size] (fun a b=>b=a) { s with heap:=s.heap.push o,toks:=tk } s'):Inv X pins τ H s':=by
 have k:∀b u,s.heap.get? b=some u->s'.heap.get? b=some u:=fun b u e=>m.heap b u (fun z=>by
  have:b=s.heap.objs.size:=by simpa using z
  exact absurd (Heap.lt_size e) (by rw[this];exact Nat.lt_irrefl _)) (Heap.get?_push_of_some _ e)
 exact I.call' (ch:=[]) m.os (Un.kept k) (I.hok.kept k) (by rw[m.gens];exact I.bare) fun _ z=>nomatch z
section
variable {prog:Program} {w:World} {A:Around} {E:Value->Shared->Prop} {I:Addr} {fp wr:List Addr} {G:Array GenState->Array GenState->Prop} {P:Nat->Value->Prop} {St:Nat->Shared->Prop}
theorem bind_min1:Builtin.Builtins.bindParams "min" ["key","default"] 0 ⟨[],[]⟩=pure [none,none]:=rfl
theorem args_min1(a:Value):argsOk "min" ⟨[a],[]⟩:=by unfold argsOk;kernel_rfl
theorem min_list{x:Value}{n:Int}{ns:List Int}{Q:Value->Shared->Prop}{s:Shared}
 (h:wpAny (model prog w) A.in1 (pyIter x) (fun it s₂=>∃I fp wr G P St,it=.ref I/\WalksS prog w A.in1 I fp wr G (n::ns).length P St/\St 0 s₂/\(∀b∈fp,b<s₂.heap.objs.size)/\(∀i v,P i v->∃t,v=.int ((n::ns).getD i 0) t) /\
  ∀s' t,Moved wr G s₂ s'->Q (.int (mmF false 0 (n::ns)) t) s') E s) :
 wpAny (model prog w) A (call (.builtin "min") [x] []) Q E s:=by
 refine fn_again F.kind_min F.plain_min F.entry_min (args_min1 _) ?_;refine wpAny_bind (m:=Builtin.Builtins.bindParams "min" ["key","default"] 0 ⟨[],[]⟩) (wpAny_of_eq (bind_min1) ?_);refine wpAny_bind (wpAny_pure (wpAny_bind (wpAny_mono h ?_ fun _ _ e=>e)));rintro it s₂ ⟨I,fp,wr,G,P,St,rfl,W,st,hf,hv,q⟩;refine wpAny_bind (wpAny_newObj_type ?_)
 have fresh:s₂.heap.objs.size ∉ fp:=fun z=>Nat.lt_irrefl _ (hf _ z)
 have st':St 0 { s₂ with heap:=s₂.heap.push { cls:=.type "list",dict:=none,data:=.seq #[] 0,slots:=#[] } }:=W.frame 0 s₂ _ s₂.toks st (Nat.le_refl _) fun b _ o e=>Heap.get?_push_of_some _ e
 have hS:=Heap.get?_push_size s₂.heap (show ({ cls:=.type "list",dict:=none,data:=.seq #[] 0,slots:=#[] }:Obj).isFreed=false from rfl);rw[vh];refine wpAny_pure ⟨_,rfl,plainId_quiet F.plain_min_loop _,?_⟩;refine codeAny_builtin F.entry_min_loop ?_;rw[Around.under_plainId F.plain_min_loop _];refine wpAny_bind (m:=seqItems? (.ref s₂.heap.objs.size)) (wpAny_seqItems hS rfl ?_);refine wpAny_bind (m:=tryCatch (pyNext (.ref I)) _) (wpAny_tryCatch (W.item 0 _ _ _ (by simp) st' ?_));intro v s' pv b1 mv;obtain⟨t₁,rfl⟩:=hv 0 v pv
 have Sw:s₂.heap.objs.size ∉ wr:=fun z=>fresh (W.sub _ z)
 have b2:=mv.heap _ _ Sw hS;refine wpAny_bind (m:=updateSeq s₂.heap.objs.size (fun _=>#[.int n t₁,.int n t₁])) (wpAny_updateSeq b2 rfl ?_);rw[vh];refine wpAny_pure ⟨plainId_quiet F.plain_min_loop _,min_go W hv fresh _ ns.length 1 _ n t₁ _ (by simp;lia) (W.frame _ s' _ s'.toks b1 (Nat.le_refl _) ?_) (Heap.get?_update_self _ b2 rfl) ?_⟩
 ·intro b hb o eb;exact(Heap.get?_update_other _ _ (fun x=>fresh (by rw[x];exact hb))).trans eb
 ·intro s₃ t₃ m₃;exact q s₃ t₃ (Moved.drop_new (tk:=s₂.toks) (Moved.trans W.gtrans (uI mv _) m₃) (Nat.le_refl _))
end
theorem call_min1{X:Cx}(hc:X.calm=true){pins:List (Addr×Obj)}{s:Shared}{τ:L2.St}{H:Hp}{a:Addr}{n:Int}{ns:List Int}{Q:VK}(I:Inv X pins τ H s)(hq:SqL X.K H a ((n::ns).map V.int))(q:Q (.int (mmF false 0 (n::ns))) H) :
 wpAny (model X.prog X.w) X.A (call (.builtin "min") [.ref a] []) (EP X pins τ Q) X.xe s:=by
 obtain⟨its,rv,p,hz⟩:=I.list hq;have hl:=rv.length;rw[List.length_map]at hl;obtain⟨o,n0,ho,_⟩:=id p;have hne:a≠s.heap.objs.size:=Nat.ne_of_lt (Heap.lt_size ho);have W:=(Walks.list (prog:=X.prog) (w:=X.w) (A:=X.A.in1) (I.ok.hd hc) s.heap.objs.size a hne its.toArray).toS;rw[show its.toArray.size=(n::ns).length by simp[hl]]at W
 have fin:wpAny (model X.prog X.w) X.A.in1 (pyIter (.ref a)) (fun it s₂=>∃I fp wr G P St,it=.ref I/\WalksS X.prog X.w X.A.in1 I fp wr G (n::ns).length P St/\St 0 s₂/\(∀b∈fp,b<s₂.heap.objs.size)/\(∀i v,P i v->∃t,v=.int ((n::ns).getD i 0) t) /\
  ∀s' t,Moved wr G s₂ s'->EP X pins τ Q (.int (mmF false 0 (n::ns)) t) s') X.xe s:=by
  refine wpAny_pyIter_list p.isList ⟨s.heap.objs.size,_,_,_,_,_,rfl,W,⟨⟨_,Heap.get?_push_size _ rfl,rfl,rfl⟩,p.isList.push _⟩,fun b hb=>?_,fun i v hv=>u4 rv i v (by simpa using hv),fun s' t' m=>?_⟩
  ·rw[Heap.size_push];simp only[List.mem_cons,List.not_mem_nil,or_false]at hb;rcases hb with z|z
   ·rw[z];exact Nat.lt_succ_self _
   ·rw[z];exact Nat.lt_succ_of_lt (Heap.lt_size ho)
  ·exact⟨.int (mmF false 0 (n::ns)),H,Inv.moved' (tk:=s.toks) I m,⟨t',rfl⟩,q⟩
 exact min_list fin
end Z
namespace Z
open PySem PySem.Spec PyProof.Rows L2
section
variable {prog:Program} {w:World} {A:Around} {E:Value->Shared->Prop} {s:Shared} {z TI TO i1 i2 l1 l2:Addr}
end
end Z
namespace Z
open PySem PySem.Spec PySem.Calls PyProof.Rows PySem.W L2
section
variable {prog:Program} {w:World} {A:Around} {E:Value->Shared->Prop} {h:Heap} {g:Array GenState} {d:Drawn} {t:Nat} {os:OsState}
variable {nm q:Str} {C N:Addr} {bs bm bmB:List Value} {hdct:Bool} {sn:List Str} {sub:List Value} {ab:Bool} {col:Option Bool} {dd:Option Addr} {k0 k1 k2 k3 k5:Option Value} {B Bn newId nid initId inN:String} {bmN:List Value}
theorem type_initU(Fn:ExcBaseFacts Bn newId inN bmN)(hBn:bmB.contains (.type Bn)=true)(F:ExcBaseFacts B nid initId bmB)(T:OwnTail h bmB bm){mN:Str->Option Value}{rest:List Value}{fI:Addr}{oI:Obj}{Q:PySem.Fin->Shared->Prop}
 (hC:h.get? C=some (excClassObj nm q C N bs bm hdct sn sub ab col dd k0 k1 k2 k3 k5 newId)) (hn:h.Ns N mN) (hi:mN "__init__"=some (.ref fI)) (hfI:h.get? fI=some oI) (hfc:oI.cls=.type "function")
 (hq:∀h' e,Heap.MadeExcOf h h' e (.ref C) rest->wpAny (model prog w) A (call (.ref fI) (.ref e::rest)) (fun r s'=>r=.none/\Q (.done (.ret (.ref e))) s') E ⟨h',g,d,t,os⟩) (hrest:rest.length<=sizeLine) :
 wpAny (model prog w) A (Builtin.«type.__call__» ⟨.ref C::rest,[]⟩) Q E ⟨h,g,d,t,os⟩:=by
 repeat (first|(with_reducible refine wpAny_loadPart_at hC ?_)|(with_reducible refine wpAny_madeBy_exc hC ?_)|wp_step)
 refine codeAny_call_builtin_code (Code.quiet_builtin _ Fn.quiet) (wpAny_check_new_subU Fn hBn T hC (codeAny_exc_new_subU Fn hBn F T hC ?_ hrest));show wpAny _ _ _ _ _ _;generalize hh2:(h.push { cls:=.type "tuple",data:=.seq rest.toArray }).push { cls:=.ref C,data:=.fields #[.ref h.objs.size,.none,.none,.none,.bool false,.none] }=h2
 have kp:∀b o,h.get? b=some o->h2.get? b=some o:=fun b o e=>by rw[<- hh2];exact Heap.get?_push_of_some _ (Heap.get?_push_of_some _ e)
 have he:h2.get? (h.objs.size+1)=some { cls:=.ref C,data:=.fields #[.ref h.objs.size,.none,.none,.none,.bool false,.none] }:=by rw[<- hh2];heap_get
 have ht:h2.get? h.objs.size=some { cls:=.type "tuple",data:=.seq rest.toArray }:=by rw[<- hh2];exact Heap.get?_push_of_some _ (Heap.get?_push_at rfl rfl)
 have hcC:(Value.ref C::bm).contains (.ref C)=true:=by simp
 have hC2:=kp _ _ hC;have hn2:h2.Ns N mN:=hn.keeps kp;unfold isInstance
 repeat (first|(with_reducible refine wpAny_loadPart_at he ?_)|(with_reducible refine wpAny_isSubtype_exc hC2 ?_;rw[hcC])|wp_step)
 show wpAny _ _ (typeLookup (.ref C) _) _ _ _;refine wpAny_typeLookup_tail hC2 hn2 (T.keeps kp) F.mroIs F.init.lookup ?_;rw[hi];refine wpAny_holding (wpAny_bind ?_);unfold bindSpecial;refine wpAny_bind (wpAny_typeOf (T:="function") ⟨_,kp _ _ hfI,hfc⟩ ?_);rw[if_pos (by decide)]
 have made:Heap.MadeExcOf h h2 (h.objs.size+1) (.ref C) rest:=⟨kp,Heap.get?_none_of_le (Nat.le_succ _),h.objs.size,he,Heap.get?_none_of_le (Nat.le_refl _),ht⟩
 refine wpAny_pure (wpAny_bind (wpAny_mono (hq h2 _ made) (fun r s' hr=>?_) fun _ _ x=>x));obtain⟨rfl,hQ⟩:=hr
 wp_walk
 exact hQ
theorem call_initU(Fn:ExcBaseFacts Bn newId inN bmN)(hBn:bmB.contains (.type Bn)=true)(F:ExcBaseFacts B nid initId bmB)(T:OwnTail h bmB bm){mN:Str->Option Value}{rest:List Value}{fI:Addr}{oI:Obj}{Q:Value->Shared->Prop}
 (hC:h.get? C=some (excClassObj nm q C N bs bm hdct sn sub ab col dd k0 k1 k2 k3 k5 newId)) (hn:h.Ns N mN) (hi:mN "__init__"=some (.ref fI)) (hfI:h.get? fI=some oI) (hfc:oI.cls=.type "function")
 (hq:∀h' e,Heap.MadeExcOf h h' e (.ref C) rest->wpAny (model prog w) (A.under (.builtin "type.__call__" ⟨.ref C::rest,[]⟩)) (call (.ref fI) (.ref e::rest)) (fun r s'=>r=.none/\Q (.ref e) s') E ⟨h',g,d,t,os⟩) (hrest:rest.length<=sizeLine) :
 wpAny (model prog w) A (call (.ref C) rest) Q E ⟨h,g,d,t,os⟩:=by
 have l1:=tc_lookup;have l2:=tc_bind (.ref C)
 have ty:(⟨h,g,d,t,os⟩:Shared).TypeIs (.ref C) "type":=⟨_,hC,rfl⟩
 refine wpAny_call (codeAny_of_tree (show wpAny _ _ (callAny (.ref C) _) _ _ _ from ?_))
 repeat (any_goals (first|assumption|(with_reducible refine wpAny_loadPart_at hC ?_)|wp_step))
 exact⟨rfl,codeAny_call_builtin_at (Code.quiet_builtin _ (by decide +kernel)) entry_typeCall (wpAny_check_type_call_sub hC (type_initU Fn hBn F T hC hn hi hfI hfc hq hrest))⟩
end
section
variable {M:Model} {A:Around} {E:Value->Shared->Prop} {env:Env}
variable {nm q:Str} {C N:Addr} {bs bm:List Value} {hdct:Bool} {sn:List Str} {sub:List Value} {ab:Bool} {col:Option Bool} {dd:Option Addr} {k0 k1 k2 k3 k5:Option Value} {newId:String}
theorem raise_dict{s:Shared}{x:Sem Value}{Q:Flow->Shared->Prop}(hb:bm.contains (.type "BaseException")=true)(hh:A.handled=none)
 (hx:wpAny M A x (fun v s₁=>∃e t dct,v=.ref e/\s₁.heap.get? C=some (excClassObj nm q C N bs bm hdct sn sub ab col dd k0 k1 k2 k3 k5 newId)/\s₁.heap.get? e=some { cls:=.ref C,dict:=dct,data:=.fields #[.ref t,.none,.none,.none,.bool false,.none] }/\E (.ref e) s₁) E s) :
 wpAny M A (raiseStmt env (some x) none) Q E s:=by
 have hcB:(Value.ref C::bm).contains (.type "BaseException")=true:=by rw[List.contains_cons,hb,Bool.or_true]
 unfold raiseStmt;refine wpAny_bind (wpAny_mono hx (fun v s₁ ⟨e,t,dct,ev,hC,he,hE⟩=>?_) fun _ _ x=>x);subst ev;obtain⟨hp,g,d,tk,os⟩:=s₁
 repeat (first|(with_reducible refine wpAny_loadPart_at he ?_)|(with_reducible refine wpAny_loadPart_at hC ?_)|(with_reducible refine wpAny_isSubtype_exc hC ?_;rw[hcB])|wp_step)
 exact wpAny_raiseNew_none hh hE
end
end Z
namespace Z
open PySem PySem.Spec PySem.Calls PyProof.Rows PySem.W L2
section
variable {M:Model} {A:Around} {E:Value->Shared->Prop} {s:Shared}
noncomputable def yf(h:Heap)(e:Addr)(dct:Option Addr):Prop:=∃o,h.get? e=some o/\o.dict=dct
theorem vW(o:Obj)(f:Array Value->Array Value):(Obj.mapFields f o).dict=o.dict:=by
 unfold Obj.mapFields
 split<;>rfl
theorem noteD{base:Heap}{env:Env}{outer:List Env}{L e:Addr}{oe:Obj}{vs:Array Value}{head a0:Value}{hadNext:Bool}{Q:Unit->Shared->Prop}
 (hfr:A.frames=some (env::outer)) (hl:s.heap.FunFrames base (env::outer)) (hf:env.frame=some L) (he:s.heap.get? e=some oe) (hkb:base.StaysIn s.heap) (hen:base.get? e=none) (hd:oe.data=.fields vs) (hsz:1<vs.size) (h0:vs[0]?=some a0)
 (h:∀h',Heap.NotedW base (env::outer) e oe.cls a0 (rawInt L) s.heap h'->yf h' e oe.dict->Q () { s with heap:=h' }) :
 wpAny M A (do let a <- frameOf env;let pl <- entryPlaceOf L hadNext;let b <- EntryCells.newEntry head a .none (rawInt L) .none pl;setField (.ref e) 1 b) Q E s:=by
 have nf:e ∉ (env::outer).filterMap (·.frame):=fun hm=>by
  obtain⟨_,o,ho,hnf⟩:=hl.mem hm;rw[he]at ho;cases ho;exact hnf vs hd
 refine wpAny_bind (wpAny_frameOf_fun hfr hl hf fun h1 hs=>wpAny_bind (wpAny_entryPlaceOf fun pl hpl=>?_));unfold EntryCells.newEntry newFields;refine wpAny_bind (wpAny_newObj_type ?_ (hpl.sizeOk5 _ _ _ _ _));generalize htb:({ cls:=.type "traceback",dict:=none,data:=.fields ([head,.ref L,.none,rawInt L,.none]++(if pl.isEmpty then List.replicate 6 Value.none else pl)).toArray }:Obj)=tb;have he1:h1.get? e=some oe:=(hs.2.1 e nf).trans he;have hne:h1.objs.size≠e:=Nat.ne_of_gt (Heap.lt_size he1);have he2:(h1.push tb).get? e=some oe:=Heap.get?_push_of_some _ he1;have hT2:(h1.push tb).get? h1.objs.size=some tb:=Heap.get?_push_size h1 (by rw[<- htb];rfl)
 let f1:Obj->Obj:=Obj.mapFields (·.setIfInBounds 1 (Value.ref h1.objs.size))
 have d3:(f1 oe).data=.fields (vs.setIfInBounds 1 (Value.ref h1.objs.size)):=Obj.data_mapFields hd _;have he3:((h1.push tb).update e f1).get? e=some (f1 oe):=Heap.get?_update_self _ he2 (Obj.isFreed_of_fields d3);have hT3:((h1.push tb).update e f1).get? h1.objs.size=some tb:=(Heap.get?_update_other _ _ (Ne.symm hne)).trans hT2;refine wpAny_setField he2 hd hsz (h _ ?_ ⟨f1 oe,he3,vW _ _⟩)
 have kb:base.StaysIn h1:=fun b o hb=>(hs.2.1 b fun hm=>by rw[(hl.mem hm).1]at hb;cases hb).trans (hkb b o hb)
 have keep:∀b o,b≠e->h1.get? b=some o->((h1.push tb).update e f1).get? b=some o:=fun b o hb q=>by
  rw[Heap.get?_update_other _ _ (Ne.symm hb)];exact Heap.get?_push_of_some _ q
 have other:∀b o,s.heap.get? b=some o->(∀vs,o.data ≠ .fields vs)->b≠e:=fun b o q n z=>by
  rw[z,he]at q;cases q;exact n vs hd
 have fresh:base.get? h1.objs.size=none:=by
  cases q:base.get? h1.objs.size with
  |none=>rfl
  |some o=>exact absurd (Heap.lt_size (kb _ _ q)) (Nat.lt_irrefl _)
 have dT:tb.data=.fields ([head,.ref L,.none,rawInt L,.none]++(if pl.isEmpty then List.replicate 6 Value.none else pl)).toArray:=by rw[<- htb]
 refine⟨fun b o q=>keep b o (fun z=>by rw[z,hen]at q;cases q) (kb b o q),hl.of_keeps fun b o q n=>?_,⟨f1 oe,_,h1.objs.size,tb,_,he3,⟨Obj.cls_mapFields _ _,?_⟩,d3,by simp[hsz],fresh,hne,hT3,dT,?_⟩,fun b o q n=>?_⟩
 ·obtain⟨sl,z⟩:=hs.2.2 b o q;exact⟨_,keep b _ (other b o q n) z,rfl⟩
 ·rw[Array.getElem?_setIfInBounds_ne (by decide)];exact h0
 ·simp
 ·obtain⟨sl,z⟩:=hs.2.2 b o q;exact⟨sl,keep b _ (other b o q n) z⟩
theorem landD{base:Heap}{l:List Env}{e:Addr}{cls a0 fl:Value}{dct:Option Addr}{Q:Unit->Shared->Prop}(hkb:base.StaysIn s.heap)(hen:base.get? e=none)(hl:s.heap.FunFrames base l)(ht:s.heap.TracedAtW base e cls a0 fl)(hdc:yf s.heap e dct)
 (h:∀h',Heap.FlyingW base l e cls a0 h'->yf h' e dct->s.heap.UpToSlots h'->Q () { s with heap:=h' }):wpAny M A (setFlight (.ref e) none) Q E s:=by
 obtain⟨oe,vs,T,oT,ts,he,hc,hd,h1,hnT,hTe,hT,hdT,h3⟩:=ht;obtain⟨o,ho,hdo⟩:=hdc;unfold setFlight;refine wpAny_bind (wpAny_field he hd h1 ?_);rw[if_pos (by simp)];have sz:3<ts.size:=(Array.getElem?_eq_some_iff.mp h3).1;have dT:=Obj.data_mapFields hdT (·.setIfInBounds 3 ((none:Option Addr).elim Value.none fun f=>rawInt f));refine wpAny_setField hT hdT sz (h _ ?_ ?_ fun b o q n=>?_)
 ·have ot:∀b,b≠T->(s.heap.update T (Obj.mapFields (·.setIfInBounds 3 ((none:Option Addr).elim Value.none fun f=>rawInt f)))).get? b=s.heap.get? b:=fun b hb=>Heap.get?_update_other _ _ (Ne.symm hb)
  refine⟨fun b o q=>(ot b fun z=>by rw[z,hnT]at q;cases q).trans (hkb b o q),hen,hl.of_keeps fun b o q n=>⟨o,(ot b fun z=>?_).trans q,rfl⟩,oe,vs,T,_,_,(ot e (Ne.symm hTe)).trans he,hc,hd,h1,hnT,hTe,Heap.get?_update_self _ hT (Obj.isFreed_of_fields dT),dT,by simp[sz]⟩;rw[z,hT]at q;cases q;exact n ts hdT
 ·exact⟨o,(Heap.get?_update_other _ _ hTe).trans ho,hdo⟩
 ·refine⟨o.slots,(Heap.get?_update_other _ _ fun z=>?_).trans q⟩;rw[<- z,hT]at q;cases q;exact n ts hdT
theorem leaveD1{base:Heap}{env:Env}{outer:List Env}{L e:Addr}{oe:Obj}{vs:Array Value}{a0:Value}{Q:Unit->Shared->Prop}
 (hfr:A.frames=some (env::outer)) (hl:s.heap.FunFrames base (env::outer)) (hf:env.frame=some L) (he:s.heap.get? e=some oe) (hkb:base.StaysIn s.heap) (hen:base.get? e=none) (hd:oe.data=.fields vs) (h1:vs[1]?=some .none) (h0:vs[0]?=some a0)
 (h:∀h',Heap.LeftW base (env::outer) e oe.cls a0 s.heap h'->yf h' e oe.dict->Q () { s with heap:=h' }):wpAny M A (leaving env (.ref e)) Q E s:=by
 unfold leaving noteFrame;simp only[hf];refine wpAny_bind (wpAny_bind (wpAny_field he hd h1 ?_));rw[if_neg (by decide)]
 exact noteD hfr hl hf he hkb hen hd (Array.getElem?_eq_some_iff.mp h1).1 h0 fun h2 ⟨x1,x2,x3,x4⟩ dd=>landD (s:={ s with heap:=h2 }) x1 hen x2 x3 dd fun h3 ⟨y1,_,y3,y4⟩ d2 us=>h h3 ⟨y1,y3,y4,fun b o q n=>by obtain⟨sl,z⟩:=x4 b o q n;obtain⟨s2,z2⟩:=us b { o with slots:=sl } z n;exact⟨s2,z2⟩⟩ d2
theorem lookD{base:Heap}{env:Env}{outer:List Env}{L e:Addr}{cls a0:Value}{dct:Option Addr}{Q:Unit->Shared->Prop}
 (hfr:A.frames=some (env::outer)) (hf:env.frame=some L) (hfl:Heap.FlyingW base (env::outer) e cls a0 s.heap) (hdc:yf s.heap e dct)
 (h:∀h',Heap.HeldW base (env::outer) e cls a0 L h'->yf h' e dct->s.heap.UpToSlots h'->Q () { s with heap:=h' }):wpAny M A (noteFrame (.ref e) env) Q E s:=by
 obtain⟨hkb,hen,hl,oe,vs,T,oT,ts,he,⟨hc,h0⟩,hd,h1,hnT,hTe,hT,hdT,h3⟩:=hfl;obtain⟨o,ho,hdo⟩:=hdc;rw[he]at ho;cases ho;subst hc hdo;unfold noteFrame;simp only[hf];refine wpAny_bind (wpAny_field he hd h1 ?_);rw[if_pos (by simp)];refine wpAny_bind (wpAny_field hT hdT h3 ?_);rw[if_neg (by simp[rawInt])];refine wpAny_bind (wpAny_setField hT hdT (Array.getElem?_eq_some_iff.mp h3).1 ?_);generalize hh:s.heap.update T (Obj.mapFields (·.setIfInBounds 3 Value.none))=h2
 have ot:∀b,b≠T->h2.get? b=s.heap.get? b:=fun b hb=>by rw[<- hh];exact Heap.get?_update_other _ _ (Ne.symm hb)
 have nT:∀b o,s.heap.get? b=some o->(∀vs,o.data ≠ .fields vs)->b≠T:=fun b o q n z=>by
  rw[z,hT]at q;cases q;exact n ts hdT
 exact noteD (s:={ s with heap:=h2 }) hfr (hl.of_keeps fun b o q n=>⟨o,(ot b (nT b o q n)).trans q,rfl⟩) hf ((ot e (Ne.symm hTe)).trans he) (fun b o q=>(ot b fun z=>by rw[z,hnT]at q;cases q).trans (hkb b o q)) hen hd (Array.getElem?_eq_some_iff.mp h1).1 h0 fun h' ⟨x1,x2,x3,x4⟩ dd=>h h' ⟨x1,hen,x2,x3⟩ dd fun b o q n=>x4 b o ((ot b (nT b o q n)).trans q) n
theorem leaveD2{base:Heap}{env:Env}{outer:List Env}{L e:Addr}{cls a0:Value}{dct:Option Addr}{Q:Unit->Shared->Prop}
 (hfr:A.frames=some (env::outer)) (hf:env.frame=some L) (hfl:Heap.FlyingW base (env::outer) e cls a0 s.heap) (hdc:yf s.heap e dct)
 (h:∀h',Heap.FlyingW base outer e cls a0 h'->yf h' e dct->s.heap.UpToSlots h'->Q () { s with heap:=h' }):wpAny M A (leaving env (.ref e)) Q E s:=by
 unfold leaving;refine wpAny_bind (lookD hfr hf hfl hdc fun h2 hd2 dd us=>?_);obtain⟨x1,x2,x3,x4⟩:=hd2
 refine landD (s:={ s with heap:=h2 }) x1 x2 x3 x4 dd fun h3 fl d3 us2=>h h3 ?_ d3 (us.trans us2)
 obtain⟨y1,y2,⟨_,_,y3⟩,y4⟩:=fl;exact⟨y1,y2,y3,y4⟩
end
end Z
namespace Z
open PySem PySem.Spec PySem.Calls PyProof.Rows PySem.W L2
inductive TailN (n:Str) (h:Heap) (bmB:List Value):List Value->Prop
 |base:TailN n h bmB bmB
 |own {a:Addr} {c0:Value} {dd:Option Addr} {cd:ClassData} {sl:Array (Option Value)} {m:Str->Option Value} {tl:List Value} (hA:h.get? a=some { cls:=c0,dict:=dd,data:=.cls cd,slots:=sl }) (hN:h.Ns cd.ns m) (hn:m n=none) (r:TailN n h bmB tl):TailN n h bmB (.ref a::tl)
section
variable {prog:Program} {w:World} {M:Model} {A:Around} {E:Value->Shared->Prop} {h:Heap} {g:Array GenState} {d:Drawn} {t:Nat} {os:OsState} {a dA:Addr} {o:Obj} {vs:Array Value} {t0:Addr}
 {nm q:Str} {C N:Addr} {bs bm bmB:List Value} {hdct:Bool} {sn:List Str} {sub:List Value} {ab:Bool} {col:Option Bool} {dd:Option Addr} {k0 k1 k2 k3 k5:Option Value} {B newId:String} {mN mD:Str->Option Value} {n:Str}
theorem along_name{tl:List Value}{y:Option Value}{Q:Option Value->Shared->Prop}(T:TailN n h bmB tl)(hr:lookupAlong bmB n=pure y)(hq:Q y ⟨h,g,d,t,os⟩):wpAny M A (lookupAlong tl n) Q E ⟨h,g,d,t,os⟩:=by
 induction T with
 |base=>rw[hr];exact wpAny_pure hq
 |own hA hN hn _ ih =>
  rw[lookupAlong_cons];exact wpAny_bind (wpAny_classOwn_cls hA hN (by rw[hn];exact ih))
theorem xR{y:Option Value}{Q:Option Value->Shared->Prop}(hC:h.get? C=some (excClassObj nm q C N bs bm hdct sn sub ab col dd k0 k1 k2 k3 k5 newId))(hn:h.Ns N mN)(T:TailN n h bmB bm)(hbm:mroOf (.type B)=pure bmB)(hB:typeLookup (.type B) n=pure y)(h0:mN n=none)
 (hq:Q y ⟨h,g,d,t,os⟩):wpAny M A (typeLookup (.ref C) n) Q E ⟨h,g,d,t,os⟩:=by
 have hr:lookupAlong bmB n=pure y:=by rw[typeLookup_eq,hbm]at hB;exact hB
 rw[typeLookup_eq];refine wpAny_bind (wpAny_mroOf_exc hC ?_);rw[lookupAlong_cons];exact wpAny_bind (wpAny_classOwn_exc hC hn (by rw[h0];exact along_name T hr hq))
theorem fld_entry{tk:Tok}{v:Value}{Q:PySem.Fin->Shared->Prop}(hC:h.get? C=some (excClassObj nm q C N bs bm true sn sub ab col dd k0 k1 k2 k3 k5 newId))(hN:h.Ns N mN)(T:TailN n h bmB bm)(hbm:mroOf (.type B)=pure bmB)(hB:typeLookup (.type B) n=pure none)(h0:mN n=none)
 (hx:h.get? a=some o) (hc:o.cls=.ref C) (hd:o.data=.fields vs) (hdc:o.dict=some dA) (hD:h.Ns dA mD) (hv:mD n=some v) (hq:Q (.done (.ret v)) ⟨h,g,d,t,os⟩) :
 wpAny (model prog w) A (Builtin.«object.__getattribute__» ⟨[.ref a,.str n tk],[]⟩) Q E ⟨h,g,d,t,os⟩:=by
 repeat (any_goals (first|assumption|(with_reducible refine wpAny_loadPart_at hx ?_;rw[hc])|(with_reducible refine xR hC hN T hbm hB h0 ?_)|wp_step))
 rw[hd];show wpAny _ _ (instanceDict a false) _ _ _;unfold instanceDict;refine wpAny_bind (wpAny_loadPart_at hx ?_);rw[hc];refine wpAny_bind ?_;unfold classData
 repeat (any_goals (first|assumption|(with_reducible refine wpAny_loadPart_at hC ?_)|wp_step))
 rw[hdc];refine wpAny_pure (show wpAny _ _ (nsGet dA n) _ _ _ from wpAny_nsGet hD ?_);rw[hv]
 repeat (any_goals (first|assumption|wp_step))
theorem fld_call{tk:Tok}{v:Value}{R:Result->Shared->Prop}(FB:ExcAttrBase B bmB)(hC:h.get? C=some (excClassObj nm q C N bs bm true sn sub ab col dd k0 k1 k2 k3 k5 newId))(hN:h.Ns N mN)(TQ:OwnTailQ h bmB bm)(T:TailN n h bmB bm)(hB:typeLookup (.type B) n=pure none)(h0:mN n=none)
 (hx:h.get? a=some o) (hc:o.cls=.ref C) (hd:o.data=.fields vs) (hdc:o.dict=some dA) (hD:h.Ns dA mD) (hv:mD n=some v) (hq:R (.ok (.ret v)) ⟨h,g,d,t,os⟩) :
 codeAny (model prog w) A (.call (.builtin "BaseException.__getattribute__") ⟨[.ref a,.str n tk],[]⟩) R ⟨h,g,d,t,os⟩ :=
 codeAny_call_builtin FB.ga.plain F.entry_bexc_ga (wpAny_check_ga_own FB hC TQ hx hc (fld_entry hC hN T FB.mro hB h0 hx hc hd hdc hD hv hq))
theorem fld_by{tk:Tok}{v:Value}{fill expr:Bool}{Q:Value->Shared->Prop}(FB:ExcAttrBase B bmB)(hC:h.get? C=some (excClassObj nm q C N bs bm true sn sub ab col dd k0 k1 k2 k3 k5 newId))(hN:h.Ns N mN)(m1:mN "__getattribute__"=none)(m2:mN "__getattr__"=none)(TQ:OwnTailQ h bmB bm)(T1:TailN "__getattribute__" h bmB bm)(T2:TailN "__getattr__" h bmB bm)(T:TailN n h bmB bm)(hB:typeLookup (.type B) n=pure none)(h0:mN n=none)
 (hx:h.get? a=some o) (hc:o.cls=.ref C) (hd:o.data=.fields vs) (hdc:o.dict=some dA) (hD:h.Ns dA mD) (hv:mD n=some v) (nb:∀id,v ≠ .builtin id) (hq:Q v ⟨h,g,d,t,os⟩) :
 wpAny (model prog w) A (getAttrBy (.ref a) (.str n tk) fill expr) Q E ⟨h,g,d,t,os⟩:=by
 have b3:=FB.ga.bind (.ref a)
 have y0:(expr&&onTheHeap (Value.builtin "BaseException.__getattribute__"))=false:=by cases expr<;>rfl
 have y2:(Value.builtin "BaseException.__getattribute__" == Value.builtin "object.__getattribute__")=false:=by decide +kernel
 have y1:(onTheHeap (Value.ref C)&&Value.builtin "BaseException.__getattribute__" == Value.builtin "object.__getattribute__")=false:=by rw[y2];rfl
 repeat (any_goals (first|assumption|(with_reducible refine wpAny_loadPart_at hx ?_;rw[hc])|(with_reducible refine xR hC hN T1 FB.mro FB.ga.lookup m1 ?_)|(with_reducible refine xR hC hN T2 FB.mro FB.noGetattr m2 ?_)|wp_step))
 refine fld_call FB hC hN TQ T hB h0 hx hc hd hdc hD hv ?_
 repeat (any_goals (first|assumption|wp_step))
 cases v<;>first|exact wpAny_pure hq|exact absurd rfl (nb _)
theorem fld_attr{v:Value}{expr:Bool}{Q:Value->Shared->Prop}(FB:ExcAttrBase B bmB)(hC:h.get? C=some (excClassObj nm q C N bs bm true sn sub ab col dd k0 k1 k2 k3 k5 newId))(hN:h.Ns N mN)(m1:mN "__getattribute__"=none)(m2:mN "__getattr__"=none)(TQ:OwnTailQ h bmB bm)(T1:TailN "__getattribute__" h bmB bm)(T2:TailN "__getattr__" h bmB bm)(T:TailN n h bmB bm)(hB:typeLookup (.type B) n=pure none)(h0:mN n=none)
 (hx:h.get? a=some o) (hc:o.cls=.ref C) (hd:o.data=.fields vs) (hdc:o.dict=some dA) (hD:h.Ns dA mD) (hv:mD n=some v) (nb:∀id,v ≠ .builtin id) (hq:Q v ⟨h,g,d,t+1,os⟩) :
 wpAny (model prog w) A (getAttr (.ref a) n expr) Q E ⟨h,g,d,t,os⟩:=by
 unfold getAttr
 repeat (any_goals (first|assumption|(with_reducible apply fld_by FB hC hN m1 m2 TQ T1 T2 T hB h0 hx hc hd hdc hD hv nb)|wp_step))
end
end Z
namespace Z
open PySem PySem.Spec PySem.Calls PyProof.Rows PySem.W L2
open Builtin Builtin.ObjectAttr
theorem TailN.has{n:Str}{h:Heap}{bmB tl:List Value}(T:TailN n h bmB tl){x:String}(hb:bmB.contains (.type x)=true):tl.contains (.type x)=true:=by
 induction T with
 |base=>exact hb
 |own _ _ _ _ ih=>rw[List.contains_cons,ih,Bool.or_true]
theorem TailN.pass{n:Str}{h:Heap}{bmB tl:List Value}(T:TailN n h bmB tl){self:Value}(hb:refuseLoop self "__setattr__" bmB=pure ()):refuseLoop self "__setattr__" tl=pure ():=by
 induction T with
 |base=>exact hb
 |own _ _ _ _ ih=>rw[refuseLoop_ref];exact ih
section
variable {prog:Program} {w:World} {A:Around} {E:Value->Shared->Prop} {h:Heap} {g:Array GenState} {d:Drawn} {t:Nat} {os:OsState}
variable {nm q:Str} {C N x:Addr} {bs bm bmB:List Value} {sn:List Str} {sub:List Value} {ab:Bool} {col:Option Bool} {dd:Option Addr} {k0 k1 k2 k3 k5:Option Value} {B newId sa owner:String}
 {mN:Str->Option Value} {name:Str} {v:Value} {o:Obj} {vs:Array Value}
theorem fld_store{tk:Tok}{Q:PySem.Fin->Shared->Prop}(SF:StoreFacts B bmB sa owner)(hC:h.get? C=some (excClassObj nm q C N bs bm true sn sub ab col dd k0 k1 k2 k3 k5 newId))(hn:h.Ns N mN)(hna:mN name=none)(T:TailN name h bmB bm)(hB:typeLookup (.type B) name=pure none)
 (hx:h.get? x=some o) (hc:o.cls=.ref C) (hf:o.data=.fields vs) (hdn:o.dict=none)
 (hq:∀h' tk',h'.get? x=some { cls:=o.cls,dict:=some h.objs.size,data:=o.data,slots:=o.slots }->h'.Ns1 h.objs.size (fun y=>if y=name then some v else none)->(∀b ob,b≠x->h.get? b=some ob->h'.get? b=some ob)->Q (.done (.ret .none)) ⟨h',g,d,tk',os⟩) :
 wpAny (model prog w) A (Builtin.«object.__setattr__» ⟨[.ref x,.str name tk,v],[]⟩) Q E ⟨h,g,d,t,os⟩:=by
 have ps:=T.pass (SF.passes (.ref x));have xs:x≠h.objs.size:=Nat.ne_of_lt (Heap.lt_size hx);unfold Builtin.«object.__setattr__»
 repeat (first|rw[refuse_eq]|(rw[refuseLoop_ref,ps])|(with_reducible refine wpAny_loadPart_at hx ?_;rw[hc])|(with_reducible refine wpAny_mroOf_exc hC ?_)|(with_reducible refine xR hC hn T SF.mro hB hna ?_)|wp_step)
 rw[hdn,hf,if_neg (by simp[typeHasDict])];have x1:(h.push { cls:=.type "dict",data:=.dict #[] }).get? x=some o:=Heap.get?_push_of_some _ hx;refine wpAny_bind (wpAny_alloc' (wpAny_bind (wpAny_update' x1 (wpAny_pure ?_))));generalize hh:((h.push { cls:=.type "dict",data:=.dict #[] }).update x fun o=>{ cls:=o.cls,dict:=some h.objs.size,data:=o.data,slots:=o.slots })=h2
 have gd:h2.get? h.objs.size=some { cls:=.type "dict",data:=.dict #[] }:=by rw[<- hh];exact(Heap.get?_update_ne _ _ _ _ xs.symm).trans (Heap.get?_push_at rfl rfl)
 have gx:h2.get? x=some { cls:=o.cls,dict:=some h.objs.size,data:=o.data,slots:=o.slots }:=by
  rw[<- hh];refine Heap.get?_update_self _ x1 ?_;have:=(Heap.get?_some_iff.mp hx).2;obtain⟨oc,od,odt,osl⟩:=o
  cases odt<;>first|rfl|exact this
 have nd:h2.Ns h.objs.size (fun _=>none):=⟨_,#[],_,gd,rfl,fun e he=>absurd he (by simp),fun _=>rfl⟩
 show wpAny _ _ (storeInDict h.objs.size (.str name tk) name v) _ _ _;unfold storeInDict newKeyGuard;refine wpAny_bind (wpAny_pure (wpAny_bind (wpAny_nsSet1 (Heap.Ns1.of_empty nd) fun h' hn' hs=>?_)));obtain⟨oD,esD,epD,hoD,hdD,hcD⟩:=hn'.count (Within.cons name v Within.nil);refine wpAny_bind (wpAny_lookBehind hoD (by rw[hdD];exact pastItsLine_dict (Nat.le_trans hcD (by rw[List.length_cons,List.length_nil,sizeLine_eq];omega))) ?_)
 wp_walk
 exact hq h' _ ((hs.2 x xs).trans gx) hn' fun b ob hb q=>(hs.2 b (Nat.ne_of_lt (Heap.lt_size q))).trans (by rw[<- hh];exact(Heap.get?_update_ne _ _ _ _ hb).trans (Heap.get?_push_of_some _ q))
theorem check_saU{M:Model}{nameV:Value}{Q:Unit->Shared->Prop}{n:Str}(SF:StoreFacts B bmB sa owner)(hC:h.get? C=some (excClassObj nm q C N bs bm true sn sub ab col dd k0 k1 k2 k3 k5 newId))(T:TailN n h bmB bm)(hx:h.get? x=some o)(hc:o.cls=.ref C)(hq:Q () ⟨h,g,d,t,os⟩) :
 wpAny M A (checkBuiltinCall sa ⟨[.ref x,nameV,v],[]⟩) Q E ⟨h,g,d,t,os⟩:=by
 have co:(Value.ref C::bm).contains (.type owner)=true:=by rw[List.contains_cons,T.has SF.hasOwner,Bool.or_true]
 have ar:=SF.args (.ref x) nameV v;simp only[checkBuiltinCall,SF.kind,SF.split];refine wpAny_bind ?_;unfold isInstance
 repeat (first|(with_reducible refine wpAny_loadPart_at hx ?_;rw[hc])|(with_reducible refine wpAny_isSubtype_exc hC ?_;rw[co])|wp_step)
 cases sg:Manifest.signature? sa with
 |none=>exact wpAny_pure hq
 |some sig =>
  simp only[argsOk,sg]at ar;show wpAny M A (Bind.checkArgs sa sig ⟨[.ref x,nameV,v],[]⟩) Q E _;rw[show Bind.checkArgs sa sig ⟨[.ref x,nameV,v],[]⟩=pure () from ar];exact wpAny_pure hq
theorem fld_setattr{Q:Unit->Shared->Prop}(SF:StoreFacts B bmB sa owner)(hC:h.get? C=some (excClassObj nm q C N bs bm true sn sub ab col dd k0 k1 k2 k3 k5 newId))(hn:h.Ns N mN)(hns:mN "__setattr__"=none)(TS:TailN "__setattr__" h bmB bm)(hna:mN name=none)(T:TailN name h bmB bm)(hB:typeLookup (.type B) name=pure none)
 (hx:h.get? x=some o) (hc:o.cls=.ref C) (hf:o.data=.fields vs) (hdn:o.dict=none)
 (hq:∀h' tk',h'.get? x=some { cls:=o.cls,dict:=some h.objs.size,data:=o.data,slots:=o.slots }->h'.Ns1 h.objs.size (fun y=>if y=name then some v else none)->(∀b ob,b≠x->h.get? b=some ob->h'.get? b=some ob)->Q () ⟨h',g,d,tk',os⟩) :
 wpAny (model prog w) A (setAttr (.ref x) name v) Q E ⟨h,g,d,t,os⟩:=by
 have b3:=SF.slot.bind (.ref x);unfold setAttr callSpecial? specialOf
 repeat (any_goals (first|assumption|(with_reducible refine wpAny_loadPart_at hx ?_;rw[hc])|(with_reducible refine xR hC hn TS SF.mro SF.slot.lookup hns ?_)|wp_step))
 refine codeAny_call_builtin SF.slot.plain SF.entry (check_saU SF hC T hx hc (fld_store SF hC hn hna T hB hx hc hf hdn fun h' tk' g1 g2 g3=>?_))
 repeat (any_goals (first|assumption|wp_step))
 exact hq h' tk' g1 g2 g3
end
end Z
namespace Z
open PySem PySem.Spec PySem.Calls PyProof.Rows PySem.W L2
section
variable {prog:Program} {w:World} {A:Around} {E:Value->Shared->Prop} {h:Heap} {g:Array GenState} {d:Drawn} {t:Nat} {os:OsState}
variable {nm q:Str} {C N e t0:Addr} {bs bm bmB:List Value} {hdct:Bool} {sn:List Str} {sub:List Value} {ab:Bool} {col:Option Bool} {dd:Option Addr} {k0 k1 k2 k3 k5:Option Value} {B newId nid initId:String}
theorem init_base{rest:List Value}{Q:Value->Shared->Prop}(F:ExcBaseFacts B nid initId bmB)(T:OwnTail h bmB bm)(hC:h.get? C=some (excClassObj nm q C N bs bm hdct sn sub ab col dd k0 k1 k2 k3 k5 newId))
 (he:h.get? e=some { cls:=.ref C,data:=.fields #[.ref t0,.none,.none,.none,.bool false,.none] }) (hrest:rest.length<=sizeLine)
 (hq:∀h',(∀b o,b≠e->h.get? b=some o->h'.get? b=some o)->h'.get? e=some { cls:=.ref C,data:=.fields #[.ref h.objs.size,.none,.none,.none,.bool false,.none] }->h'.get? h.objs.size=some { cls:=.type "tuple",data:=.seq rest.toArray }->Q .none ⟨h',g,d,t,os⟩) :
 wpAny (model prog w) A (call (.builtin initId) (.ref e::rest)) Q E ⟨h,g,d,t,os⟩:=by
 refine wpAny_call (codeAny_call_builtin F.init.plain F.initEntry (wpAny_check_init_subU F T hC he rfl ?_))
 wp_walk
 have ne:e≠h.objs.size:=Nat.ne_of_lt (Heap.lt_size he);refine hq _ (fun b o hb q=>?_) ?_ ?_
 ·rw[Heap.get?_update_other _ _ (Ne.symm hb)];exact Heap.get?_push_of_some _ q
 ·rw[Heap.get?_update_self _ (Heap.get?_push_of_some _ he) rfl];rfl
 ·rw[Heap.get?_update_other _ _ ne];exact Heap.get?_push_at rfl rfl
end
end Z
namespace Z
open PySem PySem.Spec PyProof.Rows PySem.W L2
structure Cover (B:Heap) (outer:List Env) (H1:Hp) (h0 h:Heap):Prop where
 trk:∀b u o,H1 b=some u->h.get? b=some o->B.get? b=some o
 old:∀b o o',h0.get? b=some o->b ∉ frs outer->h.get? b=some o'->B.get? b=some o'
noncomputable def zD(P:Program)(w:World)(cls:Addr)(outer:List Env)(H:Hp)(s:Shared)(H1:Hp)(dct:Option Addr)(e:Value)(s':Shared):Prop :=
 ∃ea a0 B,e=.ref ea/\s'.os=s.os/\AllBare s'.gens/\Un (frs outer) [] H H1 s.heap s'.heap/\HOk P w H1 s'.heap/\jc H H1/\Heap.FlyingW B outer ea (.ref cls) a0 s'.heap/\H1 ea=none/\Cover B outer H1 s.heap s'.heap/\(dct=none\/yf s'.heap ea dct)
section
variable {P:Program} {w:World} {H H1:Hp} {h0 h h' B B':Heap} {outer l:List Env}
theorem KW{a:Addr}{o:HO}(x:ql P w H h a o):∃u,h.get? a=some u:=by
 cases o with
 |lst xs=>obtain⟨_,_,_,_,e⟩:=x;exact⟨_,e⟩
 |tup xs=>obtain⟨_,_,_,o,e,_⟩:=x;exact⟨o,e⟩
 |dK kvs=>obtain⟨_,_,_,_,o,_,_,e,_⟩:=x;exact⟨o,e⟩
 |dT kvs=>obtain⟨_,_,_,_,o,_,_,e,_⟩:=x;exact⟨o,e⟩
 |set S n=>obtain⟨o,_,_,_,e,_⟩:=x;exact⟨o,e⟩
 |ins C dx fs=>obtain⟨_,_,_,e,_⟩:=x;exact⟨_,e⟩
 |own y=>exact x
 |xd fs=>obtain⟨_,⟨o,_,_,e,_⟩,_⟩:=x;exact⟨o,e⟩
 |rng lo hi=>obtain⟨_,_,_,e⟩:=x;exact⟨_,e⟩
 |frz ob u=>obtain⟨e,_⟩:=x;exact⟨_,e⟩
 |tbl ps=>exact⟨_,(show h.get? a=some _ from x)⟩
 |met f y=>exact⟨_,(show h.get? a=some _ from x)⟩
 |ext φ=>obtain⟨_,z,_⟩:=x;exact z
theorem yF(u:Un (frs outer) [] H H1 h0 h)(k:HOk P w H1 h)(c:Cover B outer H1 h0 h)(ff:h.FunFrames B' l)(sub:∀b∈frs outer,b∈frs l)(st:B.StaysIn h')(sl:h.UpToSlots h') :
 Un (frs outer) [] H H1 h0 h'/\HOk P w H1 h'/\Cover B outer H1 h0 h':=by
 have up:∀b o,b∈frs outer->h.get? b=some o->∃s,h'.get? b=some { o with slots:=s }:=fun b o hb e=>by
  obtain⟨_,o',e',nf⟩:=ff.mem (sub b hb);rw[e]at e';cases e';exact sl b o e nf
 refine⟨⟨fun b o e n hb hx=>?_,fun b o e n hb hx=>?_,u.free,fun b o e hx=>?_,u.tups,u.frzs,u.tbls⟩,fun a o e=>?_,⟨fun b v o e q=>?_,fun b o o' e hb q=>?_⟩⟩
 ·exact st _ _ (c.old b o o e hb (u.keep b o e n hb hx))
 ·obtain⟨s1,e1⟩:=u.slot b o e n hb hx;obtain⟨s2,e2⟩:=up b _ hb e1;exact⟨s2,e2⟩
 ·obtain⟨o',e'⟩:=u.there b o e hx;by_cases hb:b∈frs outer
  ·obtain⟨s2,e2⟩:=up b _ hb e';exact⟨_,e2⟩
  ·exact⟨o',st _ _ (c.old b o o' e hb e')⟩
 ·refine(k a o e).stay (fun b v hb q=>?_) (fun _ z=>z) fun _ _ z=>z
  rcases hb with rfl|hb
  ·exact st _ _ (c.trk _ _ _ e q)
  ·exact st _ _ (c.trk _ _ _ hb q)
 ·obtain⟨o',e'⟩:=KW (k b v e);have z:=c.trk b v o' e e';have:=st _ _ z;rw[q]at this;cases this;exact z
 ·obtain⟨o2,e2⟩:=u.there b o e (by simp);have z:=c.old b o o2 e hb e2;have:=st _ _ z;rw[q]at this;cases this;exact z
end
structure Own (X:Cx):Prop where
 stk:X.stack=X.env::X.outer
 frm:X.env.frame=some X.env.locals
 ex:X.ex=[]
section
variable {X:Cx} {pins:List (Addr×Obj)} {σ:L2.St} {H:Hp} {s s':Shared} {M:Model} {E:Value->Shared->Prop} {Q:Unit->Shared->Prop} {C:Addr}
theorem frs_own(w:Own X):frs X.stack=X.env.locals::frs X.outer:=by
 rw[w.stk];unfold frs;rw[List.filterMap_cons,w.frm]
theorem Kz(I:Inv X pins σ H s)(w:Own X){b:Addr}{o:Obj}(e:X.s₀.heap.get? b=some o)(hb:b ∉ frs X.outer):b ∉ frs X.stack:=by
 rw[frs_own w];intro z;rcases List.mem_cons.mp z with rfl|z
 ·exact absurd (Heap.lt_size e) (Nat.not_lt.mpr I.ok.above)
 ·exact hb z
theorem Qa(w:Own X):∀b∈frs X.outer,b∈frs X.stack:=fun b hb=>by
 rw[frs_own w];exact List.mem_cons_of_mem _ hb
theorem thrown_made(I:Inv X pins σ H s)(w:Own X)(sm:jc X.H₀ H){h1:Heap}{e:Addr}{args:List Value}(hx:Heap.MadeExcOf s.heap h1 e (.ref C) args)
 (hq:∀s',zD X.prog X.w C X.outer X.H₀ X.s₀ H none (.ref e) s'->Q () s'):wpAny M X.A (leaving X.env (.ref e)) Q E { s with heap:=h1 }:=by
 have e0:=I.env0
 have hin:∀env∈X.stack,∀a,env.frame=some a->a∈frs X.stack:=fun env he a ha=>List.mem_filterMap.mpr ⟨env,he,ha⟩
 have ff:=funFrames_hide e0.funs hin
 have bs:(hideAll s.heap (frs X.stack)).StaysIn s.heap:=fun b o q=>of_hideAll _ q
 have hfr:X.A.frames=some (X.env::X.outer):=by rw[<- w.stk];exact e0.frames
 have ff':s.heap.FunFrames (hideAll s.heap (frs X.stack)) (X.env::X.outer):=by rw[<- w.stk];exact ff
 refine wpAny_leaves_madeW (s:={ s with heap:=h1 }) hfr w.frm bs ff' hx fun h' t fl tup _ us=>?_
 have cov:Cover (hideAll s.heap (frs X.stack)) X.outer H X.s₀.heap s.heap:=by
  refine⟨fun b u o e q=>hideAll_get _ q fun z=>?_,fun b o o' e hb q=>hideAll_get _ q (Kz I w e hb)⟩;have:=e0.frf b z;rw[e]at this;cases this
 have ub:Un (frs X.outer) [] X.H₀ H X.s₀.heap s.heap:=by have:=I.base;rw[w.ex]at this;exact this
 obtain⟨u2,k2,c2⟩:=yF ub I.hok cov ff (Qa w) fl.1 ((Heap.UpToSlots.of_keeps hx.keeps).trans us);refine hq _ ⟨e,_,_,rfl,I.os,I.bare,u2,k2,sm,fl,?_,c2,.inl rfl⟩
 cases q:H e with
 |none=>rfl
 |some u =>
  obtain⟨o,z⟩:=KW (I.hok e u q);rw[hx.new]at z;cases z
theorem thrown_on{H1:Hp}(I:Inv X pins σ H s)(w:Own X)(sm:jc X.H₀ H1){e:Value}{dct:Option Addr}(T:zD X.prog X.w C X.stack H s H1 dct e s')
 (hq:∀s',zD X.prog X.w C X.outer X.H₀ X.s₀ H1 dct e s'->Q () s'):wpAny M X.A (leaving X.env e) Q E s':=by
 obtain⟨ea,a0,B,rfl,ho,hg,u,k,s1,fl,he,c,hdc⟩:=T
 have hfr:X.A.frames=some (X.env::X.outer):=by rw[<- w.stk];exact I.env0.frames
 have fl':Heap.FlyingW B (X.env::X.outer) ea (.ref C) a0 s'.heap:=by rw[<- w.stk];exact fl
 obtain⟨oe,_,e1,_⟩:=id fl.first
 refine leaveD2 hfr w.frm fl' ⟨oe,e1,rfl⟩ fun h' f2 d2 us=>?_
 have J:=I.call' ho u k hg (ch:=[]) (fun b z=>nomatch z)
 have ub:Un (frs X.outer) [] X.H₀ H1 X.s₀.heap s'.heap:=by have:=J.base;rw[w.ex]at this;exact this
 have cov:Cover B X.outer H1 X.s₀.heap s'.heap:=⟨c.trk,fun b o o' e hb q=>by
  obtain⟨o2,e2⟩:=I.base.there b o e (by rw[w.ex];simp)
  exact c.old b o2 o' e2 (Kz I w e hb) q⟩
 obtain⟨u2,k2,c2⟩:=yF ub k cov fl.2.2.1 (Qa w) f2.1 us;refine hq _ ⟨ea,a0,B,rfl,J.os,hg,u2,k2,sm,f2,he,c2,hdc.imp id fun⟨o,q1,q2⟩=>?_⟩;rw[e1]at q1;cases q1;rw[<- q2];exact d2
noncomputable def del(H:Hp)(a:Addr):Hp:=fun b=>if b=a then none else H b
theorem del_same{H:Hp}{a:Addr}:del H a a=none:=by unfold del;rw[if_pos rfl]
theorem kN{H:Hp}{a b:Addr}(h:b≠a):del H a b=H b:=by unfold del;rw[if_neg h]
theorem inv_del{e:Addr}{φ:Heap->Prop}(I:Inv X pins σ H s)(he:H e=some (.ext φ))(h0:X.H₀ e=none):Inv X pins σ (del H e) s:=by
 have nt:∀ {b:Addr} {u:HO},H b=some u->(∀ψ,u ≠ .ext ψ)->b≠e:=fun {b u} q n z=>by rw[z,he]at q;cases q;exact n _ rfl
 refine⟨I.ok,I.os,I.bare,⟨I.base.keep,I.base.slot,fun b o q n hx=>?_,I.base.there,fun b xs q=>?_,fun b o u q=>?_,fun b ps q=>?_⟩,I.loc,I.cell,?_,fun x c q=>?_,fun p hp=>?_,fun b u q=>?_,I.len⟩
 ·have:=I.base.free b o q n hx;rw[kN fun z=>by rw[z,he]at this;cases this];exact this
 ·have:=I.base.tups b xs q;rw[kN (nt this fun _ z=>nomatch z)];exact this
 ·have:=I.base.frzs b o u q;rw[kN (nt this fun _ z=>nomatch z)];exact this
 ·obtain⟨m,this⟩:=I.base.tbls b ps q;exact⟨m,by rw[kN (nt this fun _ z=>nomatch z)];exact this⟩
 ·have:=I.free;rw[kN fun z=>by rw[z,he]at this;cases this];exact this
 ·have:=I.freeC x c q;rw[kN fun z=>by rw[z,he]at this;cases this];exact this
 ·obtain⟨g1,g2,g3⟩:=I.pin p hp;exact⟨g1,by rw[kN fun z=>by rw[z,he]at g2;cases g2];exact g2,g3⟩
 ·have hb:b≠e:=fun z=>by rw[z,del_same]at q;cases q
  rw[kN hb]at q
  exact(I.hok b u q).stay (fun _ _ _ z=>z) (fun c z=>by rw[kN (nt z fun _ z=>nomatch z)];exact z) fun c xs z=>by rw[kN (nt z fun _ z=>nomatch z)];exact z
theorem thrown_own{e:Addr}{o:Obj}{vs:Array Value}{a0:Value}{dct:Option Addr}(I:Inv X pins σ H s)(w:Own X)(sm:jc X.H₀ H)(ho:s.heap.get? e=some o)(hc:o.cls=.ref C)(hdc:o.dict=dct)(hd:o.data=.fields vs)(h1:vs[1]?=some .none)(ha:vs[0]?=some a0)(he:H e=none)(h0:X.s₀.heap.get? e=none)
 (hq:∀s',zD X.prog X.w C X.outer X.H₀ X.s₀ H dct (.ref e) s'->Q () s'):wpAny M X.A (leaving X.env (.ref e)) Q E s:=by
 have e0:=I.env0
 have hin:∀env∈X.stack,∀a,env.frame=some a->a∈e::frs X.stack:=fun env he a ha=>List.mem_cons_of_mem _ (List.mem_filterMap.mpr ⟨env,he,ha⟩)
 have ff:=funFrames_hide e0.funs hin
 have bs:(hideAll s.heap (e::frs X.stack)).StaysIn s.heap:=fun b o q=>of_hideAll _ q
 have hfr:X.A.frames=some (X.env::X.outer):=by rw[<- w.stk];exact e0.frames
 have ff':s.heap.FunFrames (hideAll s.heap (e::frs X.stack)) (X.env::X.outer):=by rw[<- w.stk];exact ff
 refine leaveD1 hfr ff' w.frm ho bs (hideAll_none _ (List.mem_cons_self ..)) hd h1 ha fun h' lf d2=>?_
 obtain⟨y1,y3,y4,us⟩:=lf
 have cov:Cover (hideAll s.heap (e::frs X.stack)) X.outer H X.s₀.heap s.heap:=by
  refine⟨fun b u o q1 q=>hideAll_get _ q fun z=>?_,fun b o o' q1 hb q=>hideAll_get _ q fun z=>?_⟩
  ·rcases List.mem_cons.mp z with rfl|z
   ·rw[he]at q1;cases q1
   ·have:=e0.frf b z;rw[q1]at this;cases this
  ·rcases List.mem_cons.mp z with rfl|z
   ·rw[h0]at q1;cases q1
   ·exact Kz I w q1 hb z
 have ub:Un (frs X.outer) [] X.H₀ H X.s₀.heap s.heap:=by have:=I.base;rw[w.ex]at this;exact this
 obtain⟨u2,k2,c2⟩:=yF ub I.hok cov ff (Qa w) y1 us;obtain⟨_,_,y5⟩:=y3;rw[hc]at y4;rw[hdc]at d2;exact hq _ ⟨e,a0,_,rfl,I.os,I.bare,u2,k2,sm,⟨y1,hideAll_none _ (List.mem_cons_self ..),y5,y4⟩,he,c2,.inr d2⟩
end
end Z
namespace Z
open PySem PySem.Spec PySem.Calls PyProof.Rows PySem.W L2 PySem.Builtin.Getset_descriptor
section
variable {prog:Program} {w:World} {A:Around} {E:Value->Shared->Prop} {s:Shared} {K:Frag} {x D:Addr} {ox:Obj}
structure ExcIn (K:Frag) (D:Addr):Prop where
 ga:findIn K (.ref D) "__getattribute__"=some (some (.builtin "BaseException.__getattribute__"))
 gt:findIn K (.ref D) "__getattr__"=some none
 ca:findIn K (.ref D) "__class__"=some (some (.builtin "object.__class__"))
 cg:specialIn K (.builtin "object.__class__") "__get__"=some (some (.builtin "getset_descriptor.__get__"))
 ct:takesIn K (.builtin "object.__class__")=some true
 mo:mroIn K D (.type "object")=some true
 mb:mroIn K D (.type "BaseException")=some true
noncomputable def ExAt(h:Heap)(x D:Addr):Prop:=∃o,h.get? x=Option.some o/\o.cls=.ref D
theorem ExAt.type{M:Model}{h:Heap}(I:ExAt h x D):Looks M h (typeOf (.ref x)) (.ref D):=by
 obtain⟨o,e,c⟩:=I;exact c ▸ (Looks.ld e).andThen .now
theorem ExcIn.looks{M:Model}{h:Heap}(X:K.In h)(e:ExcIn K D):Looks M h (Builtin.ObjectAttr.find (.ref x) (.ref D) "__class__") (.bind (.builtin "getset_descriptor.__get__") (.builtin "object.__class__")):=by
 have l1:=looks_findIn (M:=M) X e.ca;have l2:=looks_specialIn (M:=M) X e.cg;have l3:=looks_takesIn (M:=M) X e.ct;unfold Builtin.ObjectAttr.find;refine l1.andThen ?_;refine Looks.andThen (show Looks M h (Builtin.ObjectAttr.getOf _) _ from l2) ?_;refine Looks.andThen (show Looks M h (Builtin.ObjectAttr.dataDescriptor? (Option.some _) (Option.some _)) (Option.some (_,_)) from l3.andThen .now) ?_;exact Looks.tag .now
theorem ExcIn.some(e:ExcIn K D):(clsIn K D).isSome=true:=by
 have:=e.mo;unfold mroIn at this
 cases q:clsIn K D with
 |none=>rw[q]at this;cases this
 |some c=>rfl
theorem KO{R:Result->Shared->Prop}{hh:Heap}{g:Array GenState}{d:Drawn}{t:Nat}{os:OsState}{tp:Value}(L0:Looks (model prog w) hh (typeOf (.ref x)) (.ref D))(L1:Looks (model prog w) hh (isSubtype (.ref D) (.type "object")) true)
 (h:R (.ok (.ret (.ref D))) ⟨hh,g,d,t,os⟩):codeAny (model prog w) A (.call (.builtin "getset_descriptor.__get__") ⟨[.builtin "object.__class__",.ref x,tp],[]⟩) R ⟨hh,g,d,t,os⟩:=by
 refine codeAny_call_builtin
  KF.slot_gs.plain KF.entry_gs
  (KF.slot_gs.check _ _ _ _ _ _ _ _
   KF.type_class (KF.args_gs _ _ _) ?_)
 unfold Builtin.«getset_descriptor.__get__» Builtin.Getset_descriptor.descrGet;rw[dga_obj];refine(wpAny_bind (wpAny_pure ?_));unfold descrGetter descrCheckInstance;unfold descrNameAndClass isInstance;simp only[PySem.W.KF.owner_class]
 repeat lk
 refine⟨(Code.quiet_builtin _ (by decide +kernel)),(codeAny_builtin KF.entry_class ?_)⟩;unfold Builtin.«object.__class__»;unfold shownTypeOf
 repeat lk
 exact h
theorem exc_class{Q:Option Value->Shared->Prop}(X:K.In s.heap)(I:ExAt s.heap x D)(e:ExcIn K D)(h:Q (some (.ref D)) { s with toks:=s.toks+1 }):wpAny (model prog w) A (getAttr? (.ref x) "__class__") Q E s:=by
 obtain⟨hh,g,d,t,os⟩:=s;have L0:=I.type (M:=model prog w);have L1:=looks_findIn (M:=model prog w) X e.ga;have L2:=looks_findIn (M:=model prog w) X e.gt;have L3:=e.looks (x:=x) (M:=model prog w) X;have L5:=looks_mroIn (M:=model prog w) X e.mo;have L4:=looks_mroIn (M:=model prog w) X e.mb;have f3:=PySem.F.attr_ValueError.ga.bind (.ref x);unfold getAttr? getAttrBy? getAttrBy;refine wpAny_bind (wpAny_mkText (wpAny_bind (wpAny_attempt (wpAny_holding (wpAny_bind (L0.at (wpAny_bind (L1.at ?_))))))));show wpAny _ _ (getAttrByItsOwn _ _ _ _ _ _) _ _ _;unfold getAttrByItsOwn hookBefore;refine wpAny_bind (L2.at ?_);refine wpAny_bind (wpAny_attempt (wpAny_holding ?_));show wpAny _ _ (boundAndCalled _ _ _) _ _ _;unfold boundAndCalled;refine wpAny_bind (wpAny_of_eq f3 ?_);refine wpAny_call (codeAny_call_builtin PySem.F.attr_ValueError.ga.plain PySem.F.entry_bexc_ga ?_)
 have hk:builtinKind "BaseException.__getattribute__"=some .slot:=by decide +kernel
 have hsp:splitId "BaseException.__getattribute__"=some ("BaseException","__getattribute__"):=by decide +kernel
 have har:=PySem.F.args_bexc_ga (.ref x) (.str "__class__" t);simp only[checkBuiltinCall,hk,hsp];refine wpAny_bind ?_;unfold isInstance;refine wpAny_bind (L0.at ?_);refine L4.at ?_;rw[if_neg (by decide)];refine wpAny_of_eq (show _=pure () from har) ?_;unfold Builtin.«object.__getattribute__»;refine wpAny_bind (wpAny_of_eq (show slotArgs "__getattribute__" 1 _=pure (Value.ref x,[Value.str "__class__" t]) from rfl) ?_);refine wpAny_bind (wpAny_of_eq (show Builtin.ObjectAttr.attrName (Value.str "__class__" t)=pure "__class__" from rfl) ?_);refine wpAny_bind (L0.at (wpAny_bind (L3.at ?_)));show wpAny _ _ (do let v <- holding [Value.builtin "object.__class__"] (call (.builtin "getset_descriptor.__get__") [.builtin "object.__class__",.ref x,.ref D]);ret v) _ _ _;refine wpAny_bind (wpAny_holding (wpAny_call (KO (tp:=.ref D) L0 L5 ?_)));refine wpAny_pure ?_;show wpAny _ _ (handedOut (.ref D)) _ _ _;refine wpAny_of_eq (show handedOut (.ref D)=pure (.ref D) from rfl) ?_;exact wpAny_pure h
theorem kitx_exc(e:ExcIn K D):KitX K (.ref x) (.ref D) (fun h=>ExAt h x D) where
 ty:=fun _ _ _ I=>I.type
 it:=fun _ _ X _=>by
  have hc:=e.some;unfold clsIn at hc;split at hc
  ·next ho =>
   intro A' Q' E' s' k q;unfold isType loadHead;exact wpAny_bind (wpAny_loadPart (k _ _ (X _ _ ho)) (wpAny_pure q))
  ·cases hc
 ne:=fun h tp dd its n sl X htp=>by
  have hc:=e.some
  refine Bool.eq_false_iff.mpr fun q=>?_
  have e':D=tp:=Value.ref.inj (beq_iff_eq.mp q);subst e';unfold clsIn at hc;split at hc
  ·next ho =>
   have z:=(X _ _ ho).symm.trans htp;cases z
  ·cases hc
 ca:=fun X I k=>exc_class X I e k
end
end Z
namespace Z
open PySem PySem.Spec PySem.Calls PyProof.Rows PySem.W L2
abbrev bmV:List Value:=[.type "ValueError",.type "Exception",.type "BaseException",.type "object"]
abbrev JA:String:="ValueError.__new__"
theorem exc_obj{K:Frag}{h:Heap}{C:Addr}(X:K.In h)(q:excIn K C bmV JA=true) :
 ∃bm N nm qn bs hd sn sub ab col dd k0 k1 k2 k3 k5 mN,h.get? C=some (excClassObj nm qn C N bs bm hd sn sub ab col dd k0 k1 k2 k3 k5 JA)/\h.Ns N mN/\mN "__init__"=none/\OwnTail h bmV bm:=by
 unfold excIn at q;split at q
 ·next dd cd sl ho =>
  split at q
  ·next C' bm k0 k1 k2 k3 n k5 hm hs =>
   rw[Bool.and_eq_true,Bool.and_eq_true,Bool.and_eq_true,Bool.and_eq_true,Bool.and_eq_true]at q;obtain⟨⟨⟨⟨⟨q1,q2⟩,q3⟩,q4⟩,q5⟩,q6⟩:=q;replace q1:=beq_iff_eq.mp q1;replace q2:=beq_iff_eq.mp q2;replace q6:=beq_iff_eq.mp q6
   replace q3:cd.hasDel=false:=by simpa using q3
   subst q1 q2;obtain⟨nm,bs,mro,ns,qn,hd,sn,sub,ab,col,del⟩:=cd;simp only at hm q3 q5 q6;subst hm q3;obtain⟨l⟩:=sl;simp only at hs;subst hs;exact⟨bm,ns,nm,qn,bs,hd,sn,sub,ab,col,dd,k0,k1,k2,k3,k5,_,X _ _ ho,.of_isNs (isNs_of_in X q5),nsMap_none_of_in X q5 q6,tail_of_in X q4⟩
  ·cases q
 ·cases q
abbrev mkX(X:Cx)(e:Addr):Cx:={ X with A:=X.A.mark (some (.ref e)),calm:=false,xe:=fun _ _=>False }
section
variable {X:Cx} {pins:List (Addr×Obj)} {σ:L2.St} {H:Hp} {s s':Shared} {C:Addr}
theorem KE(I:Inv X pins σ H s)(e:Addr):Inv (mkX X e) pins σ H s :=
 ⟨⟨I.ok.mod,I.ok.kind,I.ok.glob,I.ok.blt,I.ok.above,I.ok.inj,I.ok.has,I.ok.cab,fun z=>(nomatch z),I.ok.frames,I.ok.stk,I.ok.exf,I.ok.bs,I.ok.bsz,I.ok.noex,I.ok.exfs,I.ok.funs,I.ok.frf⟩,I.os,I.bare,I.base,I.loc,I.cell,I.free,I.freeC,I.pin,I.hok,I.len⟩
theorem inv_unX{e:Addr}{σ':L2.St}{H':Hp}(I:Inv X pins σ H s)(J:Inv (Z.mkX X e) pins σ' H' s'):Inv X pins σ' H' s':=⟨I.ok,J.os,J.bare,J.base,J.loc,J.cell,J.free,J.freeC,J.pin,J.hok,J.len⟩
theorem uy{a:Addr}{v:HO}(I:Inv X pins σ H s)(h0:X.s₀.heap.get? a=none)(hH:H a=none)(ho:∀H',ql X.prog X.w H' s.heap a v)(hL:a≠X.env.locals)(hc:∀x c,X.env.cells.lookup x=some c->c≠a)(hp:∀p∈X.pn++pins,p.1≠a) :
 Inv X pins σ (upd H a v) s:=by
 have ne:∀ {b:Addr} {u:HO},H b=some u->b≠a:=fun {b u} e z=>by rw[z,hH]at e;cases e
 refine⟨I.ok,I.os,I.bare,⟨I.base.keep,I.base.slot,fun b o' e n hx=>?_,I.base.there,fun b xs e=>?_,fun b o' u e=>?_,fun b ps e=>?_⟩,I.loc,I.cell,?_,fun x c e=>?_,fun p hp'=>?_,fun b u e=>?_,I.len⟩
 ·rw[jh fun z=>by rw[z,h0]at e;cases e];exact I.base.free b o' e n hx
 ·have:=I.base.tups b xs e;rw[jh (ne this)];exact this
 ·have:=I.base.frzs b o' u e;rw[jh (ne this)];exact this
 ·obtain⟨m,this⟩:=I.base.tbls b ps e;exact⟨m,by rw[jh (ne this)];exact this⟩
 ·rw[jh hL.symm];exact I.free
 ·rw[jh (hc x c e)];exact I.freeC x c e
 ·obtain⟨g1,g2,g3⟩:=I.pin p hp';exact⟨g1,by rw[jh (hp p hp')];exact g2,g3⟩
 ·by_cases hb:b=a
  ·subst hb;rw[jm]at e;cases e;exact ho _
  ·rw[jh hb]at e
   exact(I.hok b u e).stay (fun _ _ _ z=>z) (fun c z=>by rw[jh (ne z)];exact z) fun c xs z=>by rw[jh (ne z)];exact z
theorem thrown_new{e:Addr}{a0:Value}{B:Heap}{H1:Hp}(I:Inv X pins σ H s)(u:Un (frs X.stack) [] H H1 s.heap s'.heap)(fl:Heap.FlyingW B X.stack e (.ref C) a0 s'.heap)(c:Cover B X.stack H1 s.heap s'.heap):s.heap.get? e=none:=by
 cases q:s.heap.get? e with
 |none=>rfl
 |some o =>
  exfalso;obtain⟨o',e'⟩:=u.there e o q (by simp);by_cases hb:e∈frs X.stack
  ·obtain⟨_,o2,e2,nf⟩:=fl.2.2.1.mem hb
   obtain⟨oe,vs,e3,_,d3,_⟩:=fl.first
   rw[e3]at e2;cases e2;exact nf vs d3
  ·have:=c.old e o o' q hb e';rw[fl.2.1]at this;cases this
variable {M:Model} {E:Value->Shared->Prop} {Q:Flow->Shared->Prop} {x n:Str} {np pos:Pos} {b₀:Stmt} {suite:List Stmt} {rest:List ExceptHandler} {i:Nat}
noncomputable def ExcCl(K:Frag)(C:Addr):Prop:=∀h:Heap,K.In h->∃bm N nm qn bs hd sn sub ab col dd k0 k1 k2 k3 k5,h.get? C=some (excClassObj nm qn C N bs bm hd sn sub ab col dd k0 k1 k2 k3 k5 JA)/\OwnTail h bmV bm
theorem excCl_of{K:Frag}{C:Addr}(q:excIn K C bmV JA=true):ExcCl K C:=fun h X=>by
 obtain⟨bm,N,nm,qn,bs,hd,sn,sub,ab,col,dd,k0,k1,k2,k3,k5',mN,hC,hN,hni,TL⟩:=exc_obj X q;exact⟨bm,N,nm,qn,bs,hd,sn,sub,ab,col,dd,k0,k1,k2,k3,k5',hC,TL⟩
theorem exc_other{prog:Program}{w:World}{A:Around}{E:Value->Shared->Prop}{h:Heap}{g:Array GenState}{d:Drawn}{t:Nat}{os:OsState}{K:Frag}{e C C':Addr}{oe:Obj}{Q:Bool->Shared->Prop}(X:K.In h)(he:h.get? e=some oe)(hc:oe.cls=.ref C)(q:ExcCl K C')(hs:subIn K (.ref C) (.ref C')=some false)
 (hq:Q false ⟨h,g,d,t,os⟩):wpAny (model prog w) A (excMatches (.ref e) (.ref C')) Q E ⟨h,g,d,t,os⟩:=by
 obtain⟨bm,N,nm,qn,bs,hd,sn,sub,ab,col,dd,k0,k1,k2,k3,k5',hC,TL⟩:=q h X;have L1:=looks_subIn (M:=model prog w) X hs
 have hcB:(Value.ref C'::bm).contains (.type "BaseException")=true:=by
  have q:bm.contains (.type "BaseException")=true:=TL.hasType (by decide +kernel);rw[List.contains_cons,q,Bool.or_true]
 have L0:Looks (model prog w) h (typeOf (.ref C')) (.type "type"):=(Looks.ld hC).andThen .now;have L2:Looks (model prog w) h (typeOf (.ref e)) (.ref C):=hc ▸ (Looks.ld he).andThen .now;unfold excMatches;refine wpAny_bind ?_;unfold isInstance;refine wpAny_bind (L0.at ?_);refine wpAny_of_eq (show isSubtype (.type "type") (.type "tuple")=pure false from by rfl) ?_;rw[if_neg (by decide)];refine wpAny_bind (wpAny_pure ?_);show wpAny _ _ (do forIn [Value.ref C'] PUnit.unit _;_) _ _ _;simp only[List.forIn_cons,List.forIn_nil];unfold isExcClass
 repeat (first|(with_reducible refine wpAny_loadPart_at hC ?_)|(with_reducible refine wpAny_isSubtype_exc hC ?_;rw[hcB])|(with_reducible refine L2.at ?_)|(with_reducible refine L1.at ?_)|wp_step)
 exact hq
noncomputable def Past(X:Cx)(C:Addr)(hd:ExceptHandler):Prop:=∃y Cy np n b ps,hd=.ExceptHandler (some (.Name y np)) n b ps/\X.mg y=some (.ref Cy)/\ExcCl X.K Cy/\Gl X y/\(y == ("__debug__":Str))=false/\subIn X.K (.ref C) (.ref Cy)=some false
theorem skips{ea:Addr}{oe:Obj}{rest:List ExceptHandler}(I:Inv X pins σ H s)(he:s.heap.get? ea=some oe)(hc:oe.cls=.ref C)(k:wpAny (model X.prog X.w) X.A (handleBy (.ref ea) X.env rest) Q E s) :
 ∀pre:List ExceptHandler,(∀hd∈pre,Past X C hd)->wpAny (model X.prog X.w) X.A (handleBy (.ref ea) X.env (pre++rest)) Q E s
 |[],_=>k
 |hd::pre,hp=>by
  obtain⟨y,Cy,np,n,b,ps,rfl,hm,hq,gl,hdb,hs⟩:=hp hd (List.mem_cons_self ..);refine wpAny_handleBy_cons (codeAny_handlers_test (yi (X:=Z.mkX X ea) (KE I ea) gl hm ?_ hdb)) (by intro q;cases q);exact exc_other I.kIn he hc hq hs (skips I he hc k pre fun h q=>hp h (List.mem_cons_of_mem _ q))
theorem caught{dct:Option Addr}{H1:Hp}{pre:List ExceptHandler}(hp:∀hd∈pre,Past X C hd)(I:Inv X pins σ H s)(w:Own X)(nd:X.N.Nodup)(hm:X.mg x=some (.ref C))(hq:ExcCl X.K C)(gl:Gl X x)(hdb:(x == ("__debug__":Str))=false)(hn:X.N[i]?=some n)(hl:X.env.scope.names.lookup n=some .local){e:Value}(T:zD X.prog X.w C X.stack H s H1 dct e s')
 (k:∀ea oe vs s7,jc H H1->oe.cls=.ref C->oe.data=.fields vs->(dct=none\/oe.dict=dct)->e=.ref ea->Inv (Z.mkX X ea) pins (σ.set i (some (.ref ea))) (upd H1 ea (.frz oe (.ext fun _=>True))) s7->H1 ea=none ->
  wpAny (model X.prog X.w) (X.A.mark (some (.ref ea))) (execs (b₀::suite) X.env) (fun f s₄=>wpAny (model X.prog X.w) X.A (do bindName X.env n .none;unbindBehindTheSuite X.env n pos) (fun _ s₅=>Q f s₅) E s₄) (fun _ _=>False) s7) :
 wpAny (model X.prog X.w) X.A (noteFrame e X.env) (fun _ s₂=>wpAny (model X.prog X.w) X.A (setFlight e none) (fun _ s₃=>wpAny (model X.prog X.w) X.A (handleBy e X.env (pre ++ .ExceptHandler (some (.Name x np)) (some n) (b₀::suite) pos::rest)) Q E s₃) E s₂) E s':=by
 obtain⟨ea,a0,B,rfl,ho,hg,u,kk,s1,fl,he,c,hdc⟩:=T;have new:=thrown_new I u fl c
 have hfr:X.A.frames=some (X.env::X.outer):=by rw[<- w.stk];exact I.env0.frames
 have fl':Heap.FlyingW B (X.env::X.outer) ea (.ref C) a0 s'.heap:=by rw[<- w.stk];exact fl
 obtain⟨oe0,_,e00,_⟩:=id fl.first
 refine lookD hfr w.frm fl' ⟨oe0,e00,rfl⟩ fun h4 held d4 us4=>?_
 obtain⟨x1,x2,x3,x4⟩:=held
 refine landD (s:={ s' with heap:=h4 }) x1 x2 x3 x4 d4 fun h5 fl5 d5 us5=>?_
 obtain⟨u5,k5,c5⟩:=yF u kk c fl.2.2.1 (fun b hb=>hb) fl5.1 (us4.trans us5);have J5:Inv X pins σ H1 { s' with heap:=h5 }:=I.call' (s':={ s' with heap:=h5 }) ho u5 k5 hg (ch:=[]) (fun b z=>nomatch z);obtain⟨bm,N,nm,qn,bs,hd,sn,sub,ab,col,dd,k0,k1,k2,k3,k5',hC,TL⟩:=hq _ J5.kIn
 obtain⟨oe5,vs5,e5,c5',_,_⟩:=id fl5.first
 refine skips J5 e5 c5' ?_ pre hp;refine wpAny_handleBy_cons (codeAny_handlers_test (yi (X:=Z.mkX X ea) (KE J5 ea) gl hm ?_ hdb)) (by intro q;cases q);refine wpAny_excMatches_sub_self hC e5 c5' (TL.hasType (by decide +kernel)) (codeAny_handlers_suite_as ?_);obtain⟨z1,z2,z3,z4⟩:=id fl5
 refine landD (s:={ s' with heap:=h5 }) z1 z2 z3 z4 d5 fun h6 fl6 d6 us6=>?_
 obtain⟨u6,k6,c6⟩:=yF u5 k5 c5 fl5.2.2.1 (fun b hb=>by rw[w.stk]at hb;exact hb) fl6.1 us6;have J6:Inv X pins σ H1 { s' with heap:=h6 }:=I.call' (s':={ s' with heap:=h6 }) ho u6 k6 hg (ch:=[]) (fun b z=>nomatch z)
 obtain⟨oe,vs,e6,cl,dd6,_⟩:=fl6.first
 have hdc':dct=none\/oe.dict=dct:=by
  refine hdc.imp id fun⟨o,q1,q2⟩=>?_
  rw[e00]at q1;cases q1;obtain⟨o,q3,q4⟩:=d6;rw[show h6.get? ea=some oe from e6]at q3;cases q3;rw[q4,q2]
 have old:∀ {b:Addr} {o:Obj},s.heap.get? b=some o->b≠ea:=fun {b o} z y=>by rw[y,new]at z;cases z
 have h0:X.s₀.heap.get? ea=none:=by
  cases q:X.s₀.heap.get? ea with
  |none=>rfl
  |some o =>
   obtain⟨o',z⟩:=I.base.there ea o q (by rw[w.ex];simp);exact absurd rfl (old z)
 have J7:=uy (v:=.frz oe (.ext fun _=>True)) J6 h0 he (fun _=>⟨e6,trivial,⟨_,e6⟩,fun _ _ _ _=>trivial⟩) (fun z=>by obtain⟨m,⟨o,_,_,ho',_⟩,_⟩:=I.loc;exact old ho' z.symm) (fun y cc q=>by obtain⟨v,o,ho',_⟩:=I.cell y cc q;exact old ho') (fun p hp=>old (I.pin p hp).1);refine uj J7 nd hn (.inl hl) (v:=.ref ea) rfl (fun s7 J8=>?_) (.inr hl)
 refine wpAny_mono (k ea oe vs s7 s1 cl dd6 hdc' rfl (KE J8 ea) he) (fun f s8 z=>z) fun _ _ z=>z.elim
end
noncomputable def names12:List Str:=["NoRatio","NoNext","NoRoot","Unfit","Dependent","NoLine","BadText","TooGreat","BadRow","NoRow","NoColumn","TooMany"]
structure AloneF (K:Frag) (mg:Str->Option Value) (y:Str) (D:Addr):Prop where
 ex:ExcIn K D
 cls:∀c∈names12,∃Ca,mg c=some (.ref Ca)/\kitOne K (.ref D) (.ref Ca)=some (decide (c=y))
 te:∃Ca,mg "TrueError"=some (.ref Ca)/\kitOne K (.ref D) (.ref Ca)=some true
 ve:kitOne K (.ref D) (.type "ValueError")=some true
 vn:mg "ValueError"=none
 isi:mg "isinstance"=none
 mem:y∈names12
noncomputable def spA(K:Frag)(mg:Str->Option Value):Sp:=fun vs H Q _=>∃y D ea oe u,AloneF K mg y D/\vs=[.ref ea]/\H ea=some (.frz oe u)/\oe.cls=.ref D/\∀H',jc H H'->Q (.bl true) H'
end Z
namespace Z
open PySem PySem.Spec PyProof.Rows L2
theorem slRange(a b:Nat):sliceRange (a:Int) (b:Int) 1=List.range' a (b-a):=by
 unfold sliceRange
 have e:(if (1:Int) > 0 then (if (a:Int)<b then ((b:Int)-a+1-1) / 1 else 0) else (if (a:Int) > b then ((a:Int)-b-1-1) / (-1) else 0)).toNat=b-a:=by
  rw[if_pos (by decide),Int.ediv_one]
  split<;>lia
 simp only[e];rw[List.range'_eq_map_range]
 refine List.map_congr_left fun k _=>?_
 lia
theorem slIdx(lo hi:Option Int)(n:Nat):Builtin.Str.strSliceIndices lo hi 1 n=List.range' (sIx n 0 lo) (sIx n n hi-sIx n 0 lo):=by
 rw[<- slRange]
 have cl:∀(v:Option Int) (d:Nat),(match v with|none=>(d:Int)|some i=>max 0 (min (if i<0 then i+(n:Int) else i) (n:Int)))=((sIx n d v:Nat):Int):=by
  intro v d
  cases v with
  |none=>rfl
  |some i =>
   show _=(((if i<0 then (i+(n:Int)).toNat else min i.toNat n):Nat):Int)
   split<;>lia
 unfold Builtin.Str.strSliceIndices;rw[<- cl lo 0,<- cl hi n]
 cases lo<;>cases hi<;>simp
theorem Ju(l:List Nat):∀(b a:Nat),a+b<=l.length->(List.range' a b).filterMap (l[·]?)=(l.drop a).take b
 |0,a,_=>by simp
 |b+1,a,h=>by
  rw[List.range'_succ,List.filterMap_cons,List.getElem?_eq_getElem (by lia)];simp only[];rw[Ju l b (a+1) (by lia),List.drop_eq_getElem_cons (by lia:a<l.length),List.take_succ_cons]
theorem sIx_le(n d:Nat)(o:Option Int)(h:d<=n):sIx n d o<=n\/∃i,o=some i/\i<0:=by
 cases o with
 |none=>exact .inl h
 |some i =>
  by_cases z:i<0
  ·exact .inr ⟨i,rfl,z⟩
  ·left;show (if i<0 then (i+(n:Int)).toNat else min i.toNat n)<=n;rw[if_neg z];lia
theorem sIx_le'(n d:Nat)(o:Option Int)(h:d<=n):sIx n d o<=n:=by
 rcases sIx_le n d o h with z|⟨i,rfl,z⟩
 ·exact z
 ·show (if i<0 then (i+(n:Int)).toNat else min i.toNat n)<=n;rw[if_pos z];lia
theorem Kg(x:Str)(lo hi:Option Int):Txt.slice x lo hi=Kr x lo hi:=by
 have ha:=sIx_le' x.length 0 lo (Nat.zero_le _);have hb:=sIx_le' x.length x.length hi (Nat.le_refl _);have hl:x.cps.toList.length=x.length:=Array.length_toList;unfold Txt.slice Kr;rw[slIdx];split
 ·next h =>
  simp only[List.length_range',Bool.and_eq_true,beq_iff_eq]at h
  have e1:sIx x.length 0 lo=0:=by lia
  have e2:sIx x.length x.length hi=x.length:=by lia
  rw[e1,e2,List.drop_zero,Nat.sub_zero,<- hl,List.take_length]
 ·have e:=Ju x.cps.toList (sIx x.length x.length hi-sIx x.length 0 lo) (sIx x.length 0 lo);rcases Nat.le_total (sIx x.length 0 lo) (sIx x.length x.length hi) with z|z
  ·rw[<- e (by lia)];congr 2
   have e:(fun i:Nat=>x.cps[i]?)=fun i=>x.cps.toList[i]?:=by funext i;simp
   rw[e]
  ·rw[show sIx x.length x.length hi-sIx x.length 0 lo=0 by lia];simp
variable {X:Cx}
noncomputable def rSlS:V->Option Int->Option Int->Hp->VK->Prop:=fun x lo hi H Q=>∃z,x=.str z/\z.length<=sizeLine/\Q (.str (Kr z lo hi)) H
theorem part_of{v:Value}{o:Option Int}(p:IsPart v o):∃q:Option (Int×Tok),v=partValue q/\q.map (·.1)=o:=by
 cases p with
 |none=>exact⟨none,rfl,rfl⟩
 |int i t=>exact⟨some (i,t),rfl,rfl⟩
theorem sl_strR:SlR X rSlS:=by
 intro pins s σ H x v vl vu lo hi sl Q I rx hs pl pu h;obtain⟨z,rfl,hz,q⟩:=h;obtain⟨t,rfl⟩:=rx;obtain⟨pl',rfl,e1⟩:=part_of pl;obtain⟨pu',rfl,e2⟩:=part_of pu;refine⟨"str",_,slot_str_getitem.lookup,typeIs_str s z t,?_⟩;have hS:s.heap.IsSlice sl pl' pu' none:=hs;have hc:=Kg z lo hi;unfold Txt.slice at hc
 have q':∀(u:Tok) (k:Nat),EP X pins σ Q (.str (Kr z lo hi) u) { s with toks:=k }:=fun u k=>⟨.str _,H,I.tok _,⟨_,rfl⟩,q⟩
 refine getItem_meets (typeIs_str s z t) (by decide) F.slot_str_getitem F.entry_str_getitem (F.args_str_getitem_2 _ _) (meets_str_getitem_slice z t sl pl' pu' none rfl) ⟨hS,?_⟩;unfold sliceMade slicePicked;rw[e1,e2];simp only[Option.map_none,Option.getD_none]
 have hcl:(Kr z lo hi).length<=sizeLine:=by
  have:(Kr z lo hi).length<=z.length:=by rw[<- Kg];exact Txt.slice_le z lo hi
  lia
 by_cases h:(((1:Int) == 1)&&(Builtin.Str.strSliceIndices lo hi 1 z.length).length == z.length)=true
 ·rw[if_pos h]at hc ⊢;have:=q' t s.toks;rw[<- hc]at this;exact this
 ·rw[if_neg h]at hc ⊢;rw[hc];exact⟨hcl,q' _ _⟩
end Z
namespace PySem.W
open PySem PySem.Calls PySem.NumText PyProof.Rows KIN
theorem maxDigits{M:Model}{A:Around}{E:Value->Shared->Prop}{s:Shared}{Q:Nat->Shared->Prop}(hn:s.heap.NoDigits)(h:Q 4300 s):wpAny M A Builtin.intMaxStrDigits Q E s:=by
 obtain⟨mc,hns,hnone⟩:=hn;unfold Builtin.intMaxStrDigits;refine wpAny_bind (wpAny_nsGet hns ?_);rw[hnone];exact wpAny_pure h
theorem wp_textD{M:Model}{A:Around}{E:Value->Shared->Prop}{s:Shared}{Q:Value->Shared->Prop}{v:Value}{text:List Nat}{n:Int}
 (hn:s.heap.NoDigits) (hs:¬ (text.takeWhile (· != 0)).length<=640) (hr:(int_private% "readNumeral") 4300 10 (text.takeWhile (· != 0))=(int_private% "Numeral.value") n)
 (ha:((text.takeWhile (· != 0)).length == text.length)=true) (h:Q (.int n s.toks) { s with toks:=s.toks+1 }) :
 wpAny M A ((int_private% "intFromText") v text 10) Q E s:=by
 obtain⟨hp,g,d,tk,os⟩:=s
 repeat (any_goals (first
  |assumption
  |((with_reducible show wpAny _ _ Builtin.intMaxStrDigits _ _ _);refine maxDigits hn ?_)
  |(with_reducible refine wpAny_ite_false (decide_eq_false hs) ?_)
  |(with_reducible refine wpAny_ite_true (decide_eq_true ha) ?_)
  |wp_step))
 all_goals (try rw[hr])
 all_goals (try dsimp only)
 repeat (any_goals (first
  |assumption
  |(with_reducible refine wpAny_ite_true (decide_eq_true ha) ?_)
  |wp_step))
set_option maxHeartbeats 4000000 in
theorem meets_textD{x:PySem.Str}{u:Tok}{n:Int}(hl:¬ (numSeenOf x).length<=640)(hx:x.length<=sizeLine)(hn:PySem.intText? x=some n):Meets (Builtin.«int.__new__» ⟨[.type "int",.str x u],[]⟩) (fun _ R s=>s.heap.NoDigits/\R (.ok (.ret (.int n s.toks))) { s with toks:=s.toks+1 }) :=
 .of_wp fun prog w A R s h=>by
  obtain⟨hd,h⟩:=h;obtain⟨hp,g,d,tk,os⟩:=s
  have ty:=(rfl:typeOf (Value.str x u)=pure (Value.type "str"))
  have ⟨a1,a2,b1,b2,b3⟩:=(⟨F.conv_sub_int,F.madeHere_int,str_int,str_idx,str_trunc⟩:_/\_/\_/\_/\_)
  have hr:(int_private% "readNumeral") 4300 10 (numSeenOf x)=(int_private% "Numeral.value") n/\((numSeenOf x).length == (numTextOf x).length)=true:=by
   rcases read4300 x hx with⟨m,e,al,va⟩|⟨e,_⟩<;>rw[hn]at e
   ·cases e;exact⟨va,al⟩
   ·cases e
  have hk:=Hid.mk (And.intro hl hr);clear hr hl hn
  repeat (any_goals (first
   |assumption
   |((with_reducible show wpAny _ _ ((int_private% "intFromText") _ _ _) _ _ _);refine wp_textD hd hk.out.1 hk.out.2.1 hk.out.2.2 ?_)
   |wp_step))
  all_goals first|exact⟨_,rfl,h⟩|skip
theorem call_textD{prog:Program}{w:World}{A:Around}{E:Value->Shared->Prop}{s:Shared}{Q:Value->Shared->Prop}{x:PySem.Str}{t:Tok}{n:Int}(hd:s.heap.NoDigits)(hl:x.length<=640\/(640<(numSeenOf x).length/\x.length<=sizeLine))(hn:PySem.intText? x=some n)(h:Q (.int n s.toks) { s with toks:=s.toks+1 }):wpAny (model prog w) A (call (.type "int") [.str x t]) Q E s:=by
 rcases hl with hl|⟨hl,hx⟩
 ·exact call_text hn hl h
 ·exact call_int_1 (meets_textD (by lia) hx hn) ⟨hd,rfl,h⟩
end PySem.W
namespace Z
open PySem PySem.Spec PyProof.Rows L2
variable {X:Cx}
theorem call_intS:k8 X (.type "int") (fun xs H Q=>∃z n,xs=[.str z]/\(z.length<=640\/(640<(PySem.numSeenOf z).length/\z.length<=sizeLine))/\PySem.intText? z=some n/\Q (.int n) H):=by
 intro pins s σ H xs us Q I r h;obtain⟨z,n,rfl,hl,hn,q⟩:=h;obtain⟨u,rfl,t,rfl⟩:=qP r;exact PySem.W.call_textD (I.ok.mod.nolimit.2.keeps I.bk) hl hn ⟨.int n,H,I.tok _,⟨_,rfl⟩,q⟩
theorem rep_str(z:Str)(k:Int):Txt.mul z k=⟨(List.replicate k.toNat z.cps.toList).flatten.toArray⟩:=by
 unfold Txt.mul;split
 ·next h=>rw[show k.toNat=0 by lia];rfl
 ·split
  ·next h h1 =>
   simp only[Bool.or_eq_true,beq_iff_eq]at h1;rcases h1 with rfl|h1
   ·simp
   ·have:z.cps.toList=[]:=by
     have:z.cps.size=0:=h1;simpa using this
    rw[this]
    have e:z=⟨#[]⟩:=by
     cases z;simp_all
    rw[e];simp
  ·have key:∀(n:Nat) (a:Array Nat),(List.replicate n z.cps).foldl (· ++ ·) a=a++(List.replicate n z.cps.toList).flatten.toArray:=by
    intro n
    induction n with
    |zero=>intro a;simp
    |succ n ih =>
     intro a;rw[List.replicate_succ,List.foldl_cons,ih,List.replicate_succ,List.flatten_cons];apply Array.ext';simp
   rw[key];simp
theorem op_mulS:OpR X (binaryOp .Mult) (fun x y H Q=>∃z k,x=.str z/\y=.int k/\ue z.length k/\Q (.str ⟨(List.replicate k.toNat z.cps.toList).flatten.toArray⟩) H):=by
 intro pins s σ H x y v u Q I rx ry h;obtain⟨z,k,rfl,rfl,⟨hk,hl⟩,q⟩:=h;obtain⟨t,rfl⟩:=rx;obtain⟨t',rfl⟩:=ry;have h24:lim=16777216:=rfl
 refine SB.mul ⟨?_,?_,?_⟩ fun t'' k'=>?_
 ·have e1:decide (k < -(2^63:Int))=false:=decide_eq_false (by lia);have e2:decide (k ≥ 2^63)=false:=decide_eq_false (by lia);rw[e1,e2];rfl
 ·intro h1 h2 h3
  have hp:((z.length*k.toNat:Nat):Int)=(z.length:Int)*k:=by
   rw[Int.natCast_mul,Int.toNat_of_nonneg (by lia)]
  have:(z.length:Int)<=(2^63-1) / k:=Int.le_ediv_of_mul_le (by lia) (by rw[<- hp];lia);lia
 ·intro h1 h2;unfold Builtin.Str.tooLong;rw[sizeLine_eq];exact decide_eq_false (by lia)
 ·rw[rep_str];exact⟨.str _,H,I.tok _,⟨_,rfl⟩,q⟩
noncomputable def Ke(x y:Str):List V:=match Builtin.Str.occurrences x y 0 x.length 1 with
 |i::_=>[.str (Builtin.Str.strSub x 0 i),.str y,.str (Builtin.Str.strSub x (i+y.length) x.length)]
 |[]=>[.str x,.str Str.empty,.str Str.empty]
noncomputable def rSm(K:PySem.W.Frag):SOp->V->List V->Hp->VK->Prop
 |.idx,x,vs,H,Q=>∃z y i r,x=.str z/\vs=[.str y]/\Builtin.Str.occurrences z y 0 z.length 1=i::r/\Q (.int (i:Nat)) H
 |.join,x,vs,H,Q=>∃(z:Str) (a:Addr) (ss:List Str),x=.str z/\vs=[.ref a]/\z.length=0/\SqL K H a (ss.map .str)/\(ss.map (·.length)).sum<=lim/\Q (.str ⟨(ss.map (·.cps.toList)).flatten.toArray⟩) H
 |.part,x,vs,H,Q=>∃z y,x=.str z/\vs=[.str y]/\y.length≠0/\z.length<=sizeLine/\∀p,H p=none->Q (.ref p) (upd H p (.tup (Ke z y)))
theorem vO:∀ {ss:List Str} {us:List Value},jA (ss.map V.str) us->StrsAre us ss
 |[],us,h=>by cases h;exact .nil
 |x::ss,us,h=>by
  cases h with
  |cons r t =>
   obtain⟨u,rfl⟩:=r;exact .cons x u (vO t)
theorem glue_nil{z:Str}(hz:z.length=0)(ss:List Str):Txt.join z ss=⟨(ss.map (·.cps.toList)).flatten.toArray⟩:=by
 have e:z.cps=#[]:=Array.size_eq_zero_iff.mp hz
 have key:∀(l:List Str) (a:Array Nat),l.foldl (fun acc p=>acc++z.cps++p.cps) a=a++(l.map (·.cps.toList)).flatten.toArray:=by
  intro l
  induction l with
  |nil=>intro a;simp
  |cons x l ih =>
   intro a;rw[List.foldl_cons,ih,e];apply Array.ext';simp
 unfold Txt.join Builtin.Str.glued;rw[key]
 cases ss with
 |nil=>rfl
 |cons x l =>
  congr 1;apply Array.ext';simp
theorem mt_sm(o:SOp):∃id,Slot "str" o.nm id/\typeOf (.builtin id)=pure (.type "method_descriptor")/\MtR X id (rSm X.K o):=by
 cases o with
 |idx =>
  refine⟨"str.index",F.slot_str_index,F.type_str_index,?_⟩;rintro pins s τ H x xs v us Q I rx rs ⟨z,y,i,r,rfl,rfl,e,q⟩;obtain⟨t,rfl⟩:=rx;obtain⟨u,rfl,t',rfl⟩:=qP rs
  exact call_gives F.slot_str_index (typeIs_str _ _ _) F.entry_str_index (F.args_str_index_2 _ _) (gives_str_index z y t t' i r e) ⟨.int i,H,I.tok _,⟨_,rfl⟩,q⟩
 |join =>
  refine⟨"str.join",F.slot_str_join,F.type_str_join,?_⟩;rintro pins s τ H x xs v us Q I rx rs ⟨z,a,ss,rfl,rfl,hz,sq,hl,q⟩;obtain⟨t,rfl⟩:=rx;obtain⟨u,rfl,ru⟩:=qP rs;cases ru;obtain⟨its,r,pl,_⟩:=I.list sq
  refine join_list pl.isList (by rw[List.toList_toArray];exact vO r) (by rw[hz,Nat.mul_zero];exact hl) fun t' k=>?_
  rw[glue_nil hz]
  exact⟨.str _,H,I.tok _,⟨_,rfl⟩,q⟩
 |part =>
  refine⟨"str.partition",F.slot_str_partition,F.type_str_partition,?_⟩;rintro pins s τ H x xs v us Q I rx rs ⟨z,y,rfl,rfl,hy,hz,q⟩;obtain⟨t,rfl⟩:=rx;obtain⟨u,rfl,t',rfl⟩:=qP rs
  have three:∀(a b c:Str) (ta tb tc:Tok) (k:Nat),Ke z y=[.str a,.str b,.str c]->EP X pins τ Q (.ref s.heap.objs.size) { s with toks:=k,heap:=s.heap.push { cls:=.type "tuple",data:=.seq [.str a ta,.str b tb,.str c tc].toArray } }:=fun a b c ta tb tc k e=>by
   refine⟨.ref s.heap.objs.size,upd H s.heap.objs.size (.tup (Ke z y)),?_,rfl,q _ (I.hok.fresh (Nat.le_refl _))⟩;rw[e];exact I.laid (fun b o e=>Heap.get?_push_of_some _ e) (Nat.le_refl _) (show ql X.prog X.w _ _ _ (.tup _) from ⟨(by show 3<=sizeLine;decide),_,.cons ⟨ta,rfl⟩ (.cons ⟨tb,rfl⟩ (.cons ⟨tc,rfl⟩ .nil)),IsTup.new _ _⟩)
  refine call_meets F.slot_str_partition (typeIs_str _ _ _) F.entry_str_partition (F.args_str_partition_2 _ _) (meets_str_partition z y t t' (by simpa using hy) hz) ?_;unfold Ke at three
  cases ho:Builtin.Str.occurrences z y 0 z.length 1 with
  |nil=>rw[ho]at three;exact three _ _ _ _ _ _ _ rfl
  |cons i r=>rw[ho]at three;exact three _ _ _ _ _ _ _ rfl
end Z
namespace Z
open PySem PySem.W PyProof.Rows
noncomputable def Pm(n:Nat)(p:Array Nat):Prop:=p.toList.Perm (List.range n)
section
variable {lt:Nat->Nat->Bool} {n:Nat} {p:Array Nat}
theorem Pm.size(h:Pm n p):p.size=n:=by have:=h.length_eq;simpa using this
end
section
variable {lt:Nat->Nat->Bool} {n:Nat}
end
end Z
namespace Z
open PySem PySem.W PySem.Calls PyProof.Rows
section
variable {prog:Program} {w:World} {A:Around} {E:Value->Shared->Prop} {s:Shared} {vs:List Value} {lt:Nat->Nat->Bool}
end
section
variable {prog:Program} {w:World} {A:Around} {E:Value->Shared->Prop} {s:Shared} {vs:List Value}
noncomputable def PrsIn(h:Heap):List Value->List (Int×Int)->Prop
 |[],[]=>True
 |v::vs,p::ps=>(∃a o c t u,v=.ref a/\h.get? a=some o/\o.cls=.type "tuple" /\ o.data=.seq #[.int p.1 t,.int p.2 u] c)/\PrsIn h vs ps
 |_,_=>False
end
end Z
namespace Z
open PySem PySem.Spec PyProof.Rows L2
section
variable {prog:Program} {w:World} {A:Around} {E:Value->Shared->Prop} {s:Shared} {e it l:Addr}
end
end Z
namespace Z
open PySem PySem.Spec PyProof.Rows L2
structure Ck where
 N:List Str
 names:List (Str×NameKind)
 fns:List (Str×Nat)
 cns:List Str
 cls:List Str:=[]
 rz:Bool:=false
 rs:Bool:=false
 al:Bool:=true
noncomputable def Ck.loc(k:Ck)(i:Nat)(x:Str):Bool :=
 decide (k.N[i]?=some x)&&(decide (k.names.lookup x=some .local) ||decide (k.names.lookup x=some .cell)) && !(x == ("__debug__":Str)) && !(x == ("__classdict__":Str))
noncomputable def Ck.gl(k:Ck)(x:Str):Bool:=decide (k.names.lookup x=some .globalImplicit) && !(x == ("__debug__":Str))&&decide (x≠("__name__":Str))
noncomputable def opOk:BOp->Operator->Bool
 |.add,.Add=>true
 |.sub,.Sub=>true
 |.mul,.Mult=>true
 |.fdiv,.FloorDiv=>true
 |.mod,.Mod=>true
 |.shl,.LShift=>true
 |.shr,.RShift=>true
 |.band,.BitAnd=>true
 |.pow,.Pow=>true
 |_,_=>false
noncomputable def uk:Expr->Bool
 |.Constant .none _ _=>true
 |_=>false
noncomputable def isTrueC:Expr->Bool
 |.Constant (.bool _) _ _=>true
 |_=>false
noncomputable def cOk:COp->CmpOp->Expr->Bool
 |.eq,.Eq,_=>true
 |.ne,.NotEq,_=>true
 |.lt,.Lt,_=>true
 |.le,.LtE,_=>true
 |.gt,.Gt,_=>true
 |.ge,.GtE,_=>true
 |.isN,.Is,e=>uk e
 |.notN,.IsNot,e=>uk e
 |.isT,.Is,e=>isTrueC e
 |.notT,.IsNot,e=>isTrueC e
 |.inn,.In,_=>true
 |.nin,.NotIn,_=>true
 |_,_,_=>false
noncomputable def constOk:D->Const->Bool
 |.non,.none=>true
 |.bl b,.bool c=>b == c
 |.int i,.int j=>decide (i=j)
 |.str x,.str y=>decide (x=y)&&PyData.strOk x
 |_,_=>false
noncomputable def Bi.nm:Bi->Str
 |.abs=>"abs"
 |.max=>"max"
 |.min=>"min"
 |.len=>"len"
 |.int=>"int"
 |.list=>"list"
 |.sum=>"sum"
 |.all=>"all"
 |.any=>"any"
 |.tuple=>"tuple"
 |.str=>"str"
noncomputable def Ty.nm:Ty->Str
 |.int=>"int"
 |.bool=>"bool"
 |.tuple=>"tuple"
 |.list=>"list"
 |.str=>"str"
noncomputable def Mt.nm:Mt->Str
 |.bitlen=>"bit_length"
noncomputable def plainO:Expr->Bool
 |.Call (.Name _ _) [] [] _=>false
 |_=>true
noncomputable def isSlice:Expr->Bool
 |.Slice ..=>true
 |_=>false
noncomputable def js:Expr->Option Str
 |.Name x _=>some x
 |_=>none
noncomputable def j3:Expr->Option Const
 |.Constant c _ _=>some c
 |_=>none
noncomputable def asBin:Expr->Option (Expr×Operator×Expr)
 |.BinOp l o r _=>some (l,o,r)
 |_=>none
noncomputable def asUn:Expr->Option (UnaryOp×Expr)
 |.UnaryOp o e _=>some (o,e)
 |_=>none
noncomputable def Km:Expr->Option (Expr×List CmpOp×List Expr)
 |.Compare l o r _=>some (l,o,r)
 |_=>none
noncomputable def KJ:Expr->Option (BoolOp×List Expr×Pos)
 |.BoolOp o vs p=>some (o,vs,p)
 |_=>none
noncomputable def asIf:Expr->Option (Expr×Expr×Expr)
 |.IfExp t x y _=>some (t,x,y)
 |_=>none
noncomputable def Kh:Expr->Option (List Expr)
 |.Tuple xs _ _=>some xs
 |_=>none
noncomputable def JZ:Expr->Option (List Expr)
 |.List xs _=>some xs
 |_=>none
noncomputable def asSub:Expr->Option (Expr×Expr)
 |.Subscript v i _=>some (v,i)
 |_=>none
noncomputable def yj:Expr->Option (Expr×List Expr×List Keyword×Pos)
 |.Call f xs ks p=>some (f,xs,ks,p)
 |_=>none
noncomputable def yh:Expr->Option (Expr×Str×Pos)
 |.Attribute v x p=>some (v,x,p)
 |_=>none
theorem jt{e:Expr}{x:Str}(h:js e=some x):∃p,e=.Name x p:=by cases e<;>cases h;exact⟨_,rfl⟩
theorem kY{e:Expr}{x:Const}(h:j3 e=some x):∃j p,e=.Constant x j p:=by cases e<;>cases h;exact⟨_,_,rfl⟩
theorem KH{e l r:Expr}{o:Operator}(h:asBin e=some (l,o,r)):∃p,e=.BinOp l o r p:=by cases e<;>cases h;exact⟨_,rfl⟩
theorem asUn_{e l:Expr}{o:UnaryOp}(h:asUn e=some (o,l)):∃p,e=.UnaryOp o l p:=by cases e<;>cases h;exact⟨_,rfl⟩
theorem Jr{e l:Expr}{o:List CmpOp}{r:List Expr}(h:Km e=some (l,o,r)):∃p,e=.Compare l o r p:=by cases e<;>cases h;exact⟨_,rfl⟩
theorem vi{e:Expr}{o:BoolOp}{r:List Expr}{p:Pos}(h:KJ e=some (o,r,p)):e=.BoolOp o r p:=by cases e<;>cases h;rfl
theorem asIf_{e t x y:Expr}(h:asIf e=some (t,x,y)):∃p,e=.IfExp t x y p:=by cases e<;>cases h;exact⟨_,rfl⟩
theorem v6{e:Expr}{xs:List Expr}(h:Kh e=some xs):∃j p,e=.Tuple xs j p:=by cases e<;>cases h;exact⟨_,_,rfl⟩
theorem yG{e:Expr}{xs:List Expr}(h:JZ e=some xs):∃p,e=.List xs p:=by cases e<;>cases h;exact⟨_,rfl⟩
theorem KP{e v i:Expr}(h:asSub e=some (v,i)):∃p,e=.Subscript v i p:=by cases e<;>cases h;exact⟨_,rfl⟩
theorem yg{e f:Expr}{xs:List Expr}{ks:List Keyword}{p:Pos}(h:yj e=some (f,xs,ks,p)):e=.Call f xs ks p:=by cases e<;>cases h;rfl
theorem x8{e v:Expr}{x:Str}{p:Pos}(h:yh e=some (v,x,p)):e=.Attribute v x p:=by cases e<;>cases h;rfl
noncomputable def jX(e:Expr):Option (Str×List Expr×Pos):=(yj e).bind fun c=>if c.2.2.1.isEmpty then (js c.1).map fun x=>(x,c.2.1,c.2.2.2) else none
theorem jG{e:Expr}{x:Str}{xs:List Expr}{p:Pos}(h:jX e=some (x,xs,p)):∃q,e=.Call (.Name x q) xs [] p:=by
 unfold jX at h
 cases c:yj e with
 |none=>rw[c]at h;cases h
 |some c' =>
  obtain⟨f,ys,ks,p'⟩:=c';rw[c]at h;have e1:=yg c
  cases ks with
  |nil =>
   cases n:js f with
   |none=>simp[n]at h
   |some y =>
    simp[n]at h;obtain⟨q,e2⟩:=jt n;obtain⟨rfl,rfl,rfl⟩:=h
    exact⟨q,by rw[e1,e2]⟩
  |cons _ _=>simp at h
noncomputable def isSet:Expr->Bool
 |.Set ..=>true
 |_=>false
noncomputable def asLC:Expr->Option (Expr×List Comprehension×Scope)
 |.ListComp a b c _=>some (a,b,c)
 |_=>none
theorem asLC_{e a:Expr}{b:List Comprehension}{c:Scope}(h:asLC e=some (a,b,c)):∃p,e=.ListComp a b c p:=by cases e<;>cases h;exact⟨_,rfl⟩
noncomputable def KZ(e:Expr):Option (Expr×Str×Expr×Scope):=(asLC e).bind fun z=>match z.2.1 with
 |[g]=>if g.ifs.isEmpty&&decide (g.is_async=0) then (js g.target).map fun x=>(z.1,x,g.iter,z.2.2) else none
 |_=>none
theorem yY{e a:Expr}{x:Str}{i:Expr}{c:Scope}(h:KZ e=some (a,x,i,c)):∃px p,e=.ListComp a [⟨.Name x px,i,[],0⟩] c p:=by
 unfold KZ at h
 cases z:asLC e with
 |none=>rw[z]at h;cases h
 |some y =>
  obtain⟨a',b,c'⟩:=y;obtain⟨p,rfl⟩:=asLC_ z;rw[z]at h;simp only[Option.bind_some]at h;split at h
  ·next g =>
   obtain⟨tg,it,ifs,asy⟩:=g;simp only at h;split at h
   ·next hc =>
    simp only[Bool.and_eq_true,List.isEmpty_iff,decide_eq_true_eq]at hc;obtain⟨rfl,rfl⟩:=hc
    cases n:js tg with
    |none=>rw[n]at h;cases h
    |some y =>
     rw[n]at h;obtain⟨px,rfl⟩:=jt n;cases h;exact⟨px,p,rfl⟩
   ·cases h
  ·cases h
noncomputable def KN(e:Expr):Option (Expr×Str×Expr×Scope×Expr):=(asLC e).bind fun z=>match z.2.1 with
 |[g]=>match g.ifs with
  |[c]=>if decide (g.is_async=0) then (js g.target).map fun x=>(z.1,x,g.iter,z.2.2,c) else none
  |_=>none
 |_=>none
theorem v7{e a:Expr}{x:Str}{i f:Expr}{c:Scope}(h:KN e=some (a,x,i,c,f)):∃px p,e=.ListComp a [⟨.Name x px,i,[f],0⟩] c p:=by
 unfold KN at h
 cases z:asLC e with
 |none=>rw[z]at h;cases h
 |some y =>
  obtain⟨a',b,c'⟩:=y;obtain⟨p,rfl⟩:=asLC_ z;rw[z]at h;simp only[Option.bind_some]at h;split at h
  ·next g =>
   obtain⟨tg,it,ifs,asy⟩:=g;simp only at h;split at h
   ·next cc =>
    split at h
    ·next hc =>
     simp only[decide_eq_true_eq]at hc;subst hc
     cases n:js tg with
     |none=>rw[n]at h;cases h
     |some y =>
      rw[n]at h;obtain⟨px,rfl⟩:=jt n;cases h;exact⟨px,p,rfl⟩
    ·cases h
   ·cases h
  ·cases h
noncomputable def relab(names out:List (Str×NameKind)):List (Str×NameKind):=names.map fun(n,k)=>if (k == .free&&out.lookup n == some .cell) then (n,.cell) else (n,k)
noncomputable def Ck.block(k:Ck)(x:Str)(sc:Scope):Ck:={ k with N:=qg k.N x,names:=relab sc.names k.names }
noncomputable def yp(k:Ck)(x:Str)(sc:Scope):Bool :=
 (sc.kind == .function)&&decide ((sc.names.filter fun y=>y.2 == .cell)=if sc.names.lookup x=some .cell then [(x,.cell)] else [])&&(sc.names.all fun y=>!(y.2 == .local) ||decide (sc.names.lookup y.1=some .local))&&(decide (sc.names.lookup x=some .local) ||decide (sc.names.lookup x=some .cell)) &&
  (sc.names.all fun y=>!(y.2 == .local) ||decide (y.1=x) ||(!(k.N.contains y.1)&&decide (y.1≠(dum k.N))))&&(sc.names.all fun y=>!(y.2 == .free) ||decide (k.names.lookup y.1=some .cell) ||decide (k.names.lookup y.1=some .free)) &&
  decide (x≠(dum k.N))&&decide (k.names.lookup (dum k.N)=none) && !(k.N.contains (dum k.N))
noncomputable def plainE:Expr->Bool
 |.Starred .. |.Set .. |.SetComp .. |.DictComp .. |.Slice ..=>false
 |_=>true
noncomputable def KB:Expr->Option (Option Expr×Option Expr)
 |.Slice lo hi none _=>some (lo,hi)
 |_=>none
theorem asSlice_{e:Expr}{lo hi:Option Expr}(h:KB e=some (lo,hi)):∃p,e=.Slice lo hi none p:=by
 unfold KB at h;split at h
 ·cases h;exact⟨_,rfl⟩
 ·cases h
noncomputable def asJoin:Expr->Option (List Expr)
 |.JoinedStr vs _=>some vs
 |_=>none
theorem asJoin_{e:Expr}{vs:List Expr}(h:asJoin e=some vs):∃p,e=.JoinedStr vs p:=by cases e<;>cases h;exact⟨_,rfl⟩
noncomputable def fmtV:Expr->Option Expr
 |.FormattedValue v (-1) none _=>some v
 |_=>none
theorem fmtV_{e v:Expr}(h:fmtV e=some v):∃p,e=.FormattedValue v (-1) none p:=by
 unfold fmtV at h;split at h
 ·cases h;exact⟨_,rfl⟩
 ·cases h
noncomputable def cstPart:Ex->Expr->Bool
 |.cst (.str z),.Constant (.str y) _ _=>decide (z=y)
 |_,_=>false
theorem cstPart_{x:Ex}{e:Expr}(h:cstPart x e=true):∃z j p,x=.cst (.str z)/\e=.Constant (.str z) j p:=by
 unfold cstPart at h;split at h
 ·cases of_decide_eq_true h;exact⟨_,_,_,rfl,rfl⟩
 ·cases h
mutual
noncomputable def chkE:Ck->Ex->Expr->Bool
 |k,.var i,e=>(js e).any fun x=>k.loc i x
 |k,.cst d,e=>(j3 e).any fun c=>constOk d c
 |k,.con i,e=>(js e).any fun x=>decide (k.cns[i]?=some x)&&k.gl x
 |k,.bin o a b,e=>(asBin e).any fun z=>opOk o z.2.1&&chkE k a z.1&&chkE k b z.2.2
 |k,.neg a,e=>(asUn e).any fun z=>decide (z.1=.USub)&&chkE k a z.2
 |k,.not a,e=>(asUn e).any fun z=>decide (z.1=.Not)&&chkE k a z.2
 |k,.cmp o a b,e=>(Km e).any fun z=>decide (z.2.1.length=1)&&decide (z.2.2.length=1)&&cOk o (z.2.1.getD 0 .Eq) (z.2.2.getD 0 e)&&chkE k a z.1&&chkE k b (z.2.2.getD 0 e)
 |k,.chain o p a b c,e=>(Km e).any fun z=>decide (z.2.1.length=2)&&decide (z.2.2.length=2)&&cOk o (z.2.1.getD 0 .Eq) (z.2.2.getD 0 e)&&cOk p (z.2.1.getD 1 .Eq) (z.2.2.getD 1 e)&&chkE k a z.1&&chkE k b (z.2.2.getD 0 e)&&chkE k c (z.2.2.getD 1 e)
 |k,.and a b,e=>(KJ e).any fun z=>decide (z.1=.And)&&decide (2<=z.2.1.length)&&chkE k a (z.2.1.getD 0 e)&&(if z.2.1.length=2 then chkE k b (z.2.1.getD 1 e) else chkE k b (.BoolOp .And (z.2.1.drop 1) z.2.2))
 |k,.or a b,e=>(KJ e).any fun z=>decide (z.1=.Or)&&decide (2<=z.2.1.length)&&chkE k a (z.2.1.getD 0 e)&&(if z.2.1.length=2 then chkE k b (z.2.1.getD 1 e) else chkE k b (.BoolOp .Or (z.2.1.drop 1) z.2.2))
 |k,.ife c a b,e=>(asIf e).any fun z=>chkE k c z.1&&chkE k a z.2.1&&chkE k b z.2.2
 |k,.tup es,e=>(Kh e).any fun xs=>decide (xs.length<=1000)&&qm k es xs
 |k,.lst es,e=>(JZ e).any fun xs=>decide (xs.length<=1000)&&qm k es xs
 |k,.ix a b,e=>(asSub e).any fun z=>!isSlice z.2&&chkE k a z.1&&chkE k b z.2
 |k,.call f es,e=>(jX e).any fun z=>decide (k.fns[f]?=some (z.1,z.2.1.length))&&k.gl z.1 && !z.2.1.isEmpty&&qm k es z.2.1
 |k,.bi f es,e=>(jX e).any fun z=>decide (z.1=f.nm)&&k.gl z.1 && !z.2.1.isEmpty&&qm k es z.2.1
 |k,.meth m o,e=>(yj e).any fun z=>z.2.1.isEmpty&&z.2.2.1.isEmpty&&(yh z.1).any fun y=>decide (y.2.1=m.nm)&&plainO y.1&&(y.2.2.endLine == z.2.2.2.line)&&chkE k o y.1
 |k,.isi a t,e=>(jX e).any fun z=>decide (z.1=("isinstance":Str))&&k.gl z.1&&decide (z.2.1.length=2)&&decide (js (z.2.1.getD 1 e)=some t.nm)&&k.gl t.nm&&chkE k a (z.2.1.getD 0 e)
 |k,.compR es b,e=>(KZ e).any fun z=>yp k z.2.1 z.2.2.2&&((jX z.2.2.1).any fun c=>decide (c.1=("range":Str))&&k.gl c.1 && !c.2.1.isEmpty&&qm k es c.2.1)&&chkE (k.block z.2.1 z.2.2.2) b z.1
 |k,.compE a b,e=>(KZ e).any fun z=>yp k z.2.1 z.2.2.2 && !isSet z.2.2.1&&chkE k a z.2.2.1&&chkE (k.block z.2.1 z.2.2.2) b z.1
 |k,.compF a c b,e=>(KN e).any fun z=>yp k z.2.1 z.2.2.2.1 && !isSet z.2.2.1&&chkE k a z.2.2.1&&chkE (k.block z.2.1 z.2.2.2.1) c z.2.2.2.2&&chkE (k.block z.2.1 z.2.2.2.1) b z.1
 |k,.slc a l h,e=>(asSub e).any fun z=>(KB z.2).any fun y=>chkE k a z.1&&(y.1.isNone == kD l)&&(y.2.isNone == kD h)&&(kD l ||chkE k l (y.1.getD e))&&(kD h ||chkE k h (y.2.getD e))
 |k,.sm o a b,e=>(yj e).any fun z=>z.2.2.1.isEmpty&&decide (z.2.1.length=1)&&((yh z.1).any fun y=>decide (y.2.1=o.nm)&&plainO y.1&&(y.2.2.endLine == z.2.2.2.line)&&chkE k a y.1)&&chkE k b (z.2.1.getD 0 e)
 |k,.fst es,e=>(asJoin e).any fun vs=>decide (2<=vs.length)&&JE k es vs
noncomputable def JE:Ck->List Ex->List Expr->Bool
 |_,[],es=>es.isEmpty
 |k,e::es,xs=>(((fmtV (xs.getD 0 (.Name "" ⟨0,0,0,0⟩))).any fun y=>chkE k e y) ||cstPart e (xs.getD 0 (.Name "" ⟨0,0,0,0⟩)))&&JE k es (xs.drop 1)
noncomputable def qm:Ck->List Ex->List Expr->Bool
 |_,[],es=>es.isEmpty
 |k,e::es,xs=>!xs.isEmpty&&chkE k e (xs.getD 0 (.Name "" ⟨0,0,0,0⟩))&&qm k es (xs.drop 1)
end
theorem qE{α:Type}{xs:List α}(h:xs.length=2):∃a b,xs=[a,b]:=by
 match xs,h with
 |[a,b],_=>exact⟨a,b,rfl⟩
theorem k7{α:Type}{xs:List α}(h:xs.length=1):∃a,xs=[a]:=by
 match xs,h with
 |[a],_=>exact⟨a,rfl⟩
theorem qY{α:Type}{xs:List α}(h:(!xs.isEmpty)=true):∃a b,xs=a::b:=by
 cases xs with
 |nil=>cases h
 |cons a b=>exact⟨a,b,rfl⟩
theorem jb{α:Type}{o:Option α}{f:α->Bool}(h:o.any f=true):∃a,o=some a/\f a=true:=by
 cases o with
 |none=>cases h
 |some a=>exact⟨a,rfl,h⟩
theorem kg{k:Ck}{es:List Expr}(h:qm k [] es=true):es=[]:=by
 rw[qm]at h;simpa using h
theorem j0{k:Ck}{x:Ex}{xs:List Ex}{es:List Expr}(h:qm k (x::xs) es=true):∃y ys,es=y::ys/\chkE k x y=true/\qm k xs ys=true:=by
 rw[qm]at h
 cases es with
 |nil=>simp at h
 |cons y ys =>
  simp only[Bool.and_eq_true,List.drop_succ_cons,List.drop_zero]at h;exact⟨y,ys,rfl,h.1.2,h.2⟩
theorem ut{k:Ck}{x:Ex}{e:Expr}(h:chkE k x e=true):plainE e=true:=by
 cases x with
 |_ =>
  obtain⟨z,hz,_⟩:=jb h
  first
   |(obtain⟨_,rfl⟩:=jt hz;rfl)
   |(obtain⟨_,_,rfl⟩:=kY hz;rfl)
   |(obtain⟨_,rfl⟩:=KH hz;rfl)
   |(obtain⟨_,rfl⟩:=asUn_ hz;rfl)
   |(obtain⟨_,rfl⟩:=Jr hz;rfl)
   |(have e:=vi hz;subst e;rfl)
   |(obtain⟨_,rfl⟩:=asIf_ hz;rfl)
   |(obtain⟨_,_,rfl⟩:=v6 hz;rfl)
   |(obtain⟨_,rfl⟩:=yG hz;rfl)
   |(obtain⟨_,rfl⟩:=KP hz;rfl)
   |(obtain⟨_,rfl⟩:=jG hz;rfl)
   |(have e:=yg hz;subst e;rfl)
   |(obtain⟨_,rfl⟩:=asJoin_ hz;rfl)
   |(obtain⟨_,_,_,rfl⟩:=yY hz;rfl)
   |(obtain⟨_,_,rfl⟩:=v7 hz;rfl)
   |(obtain⟨_,_,rfl⟩:=yY hz;rfl)
noncomputable def Rws(K:PySem.W.Frag)(O:List Addr)(H:Hp):List (List D)->List Addr->Prop
 |[],as=>as=[]
 |r::rs,as=>∃b bs vs,as=b::bs/\H b=some (.lst vs)/\Iss K (minus H O) r vs/\Rws K O H rs bs
theorem Rws.imp{K:PySem.W.Frag}{O O':List Addr}{H H':Hp}(s:jc (minus H O) (minus H' O')):∀ {rows:List (List D)} {as:List Addr},(∀b∈as,∀vs,H b=some (.lst vs)->H' b=some (.lst vs))->Rws K O H rows as->Rws K O' H' rows as
 |[],as,_,h=>h
 |r::rs,as,k,h=>by
  obtain⟨b,bs,vs,rfl,h1,h2,h3⟩:=h;exact⟨b,bs,vs,rfl,k b (List.mem_cons_self ..) vs h1,Iss.mono s r h2,Rws.imp s (fun c hc=>k c (List.mem_cons_of_mem _ hc)) h3⟩
theorem Rws.len{K:PySem.W.Frag}{O:List Addr}{H:Hp}:∀ {rows:List (List D)} {as:List Addr},Rws K O H rows as->as.length=rows.length
 |[],as,h=>by cases h;rfl
 |r::rs,as,h=>by
  obtain⟨b,bs,vs,rfl,_,_,h3⟩:=h;simp[Rws.len h3]
theorem Rws.isL{K:PySem.W.Frag}{O:List Addr}{H:Hp}:∀ {rows:List (List D)} {as:List Addr},Rws K O H rows as->∀b∈as,∃vs,H b=some (.lst vs)
 |[],as,h,b,hb=>by cases h;cases hb
 |r::rs,as,h,b,hb=>by
  obtain⟨c,bs,vs,rfl,h1,_,h3⟩:=h;rcases List.mem_cons.mp hb with rfl|hb
  ·exact⟨vs,h1⟩
  ·exact Rws.isL h3 b hb
structure OwT (K:PySem.W.Frag) (O:List Addr) (H:Hp) (rows:List (List D)) (a:Addr) (as:List Addr):Prop where
 top:H a=some (.lst (as.map .ref))
 nd:a ∉ as/\as.Nodup
 inO:a∈O/\∀b∈as,b∈O
 rw:Rws K O H rows as
theorem OwT.mono{K:PySem.W.Frag}{O:List Addr}{H H':Hp}{rows:List (List D)}{a:Addr}{as:List Addr}(e:jc H H')(t:OwT K O H rows a as):OwT K O H' rows a as :=
 ⟨e _ _ t.top,t.nd,t.inO,t.rw.imp (jd e) fun b _ vs h=>e _ _ h⟩
noncomputable def OT(K:PySem.W.Frag)(O:List Addr)(H:Hp)(σ:Sto)(τ:L2.St):Prop :=
 (∀i rows,getS σ i=some (.ot rows)->∃a as,τ[i]?=some (some (.ref a))/\OwT K O H rows a as/\∀j ds b,getS σ j=some (.ow ds)->τ[j]?=some (some (.ref b))->b≠a/\b ∉ as)/\∀i j rs qs,getS σ i=some (.ot rs)->getS σ j=some (.ot qs)->i=j
theorem OT.step{K:PySem.W.Frag}{O O':List Addr}{H H':Hp}{σ σ':Sto}{τ τ':L2.St}(h:OT K O H σ τ)(hT:∀i rows,getS σ' i=some (.ot rows)->getS σ i=some (.ot rows)/\τ'[i]?=τ[i]?)
 (hO:∀i rows a as,getS σ i=some (.ot rows)->τ[i]?=some (some (.ref a))->(∀j ds b,getS σ j=some (.ow ds)->τ[j]?=some (some (.ref b))->b≠a/\b ∉ as)->OwT K O H rows a as->OwT K O' H' rows a as)
 (hW:∀i rows a as j ds b,getS σ i=some (.ot rows)->OwT K O H rows a as->getS σ' j=some (.ow ds)->τ'[j]?=some (some (.ref b))->(∃ds',getS σ j=some (.ow ds')/\τ[j]?=some (some (.ref b)))\/(b≠a/\b ∉ as)):OT K O' H' σ' τ':=by
 refine⟨fun i rows g=>?_,fun i j rs qs g1 g2=>h.2 i j rs qs (hT i rs g1).1 (hT j qs g2).1⟩;obtain⟨g0,e0⟩:=hT i rows g;obtain⟨a,as,e1,t,d⟩:=h.1 i rows g0;refine⟨a,as,e0.trans e1,hO i rows a as g0 e1 d t,fun j ds b g1 e2=>?_⟩;rcases hW i rows a as j ds b g0 t g1 e2 with⟨ds',g2,e3⟩|z
 ·exact d j ds' b g2 e3
 ·exact z
structure Reps (K:PySem.W.Frag) (O:List Addr) (H:Hp) (σ:Sto) (τ:L2.St):Prop where
 len:σ.length=τ.length
 own:∀a∈O,H a≠none
 sh:∀i d,getS σ i=some (.sh d)->∃v,τ[i]?=some (some v)/\Is K (minus H O) d v
 ow:∀i ds,getS σ i=some (.ow ds)->∃a vs,τ[i]?=some (some (.ref a))/\a∈O/\H a=some (.lst vs)/\Iss K (minus H O) ds vs
 dj:∀i j ds es,i≠j->getS σ i=some (.ow ds)->getS σ j=some (.ow es)->τ[i]? ≠ τ[j]?
 tt:OT K O H σ τ
theorem Reps.mono{K:PySem.W.Frag}{O:List Addr}{H H':Hp}{σ:Sto}{τ:L2.St}(r:Reps K O H σ τ)(e:jc H H'):Reps K O H' σ τ where
 len:=r.len
 own:=fun a ha z=>by
  cases q:H a with
  |none=>exact r.own a ha q
  |some o=>rw[e a o q]at z;cases z
 sh:=fun i d h=>by
  obtain⟨v,h1,h2⟩:=r.sh i d h;exact⟨v,h1,Is.mono (jd e) d h2⟩
 ow:=fun i ds h=>by
  obtain⟨a,vs,h1,h2,h3,h4⟩:=r.ow i ds h;exact⟨a,vs,h1,h2,e _ _ h3,Iss.mono (jd e) ds h4⟩
 dj:=r.dj
 tt:=r.tt.step (fun _ _ g=>⟨g,rfl⟩) (fun _ _ _ _ _ _ _ t=>t.mono e) fun _ _ _ _ j ds b _ _ g q=>.inl ⟨ds,g,q⟩
theorem qU:∀(σ:Sto) (i j:Nat) (v:Option Sl),getS (setS σ i v) j=if i=j/\i<σ.length then v else getS σ j
 |[],i,j,v=>by simp[setS,getS]
 |x::r,0,0,v=>by simp[setS,getS]
 |x::r,0,j+1,v=>by simp[setS,getS]
 |x::r,i+1,0,v=>by simp[setS,getS]
 |x::r,i+1,j+1,v=>by
  simp only[setS,getS,List.length_cons];rw[qU r i j v];by_cases h:i=j/\i<r.length
  ·rw[if_pos h,if_pos (by lia)]
  ·rw[if_neg h,if_neg (by lia)]
theorem vS:∀(σ:Sto) (i:Nat) (v:Option Sl),(setS σ i v).length=σ.length
 |[],i,v=>rfl
 |_::_,0,v=>rfl
 |_::r,i+1,v=>by simp[setS,vS r i v]
noncomputable def less(O:List Addr)(a:Addr):List Addr:=O.filter fun b=>decide (b≠a)
theorem kv{O:List Addr}{a b:Addr}:b∈less O a ↔ b∈O/\b≠a:=by simp[less]
theorem Reps.share{K:PySem.W.Frag}{O:List Addr}{H:Hp}{σ:Sto}{τ:L2.St}(r:Reps K O H σ τ){i:Nat}{ds:List D}{a:Addr}{vs:List V}(g:getS σ i=some (.ow ds))(e1:τ[i]?=some (some (.ref a)))(e3:H a=some (.lst vs))(e4:Iss K (minus H O) ds vs) :
 Reps K (less O a) H (setS σ i (some (.sh (.lst ds)))) τ where
 len:=by rw[vS];exact r.len
 own:=fun b hb=>r.own b (kv.mp hb).1
 sh:=fun j d h=>by
  have lessS:jc (minus H O) (minus H (less O a)):=jI fun b hb=>(kv.mp hb).1
  rw[qU]at h;by_cases hj:i=j/\i<σ.length
  ·rw[if_pos hj]at h;obtain⟨rfl,_⟩:=hj;cases h;refine⟨.ref a,e1,xf (SqL.of ?_) (Iss.mono lessS ds e4)⟩;rw[kG fun z=>(kv.mp z).2 rfl];exact e3
  ·rw[if_neg hj]at h;obtain⟨v,h1,h2⟩:=r.sh j d h;exact⟨v,h1,Is.mono lessS d h2⟩
 ow:=fun j es h=>by
  have lessS:jc (minus H O) (minus H (less O a)):=jI fun b hb=>(kv.mp hb).1
  rw[qU]at h;by_cases hj:i=j/\i<σ.length
  ·rw[if_pos hj]at h;cases h
  ·rw[if_neg hj]at h;obtain⟨b,ws,h1,h2,h3,h4⟩:=r.ow j es h;refine⟨b,ws,h1,kv.mpr ⟨h2,fun z=>?_⟩,h3,Iss.mono lessS es h4⟩;subst z
   have hij:i≠j:=fun z=>by
    subst z
    have:i<σ.length:=by
     rcases Nat.lt_or_ge i σ.length with q|q
     ·exact q
     ·rw[r.len]at q;rw[List.getElem?_eq_none q]at e1;cases e1
    exact hj ⟨rfl,this⟩
   exact r.dj i j ds es hij g h (e1.trans h1.symm)
 dj:=fun j l es fs hjl g1 g2=>by
  rw[qU]at g1 g2;by_cases hj:i=j/\i<σ.length
  ·rw[if_pos hj]at g1;cases g1
  ·rw[if_neg hj]at g1;by_cases hl:i=l/\i<σ.length
   ·rw[if_pos hl]at g2;cases g2
   ·rw[if_neg hl]at g2;exact r.dj j l es fs hjl g1 g2
 tt:=by
  have old:∀j z,getS (setS σ i (some (.sh (.lst ds)))) j=some z->(∀d,z ≠ .sh d)->getS σ j=some z:=fun j z h n=>by
   rw[qU]at h;by_cases hj:i=j/\i<σ.length
   ·rw[if_pos hj]at h;cases h;exact absurd rfl (n _)
   ·rw[if_neg hj]at h;exact h
  refine r.tt.step (fun j rows h=>⟨old j _ h (fun _ z=>nomatch z),rfl⟩) (fun j rows b as h q d t=>?_) fun _ _ _ _ j es b _ _ h q=>.inl ⟨es,old j _ h (fun _ z=>nomatch z),q⟩
  obtain⟨n1,n2⟩:=d i ds a g e1;refine⟨t.top,t.nd,⟨kv.mpr ⟨t.inO.1,Ne.symm n1⟩,fun c hc=>kv.mpr ⟨t.inO.2 c hc,fun z=>n2 (z ▸ hc)⟩⟩,t.rw.imp (jI fun b hb=>(kv.mp hb).1) fun _ _ _ z=>z⟩
noncomputable def flD(d:D):V->Prop
 |.non=>d=.non
 |.bl b=>d=.bl b
 |.int i=>d=.int i
 |.str x=>d=.str x
 |.ref _=>(∃xs,d=.tup xs)\/∃xs,d=.lst xs
 |_=>False
theorem Is.fl{K:PySem.W.Frag}{S:Hp}{d:D}{v:V}(g:Is K S d v):flD d v:=by
 cases d with
 |non=>cases yE g;rfl
 |bl b=>cases kI g;rfl
 |int i=>cases jk g;rfl
 |str x=>obtain⟨rfl,_⟩:=jN g;rfl
 |tup xs=>obtain⟨a,vs,rfl,_⟩:=kQ g;exact .inl ⟨xs,rfl⟩
 |lst xs=>obtain⟨a,vs,rfl,_⟩:=jD g;exact .inr ⟨xs,rfl⟩
mutual
theorem Is.inj{pins:List (Addr×Obj)}{s:Shared}{τ:L2.St}{H:Hp}(I:Inv X pins τ H s):∀(d:D) {e:D} {v:V},Is X.K H d v->Is X.K H e v->d=e
 |.non,e,v,h,g=>by cases yE h;exact(show e=.non from g.fl).symm
 |.bl b,e,v,h,g=>by cases kI h;exact(show e=.bl b from g.fl).symm
 |.int b,e,v,h,g=>by cases jk h;exact(show e=.int b from g.fl).symm
 |.str b,e,v,h,g=>by obtain⟨rfl,_⟩:=jN h;exact(show e=.str b from g.fl).symm
 |.tup xs,e,v,h,g=>by
  obtain⟨a,vs,rfl,h1,h2⟩:=kQ h
  cases e with
  |tup ys =>
   obtain⟨b,us,eb,g1,g2⟩:=kQ g;cases eb;cases I.tuple_inj h1 g1
   rw[Iss.inj I xs h2 g2]
  |lst ys =>
   obtain⟨b,us,eb,g1,g2⟩:=jD g;cases eb;obtain⟨_,_,⟨o,e1,e2,_⟩,_⟩:=I.tuple h1;obtain⟨_,_,p,_⟩:=I.list g1;obtain⟨o',f1,f2,_⟩:=p.isList;rw[e1]at f1;cases f1;rw[e2]at f2;injection f2 with f2
   exact absurd f2 (by decide)
  |_=>rcases g.fl with⟨_,z⟩|⟨_,z⟩<;>cases z
 |.lst xs,e,v,h,g=>by
  obtain⟨a,vs,rfl,h1,h2⟩:=jD h
  cases e with
  |lst ys =>
   obtain⟨b,us,eb,g1,g2⟩:=jD g;cases eb;cases I.list_inj h1 g1
   rw[Iss.inj I xs h2 g2]
  |tup ys =>
   obtain⟨b,us,eb,g1,g2⟩:=kQ g;cases eb;obtain⟨_,_,⟨o,e1,e2,_⟩,_⟩:=I.tuple g1;obtain⟨_,_,p,_⟩:=I.list h1;obtain⟨o',f1,f2,_⟩:=p.isList;rw[e1]at f1;cases f1;rw[e2]at f2;injection f2 with f2
   exact absurd f2 (by decide)
  |_=>rcases g.fl with⟨_,z⟩|⟨_,z⟩<;>cases z
theorem Iss.inj{pins:List (Addr×Obj)}{s:Shared}{τ:L2.St}{H:Hp}(I:Inv X pins τ H s):∀(ds:List D) {es:List D} {vs:List V},Iss X.K H ds vs->Iss X.K H es vs->ds=es
 |[],es,vs,h,g=>by
  unfold Iss at h;subst h
  cases es with
  |nil=>rfl
  |cons _ _=>unfold Iss at g;obtain⟨_,_,g,_⟩:=g;cases g
 |d::ds,es,vs,h,g=>by
  unfold Iss at h;obtain⟨v,r,rfl,h1,h2⟩:=h
  cases es with
  |nil=>unfold Iss at g;cases g
  |cons e es =>
   unfold Iss at g;obtain⟨v',r',eq,g1,g2⟩:=g;cases eq;rw[Is.inj I d h1 g1,Iss.inj I ds h2 g2]
end
noncomputable def lessT(O as:List Addr):List Addr:=O.filter fun b=>decide (b ∉ as)
theorem y8{O as:List Addr}{b:Addr}:b∈lessT O as ↔ b∈O/\b ∉ as:=by simp[lessT]
theorem Rws.iss{K:PySem.W.Frag}{O O':List Addr}{H:Hp}(s:jc (minus H O) (minus H O')):∀ {rows:List (List D)} {as:List Addr},(∀b∈as,b ∉ O')->Rws K O H rows as->Iss K (minus H O') (rows.map .lst) (as.map .ref)
 |[],as,_,h=>by cases h;simp only[List.map_nil];unfold Iss;rfl
 |r::rs,as,n,h=>by
  obtain⟨b,bs,vs,rfl,h1,h2,h3⟩:=h;simp only[List.map_cons];unfold Iss;refine⟨_,_,rfl,xf (SqL.of ?_) (Iss.mono s r h2),Rws.iss s (fun c hc=>n c (List.mem_cons_of_mem _ hc)) h3⟩;rw[kG (n b (List.mem_cons_self ..))];exact h1
theorem OwT.is{K:PySem.W.Frag}{O:List Addr}{H:Hp}{rows:List (List D)}{a:Addr}{as:List Addr}(t:OwT K O H rows a as):Is K (minus H (lessT O (a::as))) (rowsD rows) (.ref a):=by
 refine xf (SqL.of ?_) (t.rw.iss (jI fun b hb=>(y8.mp hb).1) fun b hb z=>(y8.mp z).2 (List.mem_cons_of_mem _ hb));rw[kG fun z=>(y8.mp z).2 (List.mem_cons_self ..)];exact t.top
noncomputable def Wd(K:PySem.W.Frag)(O:List Addr)(H:Hp)(Q:VK)(d:D):Prop:=∀v H',jc H H'->Is K (minus H' O) d v->Q v H'
noncomputable def Wds(K:PySem.W.Frag)(O:List Addr)(H:Hp)(Q:List V->Hp->Prop)(ds:List D):Prop:=∀vs H',jc H H'->Iss K (minus H' O) ds vs->Q vs H'
theorem Wd.mono{K:PySem.W.Frag}{O:List Addr}{H H':Hp}{Q:VK}{d:D}(e:jc H H')(w:Wd K O H Q d):Wd K O H' Q d:=fun v H'' e' i=>w v H'' (e.trans e') i
noncomputable def tD(K:PySem.W.Frag)(C:Cfg)(x:Ex):TE:=fun τ H Q=>∃σ O,Reps K O H σ τ/\wpE C x σ (Wd K O H Q)
noncomputable def tDs(K:PySem.W.Frag)(C:Cfg)(xs:List Ex):TA:=fun τ H Q=>∃σ O,Reps K O H σ τ/\wpEs C xs σ (Wds K O H Q)
noncomputable def tDT(K:PySem.W.Frag)(C:Cfg)(x:Ex):TT:=fun τ H Q=>∃σ O,Reps K O H σ τ/\wpE C x σ (isB fun c=>∀H',jc H H'->Q c H')
noncomputable def WdF(K:PySem.W.Frag)(O:List Addr)(H:Hp)(Q:VK)(d:D):Prop:=∀xs a H' vs,d=.lst xs->jc H H'->H a=none->H' a=some (.lst vs)->Iss K (minus H' (a::O)) xs vs->Q (.ref a) H'
noncomputable def WdG(K:PySem.W.Frag)(O:List Addr)(H:Hp)(Q:VK)(d:D):Prop:=∀rows a as H',d=rowsD rows->jc H H'->(H a=none/\∀b∈as,H b=none)->OwT K (a::as++O) H' rows a as->Q (.ref a) H'
noncomputable def Rw(K:PySem.W.Frag)(fr g:Bool)(O:List Addr)(H:Hp)(Q:VK)(d:D):Prop:=if fr=true then WdF K O H Q d else if g=true then (WdG K O H Q d/\(nol d=true->Wd K O H Q d)) else Wd K O H Q d
theorem Wd.rw{K:PySem.W.Frag}{fr g:Bool}{O:List Addr}{H:Hp}{Q:VK}{d:D}(ho:∀a∈O,H a≠none)(w:Wd K O H Q d):Rw K fr g O H Q d:=by
 unfold Rw;split
 ·intro xs a H' vs e s h0 h1 i;subst e
  have na:a ∉ O:=fun z=>ho a z h0
  refine w _ _ s (xf (SqL.of ?_) (Iss.mono (jI fun b hb=>List.mem_cons_of_mem _ hb) xs i));rw[kG na];exact h1
 split
 ·refine⟨fun rows a as H' e s h0 t=>?_,fun _=>w⟩;subst e;refine w _ _ s (Is.mono (jI fun b hb=>y8.mpr ⟨List.mem_append_right _ hb,fun z=>?_⟩) _ t.is);rcases List.mem_cons.mp z with rfl|z
  ·exact ho _ hb h0.1
  ·exact ho _ hb (h0.2 _ z)
 ·exact w
def yK(x:Str):Str:=if x="Dependent" then "weights" else "at"
noncomputable def Fld(K:PySem.W.Frag)(O:List Addr)(y:XD)(H:Hp)(da:Option Addr):Prop:=∀d∈y.f,∃D v,da=some D/\H D=some (.xd [(yK y.t,v)])/\Is K (minus H O) d v
theorem Fld.less{K:PySem.W.Frag}{O O':List Addr}{y:XD}{H:Hp}{da:Option Addr}(e:∀a∈O',a∈O)(h:Fld K O y H da):Fld K O' y H da:=fun d hd=>by
 obtain⟨D,v,h1,h2,h3⟩:=h d hd;exact⟨D,v,h1,h2,Is.mono (jI e) d h3⟩
noncomputable def spD(K:PySem.W.Frag)(n:Nat)(fr g:Bool)(c:Ctr):Sp:=fun vs H Q E=>∃O ds,ds.length=n/\(∀a∈O,H a≠none)/\Iss K (minus H O) ds vs/\c.wp ds (Rw K fr g O H Q) fun y=>∀H' da,jc H H'->Fld K O y H' da->E (.str y.t 0) da H'
noncomputable def CXz(P:Program)(w:World)(mg:Str->Option Value):CXT:=fun outer H s E e s'=>∃x C H1 da,E (.str x 0) da H1/\mg x=some (.ref C)/\zD P w C outer H s H1 da e s'
theorem passZ{X:Cx}:Jp (CXz X.prog X.w X.mg) X E0:=fun _ _ _ _ _ _ _ ⟨_,_,_,_,z,_⟩=>z.elim
theorem PE.imp{X:Cx}{e:Expr}{t t':TE}(h:∀τ H Q,t' τ H Q->t τ H Q)(p:PE X e t):PE X e t':=fun pins s τ H Q I w=>p pins s τ H Q I (h τ H Q w)
theorem PA.imp{X:Cx}{e:List Expr}{t t':TA}(h:∀τ H Q,t' τ H Q->t τ H Q)(p:PA X e t):PA X e t':=fun pos pins s τ H Q I w=>p pos pins s τ H Q I (h τ H Q w)
theorem PT.imp{X:Cx}{e:Expr}{t t':TT}(h:∀τ H Q,t' τ H Q->t τ H Q)(p:PT X e t):PT X e t':=fun pins s τ H Q I w=>p pins s τ H Q I (h τ H Q w)
theorem PS.imp{X:Cx}{e:Stmt}{t t':TS}(h:∀D τ H,t' D τ H->t D τ H)(p:PS X e t):PS X e t':=fun pins s τ H D I w=>p pins s τ H D I (h D τ H w)
theorem PSs.imp{X:Cx}{e:List Stmt}{t t':TS}(h:∀D τ H,t' D τ H->t D τ H)(p:PSs X e t):PSs X e t':=fun pins s τ H D I w=>p pins s τ H D I (h D τ H w)
theorem new_not_own{H:Hp}{O:List Addr}{p:Addr}(h:∀a∈O,H a≠none)(hp:H p=none):p ∉ O:=fun z=>h p z hp
theorem jB{H:Hp}{p:Addr}(h:H p=none)(o:HO):jc H (upd H p o):=fun b u q=>by rw[jh (kM q h)];exact q
section
variable {X:Cx}
noncomputable def rD(K:PySem.W.Frag)(f:D->D->(D->Prop)->Prop):R2:=fun xv yv H Q=>∃O x y,(∀a∈O,H a≠none)/\Is K (minus H O) x xv/\Is K (minus H O) y yv/\f x y (Wd K O H Q)
theorem kU{pins:List (Addr×Obj)}{τ:L2.St}{H:Hp}{s:Shared}{Q:VK}{O:List Addr}{d:D}{v:V}{u:Value}(I:Inv X pins τ H s)(w:Wd X.K O H Q d)(i:Is X.K (minus H O) d v)(r:jM v u):EP X pins τ Q u s :=
 ⟨v,H,I,r,w v H (jc.refl H) i⟩
theorem mulOk{i j:Int}(h:zm i j):IntMulOk i j:=by
 rcases h with h|h|h
 ·exact .of_left h
 ·exact .of_right h
 ·unfold IntMulOk
  have e:Builtin.Int.intTooBig ((Builtin.Int.intBits i:Int)+(Builtin.Int.intBits j:Int))=false:=by
   unfold Builtin.Int.intTooBig;rw[bitsLine_eq];have h':Builtin.Int.intBits i+Builtin.Int.intBits j<=134217728:=h;exact decide_eq_false (by lia)
  intro z;simp[e]at z
theorem divOk{i j:Int}(h:bits j<=9000):Builtin.divisionGoesByPylong i j=false:=by
 refine PyProof.noPylong_of_log2 ?_;have h':Builtin.Int.intBits j<=9000:=h;unfold Builtin.Int.intBits at h';by_cases e:j=0
 ·subst e;decide +kernel
 ·have e':(j == 0)=false:=by simpa using e
  rw[e']at h';simp only[Bool.false_eq_true,if_false]at h';lia
theorem Iss.minus_upd{K:PySem.W.Frag}{H:Hp}{O:List Addr}{ds:List D}{vs:List V}{p:Addr}{o:HO}(hp:H p=none)(i:Iss K (minus H O) ds vs):Iss K (minus (upd H p o) O) ds vs:=Iss.mono (jd (jB hp o)) ds i
theorem yP{H:Hp}{O:List Addr}{p:Addr}{o:HO}(ho:∀a∈O,H a≠none)(hp:H p=none):minus (upd H p o) O p=some o:=by rw[kG (new_not_own ho hp),jm]
theorem kL{H H':Hp}{O:List Addr}{a:Addr}(s:jc H H')(h:H a=none):jc (minus H O) (minus H' (a::O)):=fun b o hb=>by
 have e:=je _ _ _ _ hb
 have na:b≠a:=fun z=>by subst z;rw[h]at e;cases e
 have nb:b ∉ O:=fun z=>by unfold minus at hb;rw[if_pos z]at hb;cases hb
 rw[kG (by simp[na,nb])];exact s _ _ e
theorem Wd.wdF{K:PySem.W.Frag}{O:List Addr}{H:Hp}{Q:VK}{d:D}(ho:∀a∈O,H a≠none)(w:Wd K O H Q d):WdF K O H Q d:=by
 have:=w.rw (fr:=true) (g:=false) ho;unfold Rw at this;rw[if_pos rfl]at this;exact this
theorem WdF.mono{K:PySem.W.Frag}{O:List Addr}{H H':Hp}{Q:VK}{d:D}(e:jc H H')(w:WdF K O H Q d):WdF K O H' Q d:=fun xs a H'' vs q s h0 h1 i=>w xs a H'' vs q (e.trans s) (by
 cases z:H a with
 |none=>rfl
 |some o=>rw[e a o z]at h0;cases h0) h1 i
theorem cat_listsF{pins:List (Addr×Obj)}{s:Shared}{τ:L2.St}{H:Hp}{Q:VK}{O:List Addr}{a b:Addr}{vs ws:List V}{xs ys:List D}(I:Inv X pins τ H s)(ho:∀a∈O,H a≠none)(w:xs.length+ys.length<=lim/\WdF X.K O H Q (.lst (xs++ys)))
 (ha:SqL X.K H a vs) (hb:SqL X.K H b ws) (ia:Iss X.K (minus H O) xs vs) (ib:Iss X.K (minus H O) ys ws):wpAny (model X.prog X.w) X.A (binaryOp .Add (.ref a) (.ref b)) (EP X pins τ Q) X.xe s:=by
 obtain⟨its,r1,p1,z1⟩:=I.list ha;obtain⟨its2,r2,p2,z2⟩:=I.list hb;obtain⟨⟨cls,dd,data,sl⟩,h1,hc,n,hd⟩:=p1.isList;obtain⟨⟨cls2,dd2,data2,sl2⟩,h2,hc2,n2,hd2⟩:=p2.isList;simp only at hc hd hc2 hd2;subst hc hd hc2 hd2
 have hl:vs.length+ws.length<=sizeLine:=by rw[ia.length,ib.length,sizeLine_eq];exact w.1
 have l1:=r1.length;have l2:=r2.length;refine concat_meets ⟨_,h1,rfl⟩ ⟨_,h2,rfl⟩ noFill_list_add seq_list_add PySem.F.slot_list_add PySem.F.entry_list_add (PySem.F.args_list_add_2 _ _) (list_addW a b its.toArray its2.toArray n n2 dd dd2 sl sl2 (by simp only[List.size_toArray];lia)) ⟨h1,h2,?_⟩
 have e:its.toArray++its2.toArray=(its++its2).toArray:=by simp
 rw[e];exact⟨.ref _,_,I.lnew (t':=s.toks) (r1.append r2) (by rw[List.length_append];exact hl),rfl,w.2 _ _ _ _ rfl (jB I.fresh _) I.fresh (jm ..) (Iss.mono (kL (jB I.fresh _) I.fresh) _ (ia.append ib))⟩
theorem Ki{pins:List (Addr×Obj)}{s:Shared}{τ:L2.St}{H:Hp}{Q:VK}{O:List Addr}{a b:Addr}{vs ws:List V}{xs ys:List D}(I:Inv X pins τ H s)(ho:∀a∈O,H a≠none)(w:xs.length+ys.length<=lim/\Wd X.K O H Q (.lst (xs++ys)))
 (ha:SqL X.K H a vs) (hb:SqL X.K H b ws) (ia:Iss X.K (minus H O) xs vs) (ib:Iss X.K (minus H O) ys ws):wpAny (model X.prog X.w) X.A (binaryOp .Add (.ref a) (.ref b)) (EP X pins τ Q) X.xe s:=cat_listsF I ho ⟨w.1,w.2.wdF ho⟩ ha hb ia ib
theorem Iss.rep{K:PySem.W.Frag}{S:Hp}{ds:List D}{vs:List V}(i:Iss K S ds vs):∀k:Nat,Iss K S (List.replicate k ds).flatten (List.replicate k vs).flatten
 |0=>by simp[Iss]
 |k+1=>by
  rw[List.replicate_succ,List.replicate_succ,List.flatten_cons,List.flatten_cons];exact i.append (Iss.rep i k)
theorem rep_list{pins:List (Addr×Obj)}{s:Shared}{τ:L2.St}{H:Hp}{Q:VK}{O:List Addr}{a:Addr}{k:Int}{t:Tok}{vs:List V}{xs:List D}(I:Inv X pins τ H s)(ho:∀a∈O,H a≠none)(w:ue xs.length k/\Wd X.K O H Q (.lst (List.replicate k.toNat xs).flatten))
 (ha:SqL X.K H a vs) (ia:Iss X.K (minus H O) xs vs):wpAny (model X.prog X.w) X.A (binaryOp .Mult (.ref a) (.int k t)) (EP X pins τ Q) X.xe s:=by
 obtain⟨its,r1,p1,z1⟩:=I.list ha;obtain⟨⟨cls,dd,data,sl⟩,h1,hc,n,hd⟩:=p1.isList;simp only at hc hd;subst hc hd;have l1:=r1.length;have l2:=ia.length;obtain⟨⟨⟨k1,k2⟩,hz⟩,w⟩:=w
 have hz':vs.length*k.toNat<=sizeLine:=by rw[l2,sizeLine_eq];exact hz
 have hlen:its.toArray.size*k.toNat<=sizeLine:=by rw[List.size_toArray,<- l1];exact hz'
 have hcap:¬ its.toArray.size*k.toNat > (2^63-1) / 8:=by
  have:(sizeLine:Nat)<=(2^63-1) / 8:=by decide
  lia
 have hfit:¬ (!Builtin.List.listFitsIndex k)=true:=by
  rw[fitsIndex_both (by lia) (by lia)];exact Bool.false_ne_true
 have hlong:¬ Builtin.List.listTooLong (its.toArray.size*k.toNat)=true:=by
  rw[L2.notLongL hlen];exact Bool.false_ne_true
 have hnew:List.foldl (fun x1 x2=>x1++x2) #[] (List.replicate (if its.toArray.isEmpty=true then 0 else k.toNat) its.toArray)=(List.replicate k.toNat its).flatten.toArray:=by
  have f0:∀m:Nat,List.foldl (fun x1 x2=>x1++x2) #[] (List.replicate m its.toArray)=(List.replicate m its).flatten.toArray:=fun m=>by
   have:=L2.foldl_rep its m [];rw[List.nil_append]at this;exact this
  rw[f0]
  cases its with
  |nil=>simp
  |cons a r'=>rw[if_neg (by simp)]
 refine wpAny_binaryOp_repeat_ref (T:="list") (U:="int") (by decide) ⟨_,h1,rfl⟩ (fun s'=>typeIs_int s' k t) noFill_list_mul PySem.F.fills_int_mul PySem.F.slot_int_rmul repeat_list PySem.F.slot_int_index.lookup
  (call_meets PySem.F.slot_int_rmul (typeIs_int s k t) PySem.F.entry_int_rmul (PySem.F.args_int_rmul_2 _ _) (lm_int_rmul_list_any k t a its.toArray n dd sl)
   ⟨h1,rfl,⟨_,h1,rfl⟩,call_meets PySem.F.slot_list_mul ⟨_,h1,rfl⟩ PySem.F.entry_list_mul (PySem.F.args_list_mul_2 _ _) (lm_list_mul_any a its.toArray n dd sl k t hfit hcap hlong) ⟨h1,?_⟩⟩)
 rw[hnew];exact⟨.ref _,_,I.lnew (t':=s.toks) (r1.rep k.toNat) (by rw[L2.len_rep,Nat.mul_comm];exact hz'),rfl,w _ _ (jB I.fresh _) (xf (SqL.of (yP ho I.fresh)) (Iss.minus_upd I.fresh (ia.rep k.toNat)))⟩
theorem kz{f:Int->Int->(D->Prop)->Prop}{x y:D}{Q:D->Prop}(w:yN f x y Q):∃i j,x=.int i/\y=.int j/\f i j Q:=by
 cases x<;>first|exact w.elim|(cases y<;>first|exact w.elim|exact⟨_,_,rfl,rfl,w⟩)
theorem qV{x:Str}(h:PyData.strOk x=true){c:Nat}(hc:c∈x.cps.toList):c<0x110000:=by
 unfold PyData.strOk at h;rw[<- Array.all_toList,List.all_eq_true]at h;simpa using h c hc
theorem k9{l:List Nat}(h:∀c∈l,c<0x110000):PyData.strOk ⟨l.toArray⟩=true:=by
 unfold PyData.strOk;rw[<- Array.all_toList,List.all_eq_true];intro c hc;exact decide_eq_true (h c (by simpa using hc))
theorem ofString_ok(x:String):PyData.strOk (Str.ofString x)=true:=by
 rw[Str.ofString_eq_toList]
 refine k9 fun c hc=>?_
 obtain⟨ch,_,rfl⟩:=List.mem_map.mp hc;have:=ch.valid;unfold Char.toNat
 rcases this with h|h<;>lia
theorem op_bin{o:BOp}{op:Operator}(h:opOk o op=true):OpR X (binaryOp op) (rD X.K (xt o)):=by
 intro pins s τ H xv yv v u Q I rx ry w;obtain⟨O,x,y,ho,ix,iy,w⟩:=w
 cases o with
 |add =>
  cases op<;>first|exact Bool.noConfusion h|skip
  cases x<;>first|exact w.elim|(cases y<;>first|exact w.elim|skip)
  ·cases jk ix;cases jk iy;obtain⟨t,rfl⟩:=rx;obtain⟨t',rfl⟩:=ry;exact add_int (kU (I.tok _) w (jF _) ⟨_,rfl⟩)
  ·obtain⟨rfl,o1⟩:=jN ix;obtain⟨rfl,o2⟩:=jN iy;refine op_add_str pins s τ H _ _ v u Q I rx ry ⟨_,_,rfl,rfl,w.1,w.2 _ _ (jc.refl H) (j9 ?_)⟩;unfold PyData.strOk at *;show (Array.all (_++_) _)=true;rw[Array.all_append,o1,o2];rfl
  ·obtain⟨a,xs,rfl,hx,jx⟩:=jD ix;obtain⟨b,ys,rfl,hy,jy⟩:=jD iy;have hx':=(je H O).seq hx;have hy':=(je H O).seq hy;cases rx;cases ry
   exact Ki I ho w hx' hy' jx jy
 |mul =>
  cases op<;>first|exact Bool.noConfusion h|skip
  cases x<;>first|exact w.elim|(cases y<;>first|exact w.elim|skip)
  ·cases jk ix;cases jk iy;obtain⟨t,rfl⟩:=rx;obtain⟨t',rfl⟩:=ry;exact mul_int (kU (I.tok _) w.2 (jF _) ⟨_,rfl⟩) (mulOk w.1)
  ·obtain⟨rfl,o1⟩:=jN ix;cases jk iy;refine op_mulS pins s τ H _ _ v u Q I rx ry ⟨_,_,rfl,rfl,w.1,w.2 _ _ (jc.refl H) (j9 ?_)⟩
   refine k9 fun c hc=>?_
   rw[List.mem_flatten]at hc;obtain⟨l,hl,hc⟩:=hc;rw[(List.mem_replicate.mp hl).2]at hc;exact qV o1 hc
  ·obtain⟨a,xs,rfl,hx,jx⟩:=jD ix;cases jk iy;have hx':=(je H O).seq hx;cases rx;obtain⟨t',rfl⟩:=ry
   exact rep_list I ho w hx' jx
 |sub =>
  cases op<;>first|exact Bool.noConfusion h|skip
  obtain⟨i,j,rfl,rfl,w⟩:=kz w;cases jk ix;cases jk iy;obtain⟨t,rfl⟩:=rx;obtain⟨t',rfl⟩:=ry
  exact sub_int (kU (I.tok _) w (jF _) ⟨_,rfl⟩)
 |fdiv =>
  cases op<;>first|exact Bool.noConfusion h|skip
  obtain⟨i,j,rfl,rfl,w⟩:=kz w;cases jk ix;cases jk iy;obtain⟨t,rfl⟩:=rx;obtain⟨t',rfl⟩:=ry
  exact floordiv_int w.1.1 (kU (I.tok _) w.2 (jF _) ⟨_,rfl⟩) (.inl (divOk w.1.2))
 |mod =>
  cases op<;>first|exact Bool.noConfusion h|skip
  obtain⟨i,j,rfl,rfl,w⟩:=kz w;cases jk ix;cases jk iy;obtain⟨t,rfl⟩:=rx;obtain⟨t',rfl⟩:=ry
  exact mod_int' w.1 (kU (I.tok _) w.2 (jF _) ⟨_,rfl⟩)
 |shl =>
  cases op<;>first|exact Bool.noConfusion h|skip
  obtain⟨i,j,rfl,rfl,w⟩:=kz w;cases jk ix;cases jk iy;obtain⟨t,rfl⟩:=rx;obtain⟨t',rfl⟩:=ry
  exact lshift_int w.1.1 (by have:=w.1.2;unfold bits at this;lia) (kU (I.tok _) w.2 (jF _) ⟨_,rfl⟩)
 |shr =>
  cases op<;>first|exact Bool.noConfusion h|skip
  obtain⟨i,j,rfl,rfl,w⟩:=kz w;cases jk ix;cases jk iy
  exact op_shr pins s τ H _ _ v u Q I rx ry ⟨_,_,rfl,rfl,w.1,w.2 _ _ (jc.refl H) (jF _)⟩
 |band =>
  cases op<;>first|exact Bool.noConfusion h|skip
  obtain⟨i,j,rfl,rfl,w⟩:=kz w;cases jk ix;cases jk iy
  exact op_and pins s τ H _ _ v u Q I rx ry ⟨_,_,rfl,rfl,w _ _ (jc.refl H) (jF _)⟩
 |pow =>
  cases op<;>first|exact Bool.noConfusion h|skip
  obtain⟨i,j,rfl,rfl,w⟩:=kz w;cases jk ix;cases jk iy;obtain⟨t,rfl⟩:=rx;obtain⟨t',rfl⟩:=ry;exact PyProof.Rows.pow_int w.1.1 w.1.2 (kU (I.tok _) w.2 (jF _) ⟨_,rfl⟩)
theorem ug{K:PySem.W.Frag}{S:Hp}:∀ {ss:List Str} {vs:List V},Iss K S (ss.map .str) vs->vs=ss.map V.str
 |[],vs,h=>by unfold Iss at h;exact h
 |x::ss,vs,h=>by
  rw[List.map_cons]at h;unfold Iss at h;obtain⟨v,r,rfl,h1,h2⟩:=h;rw[(jN h1).1,ug h2];rfl
theorem strs_ok{K:PySem.W.Frag}{S:Hp}:∀ {ss:List Str} {vs:List V},Iss K S (ss.map .str) vs->∀x∈ss,PyData.strOk x=true
 |[],vs,h,x,hx=>by cases hx
 |y::ss,vs,h,x,hx=>by
  rw[List.map_cons]at h;unfold Iss at h;obtain⟨v,r,rfl,h1,h2⟩:=h;rcases List.mem_cons.mp hx with rfl|z
  ·exact(jN h1).2
  ·exact strs_ok h2 x z
theorem sub_ok{x:Str}{i j:Nat}(h:PyData.strOk x=true):PyData.strOk (Builtin.Str.strSub x i j)=true:=by
 have e:Builtin.Str.strSub x i j=⟨(x.cps.extract i j).toList.toArray⟩:=rfl;rw[e]
 exact k9 fun c hc=>qV h (by
  rw[Array.toList_extract]at hc
  exact List.mem_of_mem_drop (List.mem_of_mem_take hc))
theorem JF{K:PySem.W.Frag}{S:Hp}{a b c:D}{u v w:V}(ha:Is K S a u)(hb:Is K S b v)(hc:Is K S c w):Iss K S [a,b,c] [u,v,w]:=by
 unfold Iss;refine⟨u,[v,w],rfl,ha,?_⟩;unfold Iss;refine⟨v,[w],rfl,hb,?_⟩;unfold Iss;refine⟨w,[],rfl,hc,?_⟩;unfold Iss;rfl
theorem part_is{K:PySem.W.Frag}{S:Hp}{x y:Str}(hx:PyData.strOk x=true)(hy:PyData.strOk y=true):Iss K S (partS x y) (Ke x y):=by
 have e0:PyData.strOk Str.empty=true:=k9 (l:=[]) fun c hc=>by cases hc
 unfold partS Ke
 cases Builtin.Str.occurrences x y 0 x.length 1 with
 |cons i r=>exact JF (j9 (sub_ok hx)) (j9 hy) (j9 (sub_ok hx))
 |nil=>exact JF (j9 hx) (j9 e0) (j9 e0)
theorem Kf(ss:List Str):(ss.map V.str).all zk=true:=by
 rw[List.all_eq_true];intro v hv;obtain⟨x,_,rfl⟩:=List.mem_map.mp hv;rfl
theorem inV_strs(i:Str)(ss:List Str):ss.contains i=inV (.str i) (ss.map V.str):=by
 unfold inV;rw[List.any_map]
 induction ss with
 |nil=>rfl
 |cons x ss ih =>
  rw[List.contains_cons,List.any_cons,ih];congr 1;by_cases h:i=x
  ·subst h;simp[eqV]
  ·have h':x≠i:=fun z=>h z.symm
   simp only[Function.comp,eqV];rw[beq_eq_false_iff_ne.mpr h];simp[h']
theorem Kb(ss:List Int):(ss.map V.int).all zk=true:=by
 rw[List.all_eq_true];intro v hv;obtain⟨x,_,rfl⟩:=List.mem_map.mp hv;rfl
theorem inV_ints(i:Int)(ss:List Int):ss.contains i=inV (.int i) (ss.map V.int):=by
 unfold inV;rw[List.any_map]
 induction ss with
 |nil=>rfl
 |cons x ss ih =>
  rw[List.contains_cons,List.any_cons,ih];congr 1;by_cases h:i=x
  ·subst h;simp[eqV]
  ·have h':x≠i:=fun z=>h z.symm
   simp only[Function.comp,eqV];rw[beq_eq_false_iff_ne.mpr h];simp[h']
theorem yJ{K:PySem.W.Frag}{S:Hp}:∀ {ns:List Int} {vs:List V},Iss K S (ns.map D.int) vs->vs=ns.map V.int
 |[],vs,h=>by simp only[List.map_nil]at h;unfold Iss at h;exact h
 |n::ns,vs,h=>by
  simp only[List.map_cons]at h;unfold Iss at h;obtain⟨v,r,rfl,i1,i2⟩:=h;rw[jk i1,yJ i2];rfl
theorem bt(b:Bool):(b == true)=b:=by cases b<;>rfl
theorem bf(b:Bool):(b == false)=!b:=by cases b<;>rfl
theorem vc{K:PySem.W.Frag}{S:Hp}{d:D}{vs:List V}(h:Iss K S [d] vs):∃v,vs=[v]/\Is K S d v:=by
 unfold Iss at h;obtain⟨v,r,rfl,h1,h2⟩:=h;unfold Iss at h2;subst h2;exact⟨v,rfl,h1⟩
theorem iss2{K:PySem.W.Frag}{S:Hp}{d e:D}{vs:List V}(h:Iss K S [d,e] vs):∃v w,vs=[v,w]/\Is K S d v/\Is K S e w:=by
 unfold Iss at h;obtain⟨v,r,rfl,h1,h2⟩:=h;obtain⟨w,rfl,h3⟩:=vc h2;exact⟨v,w,rfl,h1,h3⟩
theorem KR{pins:List (Addr×Obj)}{s:Shared}{τ:L2.St}{H:Hp}{O:List Addr}(I:Inv X pins τ H s):∀ {ps:List (Int×Int)} {vs:List V} {us:List Value},Iss X.K (minus H O) (ps.map prD) vs->jA vs us->PrsIn s.heap us ps
 |[],vs,us,h,r=>by
  simp only[List.map_nil]at h;unfold Iss at h;subst h;cases r;trivial
 |p::ps,vs,us,h,r=>by
  simp only[List.map_cons]at h;unfold Iss at h;obtain⟨v,r',rfl,i1,i2⟩:=h
  cases r with
  |cons r1 r2 =>
   obtain⟨a,ws,rfl,h1,h2⟩:=kQ i1;cases r1;obtain⟨its,rv,pl,hz⟩:=I.tuple ((kF (je H O) h1));obtain⟨v1,v2,rfl,j1,j2⟩:=iss2 h2;cases jk j1;cases jk j2;obtain⟨u1,u2,rfl,⟨t,rfl⟩,⟨t',rfl⟩⟩:=vals2 rv;obtain⟨o,ho,hc,n,hd⟩:=pl;exact⟨⟨a,o,n,t,t',rfl,ho,hc,hd⟩,KR I i2 r2⟩
noncomputable def v8(h:Heap)(p:Int×Int):Value->Bool
 |.ref a=>match h.get? a with
  |some o=>match o.data with
   |.seq its _=>match its.toList with
    |[.int x _,.int y _]=>decide ((x,y)=p)
    |_=>false
   |_=>false
  |none=>false
 |_=>false
theorem eqD_pr(q p:Int×Int):eqD (prD q) (prD p)=decide (q=p):=by
 obtain⟨a,b⟩:=q;obtain⟨c,d⟩:=p;simp only[prD,eqD,xr,Bool.and_true,Prod.mk.injEq]
 by_cases h1:a=c<;>by_cases h2:b=d<;>simp[h1,h2]
theorem Kn{h:Heap}{p:Int×Int}:∀ {us:List Value} {ps:List (Int×Int)},PrsIn h us ps->us.any (v8 h p)=ps.contains p
 |[],[],_=>rfl
 |u::us,q::ps,⟨⟨a,o,c,t,t',x1,x2,x3,x4⟩,r⟩=>by
  subst x1;rw[List.any_cons,List.contains_cons,Kn r];congr 1;simp only[v8,x2,x4];by_cases h:q=p
  ·subst h;simp
  ·have h':p≠q:=fun z=>h z.symm
   simp[h,h']
 |[],_::_,x=>x.elim
 |_::_,[],x=>x.elim
theorem prs_eq{pins:List (Addr×Obj)}{s:Shared}{τ:L2.St}{H:Hp}{O:List Addr}{A:Around}(I:Inv X pins τ H s)(hu:A.units+2<cLine){p:Int×Int}{xv:V}{v:Value}(ix:Is X.K (minus H O) (prD p) xv)(rx:jM xv v):∀ {ps:List (Int×Int)} {vs:List V} {us:List Value},Iss X.K (minus H O) (ps.map prD) vs->jA vs us->∀u∈us,SeqAt.EqAt A s u v (v8 s.heap p u)
 |[],vs,us,h,r=>by
  simp only[List.map_nil]at h;unfold Iss at h;subst h;cases r;intro u hu;cases hu
 |q::ps,vs,us,h,r=>by
  have pr:=KR (ps:=q::ps) I h r;simp only[List.map_cons]at h;unfold Iss at h;obtain⟨w,r',rfl,i1,i2⟩:=h
  cases r with
  |cons r1 r2 =>
   intro u hu';rcases List.mem_cons.1 hu' with rfl|hu'
   ·obtain⟨⟨as,ra⟩,ca⟩:=Is.reads I _ (Is.mono (je H O) _ ix) rx;obtain⟨⟨bs,rb⟩,cb⟩:=Is.reads I _ (Is.mono (je H O) _ i1) r1;have e:=SeqAt.eqAt_reads _ _ A s _ _ _ _ rb ra cb ca (by rw[yD,yD];simp[prD,kt,xY];lia);rw[zL,eqD_pr]at e;obtain⟨⟨a,o,c,t,t',rfl,x2,x3,x4⟩,_⟩:=pr
    have e2:v8 s.heap p (.ref a)=decide (q=p):=by simp[v8,x2,x4]
    rw[e2];exact e
   ·exact prs_eq I hu ix rx i2 r2 u hu'
theorem uT{o:COp}{op:CmpOp}{e:Expr}(h:cOk o op e=true)(hu:X.A.units+100<cLine):OpR X (compareOp op) (rD X.K (kT o)):=by
 intro pins s τ H xv yv v u Q I rx ry w;obtain⟨O,x,y,ho,ix,iy,w⟩:=w
 have hu1:X.A.in1.units+2<cLine:=by rw[Around.in1_units];lia
 have reads:∀ {k:Bool},min (kt x) (kt y)<=100->(∀ {as bs:List Addr},Reads s.heap v (zy x) as->Reads s.heap u (zy y) bs->(zy x).canLay0=true->(zy y).canLay0=true->X.A.units+min (zy x).depth (zy y).depth<cLine->wpAny (model X.prog X.w) X.A (compareOp op v u) (EP X pins τ Q) X.xe s)->wpAny (model X.prog X.w) X.A (compareOp op v u) (EP X pins τ Q) X.xe s:=by
  intro k hd f;obtain⟨⟨as,ra⟩,ca⟩:=Is.reads I x (Is.mono (je H O) x ix) rx;obtain⟨⟨bs,rb⟩,cb⟩:=Is.reads I y (Is.mono (je H O) y iy) ry;exact f ra rb ca cb (by rw[yD,yD];lia)
 cases o with
 |eq =>
  cases op<;>first|exact Bool.noConfusion h|skip
  have w':min (kt x) (kt y)<=100/\Wd X.K O H Q (.bl (eqD x y)):=w
  refine reads (k:=true) w'.1 fun ra rb ca cb hd=>SeqAt.compareEq_reads ra rb ca cb hd ?_
  rw[zL]
  exact kU I w'.2 (jH _) rfl
 |ne =>
  cases op<;>first|exact Bool.noConfusion h|skip
  have w':min (kt x) (kt y)<=100/\Wd X.K O H Q (.bl (!eqD x y)):=w
  refine reads (k:=true) w'.1 fun ra rb ca cb hd=>SeqAt.compareNe_reads ra rb ca cb hd ?_
  rw[zL]
  exact kU I w'.2 (jH _) rfl
 |lt =>
  cases op<;>first|exact Bool.noConfusion h|skip
  obtain⟨i,j,rfl,rfl,w⟩:=kz w;cases jk ix;cases jk iy
  exact op_lt pins s τ H _ _ v u Q I rx ry ⟨_,_,rfl,rfl,w _ _ (jc.refl H) (jH _)⟩
 |le =>
  cases op<;>first|exact Bool.noConfusion h|skip
  obtain⟨i,j,rfl,rfl,w⟩:=kz w;cases jk ix;cases jk iy
  exact op_le pins s τ H _ _ v u Q I rx ry ⟨_,_,rfl,rfl,w _ _ (jc.refl H) (jH _)⟩
 |gt =>
  cases op<;>first|exact Bool.noConfusion h|skip
  obtain⟨i,j,rfl,rfl,w⟩:=kz w;cases jk ix;cases jk iy
  exact op_gt pins s τ H _ _ v u Q I rx ry ⟨_,_,rfl,rfl,w _ _ (jc.refl H) (jH _)⟩
 |ge =>
  cases op<;>first|exact Bool.noConfusion h|skip
  obtain⟨i,j,rfl,rfl,w⟩:=kz w;cases jk ix;cases jk iy
  exact op_ge pins s τ H _ _ v u Q I rx ry ⟨_,_,rfl,rfl,w _ _ (jc.refl H) (jH _)⟩
 |isN =>
  cases op<;>first|exact Bool.noConfusion h|skip
  cases y<;>first|exact w.elim|skip
  cases yE iy;refine op_isN pins s τ H _ _ v u Q I rx ry ⟨rfl,w _ _ (jc.refl H) ?_⟩
  cases x with
  |non=>cases yE ix;exact jH _
  |bl b=>cases kI ix;exact jH _
  |int i=>cases jk ix;exact jH _
  |str z=>obtain⟨rfl,_⟩:=jN ix;exact jH _
  |tup zs=>obtain⟨_,_,rfl,_⟩:=kQ ix;exact jH _
  |lst zs=>obtain⟨_,_,rfl,_⟩:=jD ix;exact jH _
 |notN =>
  cases op<;>first|exact Bool.noConfusion h|skip
  cases y<;>first|exact w.elim|skip
  cases yE iy;refine op_notN pins s τ H _ _ v u Q I rx ry ⟨rfl,w _ _ (jc.refl H) ?_⟩
  cases x with
  |non=>cases yE ix;exact jH _
  |bl b=>cases kI ix;exact jH _
  |int i=>cases jk ix;exact jH _
  |str z=>obtain⟨rfl,_⟩:=jN ix;exact jH _
  |tup zs=>obtain⟨_,_,rfl,_⟩:=kQ ix;exact jH _
  |lst zs=>obtain⟨_,_,rfl,_⟩:=jD ix;exact jH _
 |isT =>
  cases op<;>first|exact Bool.noConfusion h|skip
  cases x<;>cases y<;>first|exact w.elim|skip
  next b b' =>
  cases kI ix;cases kI iy;cases rx;cases ry;refine wpAny_is_plain rfl ?_
  have e:(Value.bool b == Value.bool b')=(b == b'):=by cases b<;>cases b'<;>rfl
  rw[e]
  exact kU I w (jH _) (by cases b<;>cases b'<;>rfl)
 |notT =>
  cases op<;>first|exact Bool.noConfusion h|skip
  cases x<;>cases y<;>first|exact w.elim|skip
  next b b' =>
  cases kI ix;cases kI iy;cases rx;cases ry;refine wpAny_isNot_plain rfl ?_
  have e:(Value.bool b == Value.bool b')=(b == b'):=by cases b<;>cases b'<;>rfl
  rw[e]
  exact kU I w (jH _) (by cases b<;>cases b'<;>rfl)
 |inn =>
  cases op<;>first|exact Bool.noConfusion h|skip
  cases x<;>first|exact w.elim|(cases y<;>first|exact w.elim|skip)
  ·cases jk ix;obtain⟨ss,rfl,hl,w⟩:=w;obtain⟨a,vs,rfl,h1,h2⟩:=jD iy;cases yJ h2;exact JT pins s τ H _ _ v u Q I rx ry ⟨a,_,rfl,.inl ((je H O).seq h1),rfl,Kb ss,w _ _ (jc.refl H) (by rw[bt,inV_ints];exact jH _)⟩
  ·obtain⟨rfl,o1⟩:=jN ix;obtain⟨rfl,o2⟩:=jN iy;exact op_in_str pins s τ H _ _ v u Q I rx ry ⟨_,_,rfl,rfl,w _ _ (jc.refl H) (by rw[bt];exact jH _)⟩
  ·obtain⟨rfl,o1⟩:=jN ix;obtain⟨ss,rfl,hl,w⟩:=w;obtain⟨a,vs,rfl,h1,h2⟩:=jD iy;cases ug h2;exact JT pins s τ H _ _ v u Q I rx ry ⟨a,_,rfl,.inl ((je H O).seq h1),rfl,Kf ss,w _ _ (jc.refl H) (by rw[bt,inV_strs];exact jH _)⟩
  ·obtain⟨⟨p,ps⟩,e1,rfl,w⟩:=w;rw[e1]at ix;obtain⟨a,vs,rfl,h1,h2⟩:=jD iy;cases ry;obtain⟨its,rv,pl,hz⟩:=I.list ((je H O).seq h1);refine SeqAt.in_listAt (v8 s.heap p) pl.isList (fun w hw=>prs_eq I hu1 ix rx h2 rv w (by simpa using hw)) ?_;refine kU I w (jH _) ?_;rw[show its.toArray.any (v8 s.heap p)=its.any (v8 s.heap p) by simp,Kn (KR I h2 rv),bt]
   exact rfl
 |nin =>
  cases op<;>first|exact Bool.noConfusion h|skip
  cases x<;>first|exact w.elim|(cases y<;>first|exact w.elim|skip)
  ·cases jk ix;obtain⟨ss,rfl,hl,w⟩:=w;obtain⟨a,vs,rfl,h1,h2⟩:=jD iy;cases yJ h2;exact z8 pins s τ H _ _ v u Q I rx ry ⟨a,_,rfl,.inl ((je H O).seq h1),rfl,Kb ss,w _ _ (jc.refl H) (by rw[bf,inV_ints];exact jH _)⟩
  ·obtain⟨rfl,o1⟩:=jN ix;obtain⟨rfl,o2⟩:=jN iy;exact K8 pins s τ H _ _ v u Q I rx ry ⟨_,_,rfl,rfl,w _ _ (jc.refl H) (by rw[bf];exact jH _)⟩
  ·obtain⟨rfl,o1⟩:=jN ix;obtain⟨ss,rfl,hl,w⟩:=w;obtain⟨a,vs,rfl,h1,h2⟩:=jD iy;cases ug h2;exact z8 pins s τ H _ _ v u Q I rx ry ⟨a,_,rfl,.inl ((je H O).seq h1),rfl,Kf ss,w _ _ (jc.refl H) (by rw[bf,inV_strs];exact jH _)⟩
  ·obtain⟨⟨p,ps⟩,e1,rfl,w⟩:=w;rw[e1]at ix;obtain⟨a,vs,rfl,h1,h2⟩:=jD iy;cases ry;obtain⟨its,rv,pl,hz⟩:=I.list ((je H O).seq h1);refine SeqAt.notIn_listAt (v8 s.heap p) pl.isList (fun w hw=>prs_eq I hu1 ix rx h2 rv w (by simpa using hw)) ?_;refine kU I w (jH _) ?_;rw[show its.toArray.any (v8 s.heap p)=its.any (v8 s.heap p) by simp,Kn (KR I h2 rv),bf];exact rfl
noncomputable def cD(K:PySem.W.Frag)(f:List D->(D->Prop)->Prop):List V->Hp->VK->Prop:=fun vs H Q=>∃O ds,(∀a∈O,H a≠none)/\Iss K (minus H O) ds vs/\f ds (Wd K O H Q)
noncomputable def Bi.val:Bi->Value
 |.abs=>.builtin "abs"
 |.max=>.builtin "max"
 |.min=>.builtin "min"
 |.len=>.builtin "len"
 |.int=>.type "int"
 |.list=>.type "list"
 |.sum=>.builtin "sum"
 |.all=>.builtin "all"
 |.any=>.builtin "any"
 |.tuple=>.type "tuple"
 |.str=>.type "str"
theorem Inv.moved{pins:List (Addr×Obj)}{τ:L2.St}{H:Hp}{s s':Shared}{o:Obj}{tk:Nat}(I:Inv X pins τ H s)(m:Moved [s.heap.objs.size] (fun a b=>b=a) { s with heap:=s.heap.push o,toks:=tk } s'):Inv X pins τ H s':=by
 have k:∀b u,s.heap.get? b=some u->s'.heap.get? b=some u:=fun b u e=>m.heap b u (fun z=>by
  have:b=s.heap.objs.size:=by simpa using z
  exact absurd (Heap.lt_size e) (by rw[this];exact Nat.lt_irrefl _)) (Heap.get?_push_of_some _ e)
 exact I.call' (ch:=[]) m.os (Un.kept k) (I.hok.kept k) (by rw[m.gens];exact I.bare) fun _ z=>nomatch z
theorem Kl(ns:List Int)(f:Nat->Int)(h:∀i,i<ns.length->ns[i]?=some (f i)):∀k,k<=ns.length->preSum f k=(ns.take k).sum
 |0,_=>by simp[preSum]
 |k+1,hk=>by
  rw[preSum,Kl ns f h k (by lia),List.take_add_one,h k (by lia)];simp
theorem xX:∀ {ns:List Int} {us:List Value},jA (ns.map V.int) us->∀i v,us[i]?=some v->∃t,v=Value.int (ns.getD i 0) t
 |[],us,r,i,v,h=>by cases r;simp at h
 |n::ns,us,r,i,v,h=>by
  cases r with
  |cons r1 r2 =>
   cases i with
   |zero=>simp at h;subst h;obtain⟨t,e⟩:=r1;exact⟨t,by simpa using e⟩
   |succ i=>simpa using xX r2 i v (by simpa using h)
theorem call_sumD(hc:X.calm=true):k8 X (.builtin "sum") (fun vs H Q=>∃(a:Addr) (ns:List Int),vs=[.ref a]/\SqL X.K H a (ns.map V.int)/\Q (.int ns.sum) H):=by
 intro pins s τ H vs us Q I r h;obtain⟨a,ns,rfl,hq,q⟩:=h;obtain⟨u,rfl,e⟩:=qP r;cases e;obtain⟨its,rv,p,hz⟩:=I.list hq;have hl:=rv.length;rw[List.length_map]at hl;obtain⟨o,n,ho,_⟩:=id p;have hne:a≠s.heap.objs.size:=Nat.ne_of_lt (Heap.lt_size ho);have W:=(Walks.list (prog:=X.prog) (w:=X.w) (A:=X.A.in1) (I.ok.hd hc) s.heap.objs.size a hne its.toArray).toS;refine call_sum_walkAnyS (wpAny_pyIter_list p.isList ⟨s.heap.objs.size,_,_,_,_,_,_,fun i=>ns.getD i 0,rfl,W,⟨⟨_,Heap.get?_push_size _ rfl,rfl,rfl⟩,?_⟩,fun b hb=>?_,fun i v hv=>xX rv i v (by simpa using hv),fun s' t' m=>?_⟩)
 ·obtain⟨o,n,ho,h1,h2,h3⟩:=p;exact⟨o,Heap.get?_push_of_some _ ho,h1,n,h3⟩
 ·rw[Heap.size_push];simp only[List.mem_cons,List.not_mem_nil,or_false]at hb;rcases hb with z|z
  ·rw[z];exact Nat.lt_succ_self _
  ·rw[z];exact Nat.lt_succ_of_lt (Heap.lt_size ho)
 ·have e:preSum (fun i=>ns.getD i 0) its.toArray.size=ns.sum:=by
   rw[List.size_toArray,<- hl];rw[Kl ns _ (fun i hi=>by simp[hi]) _ (Nat.le_refl _),List.take_length]
  exact⟨.int ns.sum,H,Inv.moved (tk:=s.toks) I m,⟨t',by rw[e]⟩,q⟩
theorem Kw{K:PySem.W.Frag}{S:Hp}:∀ {ns:List Bool} {vs:List V},Iss K S (ns.map D.bl) vs->vs=ns.map V.bl
 |[],vs,h=>by simp only[List.map_nil]at h;unfold Iss at h;exact h
 |n::ns,vs,h=>by
  simp only[List.map_cons]at h;unfold Iss at h;obtain⟨v,r,rfl,i1,i2⟩:=h;rw[kI i1,Kw i2];rfl
theorem vE:∀ {ns:List Bool} {us:List Value},jA (ns.map V.bl) us->∀i v,us[i]?=some v->v=Value.bool (ns.getD i true)
 |[],us,r,i,v,h=>by cases r;simp at h
 |n::ns,us,r,i,v,h=>by
  cases r with
  |cons r1 r2 =>
   cases i with
   |zero=>simp at h;subst h;cases r1;rfl
   |succ i=>exact vE r2 i v (by simpa using h)
theorem all_range(bs:List Bool):(List.range bs.length).all (fun i=>bs.getD i true)=bs.all id:=by
 rw[Bool.eq_iff_iff,List.all_eq_true,List.all_eq_true];constructor
 ·intro h b hb;obtain⟨i,hi,rfl⟩:=List.mem_iff_getElem.mp hb;have:=h i (by simpa using hi);simpa[hi]using this
 ·intro h i hi
  have hi':i<bs.length:=by simpa using hi
  have:=h bs[i] (List.getElem_mem hi');simpa[hi']using this
theorem call_allD(hc:X.calm=true):k8 X (.builtin "all") (fun vs H Q=>∃(a:Addr) (ns:List Bool),vs=[.ref a]/\SqL X.K H a (ns.map V.bl)/\Q (.bl (ns.all id)) H):=by
 intro pins s τ H vs us Q I r h;obtain⟨a,ns,rfl,hq,q⟩:=h;obtain⟨u,rfl,e⟩:=qP r;cases e;obtain⟨its,rv,p,hz⟩:=I.list hq;have hl:=rv.length;rw[List.length_map]at hl;obtain⟨o,n,ho,_⟩:=id p;have hne:a≠s.heap.objs.size:=Nat.ne_of_lt (Heap.lt_size ho);have W:=(Walks.list (prog:=X.prog) (w:=X.w) (A:=X.A.in1) (I.ok.hd hc) s.heap.objs.size a hne its.toArray).toS;refine call_all_walkS (wpAny_pyIter_list p.isList ⟨s.heap.objs.size,_,_,_,_,_,_,fun i=>ns.getD i true,rfl,W,⟨⟨_,Heap.get?_push_size _ rfl,rfl,rfl⟩,?_⟩,fun i v s Q E hv hQ=>?_,fun s' m=>?_⟩)
 ·obtain⟨o,n,ho,h1,h2,h3⟩:=p;exact⟨o,Heap.get?_push_of_some _ ho,h1,n,h3⟩
 ·rw[vE rv i v (by simpa using hv)];exact wpAny_truthy_bool hQ
 ·have e:(List.range its.toArray.size).all (fun i=>ns.getD i true)=ns.all id:=by
   rw[List.size_toArray,<- hl];exact all_range ns
  exact⟨.bl (ns.all id),H,Inv.moved (tk:=s.toks) I m,by rw[e];rfl,q⟩
theorem any_range(bs:List Bool):(List.range bs.length).any (fun i=>bs.getD i true)=bs.any id:=by
 rw[Bool.eq_iff_iff,List.any_eq_true,List.any_eq_true];constructor
 ·rintro⟨i,hi,h⟩
  have hi':i<bs.length:=by simpa using hi
  exact⟨bs[i],List.getElem_mem hi',by simpa[hi']using h⟩
 ·rintro⟨b,hb,h⟩;obtain⟨i,hi,rfl⟩:=List.mem_iff_getElem.mp hb;exact⟨i,by simpa using hi,by simpa[hi]using h⟩
theorem call_anyD(hc:X.calm=true):k8 X (.builtin "any") (fun vs H Q=>∃(a:Addr) (ns:List Bool),vs=[.ref a]/\SqL X.K H a (ns.map V.bl)/\Q (.bl (ns.any id)) H):=by
 intro pins s τ H vs us Q I r h;obtain⟨a,ns,rfl,hq,q⟩:=h;obtain⟨u,rfl,e⟩:=qP r;cases e;obtain⟨its,rv,p,hz⟩:=I.list hq;have hl:=rv.length;rw[List.length_map]at hl;obtain⟨o,n,ho,_⟩:=id p;have hne:a≠s.heap.objs.size:=Nat.ne_of_lt (Heap.lt_size ho);have W:=(Walks.list (prog:=X.prog) (w:=X.w) (A:=X.A.in1) (I.ok.hd hc) s.heap.objs.size a hne its.toArray).toS;refine call_any_walkS (wpAny_pyIter_list p.isList ⟨s.heap.objs.size,_,_,_,_,_,_,fun i=>ns.getD i true,rfl,W,⟨⟨_,Heap.get?_push_size _ rfl,rfl,rfl⟩,?_⟩,fun i v s Q E hv hQ=>?_,fun s' m=>?_⟩)
 ·obtain⟨o,n,ho,h1,h2,h3⟩:=p;exact⟨o,Heap.get?_push_of_some _ ho,h1,n,h3⟩
 ·rw[vE rv i v (by simpa using hv)];exact wpAny_truthy_bool hQ
 ·have e:(List.range its.toArray.size).any (fun i=>ns.getD i true)=ns.any id:=by
   rw[List.size_toArray,<- hl];exact any_range ns
  exact⟨.bl (ns.any id),H,Inv.moved (tk:=s.toks) I m,by rw[e];rfl,q⟩
theorem qT{f:D->(D->Prop)->Prop}{xs:List D}{Q:D->Prop}(w:zH f xs Q):∃x,xs=[x]/\f x Q:=by
 match xs,w with
 |[x],w=>exact⟨x,rfl,w⟩
theorem two2_of{f:D->D->(D->Prop)->Prop}{xs:List D}{Q:D->Prop}(w:two2 f xs Q):∃x y,xs=[x,y]/\f x y Q:=by
 match xs,w with
 |[x,y],w=>exact⟨x,y,rfl,w⟩
theorem zU{f:List D->(D->Prop)->Prop}{x:D}{Q:D->Prop}(w:zX f x Q):∃xs,x=.lst xs/\f xs Q:=by
 cases x<;>first|exact w.elim|exact⟨_,rfl,w⟩
theorem minD_of{ds:List D}{Q:D->Prop}(w:minD ds Q):(∃x,ds=[x]/\zX (fun xs Q=>∃ns:List Int,xs=ns.map .int/\ns ≠ []/\Q (.int (mmF false 0 ns))) x Q)\/∃x y,ds=[x,y]/\yN (fun i j Q=>Q (.int (if j<i then j else i))) x y Q:=by
 cases ds with
 |nil=>exact w.elim
 |cons x r=>cases r with
  |nil=>exact .inl ⟨x,rfl,w⟩
  |cons y r=>cases r with
   |nil=>exact .inr ⟨x,y,rfl,w⟩
   |cons z r=>exact w.elim
section
variable {α β:Type}
end
theorem call_bi{f:Bi}(hc:X.calm=true):k8 X f.val (cD X.K (biD f)):=by
 intro pins s τ H vs us Q I r w;obtain⟨O,ds,ho,is,w⟩:=w
 cases f with
 |abs =>
  obtain⟨x,rfl,w⟩:=qT w;obtain⟨v,rfl,i1⟩:=vc is
  cases x<;>first|exact w.elim|skip
  cases jk i1
  exact call_abs pins s τ H _ us Q I r ⟨_,rfl,w _ _ (jc.refl H) (jF _)⟩
 |max =>
  obtain⟨x,y,rfl,w⟩:=two2_of w;obtain⟨i,j,rfl,rfl,w⟩:=kz w;obtain⟨v,v',rfl,i1,i2⟩:=iss2 is;cases jk i1;cases jk i2
  exact call_max2 hc pins s τ H _ us Q I r ⟨_,_,rfl,w _ _ (jc.refl H) (jF _)⟩
 |min =>
  rcases minD_of w with⟨x,rfl,w⟩|⟨x,y,rfl,w⟩
  ·obtain⟨xs,rfl,ns,rfl,hn,w⟩:=zU w;obtain⟨v,rfl,i1⟩:=vc is;obtain⟨a,vs,rfl,h1,h2⟩:=jD i1
   cases ns with
   |nil=>exact absurd rfl hn
   |cons n ns =>
    obtain⟨u,rfl,e1⟩:=qP r;cases e1;cases yJ h2;exact call_min1 hc I ((je H O).seq h1) (w _ _ (jc.refl H) (jF _))
  ·obtain⟨i,j,rfl,rfl,w⟩:=kz w;obtain⟨v,v',rfl,i1,i2⟩:=iss2 is;cases jk i1;cases jk i2
   exact call_min2 hc pins s τ H _ us Q I r ⟨_,_,rfl,w _ _ (jc.refl H) (jF _)⟩
 |len =>
  obtain⟨x,rfl,w⟩:=qT w;obtain⟨v,rfl,i1⟩:=vc is
  cases x<;>first|exact w.elim|skip
  ·obtain⟨rfl,o1⟩:=jN i1;exact Qh pins s τ H _ us Q I r ⟨_,rfl,by rw[sizeLine_eq];exact w.1,w.2 _ _ (jc.refl H) (jF _)⟩
  ·obtain⟨a,vs,rfl,h1,h2⟩:=kQ i1;refine z9 pins s τ H _ us Q I r ⟨a,vs,rfl,.inr ((kF (je H O) h1)),?_⟩;rw[h2.length];exact w _ _ (jc.refl H) (jF _)
  ·obtain⟨a,vs,rfl,h1,h2⟩:=jD i1;refine z9 pins s τ H _ us Q I r ⟨a,vs,rfl,.inl ((je H O).seq h1),?_⟩;rw[h2.length]
   exact w _ _ (jc.refl H) (jF _)
 |int =>
  obtain⟨x,rfl,w⟩:=qT w;obtain⟨v,rfl,i1⟩:=vc is
  cases x<;>first|exact w.elim|skip
  ·cases kI i1;exact uu pins s τ H _ us Q I r (.inr ⟨_,rfl,w _ _ (jc.refl H) (jF _)⟩)
  ·cases jk i1;exact uu pins s τ H _ us Q I r (.inl ⟨_,rfl,w _ _ (jc.refl H) (jF _)⟩)
  ·obtain⟨rfl,o1⟩:=jN i1;obtain⟨n,⟨hl,hn⟩,w⟩:=w
   exact call_intS pins s τ H _ us Q I r ⟨_,n,rfl,by rw[sizeLine_eq];exact hl,hn,w _ _ (jc.refl H) (jF _)⟩
 |str =>
  obtain⟨x,rfl,w⟩:=qT w;obtain⟨v,rfl,i1⟩:=vc is
  cases x<;>first|exact w.elim|skip
  cases jk i1
  exact Ku pins s τ H _ us Q I r ⟨_,rfl,w.1,w.2 _ _ (jc.refl H) (j9 (ofString_ok _))⟩
 |list =>
  obtain⟨x,rfl,w⟩:=qT w;obtain⟨v,rfl,i1⟩:=vc is
  cases x<;>first|exact w.elim|skip
  ·obtain⟨a,vs,rfl,h1,h2⟩:=kQ i1;exact yq pins s τ H _ us Q I r ⟨a,vs,rfl,.inr ((kF (je H O) h1)),fun l hl=>w _ _ (jB hl _) (xf (SqL.of (yP ho hl)) (Iss.minus_upd hl h2))⟩
  ·obtain⟨a,vs,rfl,h1,h2⟩:=jD i1
   exact yq pins s τ H _ us Q I r ⟨a,vs,rfl,.inl ((je H O).seq h1),fun l hl=>w _ _ (jB hl _) (xf (SqL.of (yP ho hl)) (Iss.minus_upd hl h2))⟩
 |tuple =>
  obtain⟨x,rfl,w⟩:=qT w;obtain⟨v,rfl,i1⟩:=vc is
  cases x<;>first|exact w.elim|skip
  ·obtain⟨a,vs,rfl,h1,h2⟩:=kQ i1;exact zi pins s τ H _ us Q I r ⟨a,vs,rfl,.inr ⟨(kF (je H O) h1),w _ _ (jc.refl H) (K7 h1 h2)⟩⟩
  ·obtain⟨a,vs,rfl,h1,h2⟩:=jD i1
   exact zi pins s τ H _ us Q I r ⟨a,vs,rfl,.inl ⟨(je H O).seq h1,fun l hl=>w _ _ (jB hl _) (tup_is (yP ho hl) (Iss.minus_upd hl h2))⟩⟩
 |sum =>
  obtain⟨x,rfl,w⟩:=qT w;obtain⟨xs,rfl,w1⟩:=zU w;obtain⟨v,rfl,i1⟩:=vc is;obtain⟨a,vs,rfl,h1,h2⟩:=jD i1;obtain⟨ns,rfl,w2⟩:=w1;cases yJ h2
  exact call_sumD hc pins s τ H _ us Q I r ⟨a,ns,rfl,(je H O).seq h1,w2 _ _ (jc.refl H) (jF _)⟩
 |all =>
  obtain⟨x,rfl,w⟩:=qT w;obtain⟨xs,rfl,w1⟩:=zU w;obtain⟨v,rfl,i1⟩:=vc is;obtain⟨a,vs,rfl,h1,h2⟩:=jD i1;obtain⟨ns,rfl,w2⟩:=w1;cases Kw h2
  exact call_allD hc pins s τ H _ us Q I r ⟨a,ns,rfl,(je H O).seq h1,w2 _ _ (jc.refl H) (jH _)⟩
 |any =>
  obtain⟨x,rfl,w⟩:=qT w;obtain⟨xs,rfl,w1⟩:=zU w;obtain⟨v,rfl,i1⟩:=vc is;obtain⟨a,vs,rfl,h1,h2⟩:=jD i1;obtain⟨ns,rfl,w2⟩:=w1;cases Kw h2;exact call_anyD hc pins s τ H _ us Q I r ⟨a,ns,rfl,(je H O).seq h1,w2 _ _ (jc.refl H) (jH _)⟩
theorem at_of{K:PySem.W.Frag}{S:Hp}{xs:List D}{vs:List V}{i:Int}{d:D}(is:Iss K S xs vs)(e:atD xs i=some d):∃v,atI vs i=some v/\Is K S d v:=by
 have hl:=is.length;unfold atD at e;unfold atI ixN;by_cases h0:0<=i
 ·rw[if_pos h0]at e ⊢
  have hlt:i.toNat<xs.length:=by
   rcases Nat.lt_or_ge i.toNat xs.length with z|z
   ·exact z
   ·rw[List.getElem?_eq_none z]at e;cases e
  rw[if_pos (by lia)];exact is.get e
 ·rw[if_neg h0]at e ⊢;by_cases h1:-(xs.length:Int)<=i
  ·rw[if_pos h1]at e;rw[if_pos (by lia),hl];exact is.get e
  ·rw[if_neg h1]at e;cases e
theorem ix_D:IxR X (rD X.K ixD):=by
 intro value slice pins s τ H xv yv v u Q I rx ry w hs;obtain⟨O,x,y,ho,ix,iy,w⟩:=w;unfold ixD at w;split at w
 ·obtain⟨a,vs,rfl,h1,h2⟩:=jD ix;cases jk iy;obtain⟨d,e,w⟩:=w;obtain⟨z,e1,e2⟩:=at_of h2 e;exact L2.ix_list value slice pins s τ H _ _ v u Q I rx ry ⟨a,vs,_,z,rfl,rfl,(je H O).seq h1,e1,w _ _ (jc.refl H) e2⟩ hs
 ·obtain⟨a,vs,rfl,h1,h2⟩:=kQ ix;cases jk iy;obtain⟨d,e,w⟩:=w;obtain⟨z,e1,e2⟩:=at_of h2 e;exact L2.ix_tup value slice pins s τ H _ _ v u Q I rx ry ⟨a,vs,_,z,rfl,rfl,(kF (je H O) h1),e1,w _ _ (jc.refl H) e2⟩ hs
 ·next z j =>
  obtain⟨rfl,o1⟩:=jN ix;cases jk iy;obtain⟨c,⟨hl,h0,hc⟩,w⟩:=w
  have hc':z.cps.toList[j.toNat]?=some c:=by simpa using hc
  refine L2.ix_str value slice pins s τ H _ _ v u Q I rx ry ⟨_,_,c,rfl,rfl,by rw[sizeLine_eq];exact hl,?_,w _ _ (jc.refl H) (j9 ?_)⟩ hs
  ·have hj:=(List.getElem?_eq_some_iff.mp hc').1;unfold atI ixN;rw[if_pos h0,if_pos (by lia)];exact hc'
  ·refine k9 (l:=[c]) fun d hd=>?_
   rw[List.mem_singleton.mp hd];exact qV o1 (List.mem_of_getElem? hc')
 ·exact w.elim
noncomputable def tyName:D->String
 |.non=>"NoneType"
 |.bl _=>"bool"
 |.int _=>"int"
 |.str _=>"str"
 |.tup _=>"tuple"
 |.lst _=>"list"
noncomputable def Ty.val:Ty->Value
 |.int=>.type "int"
 |.bool=>.type "bool"
 |.tuple=>.type "tuple"
 |.list=>.type "list"
 |.str=>.type "str"
theorem kit_ty(K:PySem.W.Frag)(d:D)(t:Ty):PySem.W.kitOne K (.type (tyName d)) t.val=some (tyD t d):=by
 cases d<;>cases t<;>with_unfolding_all rfl
theorem call_isi{t:Ty}{pins:List (Addr×Obj)}{s:Shared}{τ:L2.St}{H:Hp}{d:D}{v:V}{u:Value}{Q:Value->Shared->Prop}{E:Value->Shared->Prop}(I:Inv X pins τ H s)(i:Is X.K H d v)(r:jM v u)(h:∀tk,Q (.bool (tyD t d)) { s with toks:=tk }) :
 wpAny (model X.prog X.w) X.A (call (.builtin "isinstance") [u,t.val]) Q E s:=by
 have e:=kit_ty X.K d t
 cases d with
 |non=>cases yE i;cases r;exact PySem.W.kia_one PySem.W.kitx_none I.kIn True.intro e (fun z=>nomatch z) h
 |bl b=>cases kI i;cases r;exact PySem.W.kia_one PySem.W.kitx_bool I.kIn True.intro e (fun z=>nomatch z) h
 |int n=>cases jk i;obtain⟨t,rfl⟩:=r;exact PySem.W.kia_one PySem.W.kitx_int I.kIn True.intro e (fun z=>nomatch z) h
 |str x=>obtain⟨rfl,_⟩:=jN i;obtain⟨t,rfl⟩:=r;exact PySem.W.kia_one PySem.W.kitx_str I.kIn True.intro e (fun z=>nomatch z) h
 |tup xs =>
  obtain⟨a,vs,rfl,h1,h2⟩:=kQ i;cases r;obtain⟨its,rv,⟨o,e1,e2,n,e3⟩,_⟩:=I.tuple h1
  exact PySem.W.kia_one PySem.W.kitx_tuple I.kIn ⟨o,e1,e2⟩ e (fun z=>nomatch z) h
 |lst xs =>
  obtain⟨a,vs,rfl,h1,h2⟩:=jD i;cases r;obtain⟨its,rv,pl,_⟩:=I.list h1;obtain⟨o,e1,e2,n,e3⟩:=pl.isList;exact PySem.W.kia_one PySem.W.kitx_list I.kIn ⟨o,e1,e2⟩ e (fun z=>nomatch z) h
end
end Z
namespace Z
open PySem PySem.Spec PyProof.Rows L2
section
variable {X:Cx} {k:Ck} {C:Cfg}
theorem za{e:Expr}(h:isSet e=false)(env:Env)(v:Value):foldedSetIterable e env v=pure v:=by
 cases e<;>first|rfl|exact Bool.noConfusion h
noncomputable def Its(lo st:Int)(n:Nat):It:=⟨fun i _=>i<n,fun i H x H'=>H'=H/\x=.int (lo+i*st),fun i _=>n<=i⟩
theorem turn_step{P:Program}{w:World}{K:PySem.W.Frag}{tg:Expr}(it:Addr)(lo st:Int)(n:Nat):Turn P w K tg (Its lo st n) [it] it (fun i h=>IsRangeIter h it (lo+(i:Nat)*st) ((n:Int)-(i:Nat)) st) where
 mem:=by simp
 obj:=fun i h s b hb=>by
  have e:b=it:=by simpa using hb
  subst e
  exact⟨_,s,fun v z=>by
   have z':Data.fields _=Data.cell v:=z
   cases z'⟩
 keep:=fun i h h' s k=>k it (by simp) _ s
 item:=by
  intro X hP hw hK hc i pins s σ H E I hf s1 hg;subst hP hw hK;obtain⟨f0,f1,f2,f3,f4,f5⟩:=hf it (by simp);have W:=Walks.range (prog:=X.prog) (w:=X.w) (I.ok.hd hc) it lo st n
  refine W.item i s _ _ hg s1 fun v h' tk hv s2 kk=>?_
  obtain⟨t,rfl⟩:=hv;have I1:Inv X pins σ H { s with heap:=h',toks:=tk }:=I.turned (fun b o hb e=>kk b o (by simpa using hb) e) f0 f1 f3 f4 f5;exact⟨_,rfl,go_of (s:={ s with heap:=h',toks:=tk }) (n:="range_iterator") s2 rfl rfl (by decide) ⟨.int (lo+i*st),H,I1,⟨t,rfl⟩,⟨rfl,rfl⟩,s2,fun b hb=>(hf b hb).1⟩⟩
 done:=by
  intro X hP hw hK hc i pins s σ H E I hf s1 hg;subst hP hw hK;obtain⟨f0,f1,f2,f3,f4,f5⟩:=hf it (by simp)
  exact wpAny_pyNext_range_end (I.ok.hd hc) s1 (by have:n<=i:=hg;lia) fun h' eb=>⟨rfl,I.turned (t':=s.toks) (fun b o hb e=>eb b o hb e) f0 f1 f3 f4 f5⟩
 self:=fun _ _ _ _ _ s h=>wpAny_pyIter_rangeiter s h
theorem small_step{a b c:Int}(ha:xi a)(hb:xi b)(hc:0<c)(hc2:c<1000):Builtin.Range.small a b c=true:=by
 unfold Builtin.Range.small Builtin.Range.rangeSize;unfold xi at ha hb;have h1:(b-a-1) / c*c<=b-a-1:=Int.ediv_mul_le _ (by lia)
 have h2:a<b->0<=(b-a-1) / c:=fun h=>Int.ediv_nonneg (by lia) (by lia)
 have h3:a<b->(b-a-1) / c<=b-a-1:=fun h=>Int.ediv_le_self _ (by lia)
 simp only[Builtin.Range.rangeFitsLong,Bool.and_eq_true,Bool.or_eq_true,decide_eq_true_eq,beq_iff_eq,show c > 0 from hc,if_true];by_cases h:a<b
 ·rw[if_pos h];generalize hq:(b-a-1) / c=q at *
  have e:(q+1)*c=q*c+c:=by rw[Int.add_mul,Int.one_mul]
  have h2':=h2 h;have h3':=h3 h;lia
 ·rw[if_neg h];lia
theorem Qd{tg:Expr}{pins:List (Addr×Obj)}{σ:L2.St}{H:Hp}{s:Shared}{R:It->Hp->Prop}{E:Value->Shared->Prop}{lo hi st:Int}{t u v:Tok}{tk:Nat}(I:Inv X pins σ H s)(h1:xi lo)(h2:xi hi)(h3:0<st)(h4:st<1000)
 (q:R (Its lo st (if lo<hi then (hi-lo-1) / st+1 else 0).toNat) H):wpAny (model X.prog X.w) X.A (pyIter (.ref s.heap.objs.size)) (PIE X pins σ tg R) E { s with heap:=s.heap.push { cls:=.type "range",data:=.fields #[.int lo t,.int hi u,.int st v] },toks:=tk }:=by
 refine wpAny_pyIter_range (IsRange.new ..) (small_step h1 h2 h3 h4) ?_
 have I1:Inv X pins σ H { s with heap:=s.heap.push { cls:=.type "range",data:=.fields #[.int lo t,.int hi u,.int st v] },toks:=tk }:=I.kept fun b o e=>Heap.get?_push_of_some _ e
 refine⟨(s.heap.push { cls:=.type "range",data:=.fields #[.int lo t,.int hi u,.int st v] }).objs.size,[(s.heap.push { cls:=.type "range",data:=.fields #[.int lo t,.int hi u,.int st v] }).objs.size],_,_,H,rfl,
  I1.kept (t':=tk) fun b o e=>Heap.get?_push_of_some _ e,turn_step _ lo st (if lo<hi then (hi-lo-1) / st+1 else 0).toNat,?_,fun b hb=>?_,q⟩
 ·have e1:lo+((0:Nat):Int)*st=lo:=by simp
  have e2:(((if lo<hi then (hi-lo-1) / st+1 else 0).toNat:Nat):Int)-((0:Nat):Int)=Builtin.Range.rangeSize lo hi st:=by
   unfold Builtin.Range.rangeSize;rw[if_pos h3]
   have:lo<hi->0<=(hi-lo-1) / st:=fun h=>Int.ediv_nonneg (by lia) (by lia)
   split<;>lia
  show IsRangeIter _ _ (lo+((0:Nat):Int)*st) ((((if lo<hi then (hi-lo-1) / st+1 else 0).toNat:Nat):Int)-((0:Nat):Int)) st;rw[e1,e2];exact Heap.get?_push_size _ rfl
 ·have e:b=(s.heap.push { cls:=.type "range",data:=.fields #[.int lo t,.int hi u,.int st v] }).objs.size:=by simpa using hb
  subst e;exact I1.fpOk (Nat.le_refl _) (I1.hok.fresh (Nat.le_refl _))
noncomputable def iRg(ta:TA):TI:=fun σ H R=>ta σ H fun vs H1=>∃lo hi st:Int,(vs=[.int hi]/\lo=0/\st=1\/vs=[.int lo,.int hi]/\st=1\/vs=[.int lo,.int hi,.int st])/\(xi lo/\xi hi/\0<st/\st<1000)/\R (Its lo st (if lo<hi then (hi-lo-1) / st+1 else 0).toNat) H1
theorem pi_rg{tg a:Expr}{as:List Expr}{ta:TA}{p pos:Pos}(hg:Gl X "range")(hm:X.mg "range"=none)(ha:PA X (a::as) ta)(hs:starEach (a::as) X.env=(false,eval a X.env)::starEach as X.env)(hpl:(backTo pos (starEach as X.env)).any (·.1)=false):PI X tg (.Call (.Name "range" p) (a::as) [] pos) (iRg ta):=by
 intro pins s σ H R I h;refine Call_ (KG I hg hm boot_range (PyProof.Rows.callWith_type1 (thn (ha pos pins s σ H _ I h) fun us s1 ⟨vs,H1,I1,r1,q1⟩=>?_) hs hpl));obtain⟨lo,hi,st,e,⟨q1,q2,q3,q4⟩,q⟩:=q1;rcases e with⟨rfl,rfl,rfl⟩|⟨rfl,rfl⟩|rfl
 ·cases r1 with
  |cons r rr =>
   cases rr;obtain⟨t,rfl⟩:=r;exact call_range_1 (Qd I1 q1 q2 q3 q4 q)
 ·cases r1 with
  |cons r rr =>
   cases rr with
   |cons r' rr =>
    cases rr;obtain⟨t,rfl⟩:=r;obtain⟨t',rfl⟩:=r';exact call_range_2 (Qd I1 q1 q2 q3 q4 q)
 ·cases r1 with
  |cons r rr =>
   cases rr with
   |cons r' rr =>
    cases rr with
    |cons r'' rr =>
     cases rr;obtain⟨t,rfl⟩:=r;obtain⟨t',rfl⟩:=r';obtain⟨t'',rfl⟩:=r'';exact call_range_3 (by lia) (Qd I1 q1 q2 q3 q4 q) (.inl (PyProof.noPylong_small (by lia)))
theorem yw:∀(n:Nat) (lo st:Int) (i:Nat),i<n->(kc lo st n)[i]?=some (.int (lo+i*st))
 |0,lo,st,i,h=>by lia
 |n+1,lo,st,0,h=>by simp[kc]
 |n+1,lo,st,i+1,h=>by
  simp only[kc,List.getElem?_cons_succ];rw[yw n (lo+st) st i (by lia)];congr 2
  have:((i+1:Nat):Int)*st=i*st+st:=by rw[Int.natCast_add,Int.add_mul];simp
  lia
theorem jE:∀(n:Nat) (lo st:Int),(kc lo st n).length=n
 |0,lo,st=>rfl
 |n+1,lo,st=>by simp[kc,jE n]
theorem rgD_of{K:PySem.W.Frag}{S:Hp}{ds:List D}{vs:List V}{P:List D->Prop}(i:Iss K S ds vs)(w:rgD ds P) :
 ∃lo hi st:Int,(vs=[.int hi]/\lo=0/\st=1\/vs=[.int lo,.int hi]/\st=1\/vs=[.int lo,.int hi,.int st])/\(xi lo/\xi hi/\0<st/\st<1000)/\P (kc lo st (if lo<hi then (hi-lo-1) / st+1 else 0).toNat):=by
 unfold rgD at w;split at w
 ·next hi =>
  obtain⟨v,rfl,i1⟩:=vc i;cases jk i1;refine⟨0,hi,1,.inl ⟨rfl,rfl,rfl⟩,⟨by unfold xi;lia,w.1,by decide,by decide⟩,?_⟩
  have e:(if (0:Int)<hi then (hi-0-1) / 1+1 else 0).toNat=hi.toNat:=by
   rw[Int.ediv_one];split<;>lia
  rw[e];exact w.2
 ·next lo hi =>
  obtain⟨v,v',rfl,i1,i2⟩:=iss2 i;cases jk i1;cases jk i2;refine⟨lo,hi,1,.inr (.inl ⟨rfl,rfl⟩),⟨w.1.1,w.1.2,by decide,by decide⟩,?_⟩
  have e:(if lo<hi then (hi-lo-1) / 1+1 else 0).toNat=(hi-lo).toNat:=by
   rw[Int.ediv_one];split<;>lia
  rw[e];exact w.2
 ·next lo hi st =>
  unfold Iss at i;obtain⟨v,r,rfl,i1,i⟩:=i;obtain⟨v',v'',rfl,i2,i3⟩:=iss2 i;cases jk i1;cases jk i2;cases jk i3;exact⟨lo,hi,st,.inr (.inr rfl),w.1,w.2⟩
 ·exact w.elim
noncomputable def Itx(z:Str):It:=⟨fun i _=>i<z.cps.size,fun i H x H'=>H'=H/\∃c,z.cps[i]?=some c/\x=.str ⟨#[c]⟩,fun i _=>z.cps.size<=i⟩
theorem J0{P:Program}{w:World}{K:PySem.W.Frag}{tg:Expr}(it:Addr)(z:Str)(t:Tok){n:String}(hn:n="str_ascii_iterator" \/ n="str_iterator"):Turn P w K tg (Itx z) [it] it (fun i h=>h.IsStrIter it n z t i) where
 mem:=by simp
 obj:=fun i h st b hb=>by
  have e:b=it:=by simpa using hb
  subst e;obtain⟨o,e,c,d⟩:=st;exact⟨o,e,fun v z=>by rw[d]at z;cases z⟩
 keep:=fun i h h' st k=>by
  obtain⟨o,e,r⟩:=st;exact⟨o,k it (by simp) o e,r⟩
 item:=by
  intro X hP hw hK hc i pins s σ H E I hf st hg;subst hP hw hK;obtain⟨f0,f1,f2,f3,f4,f5⟩:=hf it (by simp)
  have W:Walks X.prog X.w X.A it [it] [it] z.cps.size (SignAt z) (fun i h=>h.IsStrIter it n z t i):=by
   rcases hn with rfl|rfl
   ·exact Walks.strAscii (I.ok.hd hc) it z t
   ·exact Walks.strWide (I.ok.hd hc) it z t
  refine W.item i s _ _ hg st fun v h' tk hv st' kk=>?_
  obtain⟨c,u,hc',rfl⟩:=hv;have I1:Inv X pins σ H { s with heap:=h',toks:=tk }:=I.turned (fun b o hb e=>kk b o (by simpa using hb) e) f0 f1 f3 f4 f5;obtain⟨o,e,cl,d⟩:=id st';exact⟨_,rfl,go_of (s:={ s with heap:=h',toks:=tk }) e cl d (by rcases hn with rfl|rfl<;>decide) ⟨.str ⟨#[c]⟩,H,I1,⟨_,rfl⟩,⟨rfl,c,hc',rfl⟩,st',fun b hb=>(hf b hb).1⟩⟩
 done:=by
  intro X hP hw hK hc i pins s σ H E I hf st hg;subst hP hw hK;obtain⟨f0,f1,f2,f3,f4,f5⟩:=hf it (by simp);have hg':z.cps[i]?=none:=Array.getElem?_eq_none hg;rcases hn with rfl|rfl
  ·exact wpAny_pyNext_ascii_end (I.ok.hd hc) st hg' fun h' eb=>⟨rfl,I.turned (t':=s.toks) (fun b o hb e=>eb b o hb e) f0 f1 f3 f4 f5⟩
  ·exact wpAny_pyNext_wide_end (I.ok.hd hc) st hg' fun h' eb=>⟨rfl,I.turned (t':=s.toks) (fun b o hb e=>eb b o hb e) f0 f1 f3 f4 f5⟩
 self:=fun _ _ _ _ _ st h=>by
  rcases hn with rfl|rfl
  ·exact wpAny_pyIter_striter_ascii st h
  ·exact wpAny_pyIter_striter_wide st h
noncomputable def Wlk(K:PySem.W.Frag)(x:V)(H:Hp)(J:It):Prop:=(∃a,x=.ref a/\((∃xs,SqL K H a xs)/\J=Itl K a\/(∃xs,SqT K H a xs)/\J=Itt K a))\/∃z,x=.str z/\J=Itx z
noncomputable def iSeq(K:PySem.W.Frag)(tl:TE):TI:=fun σ H R=>tl σ H fun x H1=>∃J,Wlk K x H1 J/\R J H1
theorem Kq{tg l:Expr}{tl:TE}(hl:PE X l tl):PI X tg l (iSeq X.K tl):=by
 intro pins s σ H R I h
 refine thn (hl pins s σ H _ I h) fun v s1 ⟨x,H1,I1,r1,J,hw,q⟩=>?_
 have fp:∀b ∈ [s1.heap.objs.size],vD X pins H1 b:=fun b hb=>by
  have e:b=s1.heap.objs.size:=by simpa using hb
  subst e;exact I1.fpOk (Nat.le_refl _) (I1.hok.fresh (Nat.le_refl _))
 rcases hw with⟨a,rfl,⟨⟨xs,hq⟩,rfl⟩|⟨⟨xs,hq⟩,rfl⟩⟩|⟨z,rfl,rfl⟩
 ·cases r1;obtain⟨its,rv,p,hz⟩:=I1.list hq;exact wpAny_pyIter_list p.isList ⟨s1.heap.objs.size,[s1.heap.objs.size],_,_,H1,rfl,I1.kept (t':=s1.toks) fun b o e=>Heap.get?_push_of_some _ e,turn_list a _,⟨_,Heap.get?_push_size _ rfl,rfl,rfl⟩,fp,q⟩
 ·cases r1;obtain⟨its,rv,p,hz⟩:=I1.tuple hq;exact wpAny_pyIter_tuple (show s1.heap.IsTuple a its.toArray from p) ⟨s1.heap.objs.size,[s1.heap.objs.size],_,_,H1,rfl,I1.kept (t':=s1.toks) fun b o e=>Heap.get?_push_of_some _ e,turn_tuple a _,⟨_,Heap.get?_push_size _ rfl,rfl,rfl⟩,fp,q⟩
 ·obtain⟨t,rfl⟩:=r1;cases ha:z.cps.all (· < 128)
  ·exact wpAny_pyIter_wide ha ⟨s1.heap.objs.size,[s1.heap.objs.size],_,_,H1,rfl,I1.kept (t':=s1.toks) fun b o e=>Heap.get?_push_of_some _ e,J0 _ z t (.inr rfl),⟨_,Heap.get?_push_size _ rfl,rfl,rfl⟩,fp,q⟩
  ·exact wpAny_pyIter_ascii ha ⟨s1.heap.objs.size,[s1.heap.objs.size],_,_,H1,rfl,I1.kept (t':=s1.toks) fun b o e=>Heap.get?_push_of_some _ e,J0 _ z t (.inl rfl),⟨_,Heap.get?_push_size _ rfl,rfl,rfl⟩,fp,q⟩
theorem walk_of{K:PySem.W.Frag}{d:D}{xs:List D}{v:V}{H1:Hp}{O:List Addr}(e:itemsD d=some xs)(i:Is K (minus H1 O) d v):∃J,Wlk K v H1 J /\
 (∀j H O',jc (minus H1 O) (minus H O')->j<xs.length->J.go j H)/\(∀j H O',jc (minus H1 O) (minus H O')->xs.length<=j->J.stop j H) /\
 (∀j H O' v H' d,jc (minus H1 O) (minus H O')->J.yld j H v H'->xs[j]?=some d->H'=H/\Is K (minus H O') d v):=by
 cases d with
 |lst ys =>
  cases e;obtain⟨a,vs,rfl,h5,h6⟩:=jD i;have hl:=h6.length
  have sq:∀ {H:Hp} {O':List Addr},jc (minus H1 O) (minus H O')->SqL K H a vs:=fun sm=>(je _ _).seq (sm.seq h5)
  refine⟨_,.inl ⟨a,rfl,.inl ⟨⟨vs,(je _ _).seq h5⟩,rfl⟩⟩,?_,?_,?_⟩
  ·intro j H O' sm hj;exact⟨vs,vs[j],sq sm,List.getElem?_eq_getElem (by omega)⟩
  ·intro j H O' sm hj;exact⟨vs,sq sm,by omega⟩
  ·intro j H O' v H' d sm y hd;obtain⟨e2,y⟩:=y;obtain⟨z,e3,e4⟩:=h6.get hd;have:=y vs (sq sm);rw[e3]at this;cases this
   exact⟨e2,Is.mono sm d e4⟩
 |tup ys =>
  cases e;obtain⟨a,vs,rfl,h5,h6⟩:=kQ i;have hl:=h6.length
  have sq:∀ {H:Hp} {O':List Addr},jc (minus H1 O) (minus H O')->SqT K H a vs:=fun sm=>kF (je _ _) (kF sm h5)
  refine⟨_,.inl ⟨a,rfl,.inr ⟨⟨vs,(kF (je _ _) h5)⟩,rfl⟩⟩,?_,?_,?_⟩
  ·intro j H O' sm hj;exact⟨vs,vs[j],sq sm,List.getElem?_eq_getElem (by omega)⟩
  ·intro j H O' sm hj;exact⟨vs,sq sm,by omega⟩
  ·intro j H O' v H' d sm y hd;obtain⟨e2,y⟩:=y;obtain⟨z,e3,e4⟩:=h6.get hd;have:=y vs (sq sm);rw[e3]at this;cases this
   exact⟨e2,Is.mono sm d e4⟩
 |str x =>
  cases e;obtain⟨rfl,ok⟩:=jN i;refine⟨_,.inr ⟨x,rfl,rfl⟩,?_,?_,?_⟩
  ·intro j H O' sm hj;rw[List.length_map]at hj;exact hj
  ·intro j H O' sm hj;rw[List.length_map]at hj;exact hj
  ·rintro j H O' v H' d sm ⟨e2,c,hc,rfl⟩ hd;rw[List.getElem?_map,Array.getElem?_toList,hc]at hd;cases hd
   exact⟨e2,j9 (k9 (l:=[c]) fun c' h'=>by rw[List.mem_singleton.mp h'];exact qV ok (Array.mem_toList_iff.mpr (Array.mem_of_getElem? hc)))⟩
 |_=>cases e
theorem xB{σ:Sto}{z:Option Sl}:∀(i:Nat),getS (σ ++ [z]) i=if i<σ.length then getS σ i else if i=σ.length then z else none:=by
 induction σ with
 |nil =>
  intro i
  cases i with
  |zero=>rfl
  |succ i=>simp[getS]
 |cons a r ih =>
  intro i
  cases i with
  |zero=>simp[getS]
  |succ i =>
   show getS (r ++ [z]) i=_;rw[ih i];simp only[List.length_cons,Nat.add_lt_add_iff_right,Nat.add_right_cancel_iff];rfl
theorem Reps.snoc{K:PySem.W.Frag}{O:List Addr}{H:Hp}{σ:Sto}{τ:L2.St}{d:D}{v:V}(R:Reps K O H σ τ)(h:Is K (minus H O) d v):Reps K O H (σ ++ [some (.sh d)]) (τ ++ [some v]) where
 len:=by simp[R.len]
 own:=R.own
 sh:=fun i e g=>by
  rw[xB]at g;split at g
  ·next hi =>
   obtain⟨u,e1,e2⟩:=R.sh i e g;exact⟨u,by rw[List.getElem?_append_left (by rw[<- R.len];exact hi)];exact e1,e2⟩
  ·split at g
   ·next hi =>
    cases g;subst hi;exact⟨v,by rw[List.getElem?_append_right (by rw[R.len];exact Nat.le_refl _),R.len];simp,h⟩
   ·cases g
 ow:=fun i ds g=>by
  rw[xB]at g;split at g
  ·next hi =>
   obtain⟨a,vs,e1,e2⟩:=R.ow i ds g;exact⟨a,vs,by rw[List.getElem?_append_left (by rw[<- R.len];exact hi)];exact e1,e2⟩
  ·split at g<;>cases g
 dj:=fun i j ds es hij g1 g2=>by
  rw[xB]at g1 g2;split at g1
  ·next hi =>
   split at g2
   ·next hj =>
    rw[List.getElem?_append_left (by rw[<- R.len];exact hi),List.getElem?_append_left (by rw[<- R.len];exact hj)];exact R.dj i j ds es hij g1 g2
   ·split at g2<;>cases g2
  ·split at g1<;>cases g1
 tt:=by
  have old:∀j z,getS (σ ++ [some (.sh d)]) j=some z->(∀d,z ≠ .sh d)->getS σ j=some z/\(τ ++ [some v])[j]?=τ[j]?:=fun j z g n=>by
   rw[xB]at g;split at g
   ·next hj=>exact⟨g,List.getElem?_append_left (by rw[<- R.len];exact hj)⟩
   ·split at g
    ·cases g;exact absurd rfl (n _)
    ·cases g
  exact R.tt.step (fun j rows g=>old j _ g fun _ z=>nomatch z) (fun _ _ _ _ _ _ _ t=>t) fun _ _ _ _ j ds b _ _ g q=>by
   obtain⟨g1,e⟩:=old j _ g fun _ z=>nomatch z
   exact .inl ⟨ds,g1,by rw[<- e];exact q⟩
theorem Iss.snoc{K:PySem.W.Frag}{S:Hp}{ds:List D}{vs:List V}{d:D}{v:V}(h:Iss K S ds vs)(g:Is K S d v):Iss K S (ds ++ [d]) (vs ++ [v]) :=
 h.append (by unfold Iss;exact⟨v,[],rfl,g,by unfold Iss;rfl⟩)
theorem comp_turnsGF{K:PySem.W.Frag}{J:It}{xs:List D}{e:Ex}{τ:L2.St}{H1:Hp}{σ:Sto}{O:List Addr}{Q:VK}(R1:Reps K O H1 σ τ)(hx:xs.length<=lim)
 (hgo:∀j H,jc H1 H->j<xs.length->J.go j H) (hst:∀j H,jc H1 H->xs.length<=j->J.stop j H)
 (hy:∀j H v H' d,jc H1 H->J.yld j H v H'->xs[j]?=some d->jc H H'/\Is K (minus H' O) d v)
 (w:xT (fun d Q=>wpE C e (σ ++ [some (.sh d)]) Q) xs fun ys=>WdF K O H1 Q (.lst ys)) :
 ∃W:Nat->Nat->List V->Hp->Prop,(∃m,W 0 m [] H1)/\∀i m ys H,W i m ys H ->
  (J.stop i H/\ys.length<=sizeLine/\∀p,H p=none->Q (.ref p) (upd H p (.lst ys)))\/(J.go i H/\ys.length<sizeLine/\∀x H',J.yld i H x H'->tD K C e (τ ++ [some x]) H' fun y H2=>∃m',m'<m/\W (i+1) m' (ys ++ [y]) H2):=by
 refine⟨fun j m ys H=>m=xs.length-j/\j<=xs.length/\jc H1 H/\∃ds,ds.length=j/\Iss K (minus H O) ds ys/\xT (fun d Q=>wpE C e (σ ++ [some (.sh d)]) Q) (xs.drop j) fun rest=>WdF K O H1 Q (.lst (ds++rest)),
  ⟨_,rfl,Nat.zero_le _,jc.refl _,[],rfl,by unfold Iss;rfl,by simpa using w⟩,?_⟩
 rintro j m ys H ⟨rfl,hj,sm,ds,hd,is,w⟩
 have hl:ys.length=j:=by rw[is.length,hd]
 have R:=R1.mono sm
 have hlim:lim<=sizeLine:=by decide
 by_cases hlt:j<xs.length
 ·refine .inr ⟨hgo j H sm hlt,by lia,fun x H' y=>?_⟩;obtain⟨e1,ix⟩:=hy j H x H' xs[j] sm y (List.getElem?_eq_getElem hlt);rw[List.drop_eq_getElem_cons hlt]at w;rw[xT]at w;refine⟨_,O,(R.mono e1).snoc ix,ja e (fun yd wy v H2 s2 i2=>?_) w⟩;refine⟨xs.length-(j+1),by lia,rfl,hlt,(sm.trans e1).trans s2,ds ++ [yd],by simp[hd],(Iss.mono (jd (e1.trans s2)) ds is).snoc i2,?_⟩;simpa using wy
 ·have e1:j=xs.length:=by lia
  refine .inl ⟨hst _ H sm (by lia),by lia,fun p hp=>?_⟩;rw[List.drop_eq_nil_of_le (by lia)]at w;rw[xT]at w;rw[List.append_nil]at w
  have h1:H1 p=none:=by
   cases q:H1 p with
   |none=>rfl
   |some o=>rw[sm p o q]at hp;cases hp
  exact w ds p _ ys rfl (sm.trans (jB hp _)) h1 (jm ..) (Iss.mono (kL (jB hp _) hp) ds is)
theorem comp_turnsG{K:PySem.W.Frag}{J:It}{xs:List D}{e:Ex}{τ:L2.St}{H1:Hp}{σ:Sto}{O:List Addr}{Q:VK}(R1:Reps K O H1 σ τ)(hx:xs.length<=lim)
 (hgo:∀j H,jc H1 H->j<xs.length->J.go j H) (hst:∀j H,jc H1 H->xs.length<=j->J.stop j H)
 (hy:∀j H v H' d,jc H1 H->J.yld j H v H'->xs[j]?=some d->jc H H'/\Is K (minus H' O) d v)
 (w:xT (fun d Q=>wpE C e (σ ++ [some (.sh d)]) Q) xs fun ys=>Wd K O H1 Q (.lst ys)) :
 ∃W:Nat->Nat->List V->Hp->Prop,(∃m,W 0 m [] H1)/\∀i m ys H,W i m ys H ->
  (J.stop i H/\ys.length<=sizeLine/\∀p,H p=none->Q (.ref p) (upd H p (.lst ys)))\/(J.go i H/\ys.length<sizeLine/\∀x H',J.yld i H x H'->tD K C e (τ ++ [some x]) H' fun y H2=>∃m',m'<m/\W (i+1) m' (ys ++ [y]) H2) :=
 comp_turnsGF R1 hx hgo hst hy (ko (f:=fun d Q=>wpE C e (σ ++ [some (.sh d)]) Q) (fun d _ _ hq=>ja e hq) _ (fun ys wy=>wy.wdF R1.own) w)
theorem yc{K:PySem.W.Frag}{J:It}{xs:List D}{e:Ex}{τ:L2.St}{H1:Hp}{σ:Sto}{O:List Addr}{Q:VK}(R1:Reps K O H1 σ τ)(hx:xs.length<=lim)
 (hgo:∀j H,jc H1 H->j<xs.length->J.go j H) (hst:∀j H,jc H1 H->xs.length<=j->J.stop j H)
 (hy:∀j H v H' d,jc H1 H->J.yld j H v H'->xs[j]?=some d->H'=H/\Is K (minus H O) d v)
 (w:xT (fun d Q=>wpE C e (σ ++ [some (.sh d)]) Q) xs fun ys=>Wd K O H1 Q (.lst ys)) :
 ∃W:Nat->Nat->List V->Hp->Prop,(∃m,W 0 m [] H1)/\∀i m ys H,W i m ys H ->
  (J.stop i H/\ys.length<=sizeLine/\∀p,H p=none->Q (.ref p) (upd H p (.lst ys)))\/(J.go i H/\ys.length<sizeLine/\∀x H',J.yld i H x H'->tD K C e (τ ++ [some x]) H' fun y H2=>∃m',m'<m/\W (i+1) m' (ys ++ [y]) H2) :=
 comp_turnsG R1 hx hgo hst (fun j H v H' d s y e=>by obtain⟨q,i⟩:=hy j H v H' d s y e;subst q;exact⟨jc.refl _,i⟩) w
theorem comp_turnsFF{K:PySem.W.Frag}{J:It}{xs:List D}{c e:Ex}{τ:L2.St}{H1:Hp}{σ:Sto}{O:List Addr}{Q:VK}(R1:Reps K O H1 σ τ)(hx:xs.length<=lim)
 (hgo:∀j H,jc H1 H->j<xs.length->J.go j H) (hst:∀j H,jc H1 H->xs.length<=j->J.stop j H)
 (hy:∀j H v H' d,jc H1 H->J.yld j H v H'->xs[j]?=some d->H'=H/\Is K (minus H O) d v)
 (w:qk (fun d Q=>wpE C c (σ ++ [some (.sh d)]) (isB Q)) (fun d Q=>wpE C e (σ ++ [some (.sh d)]) Q) xs fun ys=>WdF K O H1 Q (.lst ys)) :
 ∃W:Nat->Nat->List V->Hp->Prop,(∃m,W 0 m [] H1)/\∀i m ys H,W i m ys H ->
  (J.stop i H/\ys.length<=sizeLine/\∀p,H p=none->Q (.ref p) (upd H p (.lst ys)))\/(J.go i H/\ys.length<sizeLine/\∀x H',J.yld i H x H'->tDT K C c (τ ++ [some x]) H' fun b H1 =>
   if b=true then tD K C e (τ ++ [some x]) H1 fun y H2=>∃m',m'<m/\W (i+1) m' (ys ++ [y]) H2 else ∃m',m'<m/\W (i+1) m' ys H1):=by
 refine⟨fun j m ys H=>m=xs.length-j/\j<=xs.length/\jc H1 H/\∃ds,ds.length<=j/\Iss K (minus H O) ds ys/\qk (fun d Q=>wpE C c (σ ++ [some (.sh d)]) (isB Q)) (fun d Q=>wpE C e (σ ++ [some (.sh d)]) Q) (xs.drop j) fun rest=>WdF K O H1 Q (.lst (ds++rest)),
  ⟨_,rfl,Nat.zero_le _,jc.refl _,[],Nat.le_refl _,by unfold Iss;rfl,by simpa using w⟩,?_⟩
 rintro j m ys H ⟨rfl,hj,sm,ds,hd,is,w⟩;have hl:ys.length=ds.length:=is.length;have R:=R1.mono sm
 have hlim:lim<=sizeLine:=by decide
 by_cases hlt:j<xs.length
 ·refine .inr ⟨hgo j H sm hlt,by lia,fun x H' y=>?_⟩;obtain⟨rfl,ix⟩:=hy j H x H' xs[j] sm y (List.getElem?_eq_getElem hlt);rw[List.drop_eq_getElem_cons hlt]at w;rw[qk]at w;refine⟨_,O,R.snoc ix,ja c (fun cd=>jW fun b wb H2 s2=>?_) w⟩
  cases b with
  |true =>
   refine⟨_,O,(R.snoc ix).mono s2,ja e (fun yd wy v H3 s3 i3=>?_) wb⟩;refine⟨xs.length-(j+1),by lia,rfl,hlt,(sm.trans s2).trans s3,ds ++ [yd],by simp;lia,(Iss.mono (jd (s2.trans s3)) ds is).snoc i3,?_⟩
   simpa using wy
  |false=>exact⟨xs.length-(j+1),by lia,rfl,hlt,sm.trans s2,ds,by lia,Iss.mono (jd s2) ds is,wb⟩
 ·have e1:j=xs.length:=by lia
  refine .inl ⟨hst _ H sm (by lia),by lia,fun p hp=>?_⟩;rw[List.drop_eq_nil_of_le (by lia)]at w;rw[qk]at w;rw[List.append_nil]at w
  have h1:H1 p=none:=by
   cases q:H1 p with
   |none=>rfl
   |some o=>rw[sm p o q]at hp;cases hp
  exact w ds p _ ys rfl (sm.trans (jB hp _)) h1 (jm ..) (Iss.mono (kL (jB hp _) hp) ds is)
theorem comp_turnsF{K:PySem.W.Frag}{J:It}{xs:List D}{c e:Ex}{τ:L2.St}{H1:Hp}{σ:Sto}{O:List Addr}{Q:VK}(R1:Reps K O H1 σ τ)(hx:xs.length<=lim)
 (hgo:∀j H,jc H1 H->j<xs.length->J.go j H) (hst:∀j H,jc H1 H->xs.length<=j->J.stop j H)
 (hy:∀j H v H' d,jc H1 H->J.yld j H v H'->xs[j]?=some d->H'=H/\Is K (minus H O) d v)
 (w:qk (fun d Q=>wpE C c (σ ++ [some (.sh d)]) (isB Q)) (fun d Q=>wpE C e (σ ++ [some (.sh d)]) Q) xs fun ys=>Wd K O H1 Q (.lst ys)) :
 ∃W:Nat->Nat->List V->Hp->Prop,(∃m,W 0 m [] H1)/\∀i m ys H,W i m ys H ->
  (J.stop i H/\ys.length<=sizeLine/\∀p,H p=none->Q (.ref p) (upd H p (.lst ys)))\/(J.go i H/\ys.length<sizeLine/\∀x H',J.yld i H x H'->tDT K C c (τ ++ [some x]) H' fun b H1 =>
   if b=true then tD K C e (τ ++ [some x]) H1 fun y H2=>∃m',m'<m/\W (i+1) m' (ys ++ [y]) H2 else ∃m',m'<m/\W (i+1) m' ys H1) :=
 comp_turnsFF R1 hx hgo hst hy (qC (p:=fun d Q=>wpE C c (σ ++ [some (.sh d)]) (isB Q)) (f:=fun d Q=>wpE C e (σ ++ [some (.sh d)]) Q) (fun d _ _ hq=>ja c fun _=>jW hq) (fun d _ _ hq=>ja e hq) _ (fun ys wy=>wy.wdF R1.own) w)
end
end Z
namespace Z
open PySem PySem.Spec PyProof.Rows L2
noncomputable def blts:List Str:=["abs","max","min","len","int","list","isinstance","range","bool","tuple","str","sum","all","zip","any","divmod","reversed","sorted","enumerate"]
structure Ok (X:Cx) (k:Ck) (C:Cfg):Prop where
 N:X.N=k.N
 nd:X.N.Nodup
 names:X.env.scope.names=k.names
 kd:X.env.scope.kind=.function
 calm:X.calm=true
 xe:X.xe=fun _ _=>False
 units:X.A.units+100<cLine
 fns:∀i x n,k.fns[i]?=some (x,n)->∃f fd ps lv,FnOk X.prog X.w X.K X.mg X.base (CXz X.prog X.w X.mg) lv f fd ps (spD X.K n (C.fr i) (C.f2 i) (C.ct i))/\Room lv X.A/\X.mg x=some (.ref f)/\PySem.W.keepIn X.K (.ref f)=true/\ud X.K fd ps []
 cns:∀i x,k.cns[i]?=some x->∃u v,X.mg x=some u/\jM v u/\∀S,Is X.K S (C.cn i) v
 blt:∀x∈blts,X.mg x=none
 E:∀x,¬ C.E x
noncomputable def PJ(X:Cx)(C:Cfg)(xs:List Ex)(es:List Expr):Prop:=∀(pins:List (Addr×Obj)) (s:Shared) (τ:L2.St) (H:Hp) (out:List Nat) (Q:VK),Inv X pins τ H s->out.length<=sizeLine ->
 (∃σ O,Reps X.K O H σ τ/\xI C xs out σ fun l=>∀H',jc H H'->Q (.str ⟨l.toArray⟩) H')->wpAny (model X.prog X.w) X.A (joinParts ⟨out.toArray⟩ (evalEach es X.env)) (EP X pins τ Q) X.xe s
section
variable {X:Cx} {k:Ck} {C:Cfg}
theorem jP{x:Ex}{e:Expr}(h:chkE k x e=true)(es:List Expr)(env:Env):starEach (e::es) env=(false,eval e env)::starEach es env:=by
 have p:=ut h
 cases e<;>first|rfl|exact Bool.noConfusion p
theorem qd:∀ {xs:List Ex} {es:List Expr} (h:qm k xs es=true) (pos:Pos) (env:Env),(backTo pos (starEach es env)).any (·.1)=false
 |[],es,h,pos,env=>by rw[kg h];rfl
 |x::xs,es,h,pos,env=>by
  obtain⟨y,ys,rfl,h1,h2⟩:=j0 h;rw[jP h1];have:=qd h2 pos env;simpa[backTo]using this
theorem zu:∀ {xs:List Ex} {es:List Expr} (h:qm k xs es=true),xs.length=es.length
 |[],es,h=>by rw[kg h];rfl
 |x::xs,es,h=>by
  obtain⟨y,ys,rfl,h1,h2⟩:=j0 h;simp[zu h2]
theorem xk{C:Cfg}:∀(es:List Ex) {σ:Sto} {Q:List D->Prop},wpEs C es σ Q->wpEs C es σ fun ds=>ds.length=es.length/\Q ds
 |[],σ,Q,w=>by unfold wpEs at *;exact⟨rfl,w⟩
 |e::es,σ,Q,w=>by
  unfold wpEs at *;exact ja e (fun d wd=>jq es (fun ds ⟨h1,h2⟩=>⟨by simp[h1],h2⟩) (xk es wd)) w
theorem Ok.vis(ok:Ok X k C){i:Nat}{x:Str}(h:k.loc i x=true):X.N[i]?=some x/\L2.Loc X.env.scope x/\(x == ("__debug__":Str))=false/\(x == ("__classdict__":Str))=false:=by
 unfold Ck.loc at h;simp only[Bool.and_eq_true,Bool.or_eq_true,decide_eq_true_eq,Bool.not_eq_true']at h;obtain⟨⟨⟨h1,h2⟩,h3⟩,h4⟩:=h;refine⟨by rw[ok.N];exact h1,?_,h3,h4⟩;unfold L2.Loc;rw[ok.names];exact h2
theorem Ok.gl(ok:Ok X k C){x:Str}(h:k.gl x=true):Gl X x/\(x == ("__debug__":Str))=false/\x≠("__name__":Str):=by
 unfold Ck.gl at h;simp only[Bool.and_eq_true,decide_eq_true_eq,Bool.not_eq_true']at h;exact⟨by unfold Gl Env.kindOf;rw[ok.names];exact h.1.1,h.1.2,h.2⟩
theorem loc_vis{sc:Scope}{x:Str}(h:L2.Loc sc x):Vis sc x:=h.elim .inl fun z=>.inr (.inl z)
theorem KA{a b:Ex}{f:D->D->(D->Prop)->Prop}(hm:∀ {x y:D} {Q Q':D->Prop},(∀d,Q d->Q' d)->f x y Q->f x y Q'){τ:L2.St}{H:Hp}{Q:VK}{σ:Sto}{O:List Addr}{K:PySem.W.Frag}(R:Reps K O H σ τ)
 (w:wpE C a σ fun x=>wpE C b σ fun y=>f x y (Wd K O H Q)):tOp (rD K f) (tD K C a) (tD K C b) τ H Q :=
 ⟨σ,O,R,ja a (fun x wx xv H1 s1 i1=>⟨σ,O,R.mono s1,ja b (fun y wy yv H2 s2 i2=>⟨O,x,y,(R.mono (s1.trans s2)).own,Is.mono (jd s2) x i1,i2,hm (fun d=>Wd.mono (s1.trans s2)) wy⟩) wx⟩) w⟩
theorem tD_chain{a b c:Ex}{o p:COp}{τ:L2.St}{H:Hp}{Q:VK}{σ:Sto}{O:List Addr}{K:PySem.W.Frag}(R:Reps K O H σ τ)(w:wpE C (.chain o p a b c) σ (Wd K O H Q)) :
 tChain (rD K (kT o)) (rD K (kT p)) (tD K C a) (tD K C b) (tD K C c) τ H Q:=by
 refine⟨σ,O,R,ja a (fun x wx xv H1 s1 i1=>⟨σ,O,R.mono s1,ja b (fun y wy yv H2 s2 i2=>⟨O,x,y,(R.mono (s1.trans s2)).own,Is.mono (jd s2) x i1,i2,kR (fun z wz zv H3 s3 i3=>?_) wy⟩) wx⟩) w⟩
 cases z with
 |bl k =>
  refine⟨k,kI i3,?_⟩;have s13:=s1.trans (s2.trans s3)
  cases k with
  |true=>exact⟨σ,O,R.mono s13,ja c (fun u wu uv H4 s4 i4=>⟨O,y,u,(R.mono (s13.trans s4)).own,Is.mono (jd (s3.trans s4)) y i2,i4,kR (fun d=>Wd.mono (s13.trans s4)) wu⟩) wz⟩
  |false=>exact wz _ _ s13 (jH _)
 |_=>exact wz.elim
theorem tD_test{x:Ex}{τ:L2.St}{H:Hp}{Q:Bool->Hp->Prop}{K:PySem.W.Frag}(h:tDT K C x τ H Q):tB (tD K C x) τ H Q:=by
 obtain⟨σ,O,R,w⟩:=h;refine⟨σ,O,R,ja x (fun d wd v H1 s1 i1=>?_) w⟩
 cases d with
 |bl c=>exact⟨c,kI i1,wd H1 s1⟩
 |_=>exact wd.elim
noncomputable def mtI(x:V)(xs:List V)(H:Hp)(Q:VK):Prop:=xs=[]/\∃i,x=.int i/\Q (.int (bits i)) H
theorem mt_bits':MtR X "int.bit_length" mtI:=by
 rintro pins s τ H x xs v us Q I rx rs ⟨rfl,i,rfl,q⟩;cases rs;obtain⟨t,rfl⟩:=rx;exact call_int_bit_length ⟨.int _,H,I.tok _,⟨_,rfl⟩,q⟩
noncomputable def isiR(K:PySem.W.Frag)(t:Ty)(n:String)(vs:List V)(H:Hp)(Q:VK):Prop:=∃O d v,vs=[v,.ty n]/\Is K (minus H O) d v/\Wd K O H Q (.bl (tyD t d))
noncomputable def Ty.s:Ty->String
 |.int=>"int"
 |.bool=>"bool"
 |.tuple=>"tuple"
 |.list=>"list"
 |.str=>"str"
theorem call_isiR{t:Ty}:k8 X (.builtin "isinstance") (isiR X.K t t.s):=by
 rintro pins s τ H vs us Q I r ⟨O,d,v,rfl,i,w⟩;obtain⟨u,w',rfl,r1,r2⟩:=vals2 r
 have e:w'=t.val:=by
  have r2':w'=Value.type t.s:=r2
  rw[r2'];cases t<;>rfl
 subst e
 exact call_isi I (Is.mono (je H O) d i) r1 fun tk=>kU (I.tok tk) w (jH _) rfl
theorem ty_boot(t:Ty):bootBuiltins t.nm=some (.type t.s):=by
 cases t
 ·exact PyProof.Rows.boot_int
 ·exact PyProof.Rows.boot_bool
 ·exact PyProof.Rows.boot_tuple
 ·exact PyProof.Rows.boot_list
 ·exact PyProof.Rows.boot_str
theorem ty_blt(t:Ty):t.nm∈blts:=by cases t<;>decide
theorem bi_blt(f:Bi):f.nm∈blts:=by cases f<;>decide
theorem noMark{op:CmpOp}{x:Ex}{e:Expr}(h:chkE k x e=true):behindInMarks op e=false:=by
 have p:=ut h
 cases e<;>first|rfl|exact Bool.noConfusion p
theorem ixPlain{e:Expr}(h:isSlice e=false):PlainIx e:=by
 intro o i
 cases e<;>first|rfl|(exact Bool.noConfusion h)
theorem Kc{o:Expr}{n:Str}{env:Env}(h:plainO o=true):attributeBase o n env (eval o env)=eval o env:=by
 unfold attributeBase;split
 ·exact Bool.noConfusion h
 ·rfl
theorem jT{x:Ex}{e:Expr}(p:PE X e (tD X.K C x))(he:∀whole,isTrue e X.env whole=(do let v <- whole;standAt e.pos;holding [v] (truthy v))):PT X e (tDT X.K C x):=PT.imp (fun _ _ _=>tD_test) (pt_val p he)
theorem pw_of{op:BoolOp}{vs:List Expr}{pos:Pos}{t:TT}(h:PT X (.BoolOp op vs pos) t):PW X (.BoolOp op vs pos) t:=fun whole pins s τ H Q I w=>h pins s τ H Q I w
noncomputable def Qi(cells:List (Str×Addr)):List (Str×NameKind)->List (Str×Addr)->List (Str×Addr)
 |[],cs=>cs
 |(n,kd)::r,cs=>Qi cells r (if kd == .free then (match cells.lookup n with|some c=>(n,c)::cs|none=>cs) else cs)
theorem clOf_sub{cells:List (Str×Addr)}:∀(l:List (Str×NameKind)) (cs:List (Str×Addr)),(∀y c,(y,c)∈cs->cells.lookup y=some c)->∀y c,(y,c)∈Qi cells l cs->cells.lookup y=some c
 |[],cs,h,y,c,m=>h y c m
 |(n,kd)::r,cs,h,y,c,m=>by
  refine clOf_sub r _ (fun z d hz=>?_) y c m;split at hz
  ·split at hz
   ·next q =>
    rcases List.mem_cons.mp hz with e|e
    ·cases e;exact q
    ·exact h z d e
   ·exact h z d hz
  ·exact h z d hz
theorem clOf_old{cells:List (Str×Addr)}:∀(l:List (Str×NameKind)) (cs:List (Str×Addr)) (z:Str×Addr),z∈cs->z∈Qi cells l cs
 |[],cs,z,h=>h
 |(n,kd)::r,cs,z,h=>by
  refine clOf_old r _ z ?_;split
  ·split
   ·exact List.mem_cons_of_mem _ h
   ·exact h
  ·exact h
theorem clOf_has{cells:List (Str×Addr)}:∀(l:List (Str×NameKind)) (cs:List (Str×Addr)) (y:Str) (c:Addr),(y,.free)∈l->cells.lookup y=some c->(y,c)∈Qi cells l cs
 |[],cs,y,c,h,e=>nomatch h
 |(n,kd)::r,cs,y,c,h,e=>by
  rcases List.mem_cons.mp h with z|z
  ·cases z;refine clOf_old r _ _ ?_;simp only[beq_self_eq_true,if_true,e];exact List.mem_cons_self ..
  ·exact clOf_has r _ y c z e
theorem vR{α:Type}{l:List (Str×α)}{y:Str}{c:α}(h:l.lookup y=some c):(y,c)∈l:=PySem.mem_of_lookup h
theorem mem_lookup{α:Type}{l:List (Str×α)}{y:Str}{c:α}(h:(y,c)∈l):∃d,l.lookup y=some d:=by
 induction l with
 |nil=>cases h
 |cons a r ih =>
  obtain⟨n,b⟩:=a;by_cases e:y=n
  ·subst e;exact⟨b,by simp[List.lookup_cons]⟩
  ·rcases List.mem_cons.mp h with z|z
   ·cases z;exact absurd rfl e
   ·obtain⟨d,q⟩:=ih z;refine⟨d,?_⟩
    have:(y == n)=false:=by simpa using e
    rw[List.lookup_cons,this];exact q
theorem clos_of{env:Env}{sc:Scope}(h:∀y∈sc.names,y.2=.free->∃c,env.cells.lookup y.1=some c):closureFor sc env=pure (Qi env.cells sc.names []):=by
 simp only[closureFor];generalize ([]:List (Str×Addr))=cs;generalize sc.names=l at h
 induction l generalizing cs with
 |nil=>rfl
 |cons a r ih =>
  obtain⟨n,kd⟩:=a
  have ih':=fun cs=>ih cs fun y hy=>h y (List.mem_cons_of_mem _ hy)
  rw[List.forIn_cons];by_cases e:kd=.free
  ·subst e;obtain⟨c,hc⟩:=h (n,.free) (List.mem_cons_self ..) rfl
   have e1:cellOf env n=pure c:=by unfold cellOf;rw[hc]
   simp only[beq_self_eq_true,if_true,e1,Qi];rw[hc];exact ih' _
  ·have e1:(kd == NameKind.free)=false:=by simpa using e
   simp only[e1,Bool.false_eq_true,if_false,Qi];exact ih' _
theorem Ok.rel(ok:Ok X k C)(sc:Scope):(relabel sc X.env).names=relab sc.names k.names:=by
 unfold relabel relab Env.kindOf;rw[ok.names,ok.kd];simp
theorem Ok.comp_nE(ok:Ok X k C){x:Str}{sc:Scope}(h:yp k x sc=true):dum X.N ∉ X.N:=by
 unfold yp at h;simp only[Bool.and_eq_true,Bool.not_eq_true',List.contains_eq_mem,decide_eq_false_iff_not]at h;rw[ok.N];exact h.2
theorem vG{names out:List (Str×NameKind)}{y:Str}{kd:NameKind}(h:(relab names out).lookup y=some kd):∃kd',(y,kd')∈names/\(kd=kd'\/(kd'=.free/\kd=.cell)):=by
 have m:=vR h;unfold relab at m;obtain⟨⟨n,q⟩,hq,e⟩:=List.mem_map.mp m;simp only at e;split at e
 ·next hc =>
  simp only[Bool.and_eq_true,beq_iff_eq]at hc;cases e;exact⟨q,hq,.inr ⟨hc.1,rfl⟩⟩
 ·cases e;exact⟨kd,hq,.inl rfl⟩
theorem Ok.comp(ok:Ok X k C){x:Str}{sc:Scope}(h:yp k x sc=true)(xo:X.Ok):∃cl,CompOk X x sc cl:=by
 unfold yp at h;simp only[Bool.and_eq_true,Bool.not_eq_true',List.all_eq_true,decide_eq_true_eq,Bool.or_eq_true,beq_iff_eq,beq_eq_false_iff_ne,ne_eq]at h;obtain⟨⟨⟨⟨⟨⟨⟨⟨h1,h2⟩,h3⟩,h4⟩,h5⟩,h6⟩,h7⟩,h8⟩,h9⟩:=h
 have hc:∀y∈sc.names,y.2=.free->∃c,X.env.cells.lookup y.1=some c:=fun y hy e=>by
  refine xo.has y.1 ?_;unfold Env.kindOf;rw[ok.names];rcases h6 y hy with(z|z)|z
  ·exact absurd e z
  ·exact .inl z
  ·exact .inr z
 have sub:∀y c,(Qi X.env.cells sc.names []).lookup y=some c->X.env.cells.lookup y=some c:=fun y c e=>clOf_sub _ _ (fun _ _ z=>absurd z (by simp)) y c (vR e)
 refine⟨Qi X.env.cells sc.names [],clos_of hc,h1,h2,fun y hy e=>?_,h4,fun y e=>?_,fun y hyx e=>?_,sub,by rw[ok.N];exact h7,by rw[ok.names,ok.N];exact h8⟩
 ·rcases h3 y hy with z|z
  ·exact absurd e z
  ·exact z
 ·rw[ok.rel]at e;obtain⟨kd,m,z|⟨_,z⟩⟩:=vG e
  ·rcases h5 _ m with(q|q)|q
   ·exact absurd z.symm q
   ·exact .inl q
   ·refine .inr ⟨?_,by rw[ok.N];exact q.2⟩;rw[ok.N];simpa using q.1
  ·cases z
 ·rw[ok.rel]at e
  have m:(y,NameKind.free)∈sc.names:=by
   rcases e with e|e
   ·obtain⟨kd,m,z|⟨z,_⟩⟩:=vG e
    ·exfalso;rw[<- z]at m
     have q:(y,NameKind.cell)∈sc.names.filter fun y=>y.2 == .cell:=List.mem_filter.mpr ⟨m,rfl⟩
     rw[h2]at q;split at q
     ·simp only[List.mem_cons,Prod.mk.injEq,List.not_mem_nil,or_false]at q;exact hyx q.1
     ·cases q
    ·rw[<- z];exact m
   ·obtain⟨kd,m,z|⟨_,z⟩⟩:=vG e
    ·rw[z];exact m
    ·cases z
  obtain⟨c,hcc⟩:=hc _ m rfl;have k6:=h6 _ m;refine⟨?_,?_,mem_lookup (clOf_has _ _ y c m hcc)⟩
  ·unfold Vis;rw[ok.names];rcases k6 with(z|z)|z
   ·exact absurd rfl z
   ·exact .inr (.inl z)
   ·exact .inr (.inr z)
  ·rw[ok.names];rcases k6 with(z|z)|z
   ·exact absurd rfl z
   ·intro q;simp only at z;rw[z]at q;cases q
   ·intro q;simp only at z;rw[z]at q;cases q
theorem Ok.block(ok:Ok X k C){x:Str}{sc:Scope}{cl:List (Str×Addr)}(h:yp k x sc=true)(co:CompOk X x sc cl)(s:Shared)(H:Hp)(fp:List Addr)(Ca:Addr):Ok (qo X s H fp x sc cl Ca) (k.block x sc) C where
 N:=by show qg X.N x=qg k.N x;rw[ok.N]
 nd:=Ka ok.nd (ok.comp_nE h) co.ne
 names:=ok.rel sc
 kd:=co.kind
 calm:=ok.calm
 xe:=rfl
 units:=ok.units
 fns:=ok.fns
 cns:=ok.cns
 blt:=ok.blt
 E:=ok.E
theorem u9{K:PySem.W.Frag}{a c b:Ex}{τ:L2.St}{H:Hp}{Q:VK}(w:tD K C (.compF a c b) τ H Q):vC (iSeq K (tD K C a)) (tDT K C c) (tD K C b) τ H Q:=by
 obtain⟨σ,O,R,w⟩:=w;refine⟨σ,O,R,ja a (fun d wd v H1 s1 i1=>?_) w⟩;obtain⟨xs,e1,hx,wd⟩:=wd;have wd':=qC (p:=fun d Q=>wpE C c (σ ++ [some (.sh d)]) (isB Q)) (f:=fun d Q=>wpE C b (σ ++ [some (.sh d)]) Q) (fun d _ _ hq=>ja c fun _=>jW hq) (fun d _ _ hq=>ja b hq) _ (fun ys (wy:Wd K O H Q (.lst ys))=>wy.mono s1) wd;obtain⟨J,hw,g1,g2,g3⟩:=walk_of e1 i1;exact⟨J,hw,comp_turnsF (R.mono s1) hx (fun j H2 s2=>g1 j H2 O (jd s2)) (fun j H2 s2=>g2 j H2 O (jd s2)) (fun j H2 v H' d s2=>g3 j H2 O v H' d (jd s2)) wd'⟩
noncomputable def tPt(K:PySem.W.Frag)(C:Cfg)(l:Ex):TO:=fun τ H R=>∃σ O,Reps K O H σ τ/\prt (kD l) (fun Q=>wpE C l σ Q) fun o=>∀H',jc H H'->R o H'
theorem po_D{l:Ex}{lo:Option Expr}(h:(lo.isNone == kD l)=true)(p:∀x,lo=some x->kD l=false->PE X x (tD X.K C l)):PO X lo (tPt X.K C l):=by
 cases lo with
 |none =>
  have e:kD l=true:=by simpa using h
  intro pins s τ H R I w;obtain⟨σ,O,r,w⟩:=w;unfold prt at w;rw[if_pos e]at w
  exact po_none pins s τ H R I (w _ (jc.refl H))
 |some x =>
  have e:kD l=false:=by simpa using h
  intro pins s τ H R I w;refine po_some (p x rfl e) pins s τ H R I ?_;obtain⟨σ,O,r,w⟩:=w;unfold prt at w;rw[if_neg (by rw[e];decide)]at w;refine⟨σ,O,r,ja l (fun d wd v H1 s1 i1=>?_) w⟩
  cases d<;>first|exact wd.elim|(cases jk i1;exact⟨_,rfl,wd _ s1⟩)
theorem Iss.drop{K:PySem.W.Frag}{S:Hp}:∀ {ds:List D} {vs:List V} (n:Nat),Iss K S ds vs->Iss K S (ds.drop n) (vs.drop n)
 |ds,vs,0,i=>i
 |[],vs,n+1,i=>by
  have:vs=[]:=by have:=i.length;simpa using this
  subst this
  simpa using i
 |d::ds,vs,n+1,i=>by
  unfold Iss at i;obtain⟨v,ws,rfl,_,i2⟩:=i;simpa using Iss.drop n i2
theorem Iss.take{K:PySem.W.Frag}{S:Hp}:∀ {ds:List D} {vs:List V} (n:Nat),Iss K S ds vs->Iss K S (ds.take n) (vs.take n)
 |ds,vs,0,i=>by simp only[List.take_zero];unfold Iss;rfl
 |[],vs,n+1,i=>by
  have:vs=[]:=by have:=i.length;simpa using this
  subst this
  simpa using i
 |d::ds,vs,n+1,i=>by
  unfold Iss at i;obtain⟨v,ws,rfl,i1,i2⟩:=i;simp only[List.take_succ_cons];unfold Iss;exact⟨v,_,rfl,i1,Iss.take n i2⟩
theorem sIx_eq(n d:Nat)(o:Option Int):sIx n d o=HT.sIx n d o:=by cases o<;>rfl
theorem Iss.cut{K:PySem.W.Frag}{S:Hp}{ds:List D}{vs:List V}(lo hi:Option Int)(i:Iss K S ds vs):Iss K S (cutD ds lo hi) (cutV vs lo hi):=by
 have l:=i.length;unfold cutD cutV;rw[sIx_eq,sIx_eq,<- l];exact(i.drop _).take _
mutual
theorem sB:∀ {X:Cx} {k:Ck} (ok:Ok X k C) (x:Ex) (e:Expr),chkE k x e=true->PE X e (tD X.K C x)/\PT X e (tDT X.K C x)
 |X,k,ok,.var i,e,h=>by
  replace h:=jb h;obtain⟨x,hx,h⟩:=h;obtain⟨pos,rfl⟩:=jt hx;obtain⟨h1,h2,h3,h4⟩:=ok.vis h
  have p:PE X (.Name x pos) (tD X.K C (.var i)):=by
   refine PE.imp (fun τ H Q w=>?_) (qq h1 (loc_vis h2) h3 h4);obtain⟨σ,O,R,w⟩:=w;rw[wE_var]at w
   cases g:getS σ i with
   |none=>rw[g]at w;exact w.elim
   |some z =>
    rw[g]at w
    cases z with
    |sh d =>
     obtain⟨v,e1,e2⟩:=R.sh i d g
     exact⟨v,e1,w v H (jc.refl H) e2⟩
    |ow ds=>exact w.elim
    |ot _=>exact w.elim
  exact⟨p,jT p fun _=>rfl⟩
 |X,k,ok,.cst d,e,h=>by
  replace h:=jb h;obtain⟨c,hx,h⟩:=h;obtain⟨j,pos,rfl⟩:=kY hx
  have p:PE X (.Constant c j pos) (tD X.K C (.cst d)):=by
   cases d with
   |non =>
    cases c<;>first|exact Bool.noConfusion h|skip
    exact PE.imp (fun τ H Q ⟨σ,O,R,w⟩=>by exact w _ _ (jc.refl H) non_is) pe_non
   |bl b =>
    cases c<;>first|exact Bool.noConfusion h|skip
    have e:_=_:=eq_of_beq h;subst e
    exact PE.imp (fun τ H Q ⟨σ,O,R,w⟩=>by exact w _ _ (jc.refl H) (jH _)) pe_bl
   |int i =>
    cases c<;>first|exact Bool.noConfusion h|skip
    have e:_=_:=of_decide_eq_true h;subst e
    exact PE.imp (fun τ H Q ⟨σ,O,R,w⟩=>by exact w _ _ (jc.refl H) (jF _)) pe_int
   |str x =>
    cases c<;>first|exact Bool.noConfusion h|skip
    have h':=(Bool.and_eq_true _ _).mp h;have e:_=_:=of_decide_eq_true h'.1;subst e
    exact PE.imp (fun τ H Q ⟨σ,O,R,w⟩=>by exact w _ _ (jc.refl H) (j9 h'.2)) uG
   |tup xs=>cases c<;>exact Bool.noConfusion h
   |lst xs=>cases c<;>exact Bool.noConfusion h
  exact⟨p,jT p fun _=>rfl⟩
 |X,k,ok,.con i,e,h=>by
  replace h:=jb h;obtain⟨x,hx,h⟩:=h;obtain⟨pos,rfl⟩:=jt hx;rw[Bool.and_eq_true,decide_eq_true_eq]at h;obtain⟨u,v,h1,h2,h3⟩:=ok.cns i x h.1;obtain⟨g1,g2,g3⟩:=ok.gl h.2;have p:PE X (.Name x pos) (tD X.K C (.con i)):=PE.imp (fun τ H Q ⟨σ,O,R,w⟩=>by exact w _ _ (jc.refl H) (h3 _)) (K4 g1 h1 h2 g2)
  exact⟨p,jT p fun _=>rfl⟩
 |X,k,ok,.bin o a b,e,h=>by
  replace h:=jb h;obtain⟨⟨l,op,r⟩,hx,h⟩:=h;obtain⟨pos,rfl⟩:=KH hx;rw[Bool.and_eq_true,Bool.and_eq_true]at h;have p:PE X (.BinOp l op r pos) (tD X.K C (.bin o a b)):=PE.imp (t':=tD X.K C (.bin o a b)) (fun τ H Q ⟨σ,O,R,w⟩=>by exact KA (f:=xt o) JD R w) (pe_op (op_bin h.1.1) (sB ok a _ h.1.2).1 (sB ok b _ h.2).1)
  exact⟨p,jT p fun _=>rfl⟩
 |X,k,ok,.neg a,e,h=>by
  replace h:=jb h;obtain⟨⟨op,x⟩,hx,h⟩:=h;obtain⟨pos,rfl⟩:=asUn_ hx;rw[Bool.and_eq_true,decide_eq_true_eq]at h;obtain⟨ho,h⟩:=h;simp only at ho h;subst ho
  have p:PE X (.UnaryOp .USub x pos) (tD X.K C (.neg a)):=by
   refine PE.imp (fun τ H Q w=>?_) (pe_un un_neg (sB ok a _ h).1);obtain⟨σ,O,R,w⟩:=w;refine⟨σ,O,R,ja a (fun d wd v H1 s1 i1=>?_) w⟩
   cases d with
   |int i=>exact⟨i,jk i1,wd _ _ s1 (jF _)⟩
   |_=>exact wd.elim
  exact⟨p,jT p fun _=>rfl⟩
 |X,k,ok,.not a,e,h=>by
  replace h:=jb h;obtain⟨⟨op,x⟩,hx,h⟩:=h;obtain⟨pos,rfl⟩:=asUn_ hx;rw[Bool.and_eq_true,decide_eq_true_eq]at h;obtain⟨ho,h⟩:=h;simp only at ho h;subst ho;obtain⟨pa,ta⟩:=sB ok a _ h;refine⟨PE.imp (fun τ H Q w=>?_) (pe_not pa),PT.imp (fun τ H Q w=>?_) (pt_not ta)⟩
  ·obtain⟨σ,O,R,w⟩:=w;refine⟨σ,O,R,ja a (fun d wd v H1 s1 i1=>?_) w⟩
   cases d with
   |bl c=>exact⟨c,kI i1,wd _ _ s1 (jH _)⟩
   |_=>exact wd.elim
  ·obtain⟨σ,O,R,w⟩:=w;refine⟨σ,O,R,ja a (fun d wd=>?_) w⟩
   cases d with
   |bl c=>exact fun H' s'=>wd H' s'
   |_=>exact wd.elim
 |X,k,ok,.cmp o a b,e,h=>by
  replace h:=jb h;obtain⟨⟨l,ops,cs⟩,hx,h⟩:=h;obtain⟨pos,rfl⟩:=Jr hx;simp only[Bool.and_eq_true,decide_eq_true_eq]at h;obtain⟨⟨⟨⟨n1,n2⟩,h1⟩,h2⟩,h3⟩:=h
  match ops,n1,cs,n2,h1,h3 with
  |[op],_,[r],_,h1,h3 =>
   have h:(cOk o op r=true/\chkE k a l=true)/\chkE k b r=true:=⟨⟨h1,h2⟩,h3⟩
   have pa:=(sB ok a _ h.1.2).1;have pb:=(sB ok b _ h.2).1;refine⟨PE.imp (fun τ H Q w=>?_) (pe_cmpR (uT h.1.1 ok.units) pa pb (noMark h.2)),PT.imp (fun τ H Q w=>?_) (pt_cmpR (uT h.1.1 ok.units) pa pb (noMark h.2))⟩
   ·obtain⟨σ,O,R,w⟩:=w;exact KA (f:=kT o) kR R w
   ·obtain⟨σ,O,R,w⟩:=w;refine KA (f:=kT o) kR R (ja a (fun x wx=>ja b (fun y wy=>kR (o:=o) (fun d wd v H1 s1 i1=>?_) wy) wx) w)
    cases d with
    |bl c=>exact⟨c,kI i1,wd H1 s1⟩
    |_=>exact wd.elim
 |X,k,ok,.chain o p a b c,e,h=>by
  replace h:=jb h;obtain⟨⟨l,ops,cs⟩,hx,h⟩:=h;obtain⟨pos,rfl⟩:=Jr hx;simp only[Bool.and_eq_true,decide_eq_true_eq]at h;obtain⟨⟨⟨⟨⟨⟨n1,n2⟩,h1⟩,h2⟩,h3⟩,h4⟩,h5⟩:=h
  match ops,n1,cs,n2,h1,h2,h4,h5 with
  |[op,op'],_,[r,r'],_,h1,h2,h4,h5 =>
   have h:(((cOk o op r=true/\cOk p op' r'=true)/\chkE k a l=true)/\chkE k b r=true)/\chkE k c r'=true:=⟨⟨⟨⟨h1,h2⟩,h3⟩,h4⟩,h5⟩
   have pa:=(sB ok a _ h.1.1.2).1;have pb:=(sB ok b _ h.1.2).1;have pc:=(sB ok c _ h.2).1
   have hm:lastMarks [op,op'] [r,r']=false:=by
    show behindInMarks op' r'=false;exact noMark h.2
   refine⟨PE.imp (fun τ H Q w=>?_) (pe_chain (uT h.1.1.1.1 ok.units) (uT h.1.1.1.2 ok.units) pa pb pc hm),PT.imp (fun τ H Q w=>?_) (pt_chain (uT h.1.1.1.1 ok.units) (uT h.1.1.1.2 ok.units) pa pb pc hm)⟩
   ·obtain⟨σ,O,R,w⟩:=w;exact tD_chain R w
   ·obtain⟨σ,O,R,w⟩:=w;refine tD_chain R (ja _ (fun d wd v H1 s1 i1=>?_) w)
    cases d with
    |bl c=>exact⟨c,kI i1,wd H1 s1⟩
    |_=>exact wd.elim
 |X,k,ok,.and a b,e,h=>by
  replace h:=jb h;obtain⟨⟨op,vs,pos⟩,hx,h⟩:=h;have ee:=vi hx;subst ee;simp only[Bool.and_eq_true,decide_eq_true_eq]at h;obtain⟨⟨⟨ho,n1⟩,h1⟩,h2⟩:=h;subst ho
  match vs,n1,h1,h2 with
  |x::y::r,_,h1,h2 =>
   have h:chkE k a x=true/\(if r.isEmpty then chkE k b y else chkE k b (.BoolOp .And (y::r) pos))=true:=by
    refine⟨h1,?_⟩
    cases r with
    |nil=>simpa using h2
    |cons z r=>simpa using h2
   obtain⟨pa,ta⟩:=sB ok a _ h.1
   have hb:PE X (.BoolOp .And (y::r) pos) (tD X.K C b)/\PW X (.BoolOp .And (y::r) pos) (tDT X.K C b):=by
    cases r with
    |nil =>
     have:=sB ok b y h.2
     exact⟨pe_one this.1,pw_and1 this.2⟩
    |cons z r =>
     have:=sB ok b (.BoolOp .And (y::z::r) pos) h.2;exact⟨this.1,pw_of this.2⟩
   refine⟨PE.imp (fun τ H Q w=>?_) (pe_and pa hb.1),PT.imp (fun τ H Q w=>?_) (pw_and ta hb.2).pt⟩
   ·obtain⟨σ,O,R,w⟩:=w;refine⟨σ,O,R,ja a (fun d wd v H1 s1 i1=>?_) w⟩
    cases d with
    |bl c =>
     refine⟨c,kI i1,?_⟩
     cases c with
     |true=>exact⟨σ,O,R.mono s1,ja b (fun d=>Wd.mono s1) wd⟩
     |false=>exact wd _ _ s1 (jH _)
    |_=>exact wd.elim
   ·obtain⟨σ,O,R,w⟩:=w;refine⟨σ,O,R,ja a (fun d wd=>?_) w⟩
    cases d with
    |bl c =>
     intro H1 s1
     cases c with
     |true=>exact⟨σ,O,R.mono s1,ja b (fun d=>jW fun c q H' s'=>q H' (s1.trans s')) wd⟩
     |false=>exact wd H1 s1
    |_=>exact wd.elim
 |X,k,ok,.or a b,e,h=>by
  replace h:=jb h;obtain⟨⟨op,vs,pos⟩,hx,h⟩:=h;have ee:=vi hx;subst ee;simp only[Bool.and_eq_true,decide_eq_true_eq]at h;obtain⟨⟨⟨ho,n1⟩,h1⟩,h2⟩:=h;subst ho
  match vs,n1,h1,h2 with
  |x::y::r,_,h1,h2 =>
   have h:chkE k a x=true/\(if r.isEmpty then chkE k b y else chkE k b (.BoolOp .Or (y::r) pos))=true:=by
    refine⟨h1,?_⟩
    cases r with
    |nil=>simpa using h2
    |cons z r=>simpa using h2
   obtain⟨pa,ta⟩:=sB ok a _ h.1
   have hb:PE X (.BoolOp .Or (y::r) pos) (tD X.K C b)/\PW X (.BoolOp .Or (y::r) pos) (tDT X.K C b):=by
    cases r with
    |nil =>
     have:=sB ok b y h.2
     exact⟨pe_one this.1,pw_or1 this.2⟩
    |cons z r =>
     have:=sB ok b (.BoolOp .Or (y::z::r) pos) h.2;exact⟨this.1,pw_of this.2⟩
   refine⟨PE.imp (fun τ H Q w=>?_) (pe_or pa hb.1),PT.imp (fun τ H Q w=>?_) (pw_or ta hb.2).pt⟩
   ·obtain⟨σ,O,R,w⟩:=w;refine⟨σ,O,R,ja a (fun d wd v H1 s1 i1=>?_) w⟩
    cases d with
    |bl c =>
     refine⟨c,kI i1,?_⟩
     cases c with
     |false=>exact⟨σ,O,R.mono s1,ja b (fun d=>Wd.mono s1) wd⟩
     |true=>exact wd _ _ s1 (jH _)
    |_=>exact wd.elim
   ·obtain⟨σ,O,R,w⟩:=w;refine⟨σ,O,R,ja a (fun d wd=>?_) w⟩
    cases d with
    |bl c =>
     intro H1 s1
     cases c with
     |false=>exact⟨σ,O,R.mono s1,ja b (fun d=>jW fun c q H' s'=>q H' (s1.trans s')) wd⟩
     |true=>exact wd H1 s1
    |_=>exact wd.elim
 |X,k,ok,.ife c a b,e,h=>by
  replace h:=jb h;obtain⟨⟨t,x,y⟩,hx,h⟩:=h;obtain⟨pos,rfl⟩:=asIf_ hx;simp only[Bool.and_eq_true]at h;obtain⟨pc,tc⟩:=sB ok c _ h.1.1;obtain⟨pa,ta⟩:=sB ok a _ h.1.2;obtain⟨pb,tb⟩:=sB ok b _ h.2;refine⟨PE.imp (fun τ H Q w=>?_) (pe_ifExp tc pa pb),fun pins s τ H Q I w=>?_⟩
  ·obtain⟨σ,O,R,w⟩:=w;refine⟨σ,O,R,ja c (fun d wd=>?_) w⟩
   cases d with
   |bl k =>
    intro H1 s1
    cases k with
    |true=>exact⟨σ,O,R.mono s1,ja a (fun d=>Wd.mono s1) wd⟩
    |false=>exact⟨σ,O,R.mono s1,ja b (fun d=>Wd.mono s1) wd⟩
   |_=>exact wd.elim
  ·obtain⟨σ,O,R,w⟩:=w;refine isTrue_IfExp (thn (tc pins s τ H (fun d H1=>if d=true then tDT X.K C a τ H1 Q else tDT X.K C b τ H1 Q) I ⟨σ,O,R,ja c (fun d wd=>?_) w⟩) fun d s1 ⟨H1,I1,q1⟩=>?_)
   ·cases d with
    |bl k =>
     intro H1 s1
     cases k with
     |true=>exact⟨σ,O,R.mono s1,ja a (fun d=>jW fun c q H' s'=>q H' (s1.trans s')) wd⟩
     |false=>exact⟨σ,O,R.mono s1,ja b (fun d=>jW fun c q H' s'=>q H' (s1.trans s')) wd⟩
    |_=>exact wd.elim
   ·cases d with
    |true=>exact ta pins s1 τ H1 Q I1 q1
    |false=>exact tb pins s1 τ H1 Q I1 q1
 |X,k,ok,.tup es,e,h=>by
  replace h:=jb h;obtain⟨xs,hx,h⟩:=h;obtain⟨j,pos,rfl⟩:=v6 hx;rw[Bool.and_eq_true,decide_eq_true_eq]at h
  have p:PE X (.Tuple xs j pos) (tD X.K C (.tup es)):=by
   refine PE.imp (fun τ H Q w=>?_) (pe_tup (sA ok es xs h.2));obtain⟨σ,O,R,w⟩:=w;refine⟨σ,O,R,jq es (fun ds ⟨hl,wd⟩ vs H1 s1 i1=>⟨?_,fun p hp=>?_⟩) (xk es w)⟩
   ·rw[i1.length,hl,zu h.2,sizeLine_eq];lia
   ·exact wd _ _ (s1.trans (jB hp _)) (tup_is (yP (R.mono s1).own hp) (Iss.minus_upd hp i1))
  exact⟨p,jT p fun _=>rfl⟩
 |X,k,ok,.lst es,e,h=>by
  replace h:=jb h;obtain⟨xs,hx,h⟩:=h;obtain⟨pos,rfl⟩:=yG hx;rw[Bool.and_eq_true,decide_eq_true_eq]at h
  have p:PE X (.List xs pos) (tD X.K C (.lst es)):=by
   refine PE.imp (fun τ H Q w=>?_) (Ja (sA ok es xs h.2));obtain⟨σ,O,R,w⟩:=w;refine⟨σ,O,R,jq es (fun ds ⟨hl,wd⟩ vs H1 s1 i1=>⟨?_,fun p hp=>?_⟩) (xk es w)⟩
   ·rw[i1.length,hl,zu h.2,sizeLine_eq];lia
   ·exact wd _ _ (s1.trans (jB hp _)) (xf (SqL.of (yP (R.mono s1).own hp)) (Iss.minus_upd hp i1))
  exact⟨p,jT p fun _=>rfl⟩
 |X,k,ok,.slc a l u,e,h=>by
  replace h:=jb h;obtain⟨⟨v,i⟩,hx,h⟩:=h;obtain⟨pos,rfl⟩:=KP hx;replace h:=jb h;obtain⟨⟨lo,hi⟩,hs,h⟩:=h;obtain⟨p2,e2⟩:=asSlice_ hs;simp only at e2;subst e2;simp only[Bool.and_eq_true]at h;obtain⟨⟨⟨⟨ha,hl1⟩,hu1⟩,hl2⟩,hu2⟩:=h
  have pl:PO X lo (tPt X.K C l):=po_D hl1 fun x ex nl=>by
   subst ex;rw[nl]at hl2;exact(sB ok l x hl2).1
  have pu:PO X hi (tPt X.K C u):=po_D hu1 fun x ex nl=>by
   subst ex;rw[nl]at hu2;exact(sB ok u x hu2).1
  have p:PE X (.Subscript v (.Slice lo hi none p2) pos) (tD X.K C (.slc a l u)):=by
   refine PE.imp (fun τ H Q w=>?_) (pe_slice (sl_list.or sl_strR) (sB ok a v ha).1 pl pu);obtain⟨σ,O,R,w⟩:=w;refine⟨σ,O,R,ja a (fun d wd x H1 s1 i1=>⟨σ,O,R.mono s1,um (fun hq=>ja l hq) (fun lo' wl H2 s2=>⟨σ,O,(R.mono s1).mono s2,um (fun hq=>ja u hq) (fun hi' wh H3 s3=>?_) wl⟩) wd⟩) w⟩;have ss:=s2.trans s3
   cases d<;>first|exact wh.elim|skip
   ·obtain⟨rfl,o1⟩:=jN i1;refine .inr ⟨_,rfl,by rw[sizeLine_eq];exact wh.1,wh.2 _ _ (s1.trans ss) (j9 (k9 fun c hc=>qV o1 (List.mem_of_mem_drop (List.mem_of_mem_take hc))))⟩
   next xs =>
   obtain⟨b,vs,rfl,h1,h2⟩:=jD i1;refine .inl ⟨b,vs,rfl,(je _ _).seq ((jd ss).seq h1),fun p hp=>wh _ _ ((s1.trans ss).trans (jB hp _)) (xf (SqL.of (yP (((R.mono s1).mono s2).mono s3).own hp)) (Iss.minus_upd hp (Iss.cut lo' hi' (Iss.mono (jd ss) xs h2))))⟩
  exact⟨p,jT p fun _=>rfl⟩
 |X,k,ok,.sm o a b,e,h=>by
  replace h:=jb h;obtain⟨⟨fe,xs,ks,cp⟩,hc,h⟩:=h;have ee:=yg hc;subst ee;simp only[Bool.and_eq_true,decide_eq_true_eq,List.isEmpty_iff]at h;obtain⟨⟨⟨hk,hl1⟩,hat⟩,he⟩:=h;replace hat:=jb hat;obtain⟨⟨ob,at',ap⟩,hy,hat⟩:=hat;have ee:=x8 hy;subst ee;simp only[Bool.and_eq_true,decide_eq_true_eq]at hat;obtain⟨⟨⟨ha1,ha2⟩,ha3⟩,ha4⟩:=hat;subst ha1 hk;obtain⟨y,rfl⟩:=k7 hl1;have he:chkE k b y=true:=he
  have p:PE X (.Call (.Attribute ob o.nm ap) [y] [] cp) (tD X.K C (.sm o a b)):=by
   obtain⟨id,m1,m2,m3⟩:=mt_sm (X:=X) o;refine PE.imp (fun τ H Q w=>?_) (pe_bm PySem.F.plainAttrs_str m1 m2 m3 (sB ok a ob ha4).1 (ju (sB ok b y he).1 j6 (jP he _ _)) (Kc ha2) (by rw[jP he];rfl) ha3 (jP he _ _) rfl);obtain⟨σ,O,R,w⟩:=w;refine⟨σ,O,R,ja a (fun d wd x H1 s1 i1=>?_) w⟩
   cases d<;>first|exact wd.elim|skip
   obtain⟨rfl,ox⟩:=jN i1;refine⟨rfl,σ,O,R.mono s1,ja b (fun d2 wd2 x2 H2 s2 i2=>?_) wd⟩
   cases o<;>cases d2<;>first|exact wd2.elim|skip
   ·obtain⟨i,r,e,q⟩:=wd2;obtain⟨rfl,oy⟩:=jN i2;exact⟨_,_,i,r,rfl,rfl,e,q _ _ (s1.trans s2) (jF _)⟩
   ·obtain⟨ss,⟨hx,rfl,hl⟩,q⟩:=wd2;obtain⟨c,vs,rfl,h1,h2⟩:=jD i2;have hs:=strs_ok h2;cases ug h2
    exact⟨_,c,ss,rfl,rfl,hx,(je _ _).seq h1,hl,q _ _ (s1.trans s2) (j9 (k9 fun z hz=>by
     obtain⟨l,hl,hz⟩:=List.mem_flatten.mp hz;obtain⟨t,ht,rfl⟩:=List.mem_map.mp hl
     exact qV (hs t ht) hz))⟩
   ·obtain⟨⟨h1,h2⟩,q⟩:=wd2;obtain⟨rfl,oy⟩:=jN i2;exact⟨_,_,rfl,rfl,h1,by rw[sizeLine_eq];exact h2,fun p hp=>q _ _ ((s1.trans s2).trans (jB hp _)) (tup_is (yP ((R.mono s1).mono s2).own hp) (part_is ox oy))⟩
  exact⟨p,jT p fun _=>rfl⟩
 |X,k,ok,.fst es,e,h=>by
  replace h:=jb h;obtain⟨vs,hx,h⟩:=h;obtain⟨pos,rfl⟩:=asJoin_ hx;simp only[Bool.and_eq_true,decide_eq_true_eq]at h;have pj:=sJ ok es vs h.2
  have p:PE X (.JoinedStr vs pos) (tD X.K C (.fst es)):=by
   intro pins s τ H Q I w;obtain⟨σ,O,R,w⟩:=w
   match vs,h.1,pj with
   |v1::v2::rest,_,pj =>
    exact JoinedStr_many (pj pins s τ H [] Q I (Nat.zero_le _) ⟨σ,O,R,zd es (fun l ⟨lo,q⟩ H' s'=>q _ _ s' (j9 (k9 lo))) w⟩)
  exact⟨p,jT p fun _=>rfl⟩
 |X,k,ok,.ix a b,e,h=>by
  replace h:=jb h;obtain⟨⟨v,i⟩,hx,h⟩:=h;obtain⟨pos,rfl⟩:=KP hx;simp only[Bool.and_eq_true,Bool.not_eq_true']at h;have p:PE X (.Subscript v i pos) (tD X.K C (.ix a b)):=PE.imp (t':=tD X.K C (.ix a b)) (fun τ H Q ⟨σ,O,R,w⟩=>by exact KA (f:=ixD) ixD_mono R w) (pe_ix ix_D (sB ok a _ h.1.2).1 (sB ok b _ h.2).1 (ixPlain h.1.1))
  exact⟨p,jT p fun _=>rfl⟩
 |X,k,ok,.call f es,e,h=>by
  replace h:=jb h;obtain⟨⟨x,xs,pos⟩,hx,h⟩:=h;obtain⟨q,rfl⟩:=jG hx;simp only[Bool.and_eq_true,decide_eq_true_eq]at h;obtain⟨⟨⟨h1,h2⟩,hne⟩,h4⟩:=h;obtain⟨y,ys,rfl⟩:=qY hne;obtain⟨g1,g2,g3⟩:=ok.gl h2;obtain⟨fa,fd,ps,lv,F,hr,hm,hk,hb⟩:=ok.fns f x _ h1
  have hs:starEach (y::ys) X.env=(false,eval y X.env)::starEach ys X.env/\(backTo pos (starEach ys X.env)).any (·.1)=false:=by
   cases es with
   |nil=>have:=kg h4;cases this
   |cons z zs =>
    obtain⟨y',ys',e',h5,h6⟩:=j0 h4;cases e';exact⟨jP h5 _ _,qd h6 _ _⟩
  have p:PE X (.Call (.Name x q) (y::ys) [] pos) (tD X.K C (.call f es)):=by
   refine PE.imp (fun τ H Q w=>?_) (zT (CX:=CXz X.prog X.w X.mg) (E:=E0) (dvs:=[]) F hr g1 hm hk hb .nil passZ (sA ok es _ h4) g2 hs.1 hs.2);obtain⟨σ,O,R,w⟩:=w;refine⟨σ,O,R,jq es (fun ds ⟨hl,wd⟩ vs H1 s1 i1=>?_) (xk es w)⟩;show spD X.K (y::ys).length (C.fr f) (C.f2 f) (C.ct f) (vs ++ []) H1 Q E0;rw[List.append_nil];exact⟨O,ds,by rw[hl,zu h4],(R.mono s1).own,i1,wd.1,fun d r=>((wd.2.1 d r).mono s1).rw (R.mono s1).own,fun x hx=>(ok.E x (wd.2.2 x hx)).elim⟩
  exact⟨p,jT p fun _=>rfl⟩
 |X,k,ok,.bi f es,e,h=>by
  replace h:=jb h;obtain⟨⟨x,xs,pos⟩,hx,h⟩:=h;obtain⟨q,rfl⟩:=jG hx;simp only[Bool.and_eq_true,decide_eq_true_eq]at h;obtain⟨⟨⟨h1,h2⟩,hne⟩,h4⟩:=h;obtain⟨y,ys,rfl⟩:=qY hne;subst h1;obtain⟨g1,g2,g3⟩:=ok.gl h2;have hm:=ok.blt _ (bi_blt f)
  have hs:starEach (y::ys) X.env=(false,eval y X.env)::starEach ys X.env/\(backTo pos (starEach ys X.env)).any (·.1)=false:=by
   cases es with
   |nil=>have:=kg h4;cases this
   |cons z zs =>
    obtain⟨y',ys',e',h5,h6⟩:=j0 h4;cases e';exact⟨jP h5 _ _,qd h6 _ _⟩
  have w':∀τ H Q,tD X.K C (.bi f es) τ H Q->tCB (cD X.K (biD f)) (tDs X.K C es) τ H Q:=by
   rintro τ H Q ⟨σ,O,R,w⟩;exact⟨σ,O,R,jq es (fun ds wd vs H1 s1 i1=>⟨O,ds,(R.mono s1).own,i1,biD_mono (fun d=>Wd.mono s1) wd⟩) w⟩
  have cb:k8 X f.val (cD X.K (biD f)):=call_bi ok.calm
  have p:PE X (.Call (.Name f.nm q) (y::ys) [] pos) (tD X.K C (.bi f es)):=by
   cases f with
   |abs=>exact PE.imp w' (kr (id:="abs") cb g1 hm PyProof.Rows.boot_abs (sA ok es _ h4) g3 g2 hs.1 hs.2)
   |max=>exact PE.imp w' (kr (id:="max") cb g1 hm PyProof.Rows.boot_max (sA ok es _ h4) g3 g2 hs.1 hs.2)
   |min=>exact PE.imp w' (kr (id:="min") cb g1 hm PyProof.Rows.boot_min (sA ok es _ h4) g3 g2 hs.1 hs.2)
   |len=>exact PE.imp w' (kr (id:="len") cb g1 hm PySem.boot_len (sA ok es _ h4) g3 g2 hs.1 hs.2)
   |int=>exact PE.imp w' (q0 (T:="int") cb g1 hm PyProof.Rows.boot_int (sA ok es _ h4) g3 g2 hs.1 hs.2)
   |list=>exact PE.imp w' (q0 (T:="list") cb g1 hm PyProof.Rows.boot_list (sA ok es _ h4) g3 g2 hs.1 hs.2)
   |sum=>exact PE.imp w' (kr (id:="sum") cb g1 hm PyProof.Rows.boot_sum (sA ok es _ h4) g3 g2 hs.1 hs.2)
   |all=>exact PE.imp w' (kr (id:="all") cb g1 hm PyProof.Rows.boot_all (sA ok es _ h4) g3 g2 hs.1 hs.2)
   |str=>exact PE.imp w' (q0 (T:="str") cb g1 hm PyProof.Rows.boot_str (sA ok es _ h4) g3 g2 hs.1 hs.2)
   |tuple=>exact PE.imp w' (q0 (T:="tuple") cb g1 hm PyProof.Rows.boot_tuple (sA ok es _ h4) g3 g2 hs.1 hs.2)
   |any=>exact PE.imp w' (kr (id:="any") cb g1 hm PyProof.Rows.boot_any (sA ok es _ h4) g3 g2 hs.1 hs.2)
  exact⟨p,jT p fun _=>rfl⟩
 |X,k,ok,.meth m o,e,h=>by
  replace h:=jb h;obtain⟨⟨fe,xs,ks,pos⟩,hx,h⟩:=h;have ee:=yg hx;subst ee;simp only[Bool.and_eq_true]at h;obtain⟨⟨n1,n2⟩,h⟩:=h;replace h:=jb h;obtain⟨⟨v,x,ap⟩,hy,h⟩:=h;have ee:=x8 hy;subst ee;simp only[Bool.and_eq_true,decide_eq_true_eq]at h
  match xs,n1,ks,n2 with
  |[],_,[],_ =>
   obtain⟨⟨⟨h1,h2⟩,h3⟩,h4⟩:=h;subst h1
   have p:PE X (.Call (.Attribute v m.nm ap) [] [] pos) (tD X.K C (.meth m o)):=by
    cases m with
    |bitlen =>
     refine PE.imp (fun τ H Q w=>?_) (pe_bm0 (T:="int") PySem.F.plainAttrs_int PySem.F.slot_int_bit_length PySem.F.type_int_bit_length mt_bits' (sB ok o _ h4).1 (Kc h2) h3);obtain⟨σ,O,R,w⟩:=w;refine⟨σ,O,R,ja o (fun d wd v H1 s1 i1=>?_) w⟩
     cases d with
     |int i=>cases jk i1;exact⟨rfl,rfl,i,rfl,wd _ _ s1 (jF _)⟩
     |_=>exact wd.elim
   exact⟨p,jT p fun _=>rfl⟩
 |X,k,ok,.isi a t,e,h=>by
  replace h:=jb h;obtain⟨⟨x,xs,pos⟩,hx,h⟩:=h;obtain⟨q,rfl⟩:=jG hx;simp only[Bool.and_eq_true,decide_eq_true_eq]at h;obtain⟨⟨⟨⟨⟨h1,h2⟩,n1⟩,h3⟩,h4⟩,h5⟩:=h;obtain⟨y,ny,rfl⟩:=qE n1;obtain⟨q',rfl⟩:=jt h3;have h5:chkE k a y=true:=h5
  try simp only at h1 h2
  subst h1;obtain⟨g1,g2,g3⟩:=ok.gl h2;obtain⟨k1,k2,k3⟩:=ok.gl h4;have pn:PE X (.Name t.nm q') (tC (.ty t.s)):=pe_bltn k1 (ok.blt _ (ty_blt t)) (ty_boot t) rfl k3 k2
  have p:PE X (.Call (.Name "isinstance" q) [y,.Name t.nm q'] [] pos) (tD X.K C (.isi a t)):=by
   refine PE.imp (fun τ H Q w=>?_) (kr (call_isiR (t:=t)) g1 (ok.blt _ (by decide)) PyProof.Rows.boot_isinstance (ju (sB ok a _ h5).1 (ju pn j6 rfl) (jP h5 _ _)) g3 g2 (jP h5 _ _) rfl);obtain⟨σ,O,R,w⟩:=w;exact⟨σ,O,R,ja a (fun d wd v H1 s1 i1=>⟨O,d,v,rfl,i1,wd.mono s1⟩) w⟩
  exact⟨p,jT p fun _=>rfl⟩
 |X,k,ok,.compR es b,e,h=>by
  replace h:=jb h;obtain⟨⟨elt,x,iter,sc⟩,hz,h⟩:=h;obtain⟨px,pos,rfl⟩:=yY hz;simp only[Bool.and_eq_true]at h;obtain⟨⟨h1,h2⟩,h3⟩:=h;replace h2:=jb h2;obtain⟨⟨f,args,p2⟩,hcn,h2⟩:=h2;obtain⟨q,e2⟩:=jG hcn;subst e2;simp only[Bool.and_eq_true,decide_eq_true_eq,Bool.not_eq_true']at h2;obtain⟨⟨⟨hf,hg⟩,hne⟩,ha⟩:=h2;subst hf;obtain⟨g1,_,_⟩:=ok.gl hg
  have p:PE X (.ListComp elt [⟨.Name x px,.Call (.Name "range" q) args [] p2,[],0⟩] sc pos) (tD X.K C (.compR es b)):=by
   cases args with
   |nil=>simp at hne
   |cons y ys =>
    have hs:starEach (y::ys) X.env=(false,eval y X.env)::starEach ys X.env/\(backTo p2 (starEach ys X.env)).any (·.1)=false:=by
     cases es with
     |nil=>have:=kg ha;cases this
     |cons z zs =>
      obtain⟨y',ys',e',h5,h6⟩:=j0 ha;cases e';exact⟨jP h5 _ _,qd h6 _ _⟩
    intro pins s τ H Q I w;obtain⟨cl,co⟩:=ok.comp h1 I.ok;refine K9 (te:=tD X.K C b) ok.calm ok.nd (ok.comp_nE h1) co (pi_rg g1 (ok.blt _ (by decide)) (sA ok es _ ha) hs.1 hs.2) (fun _ _ _ _=>vj) (fun s H fp Ca=>(sB (ok.block h1 co s H fp Ca) b elt h3).1) (fun _=>rfl) pins s τ H Q I ?_;obtain⟨σ,O,R,w⟩:=w;refine⟨σ,O,R,jq es (fun ds wd vs H1 s1 i1=>?_) w⟩;obtain⟨lo,hi,st,e,c,hx,wd⟩:=rgD_of i1 wd;refine⟨lo,hi,st,e,c,?_⟩;refine yc (R.mono s1) hx ?_ ?_ ?_ (ko (f:=fun d Q=>wpE C b (σ ++ [some (.sh d)]) Q) (fun d _ _ hq=>ja b hq) _ (fun ys wy=>wy.mono s1) wd)
    ·intro j H _ hj;rw[jE]at hj;exact hj
    ·intro j H _ hj;rw[jE]at hj;exact hj
    ·intro j H v H' d _ y hd;obtain⟨e1,e2⟩:=y
     have hj:j<(if lo<hi then (hi-lo-1) / st+1 else 0).toNat:=by
      rcases Nat.lt_or_ge j (if lo<hi then (hi-lo-1) / st+1 else 0).toNat with z|z
      ·exact z
      ·rw[List.getElem?_eq_none (by rw[jE];exact z)]at hd;cases hd
     rw[yw _ _ _ _ hj]at hd;cases hd;exact⟨e1,by rw[e2];exact jF _⟩
  exact⟨p,jT p fun _=>rfl⟩
 |X,k,ok,.compE a b,e,h=>by
  replace h:=jb h;obtain⟨⟨elt,x,iter,sc⟩,hz,h⟩:=h;obtain⟨px,pos,rfl⟩:=yY hz;simp only[Bool.and_eq_true,Bool.not_eq_true']at h;obtain⟨⟨⟨h1,hn⟩,ha⟩,h3⟩:=h
  have p:PE X (.ListComp elt [⟨.Name x px,iter,[],0⟩] sc pos) (tD X.K C (.compE a b)):=by
   intro pins s τ H Q I w;obtain⟨cl,co⟩:=ok.comp h1 I.ok;refine K9 (te:=tD X.K C b) ok.calm ok.nd (ok.comp_nE h1) co (Kq (sB ok a iter ha).1) (fun _ _ _ _=>vj) (fun s H fp Ca=>(sB (ok.block h1 co s H fp Ca) b elt h3).1) (za hn _) pins s τ H Q I ?_;obtain⟨σ,O,R,w⟩:=w;refine⟨σ,O,R,ja a (fun d wd v H1 s1 i1=>?_) w⟩;obtain⟨xs,e1,hx,wd⟩:=wd;have wd':=ko (f:=fun d Q=>wpE C b (σ ++ [some (.sh d)]) Q) (fun d _ _ hq=>ja b hq) _ (fun ys (wy:Wd X.K O H Q (.lst ys))=>wy.mono s1) wd;obtain⟨J,hw,g1,g2,g3⟩:=walk_of e1 i1;exact⟨J,hw,yc (R.mono s1) hx (fun j H2 s2=>g1 j H2 O (jd s2)) (fun j H2 s2=>g2 j H2 O (jd s2)) (fun j H2 v H' d s2=>g3 j H2 O v H' d (jd s2)) wd'⟩
  exact⟨p,jT p fun _=>rfl⟩
 |X,k,ok,.compF a c b,e,h=>by
  replace h:=jb h;obtain⟨⟨elt,x,iter,sc,cnd⟩,hz,h⟩:=h;obtain⟨px,pos,rfl⟩:=v7 hz;simp only[Bool.and_eq_true,Bool.not_eq_true']at h;obtain⟨⟨⟨⟨h1,hn⟩,ha⟩,hcd⟩,h3⟩:=h
  have p:PE X (.ListComp elt [⟨.Name x px,iter,[cnd],0⟩] sc pos) (tD X.K C (.compF a c b)):=by
   intro pins s τ H Q I w;obtain⟨cl,co⟩:=ok.comp h1 I.ok;exact K9 (te:=tD X.K C b) ok.calm ok.nd (ok.comp_nE h1) co (Kq (sB ok a iter ha).1) (fun s H fp Ca=>pts_one (sB (ok.block h1 co s H fp Ca) c cnd hcd).2) (fun s H fp Ca=>(sB (ok.block h1 co s H fp Ca) b elt h3).1) (za hn _) pins s τ H Q I (u9 w)
  exact⟨p,jT p fun _=>rfl⟩
theorem sJ:∀ {X:Cx} {k:Ck} (ok:Ok X k C) (xs:List Ex) (es:List Expr),JE k xs es=true->PJ X C xs es
 |X,k,ok,[],es,h=>by
  have e:es=[]:=by rw[JE]at h;simpa using h
  subst e;intro pins s τ H out Q I hl w;obtain⟨σ,O,R,w⟩:=w;unfold xI at w
  exact joinParts_nil ⟨.str _,H,I.tok _,⟨_,rfl⟩,w H (jc.refl H)⟩ (by show out.toArray.size<=_;rw[List.size_toArray];exact hl)
 |X,k,ok,x::xs,es,h=>by
  rw[JE,Bool.and_eq_true,Bool.or_eq_true]at h;obtain⟨h1,h2⟩:=h
  cases es with
  |nil =>
   rcases h1 with h1|h1
   ·cases h1
   ·obtain⟨_,_,_,_,e⟩:=cstPart_ h1
    cases e
  |cons y ys =>
   have h1:((fmtV y).any fun y=>chkE k x y)=true\/cstPart x y=true:=h1;have h2:JE k xs ys=true:=h2;intro pins s τ H out Q I hl w;obtain⟨σ,O,R,w⟩:=w;unfold xI at w
   have h24:lim=sizeLine:=by rw[sizeLine_eq];rfl
   have ap:∀z:Str,((⟨out.toArray⟩:Str)++z)=⟨(out++z.cps.toList).toArray⟩:=fun z=>by
    show (⟨out.toArray++z.cps⟩:Str)=_;congr 1;apply Array.ext';simp
   have go:∀(z:Str) (u:Tok) (s1:Shared) (H1:Hp),Inv X pins τ H1 s1->jc H H1->out.length+z.length<=lim->xI C xs (out++z.cps.toList) σ (fun l=>∀H',jc H H'->Q (.str ⟨l.toArray⟩) H') ->
    (((⟨out.toArray⟩:Str)++z).length<=sizeLine/\wpAny (model X.prog X.w) X.A (joinParts ((⟨out.toArray⟩:Str)++z) (evalEach ys X.env)) (EP X pins τ Q) X.xe s1):=fun z u s1 H1 I1 sm hz wz=>by
    have hlen:(out++z.cps.toList).length<=sizeLine:=by
     have e:(out++z.cps.toList).length=out.length+z.length:=by simp[Str.length]
     lia
    rw[ap];refine⟨by show (out++z.cps.toList).toArray.size<=_;rw[List.size_toArray];exact hlen,?_⟩;exact sJ ok xs ys h2 pins s1 τ H1 _ Q I1 hlen ⟨σ,O,R.mono sm,zd xs (fun l q H' s'=>q H' (sm.trans s')) wz⟩
   show wpAny _ _ (joinParts _ (eval y X.env::evalEach ys X.env)) _ _ _;refine joinParts_cons ?_;rcases h1 with h1|h1
   ·obtain⟨v,hv,h3⟩:=jb h1;obtain⟨p,rfl⟩:=fmtV_ hv
    let Q1:VK:=fun vv H1=>jc H H1/\((∃z,vv=.str z/\out.length+z.length<=lim/\xI C xs (out++z.cps.toList) σ fun l=>∀H',jc H H'->Q (.str ⟨l.toArray⟩) H')\/∃i:Int,vv=.int i/\i.natAbs.log2<1920/\out.length+(Str.ofString (toString i)).length<=lim/\xI C xs (out++(Str.ofString (toString i)).cps.toList) σ fun l=>∀H',jc H H'->Q (.str ⟨l.toArray⟩) H')
    have t1:tD X.K C x τ H Q1:=by
     refine⟨σ,O,R,ja x (fun d wd vv H1 s1 i1=>⟨s1,?_⟩) w⟩;obtain⟨z,⟨e1,e2⟩,wd⟩:=wd;unfold fmtS at e1;split at e1
     ·cases e1;exact .inl ⟨_,(jN i1).1,e2,wd⟩
     ·split at e1
      ·next hb =>
       cases e1;exact .inr ⟨_,jk i1,hb,e2,wd⟩
      ·cases e1
     ·cases e1
    refine FormattedValue_plain (thn ((sB ok x v h3).1 pins s τ H Q1 I t1) fun u s1 q=>?_);obtain⟨vv,H1,I1,r1,sm,q1⟩:=q;rcases q1 with⟨z,rfl,hz,wz⟩|⟨i,rfl,hb,hz,wz⟩
    ·obtain⟨t,rfl⟩:=r1;exact formatField_str (fun t' tk=>go z t' _ H1 (I1.tok _) sm hz wz) (by lia)
    ·obtain⟨t,rfl⟩:=r1;exact formatField_int_small hb (go _ 0 _ H1 (I1.tok _) sm hz wz)
   ·obtain⟨z,j,p,rfl,rfl⟩:=cstPart_ h1;obtain⟨z',⟨e1,e2⟩,wz⟩:=w;have e1:some z=some z':=e1;cases e1;exact Calls.Constant_str (go z 0 _ H (I.tok _) (jc.refl H) e2 wz)
theorem sA:∀ {X:Cx} {k:Ck} (ok:Ok X k C) (xs:List Ex) (es:List Expr),qm k xs es=true->PA X es (tDs X.K C xs)
 |X,k,ok,[],es,h=>by
  rw[kg h]
  exact PA.imp (fun τ H Q ⟨σ,O,R,w⟩=>by unfold wpEs at w;exact w _ _ (jc.refl H) (by unfold Iss;rfl)) j6
 |X,k,ok,x::xs,es,h=>by
  obtain⟨e,es,rfl,h1,h2⟩:=j0 h;refine PA.imp (fun τ H Q w=>?_) (ju (sB ok x e h1).1 (sA ok xs es h2) (jP h1 _ _));obtain⟨σ,O,R,w⟩:=w;unfold wpEs at w;exact⟨σ,O,R,ja x (fun d wd v H1 s1 i1=>⟨σ,O,R.mono s1,jq xs (fun ds wds vs H2 s2 i2=>wds _ _ (s1.trans s2) (by unfold Iss;exact⟨v,vs,rfl,Is.mono (jd s2) d i1,i2⟩)) wd⟩) w⟩
end
noncomputable def isComp(e:Expr):Bool:=(asLC e).isSome
theorem comp_parts(ok:Ok X k C)(z:Ex)(e:Expr)(h:chkE k z e=true)(hc:isComp e=true):∃(x:Str) (px:Pos) (iter elt:Expr) (ifs:List Expr) (sc:Scope) (pos:Pos) (wi:TI) (tt:TT) (te:TE),e=.ListComp elt [⟨.Name x px,iter,ifs,0⟩] sc pos/\yp k x sc=true/\PI X (.Name x px) iter wi/\(∀v,foldedSetIterable iter X.env v=pure v) /\
 (∀cl,CompOk X x sc cl->(∀s H fp Ca,PTs (qo X s H fp x sc cl Ca) ifs tt)/\∀s H fp Ca,PE (qo X s H fp x sc cl Ca) elt te)/\∀τ H Q,tD X.K C z τ H Q->vC wi tt te τ H Q:=by
 cases z with
 |compR es b =>
  replace h:=jb h;obtain⟨⟨elt,x,iter,sc⟩,hz,h⟩:=h;obtain⟨px,pos,rfl⟩:=yY hz;simp only[Bool.and_eq_true]at h;obtain⟨⟨h1,h2⟩,h3⟩:=h;replace h2:=jb h2;obtain⟨⟨f,args,p2⟩,hcn,h2⟩:=h2;obtain⟨q,e2⟩:=jG hcn;subst e2;simp only[Bool.and_eq_true,decide_eq_true_eq,Bool.not_eq_true']at h2;obtain⟨⟨⟨hf,hg⟩,hne⟩,ha⟩:=h2;subst hf;obtain⟨g1,_,_⟩:=ok.gl hg
  cases args with
  |nil=>simp at hne
  |cons y ys =>
   have hs:starEach (y::ys) X.env=(false,eval y X.env)::starEach ys X.env/\(backTo p2 (starEach ys X.env)).any (·.1)=false:=by
    cases es with
    |nil=>have:=kg ha;cases this
    |cons z zs =>
     obtain⟨y',ys',e',h5,h6⟩:=j0 ha;cases e';exact⟨jP h5 _ _,qd h6 _ _⟩
   refine⟨x,px,_,elt,[],sc,pos,_,tYes,tD X.K C b,rfl,h1,pi_rg g1 (ok.blt _ (by decide)) (sA ok es _ ha) hs.1 hs.2,fun _=>rfl,fun cl co=>⟨fun _ _ _ _=>vj,fun s H fp Ca=>(sB (ok.block h1 co s H fp Ca) b elt h3).1⟩,fun τ H Q w=>?_⟩;obtain⟨σ,O,R,w⟩:=w;refine⟨σ,O,R,jq es (fun ds wd vs H1 s1 i1=>?_) w⟩;obtain⟨lo,hi,st,e,c,hx,wd⟩:=rgD_of i1 wd;refine⟨lo,hi,st,e,c,?_⟩;refine yc (R.mono s1) hx ?_ ?_ ?_ (ko (f:=fun d Q=>wpE C b (σ ++ [some (.sh d)]) Q) (fun d _ _ hq=>ja b hq) _ (fun ys wy=>wy.mono s1) wd)
   ·intro j H _ hj;rw[jE]at hj;exact hj
   ·intro j H _ hj;rw[jE]at hj;exact hj
   ·intro j H v H' d _ y hd;obtain⟨e1,e2⟩:=y
    have hj:j<(if lo<hi then (hi-lo-1) / st+1 else 0).toNat:=by
     rcases Nat.lt_or_ge j (if lo<hi then (hi-lo-1) / st+1 else 0).toNat with z|z
     ·exact z
     ·rw[List.getElem?_eq_none (by rw[jE];exact z)]at hd;cases hd
    rw[yw _ _ _ _ hj]at hd;cases hd
    exact⟨e1,by rw[e2];exact jF _⟩
 |compF a c b =>
  replace h:=jb h;obtain⟨⟨elt,x,iter,sc,cnd⟩,hz,h⟩:=h;obtain⟨px,pos,rfl⟩:=v7 hz;simp only[Bool.and_eq_true,Bool.not_eq_true']at h;obtain⟨⟨⟨⟨h1,hn⟩,ha⟩,hcd⟩,h3⟩:=h
  exact⟨x,px,iter,elt,[cnd],sc,pos,_,_,tD X.K C b,rfl,h1,Kq (sB ok a iter ha).1,za hn _,fun cl co=>⟨fun s H fp Ca=>pts_one (sB (ok.block h1 co s H fp Ca) c cnd hcd).2,fun s H fp Ca=>(sB (ok.block h1 co s H fp Ca) b elt h3).1⟩,fun τ H Q w=>u9 w⟩
 |compE a b =>
  replace h:=jb h;obtain⟨⟨elt,x,iter,sc⟩,hz,h⟩:=h;obtain⟨px,pos,rfl⟩:=yY hz;simp only[Bool.and_eq_true,Bool.not_eq_true']at h;obtain⟨⟨⟨h1,hn⟩,ha⟩,h3⟩:=h;refine⟨x,px,iter,elt,[],sc,pos,_,tYes,tD X.K C b,rfl,h1,Kq (sB ok a iter ha).1,za hn _,fun cl co=>⟨fun _ _ _ _=>vj,fun s H fp Ca=>(sB (ok.block h1 co s H fp Ca) b elt h3).1⟩,fun τ H Q w=>?_⟩;obtain⟨σ,O,R,w⟩:=w;refine⟨σ,O,R,ja a (fun d wd v H1 s1 i1=>?_) w⟩;obtain⟨xs,e1,hx,wd⟩:=wd;have wd':=ko (f:=fun d Q=>wpE C b (σ ++ [some (.sh d)]) Q) (fun d _ _ hq=>ja b hq) _ (fun ys (wy:Wd X.K O H Q (.lst ys))=>wy.mono s1) wd;obtain⟨J,hw,g1,g2,g3⟩:=walk_of e1 i1
  exact⟨J,hw,yc (R.mono s1) hx (fun j H2 s2=>g1 j H2 O (jd s2)) (fun j H2 s2=>g2 j H2 O (jd s2)) (fun j H2 v H' d s2=>g3 j H2 O v H' d (jd s2)) wd'⟩
 |_ =>
  exfalso;obtain⟨⟨a,b,c⟩,q⟩:=Option.isSome_iff_exists.mp hc;obtain⟨p,rfl⟩:=asLC_ q
  first|exact Bool.noConfusion (show false=true from h)|(obtain⟨y,hy,_⟩:=jb h;first|cases hy|(simp[jX,yj]at hy))
end
end Z
namespace Z
open PySem PySem.Spec PyProof.Rows L2
noncomputable def Ji:Stmt->Option (List Expr×Expr)
 |.Assign ts v _=>some (ts,v)
 |_=>none
noncomputable def JK:Stmt->Option (Option Expr)
 |.Return v _=>some v
 |_=>none
noncomputable def asIfS:Stmt->Option (Expr×List Stmt×List Stmt)
 |.If t x y _=>some (t,x,y)
 |_=>none
noncomputable def asWhl:Stmt->Option (Expr×List Stmt×List Stmt)
 |.While t x y _=>some (t,x,y)
 |_=>none
noncomputable def asFor:Stmt->Option (Expr×Expr×List Stmt×List Stmt)
 |.For t i x y _=>some (t,i,x,y)
 |_=>none
noncomputable def isBrk:Stmt->Bool
 |.Break _=>true
 |_=>false
noncomputable def isCnt:Stmt->Bool
 |.Continue _=>true
 |_=>false
noncomputable def asExp:Stmt->Option Expr
 |.Expr e _=>some e
 |_=>none
theorem asExp_{s:Stmt}{e:Expr}(h:asExp s=some e):∃p,s=.Expr e p:=by cases s<;>cases h;exact⟨_,rfl⟩
noncomputable def uc:Sm->Bool
 |.shr _=>true
 |_=>false
theorem isShr_{s:Sm}(h:uc s=true):∃i,s=.shr i:=by cases s<;>first|exact⟨_,rfl⟩|exact Bool.noConfusion h
theorem uQ{s:Stmt}{ts:List Expr}{v:Expr}(h:Ji s=some (ts,v)):∃p,s=.Assign ts v p:=by cases s<;>cases h;exact⟨_,rfl⟩
theorem vB{s:Stmt}{v:Option Expr}(h:JK s=some v):∃p,s=.Return v p:=by cases s<;>cases h;exact⟨_,rfl⟩
theorem asIfS_{s:Stmt}{t:Expr}{x y:List Stmt}(h:asIfS s=some (t,x,y)):∃p,s=.If t x y p:=by cases s<;>cases h;exact⟨_,rfl⟩
theorem asWhl_{s:Stmt}{t:Expr}{x y:List Stmt}(h:asWhl s=some (t,x,y)):∃p,s=.While t x y p:=by cases s<;>cases h;exact⟨_,rfl⟩
theorem asFor_{s:Stmt}{t i:Expr}{x y:List Stmt}(h:asFor s=some (t,i,x,y)):∃p,s=.For t i x y p:=by cases s<;>cases h;exact⟨_,rfl⟩
theorem isBrk_{s:Stmt}(h:isBrk s=true):∃p,s=.Break p:=by cases s<;>first|exact Bool.noConfusion h|exact⟨_,rfl⟩
theorem isCnt_{s:Stmt}(h:isCnt s=true):∃p,s=.Continue p:=by cases s<;>first|exact Bool.noConfusion h|exact⟨_,rfl⟩
noncomputable def sole(ts:List Expr):Option Expr:=if ts.length=1 then ts[0]? else none
theorem JQ{ts:List Expr}{t:Expr}(h:sole ts=some t):ts=[t]:=by
 unfold sole at h
 match ts with
 |[]=>simp at h
 |[a]=>simp at h;rw[h]
 |_::_::_=>simp at h
noncomputable def vA(k:Ck):List Nat->List Expr->Bool
 |[],es=>es.isEmpty
 |i::is,es=>!es.isEmpty&&((js (es.getD 0 (.Tuple [] 0 ⟨0,0,0,0⟩))).any fun x=>k.loc i x)&&vA k is (es.drop 1)
theorem chkTs_cons{k:Ck}{i:Nat}{is:List Nat}{es:List Expr}(h:vA k (i::is) es=true):∃x p ys,es=.Name x p::ys/\k.loc i x=true/\vA k is ys=true:=by
 rw[vA]at h
 cases es with
 |nil=>simp at h
 |cons y ys =>
  simp only[Bool.and_eq_true,List.drop_succ_cons,List.drop_zero]at h;obtain⟨x,hx,hl⟩:=jb h.1.2;have hx':js y=some x:=hx;obtain⟨p,rfl⟩:=jt hx';exact⟨x,p,ys,rfl,hl,h.2⟩
mutual
noncomputable def uC(k:Ck):Sm->Stmt->Bool
 |.set i e,s=>(Ji s).any fun z=>(sole z.1).any fun t=>(js t).any fun x=>k.loc i x&&chkE k e z.2
 |.unp is e,s=>(Ji s).any fun z=>(sole z.1).any fun t=>(Kh t).any fun ts=>vA k is ts&&(Kh z.2).isNone&&chkE k e z.2
 |.ret e,s=>(JK s).any fun v=>v.any fun v=>chkE k e v
 |.ite c a b,s=>(asIfS s).any fun z=>chkE k c z.1&&zh k a z.2.1&&zh k b z.2.2
 |.whl c b,s=>(asWhl s).any fun z=>z.2.2.isEmpty&&chkE k c z.1&&zh k b z.2.1
 |.forR i es b,s=>(asFor s).any fun z=>(js z.1).any fun x=>(jX z.2.1).any fun c=>z.2.2.2.isEmpty&&k.loc i x&&decide (c.1=("range":Str))&&k.gl c.1 && !c.2.1.isEmpty&&qm k es c.2.1&&zh k b z.2.2.1
 |.brk,s=>isBrk s
 |.cnt,s=>isCnt s
 |.never,_=>true
 |.new i,s=>(Ji s).any fun z=>(sole z.1).any fun t=>(js t).any fun x=>k.loc i x&&(JZ z.2).any (·.isEmpty)
 |.app i e,s=>(asExp s).any fun z=>(yj z).any fun c=>c.2.2.1.isEmpty&&decide (c.2.1.length=1)&&((yh c.1).any fun y=>decide (y.2.1=("append":Str))&&((js y.1).any fun x=>k.loc i x)&&(y.2.2.endLine == c.2.2.2.line))&&chkE k e (c.2.1.getD 0 z)
 |.shr _,_=>false
 |.raise _,_=>false
 |.retX _ _ _,_=>false
 |.raiseA _ _,_=>false
 |.setX _ _ _ _,_=>false
 |.retP _ _ _,_=>false
 |.tryX _ _,_=>false
 |.nop,_=>false
 |.seq _ _,_=>false
noncomputable def zh(k:Ck):Sm->List Stmt->Bool
 |.nop,ss=>ss.isEmpty
 |.seq a b,ss=>if uc a then zh k b ss else !ss.isEmpty&&uC k a (ss.getD 0 (.Pass ⟨0,0,0,0⟩))&&zh k b (ss.drop 1)
 |_,_=>false
end
theorem chkB_shr{k:Ck}{a b:Sm}{ss:List Stmt}(hs:uc a=true)(h:zh k (.seq a b) ss=true):zh k b ss=true:=by
 rw[zh,if_pos hs]at h;exact h
theorem chkB_cons{k:Ck}{a b:Sm}{ss:List Stmt}(hs:uc a=false)(h:zh k (.seq a b) ss=true):∃s r,ss=s::r/\uC k a s=true/\zh k b r=true:=by
 rw[zh,if_neg (by rw[hs];decide)]at h
 cases ss with
 |nil=>simp at h
 |cons s r =>
  simp only[Bool.and_eq_true,List.drop_succ_cons,List.drop_zero]at h;exact⟨s,r,rfl,h.1.2,h.2⟩
structure Good (O₀:List Addr) (H₀:Hp) (O:List Addr) (H:Hp):Prop where
 same:jc H₀ H
 sub:∀a∈O₀,a∈O
 new:∀a∈O,a∈O₀\/H₀ a=none
theorem Good.mono{O₀ O:List Addr}{H₀ H H':Hp}(g:Good O₀ H₀ O H)(e:jc H H'):Good O₀ H₀ O H':=⟨g.same.trans e,g.sub,g.new⟩
noncomputable def MT(O₀:List Addr)(H:Hp)(σ:Sto)(τ:L2.St):Prop:=∀(i:Nat) (rows:List (List D)) (a:Addr) (as:List Addr),getS σ i=some (.ot rows)->τ[i]?=some (some (.ref a))->H a=some (.lst (as.map .ref))->a ∉ O₀/\∀b∈as,b ∉ O₀
theorem MT.step{O₀:List Addr}{H H':Hp}{σ σ':Sto}{τ τ':L2.St}(h:MT O₀ H σ τ)(hT:∀i rows,getS σ' i=some (.ot rows)->getS σ i=some (.ot rows)/\τ'[i]?=τ[i]?)
 (hH:∀i rows a,getS σ i=some (.ot rows)->τ[i]?=some (some (.ref a))->H' a=H a):MT O₀ H' σ' τ':=fun i rows a as g e t=>by
 obtain⟨g0,e0⟩:=hT i rows g;rw[e0]at e;rw[hH i rows a g0 e]at t;exact h i rows a as g0 e t
theorem OT.same{K:PySem.W.Frag}{O:List Addr}{H H':Hp}{σ:Sto}{τ:L2.St}(h:OT K O H σ τ)(e:jc H H'):∀i rows a,getS σ i=some (.ot rows)->τ[i]?=some (some (.ref a))->H' a=H a:=fun i rows a g q=>by
 obtain⟨b,as,e1,t,_⟩:=h.1 i rows g;rw[q]at e1;cases e1;rw[t.top];exact e _ _ t.top
structure RepS (O₀:List Addr) (K:PySem.W.Frag) (O:List Addr) (H:Hp) (σ:Sto) (τ:L2.St):Prop extends Reps K O H σ τ where
 mine:∀i ds a,getS σ i=some (.ow ds)->τ[i]?=some (some (.ref a))->a ∉ O₀
 mineT:MT O₀ H σ τ
theorem RepS.mono{O₀ O:List Addr}{K:PySem.W.Frag}{H H':Hp}{σ:Sto}{τ:L2.St}(r:RepS O₀ K O H σ τ)(e:jc H H'):RepS O₀ K O H' σ τ:=⟨r.toReps.mono e,r.mine,r.mineT.step (fun _ _ g=>⟨g,rfl⟩) (r.tt.same e)⟩
noncomputable def lift(K:PySem.W.Frag)(O₀:List Addr)(H₀:Hp)(ex:XD->Prop)(D:Ends)(O:List Addr)(H:Hp):DE where
 xn:=ex
 nx σ':=∀τ' H' O',Good O₀ H₀ O' H'->jc (minus H O) (minus H' O')->RepS O₀ K O' H' σ' τ'->D.nx τ' H'
 rt d:=∀v H',jc H₀ H'->Is K (minus H' O₀) d v->D.rt v H'
 bk σ':=∀τ' H' O',Good O₀ H₀ O' H'->jc (minus H O) (minus H' O')->RepS O₀ K O' H' σ' τ'->D.bk τ' H'
 ct σ':=∀τ' H' O',Good O₀ H₀ O' H'->jc (minus H O) (minus H' O')->RepS O₀ K O' H' σ' τ'->D.ct τ' H'
 rf ds:=∀a H' vs,jc H₀ H'->H₀ a=none->H' a=some (.lst vs)->Iss K (minus H' (a::O₀)) ds vs->D.rt (.ref a) H'
 rg rows:=∀a as H',jc H₀ H'->(H₀ a=none/\∀b∈as,H₀ b=none)->OwT K (a::as++O₀) H' rows a as->D.rt (.ref a) H'
theorem xD{K:PySem.W.Frag}{O₀ O O':List Addr}{H₀ H H':Hp}{ex:XD->Prop}{D:Ends}(e:jc (minus H O) (minus H' O')):DE.le (lift K O₀ H₀ ex D O H) (lift K O₀ H₀ ex D O' H') where
 nx:=fun _ q τ' H'' O'' g s r=>q τ' H'' O'' g (e.trans s) r
 rt:=fun _ q=>q
 bk:=fun _ q τ' H'' O'' g s r=>q τ' H'' O'' g (e.trans s) r
 ct:=fun _ q τ' H'' O'' g s r=>q τ' H'' O'' g (e.trans s) r
 rf:=fun _ q=>q
noncomputable def tS(K:PySem.W.Frag)(C:Cfg)(O₀:List Addr)(H₀:Hp)(ex:XD->Prop)(s:Sm):TS:=fun D τ H=>∃σ O,Good O₀ H₀ O H/\RepS O₀ K O H σ τ/\wpS C s (lift K O₀ H₀ ex D O H) σ
theorem qD(σ:Sto)(i:Nat)(v:Option Sl):(setS σ i v).length=σ.length:=vS σ i v
theorem jv(σ:Sto)(i j:Nat)(v:Option Sl):getS (setS σ i v) j=if i=j/\i<σ.length then v else getS σ j:=qU σ i j v
section
variable {K:PySem.W.Frag} {O:List Addr} {H:Hp} {σ:Sto} {τ:L2.St}
theorem Reps.set(R:Reps K O H σ τ){i:Nat}{d:D}{v:V}(h:Is K (minus H O) d v):Reps K O H (setS σ i (some (.sh d))) (τ.set i (some v)) where
 len:=by rw[qD,List.length_set];exact R.len
 own:=R.own
 sh:=fun j e g=>by
  rw[jv]at g;by_cases hj:i=j/\i<σ.length
  ·rw[if_pos hj]at g;obtain⟨rfl,hl⟩:=hj;cases g;exact⟨v,by rw[List.getElem?_set_self (by rw[<- R.len];exact hl)],h⟩
  ·rw[if_neg hj]at g;obtain⟨w,e1,e2⟩:=R.sh j e g;refine⟨w,?_,e2⟩;by_cases hij:i=j
   ·subst hij
    have:¬ i<τ.length:=by rw[<- R.len];lia
    rw[List.getElem?_eq_none (by lia)]at e1;cases e1
   ·rw[List.getElem?_set_ne hij];exact e1
 ow:=fun j ds g=>by
  rw[jv]at g;by_cases hj:i=j/\i<σ.length
  ·rw[if_pos hj]at g;cases g
  ·rw[if_neg hj]at g;obtain⟨a,vs,e1,e2⟩:=R.ow j ds g;refine⟨a,vs,?_,e2⟩;by_cases hij:i=j
   ·subst hij
    have:¬ i<τ.length:=by rw[<- R.len];lia
    rw[List.getElem?_eq_none (by lia)]at e1;cases e1
   ·rw[List.getElem?_set_ne hij];exact e1
 dj:=fun j l ds es hjl g1 g2=>by
  rw[jv]at g1 g2;by_cases hj:i=j/\i<σ.length
  ·rw[if_pos hj]at g1;cases g1
  ·rw[if_neg hj]at g1;by_cases hl:i=l/\i<σ.length
   ·rw[if_pos hl]at g2;cases g2
   ·rw[if_neg hl]at g2;have hd:=R.dj j l ds es hjl g1 g2;obtain⟨a,_,e1,_⟩:=R.ow j ds g1;obtain⟨b,_,e2,_⟩:=R.ow l es g2
    have nj:i≠j:=fun z=>by
     subst z
     have:¬ i<τ.length:=by rw[<- R.len];lia
     rw[List.getElem?_eq_none (by lia)]at e1;cases e1
    have nl:i≠l:=fun z=>by
     subst z
     have:¬ i<τ.length:=by rw[<- R.len];lia
     rw[List.getElem?_eq_none (by lia)]at e2;cases e2
    rw[List.getElem?_set_ne nj,List.getElem?_set_ne nl];exact hd
 tt:=by
  refine R.tt.step (fun j rows g=>?_) (fun _ _ _ _ _ _ _ t=>t) fun _ _ _ _ j ds b _ _ g q=>?_
  ·rw[jv]at g;by_cases hj:i=j/\i<σ.length
   ·rw[if_pos hj]at g;cases g
   ·rw[if_neg hj]at g;obtain⟨a,as,e1,_⟩:=R.tt.1 j rows g
    have hij:i≠j:=fun z=>by
     subst z
     have:¬ i<τ.length:=by rw[<- R.len];lia
     rw[List.getElem?_eq_none (by lia)]at e1;cases e1
    exact⟨g,List.getElem?_set_ne hij⟩
  ·rw[jv]at g;by_cases hj:i=j/\i<σ.length
   ·rw[if_pos hj]at g;cases g
   ·rw[if_neg hj]at g;obtain⟨a,vs,e1,_⟩:=R.ow j ds g
    have hij:i≠j:=fun z=>by
     subst z
     have:¬ i<τ.length:=by rw[<- R.len];lia
     rw[List.getElem?_eq_none (by lia)]at e1;cases e1
    rw[List.getElem?_set_ne hij]at q;exact .inl ⟨ds,g,q⟩
end
theorem set_at{τ:L2.St}{i j:Nat}{v w:Option V}(h:(τ.set i v)[j]?=some w):(i=j/\w=v)\/(i≠j/\τ[j]?=some w):=by
 by_cases hij:i=j
 ·subst hij;rcases Nat.lt_or_ge i τ.length with z|z
  ·rw[List.getElem?_set_self z]at h;cases h;exact .inl ⟨rfl,rfl⟩
  ·rw[List.getElem?_eq_none (by rw[List.length_set];exact z)]at h;cases h
 ·rw[List.getElem?_set_ne hij]at h;exact .inr ⟨hij,h⟩
section
variable {K:PySem.W.Frag} {O₀ O:List Addr} {H H':Hp} {σ:Sto} {τ:L2.St}
theorem RepS.set(R:RepS O₀ K O H σ τ){i:Nat}{d:D}{v:V}(h:Is K (minus H O) d v):RepS O₀ K O H (setS σ i (some (.sh d))) (τ.set i (some v)):=by
 refine⟨R.toReps.set h,fun j ds a g e=>?_,R.mineT.step (fun j rows g=>?_) fun _ _ _ _ _=>rfl⟩
 rotate_left
 ·rw[jv]at g;by_cases hj:i=j/\i<σ.length
  ·rw[if_pos hj]at g;cases g
  ·rw[if_neg hj]at g;obtain⟨a,as,e1,_⟩:=R.tt.1 j rows g
   have hij:i≠j:=fun z=>by
    subst z
    have:¬ i<τ.length:=by rw[<- R.len];lia
    rw[List.getElem?_eq_none (by lia)]at e1;cases e1
   exact⟨g,List.getElem?_set_ne hij⟩
 rw[jv]at g;by_cases hj:i=j/\i<σ.length
 ·rw[if_pos hj]at g;cases g
 ·rw[if_neg hj]at g;rcases set_at e with⟨q,_⟩|⟨_,q⟩
  ·exfalso;subst q;obtain⟨_,_,e1,_⟩:=R.ow i ds g
   have:i<τ.length:=by
    rcases Nat.lt_or_ge i τ.length with z|z
    ·exact z
    ·rw[List.getElem?_eq_none z]at e1;cases e1
   exact hj ⟨rfl,by rw[R.len];exact this⟩
  ·exact R.mine j ds a g q
theorem Good.fresh{H₀:Hp}{a:Addr}(g:Good O₀ H₀ O H)(s:jc H H')(h:H a=none):Good O₀ H₀ (a::O) H':=by
 refine⟨g.same.trans s,fun b hb=>List.mem_cons_of_mem _ (g.sub b hb),fun b hb=>?_⟩;rcases List.mem_cons.mp hb with rfl|hb
 ·right
  cases q:H₀ b with
  |none=>rfl
  |some o=>rw[g.same b o q]at h;cases h
 ·exact g.new b hb
theorem fresh_T{a:Addr}{xs:List D}{i:Nat}(hi:i<τ.length)(R:RepS O₀ K O H σ τ):∀j rows,getS (setS σ i (some (.ow xs))) j=some (.ot rows)->getS σ j=some (.ot rows)/\(τ.set i (some (.ref a)))[j]?=τ[j]?:=fun j rows g=>by
 rw[jv]at g;by_cases hj:i=j/\i<σ.length
 ·rw[if_pos hj]at g;cases g
 ·rw[if_neg hj]at g
  have hij:i≠j:=fun z=>hj ⟨z,by rw[R.len];exact hi⟩
  exact⟨g,List.getElem?_set_ne hij⟩
theorem RepS.fresh{a:Addr}{vs:List V}{xs:List D}{i:Nat}(R:RepS O₀ K O H σ τ)(sub:∀b∈O₀,b∈O)(s:jc H H')(h:H a=none)(h1:H' a=some (.lst vs))(is:Iss K (minus H' (a::O)) xs vs)(hi:i<τ.length) :
 RepS O₀ K (a::O) H' (setS σ i (some (.ow xs))) (τ.set i (some (.ref a))) where
 len:=by rw[qD,List.length_set];exact R.len
 own:=fun b hb=>by
  rcases List.mem_cons.mp hb with rfl|hb
  ·rw[h1];exact fun z=>nomatch z
  ·exact(R.toReps.mono s).own b hb
 sh:=fun j d g=>by
  rw[jv]at g;by_cases hj:i=j/\i<σ.length
  ·rw[if_pos hj]at g;cases g
  ·rw[if_neg hj]at g;obtain⟨v,e1,e2⟩:=R.sh j d g
   have hij:i≠j:=fun z=>hj ⟨z,by rw[R.len];exact hi⟩
   exact⟨v,by rw[List.getElem?_set_ne hij];exact e1,Is.mono (kL s h) d e2⟩
 ow:=fun j ds g=>by
  rw[jv]at g;by_cases hj:i=j/\i<σ.length
  ·rw[if_pos hj]at g;obtain⟨rfl,_⟩:=hj;cases g;exact⟨a,vs,List.getElem?_set_self hi,List.mem_cons_self ..,h1,is⟩
  ·rw[if_neg hj]at g;obtain⟨b,ws,e1,e2,e3,e4⟩:=R.ow j ds g
   have hij:i≠j:=fun z=>hj ⟨z,by rw[R.len];exact hi⟩
   exact⟨b,ws,by rw[List.getElem?_set_ne hij];exact e1,List.mem_cons_of_mem _ e2,s _ _ e3,Iss.mono (kL s h) ds e4⟩
 dj:=fun j l ds es hjl g1 g2=>by
  have key:∀j ds,i≠j->getS σ j=some (.ow ds)->τ[j]? ≠ some (some (.ref a)):=fun j ds _ g e=>by
   obtain⟨b,_,e1,e2,e3,_⟩:=R.ow j ds g;rw[e1]at e;cases e;rw[h]at e3;cases e3
  rw[jv]at g1 g2;by_cases hj:i=j/\i<σ.length
  ·obtain⟨rfl,_⟩:=hj;rw[if_neg fun z=>hjl z.1]at g2;rw[List.getElem?_set_self hi,List.getElem?_set_ne hjl]
   exact fun z=>key l es hjl g2 z.symm
  ·rw[if_neg hj]at g1
   have hij:i≠j:=fun z=>hj ⟨z,by rw[R.len];exact hi⟩
   by_cases hl:i=l/\i<σ.length
   ·obtain⟨rfl,_⟩:=hl;rw[List.getElem?_set_self hi,List.getElem?_set_ne hij];exact key j ds hij g1
   ·rw[if_neg hl]at g2
    have hil:i≠l:=fun z=>hl ⟨z,by rw[R.len];exact hi⟩
    rw[List.getElem?_set_ne hij,List.getElem?_set_ne hil];exact R.dj j l ds es hjl g1 g2
 mine:=fun j ds b g e=>by
  rw[jv]at g;rcases set_at e with⟨rfl,q⟩|⟨hij,q⟩
  ·cases q
   exact fun z=>R.own _ (sub _ z) h
  ·rw[if_neg fun z=>hij z.1]at g;exact R.mine j ds b g q
 tt:=by
  refine R.tt.step (fresh_T hi R) (fun j rows b as g e d t=>⟨s _ _ t.top,t.nd,⟨List.mem_cons_of_mem _ t.inO.1,fun c hc=>List.mem_cons_of_mem _ (t.inO.2 c hc)⟩,t.rw.imp (kL s h) fun c _ vs q=>s _ _ q⟩) fun _ _ b as j ds c _ t g q=>?_
  rw[jv]at g;rcases set_at q with⟨rfl,q'⟩|⟨hij,q⟩
  ·cases q';refine .inr ⟨fun z=>?_,fun z=>?_⟩
   ·subst z;rw[t.top]at h;cases h
   ·obtain⟨_,e⟩:=t.rw.isL _ z;rw[e]at h;cases h
  ·rw[if_neg fun z=>hij z.1]at g;exact .inl ⟨ds,g,q⟩
 mineT:=R.mineT.step (fresh_T hi R) (R.tt.same s)
theorem xF{a:Addr}{o:HO}(h:a∈O):minus (upd H a o) O=minus H O:=by
 funext b;unfold minus;by_cases hb:b∈O
 ·rw[if_pos hb,if_pos hb]
 ·rw[if_neg hb,if_neg hb,jh fun z=>hb (by rw[z];exact h)]
theorem Good.write{H₀:Hp}{a:Addr}{o:HO}(g:Good O₀ H₀ O H)(h:a∈O)(hn:a ∉ O₀):Good O₀ H₀ O (upd H a o):=by
 refine⟨fun b u q=>?_,g.sub,g.new⟩;have h0:H₀ a=none:=(g.new a h).resolve_left hn;rw[jh fun z=>by subst z;rw[h0]at q;cases q];exact g.same b u q
theorem write_T{i:Nat}(es:List D):∀j rows,getS (setS σ i (some (.ow es))) j=some (.ot rows)->getS σ j=some (.ot rows)/\τ[j]?=τ[j]?:=fun j rows g=>by
 rw[jv]at g;by_cases hj:i=j/\i<σ.length
 ·rw[if_pos hj]at g;cases g
 ·rw[if_neg hj]at g;exact⟨g,rfl⟩
theorem RepS.write{a:Addr}{vs ws:List V}{ds es:List D}{i:Nat}(R:RepS O₀ K O H σ τ)(g:getS σ i=some (.ow ds))(e1:τ[i]?=some (some (.ref a)))(e2:a∈O)(is:Iss K (minus H O) es ws) :
 RepS O₀ K O (upd H a (.lst ws)) (setS σ i (some (.ow es))) τ where
 len:=by rw[qD];exact R.len
 own:=fun b hb=>by
  by_cases z:b=a
  ·subst z;rw[jm];exact fun z=>nomatch z
  ·rw[jh z];exact R.own b hb
 sh:=fun j d h=>by
  rw[jv]at h;by_cases hj:i=j/\i<σ.length
  ·rw[if_pos hj]at h;cases h
  ·rw[if_neg hj]at h;rw[xF e2];exact R.sh j d h
 ow:=fun j fs h=>by
  rw[jv]at h;rw[xF e2];by_cases hj:i=j/\i<σ.length
  ·rw[if_pos hj]at h;obtain⟨rfl,_⟩:=hj;cases h;exact⟨a,ws,e1,e2,jm ..,is⟩
  ·rw[if_neg hj]at h;obtain⟨b,us,h1,h2,h3,h4⟩:=R.ow j fs h
   have hij:i≠j:=fun z=>hj ⟨z,by
    rw[R.len];rcases Nat.lt_or_ge i τ.length with q|q
    ·exact q
    ·rw[List.getElem?_eq_none q]at e1;cases e1⟩
   have hb:b≠a:=fun z=>by subst z;exact R.dj i j ds fs hij g h (e1.trans h1.symm)
   exact⟨b,us,h1,h2,by rw[jh hb];exact h3,h4⟩
 dj:=fun j l fs gs hjl g1 g2=>by
  have old:∀j fs,getS (setS σ i (some (.ow es))) j=some (.ow fs)->∃fs',getS σ j=some (.ow fs'):=fun j fs h=>by
   rw[jv]at h;by_cases hj:i=j/\i<σ.length
   ·obtain⟨rfl,_⟩:=hj;exact⟨_,g⟩
   ·rw[if_neg hj]at h;exact⟨_,h⟩
  obtain⟨_,k1⟩:=old j fs g1;obtain⟨_,k2⟩:=old l gs g2;exact R.dj j l _ _ hjl k1 k2
 mine:=fun j fs b h e=>by
  rw[jv]at h;by_cases hj:i=j/\i<σ.length
  ·obtain⟨rfl,_⟩:=hj;exact R.mine i ds b g e
  ·rw[if_neg hj]at h;exact R.mine j fs b h e
 tt:=by
  refine R.tt.step (write_T es) (fun j rows b as q e d t=>?_) fun _ _ _ _ j fs c _ _ q e=>?_
  ·obtain⟨n1,n2⟩:=d i ds a g e1;exact⟨by rw[jh (Ne.symm n1)];exact t.top,t.nd,t.inO,t.rw.imp (by rw[xF e2];exact jc.refl _) fun c hc vs z=>by rw[jh (show c≠a from fun y=>n2 (by rw[<- y];exact hc))];exact z⟩
  ·rw[jv]at q;by_cases hj:i=j/\i<σ.length
   ·obtain⟨rfl,_⟩:=hj;exact .inl ⟨ds,g,e⟩
   ·rw[if_neg hj]at q;exact .inl ⟨fs,q,e⟩
 mineT:=R.mineT.step (write_T es) fun j rows b q e=>by
  obtain⟨b',as,e3,t,d⟩:=R.tt.1 j rows q;rw[e]at e3;cases e3;exact jh (Ne.symm (d i ds a g e1).1)
theorem RepS.share(R:RepS O₀ K O H σ τ){i:Nat}{ds:List D}{a:Addr}{vs:List V}(g:getS σ i=some (.ow ds))(e1:τ[i]?=some (some (.ref a)))(e3:H a=some (.lst vs))(e4:Iss K (minus H O) ds vs):RepS O₀ K (less O a) H (setS σ i (some (.sh (.lst ds)))) τ:=by
 refine⟨R.toReps.share g e1 e3 e4,fun j fs b h e=>?_,R.mineT.step (fun j rows q=>?_) fun _ _ _ _ _=>rfl⟩
 rotate_left
 ·rw[jv]at q;by_cases hj:i=j/\i<σ.length
  ·rw[if_pos hj]at q;cases q
  ·rw[if_neg hj]at q;exact⟨q,rfl⟩
 rw[jv]at h;by_cases hj:i=j/\i<σ.length
 ·rw[if_pos hj]at h;cases h
 ·rw[if_neg hj]at h;exact R.mine j fs b h e
theorem Good.share{H₀:Hp}{a:Addr}(g:Good O₀ H₀ O H)(hn:a ∉ O₀):Good O₀ H₀ (less O a) H :=
 ⟨g.same,fun b hb=>kv.mpr ⟨g.sub b hb,fun z=>hn (z ▸ hb)⟩,fun b hb=>g.new b (kv.mp hb).1⟩
end
section
variable {X:Cx} {k:Ck} {C:Cfg} {O₀:List Addr} {H₀:Hp}
theorem swaps_of{x:Ex}{e:Expr}(h:chkE k x e=true)(hc:isComp e=false)(t:Option Expr)(n:Nat)(env:Env):swapsWith e t n env=pure false:=by
 have p:=ut h
 cases e<;>first|rfl|exact Bool.noConfusion p|exact Bool.noConfusion hc
theorem swaps_tup(e:Expr){es:List Expr}{j:Nat}{p:Pos}(n:Nat)(env:Env):swapsWith e (some (.Tuple es j p)) n env=pure false:=by
 cases e<;>rfl
theorem swaps_comp{elt:Expr}{gs:List Comprehension}{sc:Scope}{pos py:Pos}{y:Str}(n:Nat)(env:Env):∃b,swapsWith (.ListComp elt gs sc pos) (some (.Name y py)) n env=pure b:=⟨_,rfl⟩
structure OkS (X:Cx) (k:Ck) (C:Cfg):Prop extends Ok X k C where
 fn:∀x,X.fn x=true
noncomputable def gNames:List Nat->TGs
 |[]=>gNil
 |i::is=>gCons (gName i) (gNames is)
theorem JH(ok:OkS X k C):∀(is:List Nat) (ts:List Expr),vA k is ts=true->PGs X ts (gNames is)/\(assignEach ts X.env).length=is.length/\(assignEach ts X.env).findIdx? (·.1)=none
 |[],ts,h=>by
  have e:ts=[]:=by rw[vA]at h;simpa using h
  subst e
  exact⟨pgs_nil,rfl,rfl⟩
 |i::is,ts,h=>by
  obtain⟨x,pos,ts,rfl,h1,h2⟩:=chkTs_cons h;obtain⟨h1,h3,h4,h5⟩:=ok.vis h1;obtain⟨p,l,f⟩:=JH ok is ts h2;refine⟨pgs_cons (pg_name ok.nd h1 h3 (.inl (ok.fn _))) p,?_,?_⟩
  ·show (assignEach ts X.env).length+1=is.length+1;rw[l]
  ·show List.findIdx? _ ((false,assign (.Name x pos) X.env)::assignEach ts X.env)=none;rw[List.findIdx?_cons,f];rfl
theorem uJ{K:PySem.W.Frag}{O₀ O:List Addr}{H:Hp}{Q:L2.St->Hp->Prop}:∀(is:List Nat) {ds:List D} {vs:List V} {σ σ':Sto} {τ:L2.St},RepS O₀ K O H σ τ->Iss K (minus H O) ds vs->setAll is ds σ=some σ'->(∀τ',RepS O₀ K O H σ' τ'->Q τ' H)->gNames is vs τ H Q
 |[],ds,vs,σ,σ',τ,R,i,e,q=>by
  cases ds with
  |nil =>
   unfold Iss at i;simp only[setAll,Option.some.injEq]at e;subst e
   exact⟨i,q τ R⟩
  |cons d ds=>simp[setAll]at e
 |n::is,ds,vs,σ,σ',τ,R,i,e,q=>by
  cases ds with
  |nil=>simp[setAll]at e
  |cons d ds =>
   unfold Iss at i;obtain⟨v,r,rfl,i1,i2⟩:=i;simp only[setAll]at e;exact⟨v,r,rfl,uJ is (R.set i1) i2 e q⟩
theorem zI:∀(is:List Nat) {ds:List D} {σ σ':Sto},setAll is ds σ=some σ'->ds.length=is.length
 |[],ds,σ,σ',e=>by cases ds with|nil=>rfl|cons d ds=>simp[setAll]at e
 |n::is,ds,σ,σ',e=>by
  cases ds with
  |nil=>simp[setAll]at e
  |cons d ds=>simp only[setAll]at e;simp[zI is e]
end
end Z
namespace Z
open PySem PySem.Spec PyProof.Rows L2
noncomputable def IsRv(h:Heap)(it l:Addr)(j:Int):Prop:=∃o,h.get? it=some o/\o.cls=.type "list_reverseiterator" /\ o.data=.fields #[.ref l,.int j 0]
theorem IsRv.ty{s:Shared}{it l:Addr}{j:Int}(x:IsRv s.heap it l j):s.TypeIs (.ref it) "list_reverseiterator":=let ⟨o,ho,hc,_⟩:=x;⟨o,ho,hc⟩
section
variable {prog:Program} {w:World} {A:Around} {E:Value->Shared->Prop} {s:Shared}
end
section
variable {prog:Program} {w:World} {A:Around} {E:Value->Shared->Prop} {s:Shared}
end
end Z
namespace Z
open PySem PySem.Spec PyProof.Rows L2
section
variable {X:Cx} {k:Ck} {C:Cfg}
variable {K:PySem.W.Frag} {O₀ O O':List Addr} {H H' H₀:Hp} {σ:Sto} {τ:L2.St}
theorem Reps.ofGet{σ':Sto}(R:Reps K O H σ τ)(hl:σ'.length=σ.length)(h:∀j z,getS σ' j=some z->getS σ j=some z):Reps K O H σ' τ where
 len:=by rw[hl];exact R.len
 own:=R.own
 sh:=fun j d g=>R.sh j d (h j _ g)
 ow:=fun j ds g=>R.ow j ds (h j _ g)
 dj:=fun j l ds es n g1 g2=>R.dj j l ds es n (h j _ g1) (h l _ g2)
 tt:=R.tt.step (fun j rows g=>⟨h j _ g,rfl⟩) (fun _ _ _ _ _ _ _ t=>t) fun _ _ _ _ j ds b _ _ g q=>.inl ⟨ds,h j _ g,q⟩
noncomputable def tabS(σ:Sto)(i j:Nat)(rows:List (List D)):Sto:=setS (setS σ i (some (.ot rows))) j none
structure RowAt (K:PySem.W.Frag) (O₀:List Addr) (H₀:Hp) (σ:Sto) (i j l:Nat) (a:Addr) (as:List Addr) (rows:List (List D)) (O:List Addr) (H:Hp) (τ:L2.St):Prop where
 g:Good O₀ H₀ O H
 R:RepS O₀ K O H (tabS σ i j rows) τ
 ia:τ[i]?=some (some (.ref a))
 top:H a=some (.lst (as.map V.ref))
 row:∃b,as[l]?=some b/\τ[j]?=some (some (.ref b))
theorem RowAt.rest{i j l:Nat}{a:Addr}{as:List Addr}{rows:List (List D)}(A:RowAt K O₀ H₀ σ i j l a as rows O H τ)(hij:i≠j):Reps K O H (setS (setS σ i none) j none) τ:=by
 refine A.R.toReps.ofGet (by unfold tabS;simp only[qD]) fun m z g=>?_
 unfold tabS;rw[jv]at g ⊢;simp only[qD]at g ⊢;split at g
 ·cases g
 ·next h1 =>
  rw[if_neg h1];rw[jv]at g ⊢;split at g
  ·cases g
  ·next h2=>rw[if_neg h2];exact g
end
end Z
namespace Z
open PySem PySem.Spec PySem.Calls PyProof.Rows PySem.W L2
noncomputable def exAt(D:Addr)(σ:L2.St)(H:Hp):Prop:=∃ea oe u,σ[0]?=some (some (.ref ea))/\H ea=some (.frz oe u)/\oe.cls=.ref D
noncomputable def tIx(D:Addr)(b:Bool):TE:=fun σ H Q=>exAt D σ H/\Q (.bl b) H
noncomputable def isiOk(e:Expr)(c:Str):Bool:=(jX e).any fun z=>decide (z.1=("isinstance":Str))&&decide (z.2.1.length=2)&&decide (js (z.2.1.getD 0 e)=some ("_law_e":Str))&&decide (js (z.2.1.getD 1 e)=some c)
theorem isiOk_{e:Expr}{c:Str}(h:isiOk e c=true):∃q qe qc p,e=.Call (.Name "isinstance" q) [.Name "_law_e" qe,.Name c qc] [] p:=by
 unfold isiOk at h;obtain⟨⟨x,xs,pos⟩,hx,h⟩:=jb h;obtain⟨q,rfl⟩:=jG hx;simp only[Bool.and_eq_true,decide_eq_true_eq]at h;obtain⟨⟨⟨h1,h2⟩,h3⟩,h4⟩:=h;subst h1;obtain⟨a,b,rfl⟩:=qE h2;obtain⟨qe,rfl⟩:=jt (show js a=_ from h3);obtain⟨qc,rfl⟩:=jt (show js b=_ from h4);exact⟨q,qe,qc,pos,rfl⟩
noncomputable def zr:List Str->List Expr->Bool
 |[],es=>es.isEmpty
 |c::cs,es=>!es.isEmpty&&isiOk (es.getD 0 (.Name "" ⟨0,0,0,0⟩)) c&&zr cs (es.drop 1)
noncomputable def flagsOk(cs:List Str)(e:Expr):Bool:=(JZ e).any fun es=>zr cs es
noncomputable def setOk(s:Stmt)(p:Expr->Bool):Bool:=(Ji s).any fun z=>(sole z.1).any fun t=>decide (js t=some ("_law_flags":Str))&&p z.2
noncomputable def moreOk(cs:List Str)(e:Expr):Bool:=(asBin e).any fun z=>decide (z.2.1=.Add)&&decide (js z.1=some ("_law_flags":Str))&&flagsOk cs z.2.2
theorem setOk_{s:Stmt}{p:Expr->Bool}(h:setOk s p=true):∃q v pos,s=.Assign [.Name "_law_flags" q] v pos/\p v=true:=by
 unfold setOk at h;replace h:=jb h;obtain⟨⟨ts,v⟩,ha,h⟩:=h;obtain⟨pos,rfl⟩:=uQ ha;replace h:=jb h;obtain⟨t,ht,h⟩:=h;have et:=JQ ht;simp only at et;subst et;simp only[Bool.and_eq_true,decide_eq_true_eq]at h;obtain⟨q,rfl⟩:=jt h.1;exact⟨q,v,pos,rfl,h.2⟩
structure AX (X:Cx):Prop where
 n0:X.N[0]?=some ("_law_e":Str)
 n1:X.N[1]?=some ("_law_flags":Str)
 nd:X.N.Nodup
 l0:X.env.scope.names.lookup ("_law_e":Str)=some .local
 l1:X.env.scope.names.lookup ("_law_flags":Str)=some .local
 gl:∀c∈("isinstance":Str)::("TrueError":Str)::("ValueError":Str)::names12,Gl X c
 fn:∀x,X.fn x=true
section
variable {X:Cx} {D:Addr} {y:Str}
theorem Je(e:ExcIn X.K D):k8 X (.builtin "isinstance") (fun vs H Q=>∃ea oe u cv cu b,vs=[.ref ea,cv]/\H ea=some (.frz oe u)/\oe.cls=.ref D/\(∀u',jM cv u'->u'=cu)/\kitOne X.K (.ref D) cu=some b/\Q (.bl b) H):=by
 rintro pins s τ H vs us Q I r ⟨ea,oe,u,cv,cu,b,rfl,he,hc,hr,hk,q⟩;obtain⟨u1,u2,rfl,r1,r2⟩:=vals2 r;cases hr u2 r2;cases (show u1=Value.ref ea from r1);have ob:=I.hok ea _ he
 exact PySem.W.kia_one (kitx_exc e) I.kIn ⟨oe,ob.1,hc⟩ hk (fun z=>nomatch z) fun tk=>⟨.bl b,H,I.tok tk,rfl,q⟩
theorem pe_isx(a:AX X)(F:AloneF X.K X.mg y D){c:Str}(hc:c∈names12){q qe qc p:Pos}:PE X (.Call (.Name "isinstance" q) [.Name "_law_e" qe,.Name c qc] [] p) (tIx D (decide (c=y))):=by
 obtain⟨Ca,hm,hk⟩:=F.cls c hc;have g:=a.gl c (by simp[hc])
 have hdb:(c == ("__debug__":Str))=false:=by
  have:∀c∈names12,(c == ("__debug__":Str))=false:=by decide +kernel
  exact this c hc
 have pn:PE X (.Name c qc) (tC (.ref Ca)):=K4 g hm rfl hdb;refine PE.imp (fun τ H Q w=>?_) (kr (Je F.ex) (a.gl _ (by simp)) F.isi PyProof.Rows.boot_isinstance (ju (qq a.n0 (.inl a.l0)) (ju pn j6)));obtain⟨⟨ea,oe,u,h1,h2,h3⟩,w⟩:=w;exact⟨_,h1,ea,oe,u,_,_,_,rfl,h2,h3,fun u' r=>r,hk,w⟩
theorem pe_isT(a:AX X)(F:AloneF X.K X.mg y D){q qe qc p:Pos}:PE X (.Call (.Name "isinstance" q) [.Name "_law_e" qe,.Name "TrueError" qc] [] p) (tIx D true):=by
 obtain⟨Ca,hm,hk⟩:=F.te;have pn:PE X (.Name "TrueError" qc) (tC (.ref Ca)):=K4 (a.gl _ (by simp)) hm rfl;refine PE.imp (fun τ H Q w=>?_) (kr (Je F.ex) (a.gl _ (by simp)) F.isi PyProof.Rows.boot_isinstance (ju (qq a.n0 (.inl a.l0)) (ju pn j6)));obtain⟨⟨ea,oe,u,h1,h2,h3⟩,w⟩:=w;exact⟨_,h1,ea,oe,u,_,_,_,rfl,h2,h3,fun u' r=>r,hk,w⟩
theorem pe_isV(a:AX X)(F:AloneF X.K X.mg y D){q qe qc p:Pos}:PE X (.Call (.Name "isinstance" q) [.Name "_law_e" qe,.Name "ValueError" qc] [] p) (tIx D true):=by
 have pn:PE X (.Name "ValueError" qc) (tC (.ty "ValueError")):=pe_bltn (a.gl _ (by simp)) F.vn PyProof.Rows.Boot.«ValueError» rfl;refine PE.imp (fun τ H Q w=>?_) (kr (Je F.ex) (a.gl _ (by simp)) F.isi PyProof.Rows.boot_isinstance (ju (qq a.n0 (.inl a.l0)) (ju pn j6)));obtain⟨⟨ea,oe,u,h1,h2,h3⟩,w⟩:=w;exact⟨_,h1,ea,oe,u,_,_,_,rfl,h2,h3,fun u' r=>r,F.ve,w⟩
noncomputable def fl(y:Str)(cs:List Str):List Bool:=cs.map fun c=>decide (c=y)
theorem pa_isis(a:AX X)(F:AloneF X.K X.mg y D):∀(cs:List Str) (es:List Expr),zr cs es=true->(∀c∈cs,c∈names12)->PA X es (fun σ H Q=>exAt D σ H/\Q ((fl y cs).map .bl) H)
 |[],es,h,_=>by
  have e:es=[]:=by rw[zr]at h;simpa using h
  subst e
  exact PA.imp (fun τ H Q w=>w.2) j6
 |c::cs,es,h,hc=>by
  rw[zr]at h
  cases es with
  |nil=>simp at h
  |cons e r =>
   simp only[Bool.and_eq_true,List.drop_succ_cons,List.drop_zero]at h;obtain⟨q,qe,qc,p,rfl⟩:=isiOk_ (show isiOk e c=true from h.1.2);refine PA.imp (fun τ H Q w=>?_) (ju (pe_isx a F (hc c (List.mem_cons_self ..))) (pa_isis a F cs r h.2 fun z hz=>hc z (List.mem_cons_of_mem _ hz)));exact⟨w.1,w.1,w.2⟩
theorem pe_flags(a:AX X)(F:AloneF X.K X.mg y D){cs:List Str}{es:List Expr}{p:Pos}(h:zr cs es=true)(hc:∀c∈cs,c∈names12)(hl:cs.length<=100) :
 PE X (.List es p) (fun σ H Q=>exAt D σ H/\∀p H',jc H H'->SqL X.K H' p ((fl y cs).map .bl)->Q (.ref p) H'):=by
 refine PE.imp (fun τ H Q w=>?_) (Ja (pa_isis a F cs es h hc));refine⟨w.1,?_,fun p hp=>w.2 p _ (jB hp _) (SqL.of (jm ..))⟩
 have:100<=sizeLine:=by decide
 simp[fl];exact Nat.le_trans hl this
theorem iss_bl{K:Frag}{S:Hp}:∀bs:List Bool,Iss K S (bs.map Z.D.bl) (bs.map V.bl)
 |[]=>by unfold Iss;rfl
 |b::bs=>by
  simp only[List.map_cons];unfold Iss;exact⟨_,_,rfl,jH b,iss_bl bs⟩
theorem iss_bl_{K:Frag}{S:Hp}:∀ {bs:List Bool} {vs:List V},Iss K S (bs.map Z.D.bl) vs->vs=bs.map V.bl
 |[],vs,h=>by unfold Iss at h;exact h
 |b::bs,vs,h=>by
  simp only[List.map_cons]at h;unfold Iss at h;obtain⟨v,r,rfl,h1,h2⟩:=h;rw[kI h1,iss_bl_ h2];rfl
theorem op_cat:OpR X (binaryOp .Add) (fun x z H Q=>∃(p1 p2:Addr) (bs cs:List Bool),x=.ref p1/\z=.ref p2/\SqL X.K H p1 (bs.map .bl)/\SqL X.K H p2 (cs.map .bl)/\bs.length+cs.length<=lim/\∀p H',jc H H'->SqL X.K H' p ((bs++cs).map .bl)->Q (.ref p) H'):=by
 rintro pins s τ H x z v u Q I rx ry ⟨p1,p2,bs,cs,rfl,rfl,h1,h2,hl,q⟩;cases (show v=Value.ref p1 from rx);cases (show u=Value.ref p2 from ry);refine Ki (O:=[]) (xs:=bs.map Z.D.bl) (ys:=cs.map Z.D.bl) I (fun _ z=>nomatch z) ⟨by simpa using hl,fun v H' sm i=>?_⟩ h1 h2 (iss_bl bs) (iss_bl cs);rw[<- List.map_append]at i;obtain⟨p,vs,rfl,sq,is⟩:=jD i;rw[iss_bl_ is]at sq;exact q p H' sm ((je _ _).seq sq)
theorem pe_more(a:AX X)(F:AloneF X.K X.mg y D){cs:List Str}{es:List Expr}{p q pos:Pos}(h:zr cs es=true)(hc:∀c∈cs,c∈names12)(hl:cs.length<=100) :
 PE X (.BinOp (.Name "_law_flags" q) .Add (.List es p) pos) (fun σ H Q=>exAt D σ H/\∃(p1:Addr) (bs:List Bool),σ[1]?=some (some (.ref p1))/\SqL X.K H p1 (bs.map .bl)/\bs.length<=1000/\∀p H',jc H H'->SqL X.K H' p ((bs++fl y cs).map .bl)->Q (.ref p) H'):=by
 refine PE.imp (fun τ H Q w=>?_) (pe_op op_cat (qq a.n1 (.inl a.l1)) (pe_flags a F h hc hl));obtain⟨hx,p1,bs,e1,sq,hb,w⟩:=w;refine⟨.ref p1,e1,hx,fun p2 H' sm sq2=>⟨p1,p2,bs,fl y cs,rfl,rfl,sm.seq sq,sq2,?_,fun p H2 s2 sq3=>w p H2 (sm.trans s2) sq3⟩⟩;simp[fl];unfold lim;lia
theorem reads_bl{h:Heap}:∀ {bs:List Bool} {its:List Value},jA (bs.map V.bl) its->∃as,ReadsAll h its (bs.map PyData.bool) as
 |[],its,r=>by cases r;exact⟨_,.nil⟩
 |b::bs,its,r=>by
  cases r with
  |cons r1 r2 =>
   cases r1;obtain⟨as,ra⟩:=reads_bl r2;exact⟨_,.cons (.bool b) ra⟩
theorem count_bl(bs:List Bool):Spec.countIn (.bool true) (bs.map PyData.bool)=(bs.countP id:Nat):=by
 induction bs with
 |nil=>rfl
 |cons b bs ih =>
  rw[List.map_cons,Spec.countIn,ih];cases b
  ·rw[show (if Spec.same (PyData.bool false) (PyData.bool true)=true then (1:Int) else 0)=0 from rfl];simp
  ·rw[show (if Spec.same (PyData.bool true) (PyData.bool true)=true then (1:Int) else 0)=1 from rfl];simp;lia
theorem mt_count:MtR X "list.count" (fun x xs H Q=>∃(p:Addr) (bs:List Bool),x=.ref p/\xs=[.bl true]/\SqL X.K H p (bs.map .bl)/\Q (.int (bs.countP id:Nat)) H):=by
 rintro pins s τ H x xs v us Q I rx rs ⟨p,bs,rfl,rfl,sq,q⟩;cases (show v=Value.ref p from rx);obtain⟨u,rfl,ru⟩:=rs.one;cases (show u=Value.bool true from ru);obtain⟨its,r,pl,_⟩:=I.list sq;obtain⟨as,ra⟩:=reads_bl (h:=s.heap) r;refine count_list_bools pl.isList ra (by simp[Shape.has]) ?_;rw[count_bl];exact⟨.int _,H,I.tok _,⟨_,rfl⟩,q⟩
noncomputable def endOk(s:Stmt):Bool:=(JK s).any fun v=>v.any fun v=>(KJ v).any fun z=>decide (z.1=.And)&&decide (z.2.1.length=3)&&isiOk (z.2.1.getD 1 v) "TrueError" && isiOk (z.2.1.getD 2 v) "ValueError" &&
 (Km (z.2.1.getD 0 v)).any fun c=>decide (c.2.1=[.Eq])&&decide (c.2.2.length=1)&&decide (j3 (c.2.2.getD 0 v)=some (.int 1)) &&
  (yj c.1).any fun f=>f.2.2.1.isEmpty&&decide (f.2.1.length=1)&&decide (j3 (f.2.1.getD 0 v)=some (.bool true))&&(yh f.1).any fun o=>decide (o.2.1=("count":Str))&&decide (js o.1=some ("_law_flags":Str))&&(o.2.2.endLine == f.2.2.2.line)
theorem endOk_{s:Stmt}(h:endOk s=true):∃e1 e2 q ap cp j p j2 p2 p3 p4 p5,s=.Return (some (.BoolOp .And [.Compare (.Call (.Attribute (.Name "_law_flags" q) "count" ap) [.Constant (.bool true) j p] [] cp) [.Eq] [.Constant (.int 1) j2 p2] p3,e1,e2] p4)) p5 /\
 isiOk e1 "TrueError"=true/\isiOk e2 "ValueError"=true/\(ap.endLine == cp.line)=true:=by
 unfold endOk at h;replace h:=jb h;obtain⟨ov,h1,h⟩:=h;obtain⟨p5,rfl⟩:=vB h1;replace h:=jb h;obtain⟨v,rfl,h⟩:=h;replace h:=jb h;obtain⟨⟨op,vs,p4⟩,h2,h⟩:=h;have e2:=vi h2;subst e2;simp only[Bool.and_eq_true,decide_eq_true_eq]at h;obtain⟨⟨⟨⟨h3,h4⟩,h5⟩,h6⟩,h⟩:=h;subst h3
 match vs,h4,h5,h6,h with
 |[c,e1,e2],_,h5,h6,h =>
  replace h:=jb h;obtain⟨⟨l,ops,rs⟩,h7,h⟩:=h;obtain⟨p3,e7⟩:=Jr (show Km c=_ from h7);subst e7;simp only[Bool.and_eq_true,decide_eq_true_eq]at h;obtain⟨⟨⟨h8,h9⟩,h10⟩,h⟩:=h;subst h8;obtain⟨r,rfl⟩:=k7 h9;obtain⟨j2,p2,rfl⟩:=kY (show j3 r=_ from h10);replace h:=jb h;obtain⟨⟨f,xs,ks,cp⟩,h11,h⟩:=h;have e11:=yg h11;subst e11;simp only[Bool.and_eq_true,decide_eq_true_eq,List.isEmpty_iff]at h;obtain⟨⟨⟨h12,h13⟩,h14⟩,h⟩:=h;subst h12;obtain⟨x,rfl⟩:=k7 h13;obtain⟨j,p,rfl⟩:=kY (show j3 x=_ from h14);replace h:=jb h;obtain⟨⟨o,nm,ap⟩,h15,h⟩:=h;have e15:=x8 h15;subst e15;simp only[Bool.and_eq_true,decide_eq_true_eq]at h;obtain⟨⟨h16,h17⟩,h18⟩:=h;subst h16;obtain⟨q,rfl⟩:=jt h17;exact⟨e1,e2,q,ap,cp,j,p,j2,p2,p3,p4,p5,rfl,h5,h6,h18⟩
noncomputable def vw:List Stmt->Bool
 |[s1,s2,s3,s4]=>setOk s1 (flagsOk (names12.take 4))&&setOk s2 (moreOk ((names12.drop 4).take 4))&&setOk s3 (moreOk (names12.drop 8))&&endOk s4
 |_=>false
theorem sum1{y:Str}(h:y∈names12):(((fl y (names12.take 4)++fl y ((names12.drop 4).take 4))++fl y (names12.drop 8)).countP id)=1:=by
 have:∀y∈names12,(((fl y (names12.take 4)++fl y ((names12.drop 4).take 4))++fl y (names12.drop 8)).countP id)=1:=by decide +kernel
 exact this y h
theorem xW{σ:L2.St}{H H':Hp}{v:V}{D:Addr}(h:exAt D σ H)(sm:jc H H'):exAt D (σ.set 1 (some v)) H':=by
 obtain⟨ea,oe,u,h1,h2,h3⟩:=h;exact⟨ea,oe,u,by rw[List.getElem?_set_ne (by decide)];exact h1,sm _ _ h2,h3⟩
theorem pss_alone(a:AX X)(F:AloneF X.K X.mg y D)(hN:1<X.N.length){body:List Stmt}(h:vw body=true):PSs X body (fun E σ H=>exAt D σ H/\σ.length=X.N.length/\∀H',jc H H'->E.rt (.bl true) H'):=by
 unfold vw at h;split at h
 ·next s1 s2 s3 s4 =>
  simp only[Bool.and_eq_true]at h;obtain⟨⟨⟨h1,h2⟩,h3⟩,h4⟩:=h;obtain⟨q1,v1,p1,rfl,g1⟩:=setOk_ h1;obtain⟨q2,v2,p2,rfl,g2⟩:=setOk_ h2;obtain⟨q3,v3,p3,rfl,g3⟩:=setOk_ h3;obtain⟨e1,e2,q,ap,cp,j,p,j2,p2',p3',p4,p5,rfl,i1,i2,hl⟩:=endOk_ h4;obtain⟨es1,f1,g1⟩:=jb g1;obtain⟨lp1,rfl⟩:=yG f1;replace g2:=jb g2;obtain⟨⟨l2,o2,r2⟩,b2,g2⟩:=g2;obtain⟨bp2,rfl⟩:=KH b2;simp only[Bool.and_eq_true,decide_eq_true_eq]at g2;obtain⟨⟨z2,y2⟩,g2⟩:=g2;subst z2;obtain⟨nq2,rfl⟩:=jt y2;replace g2:=jb g2;obtain⟨es2,f2,g2⟩:=g2;obtain⟨lp2,rfl⟩:=yG f2;replace g3:=jb g3;obtain⟨⟨l3,o3,r3⟩,b3,g3⟩:=g3;obtain⟨bp3,rfl⟩:=KH b3;simp only[Bool.and_eq_true,decide_eq_true_eq]at g3;obtain⟨⟨z3,y3⟩,g3⟩:=g3;subst z3;obtain⟨nq3,rfl⟩:=jt y3;replace g3:=jb g3;obtain⟨es3,f3,g3⟩:=g3;obtain⟨lp3,rfl⟩:=yG f3;obtain⟨a1,a2,a3,a4,rfl⟩:=isiOk_ i1;obtain⟨b1',b2',b3',b4',rfl⟩:=isiOk_ i2
  have m1:∀c∈names12.take 4,c∈names12:=fun c hc=>List.mem_of_mem_take hc
  have m2:∀c∈(names12.drop 4).take 4,c∈names12:=fun c hc=>List.mem_of_mem_drop (List.mem_of_mem_take hc)
  have m3:∀c∈names12.drop 8,c∈names12:=fun c hc=>List.mem_of_mem_drop hc
  refine PSs.imp (fun E σ H w=>?_) (kf (uH a.nd a.n1 (.inl a.l1) (pe_flags a F g1 m1 (by decide)) rfl (.inl (a.fn _))) (kf (uH a.nd a.n1 (.inl a.l1) (pe_more a F g2 m2 (by decide)) rfl (.inl (a.fn _))) (kf (uH a.nd a.n1 (.inl a.l1) (pe_more a F g3 m3 (by decide)) rfl (.inl (a.fn _))) (kf
   (uw (pe_and (pe_cmpR op_eq (pe_bm PySem.F.plainAttrs_list PySem.F.slot_list_count PySem.F.type_list_count mt_count (qq a.n1 (.inl a.l1)) (ju pe_bl j6) rfl rfl hl) pe_int (nomark _)) (pe_and (pe_isT a F) (pe_one (pe_isV a F))))) xA))))
  obtain⟨hx,hln,w⟩:=w
  have h1l:1<σ.length:=by rw[hln];exact hN
  refine⟨hx,fun p1 H1 s1 sq1=>?_⟩;refine⟨xW hx s1,p1,_,List.getElem?_set_self h1l,sq1,by simp[fl,names12],fun p2 H2 s2 sq2=>?_⟩;refine⟨xW (xW hx s1) s2,p2,_,List.getElem?_set_self (by rw[List.length_set];exact h1l),sq2,by simp[fl,names12],fun p3 H3 s3 sq3=>?_⟩;have hx3:=xW (v:=.ref p3) (xW (v:=.ref p2) (xW (v:=.ref p1) hx s1) s2) s3;refine⟨.ref p3,List.getElem?_set_self (by rw[List.length_set,List.length_set];exact h1l),.inl ⟨rfl,_,sq3⟩,p3,_,rfl,rfl,sq3,?_⟩;rw[sum1 F.mem];refine⟨rfl,true,rfl,?_⟩;rw[if_pos rfl];refine⟨hx3,true,rfl,?_⟩;rw[if_pos rfl];exact⟨hx3,w H3 ((s1.trans s2).trans s3)⟩
 ·cases h
end
end Z
namespace Z
open PySem PySem.Spec PyProof.Rows L2
section
variable {X:Cx} {k:Ck} {C:Cfg} {O₀:List Addr} {H₀:Hp} {ex:XD->Prop}
theorem setS_out:∀ {σ:Sto} {i:Nat} (v:Option Sl),σ.length<=i->setS σ i v=σ
 |[],i,v,_=>rfl
 |x::r,0,v,h=>by simp at h
 |x::r,i+1,v,h=>by simp only[setS];rw[setS_out v (by simpa using h)]
theorem for_turnsG{J:It}{xs:List D}{S:Hp}{i:Nat}{body:Sm}{D:Ends}{τ:L2.St}{H1:Hp}{σ:Sto}{O1:List Addr}(g1:Good O₀ H₀ O1 H1)(R1:RepS O₀ X.K O1 H1 σ τ)
 (hgo:∀j H O,jc (minus H1 O1) (minus H O)->j<xs.length->J.go j H) (hst:∀j H O,jc (minus H1 O1) (minus H O)->xs.length<=j->J.stop j H)
 (hy:∀j H O v H' d,(∀a∈O,H a≠none)->jc (minus H1 O1) (minus H O)->J.yld j H v H'->xs[j]?=some d->jc H H'/\Is X.K (minus H' O) d v)
 (w:forL (fun K σ=>wpS C body K σ) i (lift X.K O₀ H₀ ex D O1 H1) xs σ) :
 ∃W:Nat->Nat->L2.St->Hp->Prop,(∃m,W 0 m τ H1)/\∀j m τ H,W j m τ H->(J.stop j H/\D.nx τ H)\/(J.go j H/\∃N:L2.St->Hp->Prop,(∀τ' H',N τ' H'->∃m',m'<m/\W (j+1) m' τ' H') /\
  ∀x H',J.yld j H x H'->gName i x τ H' fun τ2 H2=>tS X.K C O₀ H₀ ex body { D with nx:=N,ct:=N,bk:=D.nx } τ2 H2):=by
 refine⟨fun j m τ H=>m=xs.length-j/\j<=xs.length/\∃σ O,Good O₀ H₀ O H/\jc (minus H1 O1) (minus H O)/\RepS O₀ X.K O H σ τ/\forL (fun K σ=>wpS C body K σ) i (lift X.K O₀ H₀ ex D O1 H1) (xs.drop j) σ,
  ⟨_,rfl,Nat.zero_le _,σ,O1,g1,jc.refl _,R1,by simpa using w⟩,?_⟩
 rintro j m τ H ⟨rfl,hj,σ,O,g,sm,R,w⟩;by_cases hlt:j<xs.length
 ·refine .inr ⟨hgo j H O sm hlt,fun τ' H'=>j+1<=xs.length/\∃σ O,Good O₀ H₀ O H'/\jc (minus H1 O1) (minus H' O)/\RepS O₀ X.K O H' σ τ'/\forL (fun K σ=>wpS C body K σ) i (lift X.K O₀ H₀ ex D O1 H1) (xs.drop (j+1)) σ,
   fun τ' H' ⟨h1,h2⟩=>⟨xs.length-(j+1),by lia,rfl,h1,h2⟩,fun x H' y=>?_⟩
  obtain⟨e,is⟩:=hy j H O x H' xs[j] R.own sm y (List.getElem?_eq_getElem hlt);rw[List.drop_eq_getElem_cons hlt]at w;rw[forL]at w;refine⟨_,O,g.mono e,(R.mono e).set is,jn body ?_ w⟩;exact⟨fun σ' q τ' H' O' g' s' r'=>⟨hlt,σ',O',g',(sm.trans (jd e)).trans s',r',q⟩,fun _ q=>q,fun σ' q τ' H' O' g' s' r'=>q τ' H' O' g' ((sm.trans (jd e)).trans s') r',fun σ' q τ' H' O' g' s' r'=>⟨hlt,σ',O',g',(sm.trans (jd e)).trans s',r',q⟩,fun _ q=>q,fun _ q=>q,fun _ q=>q⟩
 ·have e:j=xs.length:=by lia
  subst e;refine .inl ⟨hst _ H O sm (Nat.le_refl _),?_⟩;rw[List.drop_length]at w;exact w τ H O g sm R
theorem for_turns{J:It}{xs:List D}{S:Hp}{i:Nat}{body:Sm}{D:Ends}{τ:L2.St}{H1:Hp}{σ:Sto}{O1:List Addr}(g1:Good O₀ H₀ O1 H1)(R1:RepS O₀ X.K O1 H1 σ τ)
 (hgo:∀j H O,jc (minus H1 O1) (minus H O)->j<xs.length->J.go j H) (hst:∀j H O,jc (minus H1 O1) (minus H O)->xs.length<=j->J.stop j H)
 (hy:∀j H O v H' d,jc (minus H1 O1) (minus H O)->J.yld j H v H'->xs[j]?=some d->H'=H/\Is X.K (minus H O) d v)
 (w:forL (fun K σ=>wpS C body K σ) i (lift X.K O₀ H₀ ex D O1 H1) xs σ) :
 ∃W:Nat->Nat->L2.St->Hp->Prop,(∃m,W 0 m τ H1)/\∀j m τ H,W j m τ H->(J.stop j H/\D.nx τ H)\/(J.go j H/\∃N:L2.St->Hp->Prop,(∀τ' H',N τ' H'->∃m',m'<m/\W (j+1) m' τ' H') /\
  ∀x H',J.yld j H x H'->gName i x τ H' fun τ2 H2=>tS X.K C O₀ H₀ ex body { D with nx:=N,ct:=N,bk:=D.nx } τ2 H2) :=
 for_turnsG (S:=S) g1 R1 hgo hst (fun j H O v H' d _ s y e=>by obtain⟨q,i⟩:=hy j H O v H' d s y e;subst q;exact⟨jc.refl _,i⟩) w
theorem shr_tS{K:PySem.W.Frag}{C:Cfg}{O₀:List Addr}{H₀:Hp}{ex:XD->Prop}{a b:Sm}{D:Ends}{τ:L2.St}{H:Hp}(hs:uc a=true)(w:tS K C O₀ H₀ ex (.seq a b) D τ H):tS K C O₀ H₀ ex b D τ H:=by
 obtain⟨i,e⟩:=isShr_ hs;obtain⟨σ,O,g,R,w⟩:=w;subst e;rw[wS_seq,wS_shr]at w
 cases gs:getS σ i with
 |none=>rw[gs]at w;exact w.elim
 |some u =>
  rw[gs]at w
  cases u with
  |sh d=>exact w.elim
  |ot _=>exact w.elim
  |ow ds =>
   obtain⟨a,vs,e1,e2,e3,e4⟩:=R.ow i ds gs;exact⟨_,_,g.share (R.mine i ds a gs e1),R.share gs e1 e3 e4,jn b (xD (jI fun x hx=>(kv.mp hx).1)) w⟩
mutual
theorem sS(ok:OkS X k C):∀(s:Sm) (st:Stmt),uC k s st=true->PS X st (tS X.K C O₀ H₀ ex s)
 |.nop,st,h=>nomatch (show false=true from h)
 |.seq a b,st,h=>nomatch (show false=true from h)
 |.set i e,st,h=>by
  replace h:=jb h;obtain⟨⟨ts,v⟩,ha,h⟩:=h;obtain⟨pos,rfl⟩:=uQ ha;replace h:=jb h;obtain⟨t,ht,h⟩:=h;have et:=JQ ht;simp only at et;subst et;replace h:=jb h;obtain⟨x,hx,h⟩:=h;obtain⟨p,rfl⟩:=jt hx
  ·rw[Bool.and_eq_true]at h;obtain⟨h1,h2,h3,h4⟩:=ok.vis h.1
   have plain:swapsWith v (some (.Name x p)) pos.line X.env=pure false->PS X (.Assign [.Name x p] v pos) (tS X.K C O₀ H₀ ex (.set i e)):=fun hsw=>by
    refine PS.imp (fun D τ H w=>?_) (uH ok.nd h1 h2 (sB ok.toOk e v h.2).1 hsw (.inl (ok.fn _)));obtain⟨σ,O,g,R,w⟩:=w;exact⟨σ,O,R.toReps,ja e (fun d wd v H1 s1 i1=>wd _ H1 O (g.mono s1) (jd s1) ((R.mono s1).set i1)) w⟩
   cases hq:isComp v with
   |false=>exact plain (swaps_of h.2 hq _ _ _)
   |true =>
    obtain⟨y,py,iter,elt,ifs,sc,ps,wi,tt,te,rfl,hck,hpi,hfo,hel,hco⟩:=comp_parts ok.toOk e v h.2 hq;obtain⟨b,hb⟩:=swaps_comp (elt:=elt) (gs:=[⟨.Name y py,iter,ifs,0⟩]) (sc:=sc) (pos:=ps) (py:=p) (y:=x) pos.line X.env
    cases b with
    |false=>exact plain hb
    |true =>
     intro pins s τ H D I w;obtain⟨cl,co⟩:=ok.toOk.comp hck I.ok;refine ps_comp ok.calm ok.nd (ok.toOk.comp_nE hck) co hpi (hel cl co).1 (hel cl co).2 hfo hb h1 h2 (.inl (ok.fn _)) pins s τ H D I (hco τ H _ ?_);obtain⟨σ,O,g,R,w⟩:=w
     exact⟨σ,O,R.toReps,ja e (fun d wd v H1 s1 i1=>wd _ H1 O (g.mono s1) (jd s1) ((R.mono s1).set i1)) w⟩
 |.unp is e,st,h=>by
  replace h:=jb h;obtain⟨⟨ts,v⟩,ha,h⟩:=h;obtain⟨pos,rfl⟩:=uQ ha;replace h:=jb h;obtain⟨t,ht,h⟩:=h;have et:=JQ ht;simp only at et;subst et;replace h:=jb h;obtain⟨es,hx,h⟩:=h;obtain⟨j,p,rfl⟩:=v6 hx
  ·simp only[Bool.and_eq_true]at h;obtain⟨⟨h1,h2⟩,h3⟩:=h;obtain⟨pg,hl,hf⟩:=JH ok is es h1
   have hsw:swappedStores [.Tuple es j p] v X.env=pure none:=by
    cases v<;>first|rfl|exact Bool.noConfusion h2
   refine PS.imp (fun D τ H w=>?_) (ps_asg (sB ok.toOk e v h3).1 (pg_sq ok.calm pg hl hf) (by unfold swapsWithSole;exact swaps_tup _ _ _) hsw rfl);obtain⟨σ,O,g,R,w⟩:=w;refine⟨σ,O,R.toReps,ja e (fun d wd v H1 s1 i1=>?_) w⟩
   cases d with
   |tup ds =>
    obtain⟨σ',e1,q⟩:=wd;obtain⟨a,vs,rfl,h4,h5⟩:=kQ i1
    exact .inl ⟨a,vs,rfl,(kF (je _ _) h4),by rw[h5.length,zI is e1],uJ is (R.mono s1) h5 e1 fun τ' R'=>q τ' H1 O (g.mono s1) (jd s1) R'⟩
   |lst ds =>
    obtain⟨σ',e1,q⟩:=wd;obtain⟨a,vs,rfl,h4,h5⟩:=jD i1
    exact .inr ⟨a,vs,rfl,(je _ _).seq h4,by rw[h5.length,zI is e1],uJ is (R.mono s1) h5 e1 fun τ' R'=>q τ' H1 O (g.mono s1) (jd s1) R'⟩
   |_=>exact wd.elim
 |.ret e,st,h=>by
  replace h:=jb h;obtain⟨ov,ho,h⟩:=h;replace h:=jb h;obtain⟨v,hv,h⟩:=h;subst hv;obtain⟨pos,rfl⟩:=vB ho
  ·refine PS.imp (fun D τ H w=>?_) (uw (sB ok.toOk e v h).1);obtain⟨σ,O,g,R,w⟩:=w
   exact⟨σ,O,R.toReps,ja e (fun d wd v H1 s1 i1=>wd v H1 (g.same.trans s1) (Is.mono (jI g.sub) d i1)) w⟩
 |.ite c a b,st,h=>by
  replace h:=jb h;obtain⟨⟨t,x,y⟩,hz,h⟩:=h;obtain⟨pos,rfl⟩:=asIfS_ hz;simp only[Bool.and_eq_true]at h;refine PS.imp (fun D τ H w=>?_) (ps_if (sB ok.toOk c t h.1.1).2 (sK ok a x h.1.2) (sK ok b y h.2));obtain⟨σ,O,g,R,w⟩:=w;refine⟨σ,O,R.toReps,ja c (fun d=>jW fun t wt H1 s1=>?_) w⟩
  cases t with
  |true=>exact⟨σ,O,g.mono s1,R.mono s1,jn a (xD (jd s1)) wt⟩
  |false=>exact⟨σ,O,g.mono s1,R.mono s1,jn b (xD (jd s1)) wt⟩
 |.whl c b,st,h=>by
  replace h:=jb h;obtain⟨⟨t,x,oe⟩,hz,h⟩:=h;obtain⟨pos,rfl⟩:=asWhl_ hz;simp only[Bool.and_eq_true,List.isEmpty_iff]at h;obtain⟨⟨he,h1⟩,h2⟩:=h;subst he
  ·have h:chkE k c t=true/\zh k b x=true:=⟨h1,h2⟩
   refine PS.imp (fun D τ H w=>?_) (ps_while (by rw[ok.xe];exact PassesOwn.never) (sB ok.toOk c t h.1).2 (sK ok b x h.2));obtain⟨σ,O,g,R,w⟩:=w;obtain⟨W,⟨m,w0⟩,turn⟩:=w;refine⟨fun m τ' H'=>∃σ' O',Good O₀ H₀ O' H'/\jc (minus H O) (minus H' O')/\RepS O₀ X.K O' H' σ' τ'/\W m σ',⟨m,σ,O,g,jc.refl _,R,w0⟩,?_⟩;rintro m τ1 H1 ⟨σ1,O1,g1,s1,R1,w1⟩;refine⟨σ1,O1,R1.toReps,ja c (fun d=>jW fun t wt H2 s2=>?_) (turn m σ1 w1)⟩;have s12:jc (minus H O) (minus H2 O1):=s1.trans (jd s2)
   cases t with
   |true =>
    refine⟨fun τ' H'=>∃m',m'<m/\∃σ' O',Good O₀ H₀ O' H'/\jc (minus H O) (minus H' O')/\RepS O₀ X.K O' H' σ' τ'/\W m' σ',fun τ' H' q=>q,σ1,O1,g1.mono s2,R1.mono s2,jn b ?_ wt⟩
    exact⟨fun σ' ⟨m',l,q⟩ τ' H' O' g' s' r'=>⟨m',l,σ',O',g',s12.trans s',r',q⟩,fun _ q=>q,fun σ' q τ' H' O' g' s' r'=>q τ' H' O' g' (s12.trans s') r',fun σ' ⟨m',l,q⟩ τ' H' O' g' s' r'=>⟨m',l,σ',O',g',s12.trans s',r',q⟩,fun _ q=>q,fun _ q=>q,fun _ q=>q⟩
   |false=>exact wt τ1 H2 O1 (g1.mono s2) s12 (R1.mono s2)
 |.forR i es b,st,h=>by
  replace h:=jb h;obtain⟨⟨tg,it,body,oe⟩,hz,h⟩:=h;obtain⟨pos,rfl⟩:=asFor_ hz;replace h:=jb h;obtain⟨x,hxn,h⟩:=h;obtain⟨p,e1⟩:=jt hxn;clear hxn;simp only at e1;subst e1;replace h:=jb h;obtain⟨⟨f,args,p2⟩,hc,h⟩:=h;obtain⟨q,e2⟩:=jG hc;simp only at e2;subst e2;simp only[Bool.and_eq_true,decide_eq_true_eq,List.isEmpty_iff]at h;obtain⟨⟨⟨⟨⟨⟨he,hx⟩,hf⟩,hg⟩,hne⟩,ha⟩,hb⟩:=h;subst he hf
  ·skip
   obtain⟨h1,h2,h3,h4⟩:=ok.vis hx;obtain⟨g1,_,_⟩:=ok.gl hg
   cases args with
   |nil=>simp at hne
   |cons y ys =>
    have hs:starEach (y::ys) X.env=(false,eval y X.env)::starEach ys X.env/\(backTo p2 (starEach ys X.env)).any (·.1)=false:=by
     cases es with
     |nil=>have:=kg ha;cases this
     |cons z zs =>
      obtain⟨y',ys',e',h5,h6⟩:=j0 ha;cases e';exact⟨jP h5 _ _,qd h6 _ _⟩
    refine PS.imp (fun D τ H w=>?_) (ps_for (by rw[ok.xe];exact PassesOwn.never) ok.calm (pi_rg g1 (ok.blt _ (by decide)) (sA ok.toOk es _ ha) hs.1 hs.2) (pg_name ok.nd h1 h2 (.inl (ok.fn _))) (sK ok b body hb) (fun _=>rfl));obtain⟨σ,O,g,R,w⟩:=w;refine⟨σ,O,R.toReps,jq es (fun ds wd vs H1 s1 i1=>?_) w⟩;obtain⟨lo,hi,st,e,c,wd⟩:=rgD_of i1 wd;refine⟨lo,hi,st,e,c,?_⟩;refine for_turns (S:=H1) (g.mono s1) (R.mono s1) (xs:=kc lo st (if lo<hi then (hi-lo-1) / st+1 else 0).toNat) ?_ ?_ ?_ (ze (body:=fun K σ=>wpS C b K σ) (fun K K' σ h w=>jn b h w) (xD (jd s1)) _ wd)
    ·intro j H O _ hj;rw[jE]at hj;exact hj
    ·intro j H O _ hj;rw[jE]at hj;exact hj
    ·intro j H O v H' d _ y hd;obtain⟨e1,e2⟩:=y
     have hj:j<(if lo<hi then (hi-lo-1) / st+1 else 0).toNat:=by
      rcases Nat.lt_or_ge j (if lo<hi then (hi-lo-1) / st+1 else 0).toNat with z|z
      ·exact z
      ·rw[List.getElem?_eq_none (by rw[jE];exact z)]at hd;cases hd
     rw[yw _ _ _ _ hj]at hd;cases hd
     exact⟨e1,by rw[e2];exact jF _⟩
 |.brk,st,h=>by
  obtain⟨pos,rfl⟩:=isBrk_ h;refine PS.imp (fun D τ H w=>?_) ps_break;obtain⟨σ,O,g,R,w⟩:=w
  exact w τ H O g (jc.refl _) R
 |.cnt,st,h=>by
  obtain⟨pos,rfl⟩:=isCnt_ h;refine PS.imp (fun D τ H w=>?_) ps_continue;obtain⟨σ,O,g,R,w⟩:=w
  exact w τ H O g (jc.refl _) R
 |.never,st,h=>by
  refine PS.imp (fun D τ H w=>?_) ps_never;obtain⟨σ,O,g,R,w⟩:=w
  exact w
 |.new i,st,h=>by
  replace h:=jb h;obtain⟨⟨ts,v⟩,ha,h⟩:=h;obtain⟨pos,rfl⟩:=uQ ha;replace h:=jb h;obtain⟨t,ht,h⟩:=h;have et:=JQ ht;simp only at et;subst et;replace h:=jb h;obtain⟨x,hx,h⟩:=h;obtain⟨p,rfl⟩:=jt hx;rw[Bool.and_eq_true]at h;obtain⟨h1,h2,h3,h4⟩:=ok.vis h.1;obtain⟨es,he,h5⟩:=jb h.2
  have hes:es=[]:=by simpa using h5
  subst hes;obtain⟨lp,e2⟩:=yG he;simp only at e2;subst e2;refine PS.imp (fun D τ H w=>?_) (uH ok.nd h1 h2 (Ja j6) rfl (.inl (ok.fn _)));obtain⟨σ,O,g,R,w⟩:=w;rw[wS_new]at w;refine⟨by decide,fun l hl=>?_⟩;have hi:i<τ.length\/τ.length<=i:=Nat.lt_or_ge ..;have s1:jc H (upd H l (.lst [])):=jB hl _;rcases hi with hi|hi
  ·exact w _ _ (l::O) (g.fresh s1 hl) (kL s1 hl) (R.fresh g.sub s1 hl (jm ..) (by unfold Iss;rfl) hi)
  ·have e1:setS σ i (some (.ow []))=σ:=setS_out _ (by rw[R.len];exact hi);have e2:τ.set i (some (.ref l))=τ:=List.set_eq_of_length_le hi;rw[e1]at w;show D.nx (τ.set i (some (.ref l))) _;rw[e2]
   exact w _ _ O (g.mono s1) (jd s1) (R.mono s1)
 |.app i e,st,h=>by
  replace h:=jb h;obtain⟨z,hz,h⟩:=h;obtain⟨pos,rfl⟩:=asExp_ hz;replace h:=jb h;obtain⟨⟨fe,xs,ks,cp⟩,hc,h⟩:=h;have ee:=yg hc;subst ee;simp only[Bool.and_eq_true,decide_eq_true_eq,List.isEmpty_iff]at h;obtain⟨⟨⟨hk,hl1⟩,hat⟩,he⟩:=h;replace hat:=jb hat;obtain⟨⟨ob,at',ap⟩,hy,hat⟩:=hat;have ee:=x8 hy;subst ee;simp only[Bool.and_eq_true,decide_eq_true_eq]at hat;obtain⟨⟨ha1,ha2⟩,ha3⟩:=hat;subst ha1 hk;replace ha2:=jb ha2;obtain⟨x,hx,hloc⟩:=ha2;obtain⟨q,rfl⟩:=jt hx;obtain⟨y,rfl⟩:=k7 hl1;have he:chkE k e y=true:=he;obtain⟨h1,h2,h3,h4⟩:=ok.vis hloc;refine PS.imp (fun D τ H w=>?_) (ps_expr (pe_bm PySem.F.plainAttrs_list PySem.F.slot_list_append PySem.F.type_list_append mt_append (qq h1 (loc_vis h2) h3 h4) (ju (sB ok.toOk e y he).1 j6 (jP he _ _)) rfl (by rw[jP he];rfl) ha3 (jP he _ _) rfl));obtain⟨σ,O,g,R,w⟩:=w;rw[wS_app]at w
  cases gs:getS σ i with
  |none=>rw[gs]at w;exact w.elim
  |some u =>
   rw[gs]at w
   cases u with
   |sh d=>exact w.elim
   |ot _=>exact w.elim
   |ow ds =>
    obtain⟨a,vs,e1,e2,e3,e4⟩:=R.ow i ds gs;refine⟨.ref a,e1,.inl ⟨rfl,vs,SqL.of e3⟩,σ,O,R.toReps,ja e (fun d wd v H1 s1 i1=>?_) w.2⟩;have hl:=e4.length;have hlim:=w.1;refine⟨a,vs,v,rfl,rfl,s1 _ _ e3,by rw[sizeLine_eq];unfold lim at hlim;lia,?_⟩;have i2:Iss X.K (minus H1 O) (ds ++ [d]) (vs ++ [v]):=(Iss.mono (jd s1) ds e4).append (by unfold Iss;exact⟨v,[],rfl,i1,by unfold Iss;rfl⟩);refine wd τ _ O ((g.mono s1).write e2 (R.mine i ds a gs e1)) ?_ ((R.mono s1).write (vs:=vs) gs e1 e2 i2);rw[xF e2]
    exact jd s1
 |.shr _,_,h=>nomatch (show false=true from h)
 |.raise _,_,h=>nomatch (show false=true from h)
 |.retX _ _ _,_,h=>nomatch (show false=true from h)
 |.raiseA _ _,_,h=>nomatch (show false=true from h)
 |.setX _ _ _ _,_,h=>nomatch (show false=true from h)
 |.retP _ _ _,_,h=>nomatch (show false=true from h)
 |.tryX _ _,_,h=>nomatch (show false=true from h)
theorem sK(ok:OkS X k C):∀(s:Sm) (st:List Stmt),zh k s st=true->PSs X st (tS X.K C O₀ H₀ ex s)
 |.nop,st,h=>by
  have e:st=[]:=by rw[zh]at h;simpa using h
  subst e;refine PSs.imp (fun D τ H w=>?_) xA;obtain⟨σ,O,g,R,w⟩:=w
  exact w τ H O g (jc.refl _) R
 |.seq a b,st,h=>by
  by_cases hs:uc a=true
  ·exact PSs.imp (fun D τ H w=>shr_tS hs w) (sK ok b st (chkB_shr hs h))
  ·have hs:uc a=false:=by simpa using hs
   obtain⟨s,r,rfl,h1,h2⟩:=chkB_cons hs h;refine PSs.imp (fun D τ H w=>?_) (kf (sS ok a s h1) (sK ok b r h2));obtain⟨σ,O,g,R,w⟩:=w;refine⟨σ,O,g,R,jn a ?_ w⟩
   exact⟨fun σ' q τ' H' O' g' s' r'=>⟨σ',O',g',r',jn b (xD s') q⟩,fun _ q=>q,fun _ q=>q,fun _ q=>q,fun _ q=>q,fun _ q=>q,fun _ q=>q⟩
 |.set _ _,_,h=>nomatch (show false=true from h)
 |.unp _ _,_,h=>nomatch (show false=true from h)
 |.ret _,_,h=>nomatch (show false=true from h)
 |.ite _ _ _,_,h=>nomatch (show false=true from h)
 |.whl _ _,_,h=>nomatch (show false=true from h)
 |.forR _ _ _,_,h=>nomatch (show false=true from h)
 |.brk,_,h=>nomatch (show false=true from h)
 |.cnt,_,h=>nomatch (show false=true from h)
 |.never,_,h=>nomatch (show false=true from h)
 |.new _,_,h=>nomatch (show false=true from h)
 |.app _ _,_,h=>nomatch (show false=true from h)
 |.shr _,_,h=>nomatch (show false=true from h)
 |.raise _,_,h=>nomatch (show false=true from h)
 |.retX _ _ _,_,h=>nomatch (show false=true from h)
 |.raiseA _ _,_,h=>nomatch (show false=true from h)
 |.setX _ _ _ _,_,h=>nomatch (show false=true from h)
 |.retP _ _ _,_,h=>nomatch (show false=true from h)
 |.tryX _ _,_,h=>nomatch (show false=true from h)
end
end
end Z
namespace Z
open PySem PySem.Spec PySem.Calls PyProof.Rows PySem.W L2
theorem tg_entry:entryFor table "type.__getattribute__"=some Builtin.«type.__getattribute__»:=entryFor_of_tree (by kernel_rfl)
theorem tg_bind(self:Value):bindSpecial (.builtin "type.__getattribute__") self=pure (.builtin "type.__getattribute__",[self]):=by rfl
theorem Kt{K:Frag}{M:Model}{h:Heap}{n:Str}{r:Option Value}(X:K.In h)(e:fastLookup "wrapper_descriptor" n=some r):Looks M h (specialOf (.builtin "type.__init__") n) r:=looks_specialIn X (show specialIn K (.builtin "type.__init__") n=some r from e)
section
variable {prog:Program} {w:World} {A:Around} {E:Value->Shared->Prop} {h:Heap} {g:Array GenState} {d:Drawn} {t:Nat} {os:OsState} {K:Frag} {T:Addr} {ddT:Option Addr} {cdT:ClassData} {slT:Array (Option Value)}
theorem cls_init{expr:Bool}{Q:Value->Shared->Prop}(X:K.In h)(tt:h.get? T=some ⟨.type "type",ddT,.cls cdT,slT⟩)(op:nsIn K cStatics "thirdparty.any"=some none)(fi:findIn K (.ref T) "__init__"=some (some (.builtin "ValueError.__init__")))
 (hq:Q (.builtin "ValueError.__init__") ⟨h,g,d,t+1,os⟩):wpAny (model prog w) A (getAttr (.ref T) "__init__" expr) Q E ⟨h,g,d,t,os⟩:=by
 have L0:Looks (model prog w) h (typeOf (.ref T)) (.type "type"):=(Looks.ld tt).andThen .now;have L1:=looks_findIn (M:=model prog w) X (show findIn K (.type "type") "__getattribute__"=some (some (.builtin "type.__getattribute__")) from by show fastLookup "type" "__getattribute__"=_;decide +kernel);have L2:=looks_opaque (M:=model prog w) (C:=T) X op;have L3:=looks_findIn (M:=model prog w) X (show findIn K (.type "type") "__init__"=some (some (.builtin "type.__init__")) from by show fastLookup "type" "__init__"=_;decide +kernel);have L4:=Kt (M:=model prog w) (n:="__get__") (r:=some (.builtin "wrapper_descriptor.__get__")) X (by decide +kernel);have L5:=Kt (M:=model prog w) (n:="__set__") (r:=none) X (by decide +kernel);have L6:=Kt (M:=model prog w) (n:="__delete__") (r:=none) X (by decide +kernel);have L7:=looks_findIn (M:=model prog w) X fi
 have y0:(expr&&onTheHeap (Value.builtin "type.__getattribute__"))=false:=by cases expr<;>rfl
 unfold getAttr getAttrBy;refine wpAny_bind (wpAny_mkText (wpAny_holding (wpAny_bind (L0.at (wpAny_bind (L1.at ?_))))));show wpAny _ _ (getAttrByItsOwn _ _ _ _ _ _) _ _ _;unfold getAttrByItsOwn hookBefore;refine wpAny_bind (wpAny_pure (wpAny_bind (wpAny_attempt (wpAny_holding ?_))));unfold callGetattribute;rw[if_neg (by rw[y0];decide)];unfold boundAndCalled;refine wpAny_bind (wpAny_of_eq (tg_bind _) ?_);refine wpAny_call (codeAny_call_builtin (by decide +kernel) tg_entry ?_)
 have hk:builtinKind "type.__getattribute__"=some .slot:=by decide +kernel
 have hsp:splitId "type.__getattribute__"=some ("type","__getattribute__"):=by decide +kernel
 simp only[checkBuiltinCall,hk,hsp];refine wpAny_bind ?_;unfold isInstance;refine wpAny_bind (L0.at ?_);refine wpAny_of_eq (show isSubtype (.type "type") (.type "type")=pure true from by rfl) ?_;rw[if_neg (by decide)];refine wpAny_of_eq (show _=pure () from (show argsOk "type.__getattribute__" ⟨[.ref T,.str "__init__" t],[]⟩ from rfl)) ?_;unfold Builtin.«type.__getattribute__»;refine wpAny_bind (wpAny_of_eq (show asStr? (.str "__init__" t)=pure (some ("__init__":Str)) from rfl) ?_);show wpAny _ _ (do let x <- opaqueClassAbove (.ref T);_) _ _ _;refine wpAny_bind (L2.at ?_);refine wpAny_bind (L0.at (wpAny_bind (L3.at (wpAny_bind (L4.at (wpAny_bind (L5.at ?_)))))));rw[if_neg (by decide)];refine wpAny_bind (L6.at (wpAny_bind (wpAny_pure ?_)));show wpAny _ _ (do let z <- typeLookup (.ref T) ("__init__":Str);_) _ _ _;refine wpAny_bind (L7.at ?_);simp only[];rw[if_neg (by decide +kernel)];refine wpAny_bind (wpAny_of_eq (show typeOf (.builtin "ValueError.__init__")=pure (.type "wrapper_descriptor") from rfl) ?_);rw[if_pos (by decide +kernel)];refine wpAny_pure ?_;refine wpAny_of_eq (show handedOut (.builtin "ValueError.__init__")=pure (.builtin "ValueError.__init__") from rfl) ?_;exact hq
end
theorem ns_some{K:Frag}{h:Heap}{N:Addr}{m:Str->Option Value}{n:Str}{v:Value}(X:K.In h)(G:h.Ns N m)(e:nsIn K N n=some (some v)):m n=some v:=by
 obtain⟨o,es,ep,ho,hd,_,hf⟩:=G;unfold nsIn at e;split at e
 ·next cls dict es1 epoch slots heq =>
  have this:=X _ _ heq;rw[ho]at this;cases this;cases hd;split at e
  ·next e1 h1 =>
   cases e;rw[<- hf n];unfold nsFind findBy;rw[<- Array.find?_toList,h1];rfl
  ·split at e<;>cases e
 ·cases e
structure InitF (K:Frag) (mg:Str->Option Value) (C T f:Addr) (n:Str):Prop where
 lk:∃nm q N bs sn sub ab col dd k0 k1 k2 k3 k5,K.lookup C=some (excClassObj nm q C N bs (.ref T::bmV) true sn sub ab col dd k0 k1 k2 k3 k5 JA)/\nsOkIn K N=true/\nsIn K N "__init__"=some (some (.ref f))/\∀x ∈ [("__getattribute__":Str),"__getattr__","__setattr__",n],nsIn K N x=some none
 lt:∃dd cd sl,K.lookup T=some ⟨.type "type",dd,.cls cd,sl⟩/\nsOkIn K cd.ns=true/\∀x∈n::("__setattr__":Str)::quietNames,nsIn K cd.ns x=some none
 op:nsIn K cStatics "thirdparty.any"=some none
 fi:findIn K (.ref T) "__init__"=some (some (.builtin "ValueError.__init__"))
 te:mg "TrueError"=some (.ref T)
 fn:isFn K (.ref f)=true
 kp:keepIn K (.ref C)=true
 bl:typeLookup (.type "ValueError") n=pure none
structure InitH (h:Heap) (C T f N:Addr) (n:Str) (o:Obj) (mN:Str->Option Value):Prop where
 hC:h.get? C=some o
 hn:h.Ns N mN
 hi:mN "__init__"=some (.ref f)
 no:∀x ∈ [("__getattribute__":Str),"__getattr__","__setattr__",n],mN x=none
 tl:OwnTail h bmV (.ref T::bmV)
 tq:OwnTailQ h bmV (.ref T::bmV)
 tn:∀x∈n::("__setattr__":Str)::quietNames,TailN x h bmV (.ref T::bmV)
 hf:∃oI,h.get? f=some oI/\oI.cls=.type "function"
theorem InitF.heap{K:Frag}{mg:Str->Option Value}{C T f:Addr}{n:Str}{h:Heap}(F:InitF K mg C T f n)(X:K.In h) :
 ∃nm q N bs sn sub ab col dd k0 k1 k2 k3 k5 mN,InitH h C T f N n (excClassObj nm q C N bs (.ref T::bmV) true sn sub ab col dd k0 k1 k2 k3 k5 JA) mN:=by
 obtain⟨nm,q,N,bs,sn,sub,ab,col,dd,k0,k1,k2,k3,k5,l1,l2,l3,l4⟩:=F.lk;obtain⟨ddT,cd,sl,t1,t2,t3⟩:=F.lt;have nT:=Heap.Ns.of_isNs (isNs_of_in X t2);have nN:=Heap.Ns.of_isNs (isNs_of_in X l2)
 have mT:∀x∈n::("__setattr__":Str)::quietNames,h.nsMap cd.ns x=none:=fun x hx=>nsMap_none_of_in X t2 (t3 x hx)
 refine⟨nm,q,N,bs,sn,sub,ab,col,dd,k0,k1,k2,k3,k5,h.nsMap N,X _ _ l1,nN,ns_some X nN l3,fun x hx=>nsMap_none_of_in X l2 (l4 x hx),.own (X _ _ t1) nT (mT _ (by simp[quietNames])) .base,.own (X _ _ t1) nT (fun x hx=>mT x (List.mem_cons_of_mem _ (List.mem_cons_of_mem _ hx))) .base,fun x hx=>.own (X _ _ t1) nT (mT x hx) .base,?_⟩;have:=F.fn;unfold isFn typeIn at this;simp only at this
 cases q:K.lookup f with
 |none=>rw[q]at this;cases this
 |some oI =>
  rw[q]at this;exact⟨oI,X _ _ q,by simpa using this⟩
noncomputable def excO(C t:Addr)(dct:Option Addr):Obj:={ cls:=.ref C,dict:=dct,data:=.fields #[.ref t,.none,.none,.none,.bool false,.none] }
abbrev xo(e C:Addr)(dct:Option Addr):HO:=.ext fun h=>∃t,h.get? e=some (excO C t dct)
theorem xo_ok{P:Program}{w:World}{H:Hp}{h:Heap}{e C t:Addr}{dct:Option Addr}(he:h.get? e=some (excO C t dct)):ql P w H h e (xo e C dct):=⟨⟨t,he⟩,⟨_,he⟩,fun h1 h2 ⟨t,q⟩ k=>⟨t,k _ q⟩⟩
theorem upd_id{H:Hp}{a:Addr}{o:HO}(h:H a=some o):upd H a o=H:=by
 funext b;unfold upd;split
 ·next e=>rw[e,h]
 ·rfl
theorem cls_meth{prog:Program}{w:World}{A:Around}{E:Value->Shared->Prop}{s:Shared}{K:Frag}{T:Addr}{ddT:Option Addr}{cdT:ClassData}{slT:Array (Option Value)}{pl:Sem Bool}{Q:Value×List Value->Shared->Prop}(X:K.In s.heap)(tt:s.heap.get? T=some ⟨.type "type",ddT,.cls cdT,slT⟩)(op:nsIn K cStatics "thirdparty.any"=some none)(fi:findIn K (.ref T) "__init__"=some (some (.builtin "ValueError.__init__")))
 (hq:Q (.builtin "ValueError.__init__",[]) { s with toks:=s.toks+1 }):wpAny (model prog w) A (getMethod (.ref T) "__init__" pl) Q E s:=by
 obtain⟨h,g,d,t,os⟩:=s;have L0:Looks (model prog w) h (typeOf (.ref T)) (.type "type"):=(Looks.ld tt).andThen .now;have L1:=looks_findIn (M:=model prog w) X (show findIn K (.type "type") "__getattribute__"=some (some (.builtin "type.__getattribute__")) from by show fastLookup "type" "__getattribute__"=_;decide +kernel);unfold getMethod specialOf;refine wpAny_bind (wpAny_bind (L0.at (L1.at ?_)));simp only[];rw[if_pos (by decide +kernel)];exact wpAny_bind (cls_init X tt op fi (wpAny_pure hq))
section
variable {X:Cx} {C T f:Addr} {n:Str}
theorem ps_super{tp sp xp ap cp pos:Pos}{i j:Nat}{x y:Str}(gl:Gl X "TrueError")(hT:X.mg "TrueError"=some (.ref T))(hi:X.N[i]?=some x)(hj:X.N[j]?=some y)(vx:Vis X.env.scope x)(vy:Vis X.env.scope y)
 (dx:(x == ("__debug__":Str))=false/\(x == ("__classdict__":Str))=false) (dy:(y == ("__debug__":Str))=false/\(y == ("__classdict__":Str))=false) (F:InitF X.K X.mg C T f n) (hline:(ap.endLine == cp.line)=true) :
 PS X (.Expr (.Call (.Attribute (.Name "TrueError" tp) "__init__" ap) [.Name x sp,.Name y xp] [] cp) pos) (fun D σ H=>∃e v,σ[i]?=some (some (.ref e))/\σ[j]?=some (some v)/\H e=some (xo e C none)/\D.nx σ H):=by
 refine Z.PS.imp (fun D σ H w=>?_) (ps_expr (te:=fun σ H Q=>∃e v,σ[i]?=some (some (.ref e))/\σ[j]?=some (some v)/\H e=some (xo e C none)/\Q .non H) ?_)
 ·exact w
 intro pins s σ H Q I w;obtain⟨e,v,e1,e2,he,q⟩:=w;obtain⟨ddT,cd,sl,t1,t2,t3⟩:=F.lt
 have hfew:methodCallForm ([Expr.Name x sp,.Name y xp].length+([]:List Keyword).length) (backTo cp (starEach [Expr.Name x sp,.Name y xp] X.env)) (backToKw cp (keywordEach [] X.env))=true:=by rfl
 rw[arm_eval_Call,show attributeBase (.Name "TrueError" tp) "__init__" X.env (eval (.Name "TrueError" tp) X.env)=eval (.Name "TrueError" tp) X.env from rfl];refine wpAny_bind (yi I gl hT ?_ (by decide));refine wpAny_bind (wpAny_standAt ?_);unfold methodCall methodCallPos;rw[hfew,hline];refine wpAny_bind (wpAny_holding ?_);show wpAny _ _ (getMethod (.ref T) "__init__" _) _ _ _;refine cls_meth I.kIn (I.kIn _ _ t1) F.op F.fi ?_;refine wpAny_bind (wpAny_pure ?_);have pa:PA X [.Name x sp,.Name y xp] _:=ju (qq hi vx dx.1 dx.2) (ju (qq hj vy dy.1 dy.2) j6);refine PyProof.Rows.callWith_builtin1 (thn (pa cp pins _ σ H (fun vs H1=>vs=[.ref e,v]/\H1=H) (I.tok _) ⟨_,e1,_,e2,rfl,rfl⟩) fun us s1 ⟨vs,H1,I1,r1,q1,q2⟩=>?_);subst q1 q2;obtain⟨nm,qn,N,bs,sn,sub,ab,col,dd,k0,k1,k2,k3,k5,mN,hh⟩:=F.heap I1.kIn
 cases r1 with
 |cons r2 r3 =>
  obtain rfl:_=Value.ref e:=r2
  cases r3 with
  |cons r4 r5 =>
   cases r5;obtain⟨⟨t0,he1⟩,_⟩:=I1.hok e _ he;obtain⟨hp,g,d,tk,os⟩:=s1
   refine init_base PySem.F.excBase_ValueError hh.tl hh.hC he1 (by show 1<=sizeLine;decide) fun h' kp g1 g2=>?_
   refine⟨.non,H1,?_,rfl,q⟩;have:=I1.write (x:=e) (e:=e) (o:=xo e C none) (t':=tk) (h':=h') (by rw[he];trivial) (.inl rfl) kp ⟨_,g1⟩ (xo_ok g1);rw[upd_id he]at this;exact this
theorem ps_fldx{value:Expr}{tv:TE}{sp ap pos:Pos}{i:Nat}{x:Str}(hi:X.N[i]?=some x)(vx:Vis X.env.scope x)(dx:(x == ("__debug__":Str))=false/\(x == ("__classdict__":Str))=false)(hv:PE X value tv)(F:InitF X.K X.mg C T f n)(hs:swapsWith value (some (.Attribute (.Name x sp) n ap)) pos.line X.env=pure false) :
 PS X (.Assign [.Attribute (.Name x sp) n ap] value pos) (fun D σ H=>tv σ H fun y H1=>∃e,σ[i]?=some (some (.ref e))/\H1 e=some (xo e C none)/\∀dA,H1 dA=none->dA≠e->D.nx σ (upd (upd H1 dA (.xd [(n,y)])) e (xo e C (some dA)))):=by
 intro pins s σ H D I w;refine plainObj_wpAny_Assign_Attribute (thn (hv pins s σ H _ I w) fun u s1 ⟨y,H1,I1,ry,e,e1,he,q⟩=>thn (qq hi vx dx.1 dx.2 pins s1 σ H1 (fun v H2=>v=.ref e/\H2=H1) I1 ⟨_,e1,rfl,rfl⟩) fun ov s2 ⟨v,H2,I2,rx,q1,q2⟩=>?_) hs;subst q1 q2;obtain rfl:ov=Value.ref e:=rx;obtain⟨nm,qn,N,bs,sn,sub,ab,col,dd,k0,k1,k2,k3,k5,mN,hh⟩:=F.heap I2.kIn;obtain⟨⟨t0,he1⟩,_⟩:=I2.hok e _ he;obtain⟨hp,g,d,tk,os⟩:=s2
 refine fld_setattr PySem.F.store_ValueError hh.hC hh.hn (hh.no _ (by simp)) (hh.tn _ (by simp)) (hh.no _ (by simp)) (hh.tn _ (by simp)) F.bl he1 rfl rfl rfl fun h' tk' g1 g2 g3=>?_
 have ne:hp.objs.size≠e:=Nat.ne_of_gt (Heap.lt_size he1);have fr:H2 hp.objs.size=none:=I2.hok.fresh (Nat.le_refl _);refine⟨σ,_,?_,q hp.objs.size fr ne⟩;have I3:=I2.write (x:=e) (e:=e) (o:=xo e C (some hp.objs.size)) (t':=tk') (h':=h') (by rw[he];trivial) (.inl rfl) g3 ⟨_,g1⟩ (xo_ok g1)
 have sz:∀ {b:Addr} {o:Obj},hp.get? b=some o->b≠hp.objs.size:=fun {b o} q=>Nat.ne_of_lt (Heap.lt_size q)
 have I4:=uy (v:=.xd [(n,y)]) I3 (a:=hp.objs.size) (Heap.get?_none_of_le I2.sz) (by rw[jh ne];exact fr) (fun H'=>⟨_,g2,fun z=>?_⟩) (Nat.ne_of_gt I2.lt) (fun z c qc=>by obtain⟨v,o,ho,_⟩:=I2.cell z c qc;exact sz ho) (fun p hp=>sz (I2.pin p hp).1)
 ·have e3:upd (upd H2 e (xo e C (some hp.objs.size))) hp.objs.size (.xd [(n,y)])=upd (upd H2 hp.objs.size (.xd [(n,y)])) e (xo e C (some hp.objs.size)):=by
   funext b;by_cases hb:b=e
   ·subst hb;rw[jh ne.symm,jm,jm]
   ·rw[jh hb];by_cases hb2:b=hp.objs.size
    ·subst hb2;rw[jm,jm]
    ·rw[jh hb2,jh hb2,jh hb]
  rw[e3]at I4;exact I4
 ·by_cases hz:z=n
  ·subst hz;simp only[List.lookup_cons,beq_self_eq_true,if_true];exact ry
  ·have hb:(z == n)=false:=by simpa using hz
   simp only[List.lookup_cons,hb,List.lookup_nil,if_neg hz];trivial
end
noncomputable def Ky(s:Stmt):Bool:=(asExp s).any fun z=>(yj z).any fun c=>c.2.2.1.isEmpty&&decide (c.2.1.length=2)&&decide (js (c.2.1.getD 0 z)=some ("self":Str))&&decide (js (c.2.1.getD 1 z)=some ("text":Str))&&(yh c.1).any fun y=>decide (y.2.1=("__init__":Str))&&decide (js y.1=some ("TrueError":Str))&&(y.2.2.endLine == c.2.2.2.line)
theorem superOk_{s:Stmt}(h:Ky s=true):∃tp ap sp xp cp pos,s=.Expr (.Call (.Attribute (.Name "TrueError" tp) "__init__" ap) [.Name "self" sp,.Name "text" xp] [] cp) pos/\(ap.endLine == cp.line)=true:=by
 unfold Ky at h;replace h:=jb h;obtain⟨z,h1,h⟩:=h;obtain⟨pos,rfl⟩:=asExp_ h1;replace h:=jb h;obtain⟨⟨f,xs,ks,cp⟩,h2,h⟩:=h;have e2:=yg h2;subst e2;simp only[Bool.and_eq_true,decide_eq_true_eq]at h;obtain⟨⟨⟨⟨h3,h4⟩,h5⟩,h6⟩,h⟩:=h;obtain⟨a,b,rfl⟩:=qE h4;obtain⟨sp,rfl⟩:=jt (show js a=_ from h5);obtain⟨xp,rfl⟩:=jt (show js b=_ from h6);replace h:=jb h;obtain⟨⟨o,n,ap⟩,h7,h⟩:=h;have e7:=x8 h7;subst e7;simp only[Bool.and_eq_true,decide_eq_true_eq]at h;obtain⟨⟨rfl,h8⟩,h9⟩:=h;obtain⟨tp,rfl⟩:=jt h8
 have e3:ks=[]:=by simpa using h3
 subst e3;exact⟨_,_,_,_,_,_,rfl,h9⟩
noncomputable def fldSt(n p:Str)(l:Bool)(s:Stmt):Bool:=(Ji s).any fun z=>(sole z.1).any fun t=>(yh t).any fun y=>decide (js y.1=some ("self":Str))&&decide (y.2.1=n) &&
 if l=true then (asIf z.2).any fun f=>((Km f.1).any fun q=>decide (js q.1=some p)&&decide (q.2.1=[.Is])&&decide (q.2.2.length=1)&&uk (q.2.2.getD 0 t))&&(JZ f.2.1).any (·.isEmpty)&&(jX f.2.2).any fun c=>decide (c.1=("list":Str))&&decide (c.2.1.length=1)&&decide (js (c.2.1.getD 0 t)=some p) else decide (js z.2=some p)
theorem fldSt_{n p:Str}{l:Bool}{s:Stmt}(h:fldSt n p l s=true):(l=false/\∃sp ap pp pos,s=.Assign [.Attribute (.Name "self" sp) n ap] (.Name p pp) pos) \/
 (l=true/\∃sp ap cp j kp mp lp gp qp dp ip pos,s=.Assign [.Attribute (.Name "self" sp) n ap] (.IfExp (.Compare (.Name p cp) [.Is] [.Constant .none j kp] mp) (.List [] lp) (.Call (.Name "list" gp) [.Name p qp] [] dp) ip) pos):=by
 unfold fldSt at h;replace h:=jb h;obtain⟨⟨ts,v⟩,h1,h⟩:=h;obtain⟨pos,rfl⟩:=uQ h1;replace h:=jb h;obtain⟨t,h2,h⟩:=h;have e2:=JQ h2;simp only at e2;subst e2;replace h:=jb h;obtain⟨⟨o,n',ap⟩,h3,h⟩:=h;have e3:=x8 h3;subst e3;simp only[Bool.and_eq_true,decide_eq_true_eq]at h;obtain⟨⟨h4,rfl⟩,h⟩:=h;obtain⟨sp,rfl⟩:=jt h4
 cases l with
 |false =>
  rw[if_neg (by decide)]at h;obtain⟨pp,rfl⟩:=jt (of_decide_eq_true h)
  exact .inl ⟨rfl,_,_,_,_,rfl⟩
 |true =>
  rw[if_pos rfl]at h;replace h:=jb h;obtain⟨⟨c,a,b⟩,h5,h⟩:=h;obtain⟨ip,rfl⟩:=asIf_ h5;simp only[Bool.and_eq_true]at h;obtain⟨⟨h6,h7⟩,h8⟩:=h;replace h6:=jb h6;obtain⟨⟨x,ops,xs⟩,h9,h6⟩:=h6;obtain⟨mp,rfl⟩:=Jr h9;simp only[Bool.and_eq_true,decide_eq_true_eq]at h6;obtain⟨⟨⟨h10,rfl⟩,h11⟩,h12⟩:=h6;obtain⟨cp,rfl⟩:=jt h10;obtain⟨k,rfl⟩:=k7 h11
  obtain⟨j,kp,rfl⟩:∃j kp,k=.Constant .none j kp:=by
   have h12:uk k=true:=h12;unfold uk at h12;split at h12
   ·exact⟨_,_,rfl⟩
   ·cases h12
  replace h7:=jb h7;obtain⟨ys,h13,h7⟩:=h7;obtain⟨lp,rfl⟩:=yG h13
  have e7:ys=[]:=by simpa using h7
  subst e7;replace h8:=jb h8;obtain⟨⟨g,zs,dp⟩,h14,h8⟩:=h8;obtain⟨gp,rfl⟩:=jG h14;simp only[Bool.and_eq_true,decide_eq_true_eq]at h8;obtain⟨⟨rfl,h15⟩,h16⟩:=h8;obtain⟨q,rfl⟩:=k7 h15;obtain⟨qp,rfl⟩:=jt (show js q=_ from h16);exact .inr ⟨rfl,_,_,_,_,_,_,_,_,_,_,_,_,rfl⟩
noncomputable def Jh(n p:Str)(l:Bool):List Stmt->Bool
 |[a,b]=>Ky a&&fldSt n p l b
 |_=>false
noncomputable def spI(K:Frag)(C:Addr)(n:Str)(l:Bool):Sp:=fun vs H Q _=>∃e tx v,vs=[.ref e,tx,v]/\H e=some (xo e C none) /\
 (if l=true then ∃a ys,v=.ref a/\SqL K H a ys/\∀q dA,H q=none->H dA=none->q≠dA->Q .non (upd (upd (upd H q (.lst ys)) dA (.xd [(n,.ref q)])) e (xo e C (some dA)))
  else ∀dA,H dA=none->Q .non (upd (upd H dA (.xd [(n,v)])) e (xo e C (some dA))))
theorem init_ok{P:Program}{w:World}{K:Frag}{mg:Str->Option Value}{base:Heap}{CX:CXT}{C T f:Addr}{n p:Str}{l:Bool}{st:Stmt}{x q:Str}{dV oc kV doc pm cdv ct:Value}{od an:Option Addr}{osl:Array (Option Value)}
 (lk:K.lookup f=some ⟨oc,od,.func (fnOf x q (qQ st) (jY st) (jj st) dV kV doc pm an cdv ct),osl⟩) (hcd:codeIn K cdv q=true) (S:FnScope ["self","text",p] ["self","text",p] (jj st)) (F:InitF K mg C T f n)
 (dp:(p == ("__debug__":Str))=false/\(p == ("__classdict__":Str))=false) (gl:(jj st).names.lookup ("TrueError":Str)=some .globalImplicit) (gl2:l=true->(jj st).names.lookup ("list":Str)=some .globalImplicit) (ml:mg "list"=none) (hb:Jh n p l (jY st)=true) :
 FnOk P w K mg base CX 1 f (fnOf x q (qQ st) (jY st) (jj st) dV kV doc pm an cdv ct) ["self","text",p] (spI K C n l):=by
 refine fn_of (k:=0) lk hcd S (fun vs H Q E h=>by obtain⟨e,tx,v,rfl,_⟩:=h;rfl) fun A outer s H vs Q E hr h=>?_
 obtain⟨e,tx,v,rfl,he,h⟩:=h;generalize hX:Jl CX P w K mg base ["self","text",p] q (jj st) f cdv A outer s H E=X
 have vis:∀c ∈ [("self":Str),"text",p],Vis X.env.scope c:=fun c hc=>by subst hX;exact(S.par c hc).elim .inl fun z=>.inr (.inl z)
 have hN:X.N=[("self":Str),"text",p]:=by subst hX;rfl
 have hK:X.K=K:=by subst hX;rfl
 have hm:X.mg=mg:=by subst hX;rfl
 have hcx:X.env.scope=jj st:=by subst hX;rfl
 have FX:InitF X.K X.mg C T f n:=by rw[hK,hm];exact F
 match hd:jY st,hb with
 |[a,b],hb =>
  unfold Jh at hb;rw[Bool.and_eq_true]at hb;obtain⟨tp,ap,sp,xp,cp,pos,rfl,hline⟩:=superOk_ hb.1;have p1:=ps_super (X:=X) (tp:=tp) (sp:=sp) (xp:=xp) (ap:=ap) (cp:=cp) (pos:=pos) (i:=0) (j:=1) (x:="self") (y:="text") (show X.env.scope.names.lookup _=_ by rw[hcx];exact gl) (by rw[hm];exact F.te) (by rw[hN];rfl) (by rw[hN];rfl) (vis _ (by simp)) (vis _ (by simp)) ⟨by decide,by decide⟩ ⟨by decide,by decide⟩ FX hline
  have pv:∀pp,PE X (.Name p pp) (tVar 2):=fun pp=>qq (by rw[hN];rfl) (vis _ (by simp)) dp.1 dp.2
  rcases fldSt_ hb.2 with⟨rfl,sp2,ap2,pp,pos2,rfl⟩|⟨rfl,sp2,ap2,cp2,j,kp,mp,lp,gp,qp,dp2,ip,pos2,rfl⟩
  ·rw[if_neg (by decide)]at h;have p2:=ps_fldx (X:=X) (i:=0) (x:="self") (sp:=sp2) (ap:=ap2) (pos:=pos2) (by rw[hN];rfl) (vis _ (by simp)) ⟨by decide,by decide⟩ (pv pp) FX rfl;exact⟨_,kf p1 (kf p2 xA),e,tx,rfl,rfl,he,v,rfl,e,rfl,he,fun dA h1 _=>h dA h1⟩
  ·rw[if_pos rfl]at h;obtain⟨aw,ys,rfl,sq,h⟩:=h;have pl:PE X (.Call (.Name "list" gp) [.Name p qp] [] dp2) _:=q0 (T:="list") yq (show X.env.scope.names.lookup _=_ by rw[hcx];exact gl2 rfl) (by rw[hm];exact ml) PyProof.Rows.boot_list (ju (pv qp) j6);have pi:PE X (.IfExp (.Compare (.Name p cp2) [.Is] [.Constant .none j kp] mp) (.List [] lp) (.Call (.Name "list" gp) [.Name p qp] [] dp2) ip) _:=pe_ifExp (pt_cmp (pc_isN (pv cp2))) (Ja j6) pl;have p2:=ps_fldx (X:=X) (i:=0) (x:="self") (sp:=sp2) (ap:=ap2) (pos:=pos2) (by rw[hN];rfl) (vis _ (by simp)) ⟨by decide,by decide⟩ pi FX rfl;refine⟨_,kf p1 (kf p2 xA),e,tx,rfl,rfl,he,⟨_,rfl,false,rfl,?_⟩⟩;refine⟨_,rfl,aw,ys,rfl,.inl (by rw[hK];exact sq),fun q hq=>⟨e,rfl,?_,fun dA h1 h2=>?_⟩⟩
   ·have ne:e≠q:=fun z=>by rw[<- z,he]at hq;cases hq
    rw[jh ne];exact he
   ·have n1:dA≠q:=fun z=>by rw[z,jm]at h1;cases h1
    rw[jh n1]at h1;exact h q dA hq h1 n1.symm
structure InitX (X:Cx) (C T f:Addr) (n:Str) (l:Bool):Prop where
 F:InitF X.K X.mg C T f n
 fn:∃fd p,FnOk X.prog X.w X.K X.mg X.base (CXz X.prog X.w X.mg) 1 f fd ["self","text",p] (spI X.K C n l)/\ud X.K fd ["self","text",p] []
 rm:Room 2 X.A
section
variable {X:Cx} {C T f:Addr} {n x:Str} {l:Bool} {e1 e2:Expr} {np pos cp:Pos} {t:TA}
theorem made_inv{pins:List (Addr×Obj)}{σ:L2.St}{H:Hp}{s:Shared}{h':Heap}{e:Addr}{args:List Value}(I:Inv X pins σ H s)(w:Own X)(m:Heap.MadeExcOf s.heap h' e (.ref C) args):H e=none/\X.s₀.heap.get? e=none/\Inv X pins σ (upd H e (xo e C none)) { s with heap:=h' }:=by
 have hH:H e=none:=by
  cases q:H e with
  |none=>rfl
  |some u =>
   obtain⟨o,z⟩:=KW (I.hok e u q);rw[m.new]at z;cases z
 have old:∀ {b:Addr} {o:Obj},s.heap.get? b=some o->b≠e:=fun {b o} z y=>by rw[y,m.new]at z;cases z
 have h0:X.s₀.heap.get? e=none:=by
  cases q:X.s₀.heap.get? e with
  |none=>rfl
  |some o =>
   obtain⟨o',z⟩:=I.base.there e o q (by rw[w.ex];simp);exact absurd rfl (old z)
 have I1:Inv X pins σ H { s with heap:=h' }:=I.un (t':=s.toks) (Un.kept m.keeps) (I.hok.kept m.keeps);obtain⟨t0,g1,_⟩:=m.there;exact⟨hH,h0,uy I1 h0 hH (fun _=>xo_ok g1) (fun z=>by obtain⟨m',⟨o,_,_,ho',_⟩,_⟩:=I.loc;exact old ho' z.symm) (fun y cc q=>by obtain⟨v,o,ho',_⟩:=I.cell y cc q;exact old ho') (fun p hp=>old (I.pin p hp).1)⟩
theorem pe_exc(w:Own X)(ix:InitX X C T f n l)(hg:Gl X x)(hm:X.mg x=some (.ref C))(ha:PA X [e1,e2] t)(hdb:(x == ("__debug__":Str))=false)(he:starEach [e1,e2] X.env=(false,eval e1 X.env)::starEach [e2] X.env)(hpl:(backTo cp (starEach [e2] X.env)).any (·.1)=false) :
 PE X (.Call (.Name x np) [e1,e2] [] cp) (fun σ H Q=>t σ H fun vs H1=>vs.length=2/\∀e,H1 e=none->X.s₀.heap.get? e=none->spI X.K C n l (.ref e::vs) (upd H1 e (xo e C none)) (fun r H2=>r=.non/\Q (.ref e) H2) E0):=by
 intro pins s σ H Q I h;refine wpAny_Call_Name_kw (yi I hg hm ?_ hdb);refine PySem.W.callWith_K (h₀:=X.base) I.ok.mod.kin ix.F.kp (thn (ha cp pins s σ H _ I h) fun us s1 ⟨vs,H1,I1,r,hl,q⟩=>⟨I1.kIn,?_⟩) he hpl;obtain⟨fd,p,FO,hb⟩:=ix.fn;obtain⟨nm,qn,N,bs,sn,sub,ab,col,dd,k0,k1,k2,k3,k5,mN,hh⟩:=ix.F.heap I1.kIn;obtain⟨oI,hfI,hfc⟩:=hh.hf;obtain⟨hp,g,d,tk,os⟩:=s1
 have hu:us.length=2:=by rw[<- r.length];exact hl
 refine call_initU (Q:=EP X pins σ Q) PySem.F.excBase_ValueError (by decide +kernel) PySem.F.excBase_ValueError hh.tl hh.hC hh.hn hh.hi hfI hfc (fun h' e md=>?_) (by rw[show ([]:List Value)++us=us from rfl,hu];decide);obtain⟨hH,h0,I2⟩:=made_inv (C:=C) I1 w md;have r2:jA (V.ref e::vs) (Value.ref e::us):=.cons rfl r
 refine wpAny_call (codeAny_mono (FO.run _ X.stack _ _ ⟨Value.ref e::us,[]⟩ (Value.ref e::us) _ _ E0 (ix.rm.make C us []) (I2.env0.make C us []) (by
  have:=hb ⟨h',g,d,tk,os⟩ (Value.ref e::us) I2.kIn (by simp[hu]);rw[List.append_nil]at this
  exact this) r2 (q e hH h0)) fun rr s' hq'=>?_)
 cases rr with
 |error e=>exact(passZ (X:=X) pins σ _ _ e s' I2 hq')
 |ok fl =>
  cases fl with
  |ret u =>
   obtain⟨v,H',I3,rv,ev,q3⟩:=I2.after hq';subst ev
   exact⟨rv,⟨V.ref e,H',I3,rfl,q3⟩⟩
  |next=>exact False.elim hq'
  |brk=>exact False.elim hq'
  |cont=>exact False.elim hq'
theorem raise_x{pins:List (Addr×Obj)}{σ:L2.St}{H:Hp}{s:Shared}{y:Expr}{te:TE}{Q:Flow->Shared->Prop}(I:Inv X pins σ H s)(hh:X.A.handled=none)(F:InitF X.K X.mg C T f n)(hy:PE X y te)
 (h:te σ H fun v H1=>∃e dct,v=.ref e/\H1 e=some (xo e C dct)/\∀s1,Inv X pins σ H1 s1->X.xe (.ref e) s1):wpAny (model X.prog X.w) X.A (exec (.Raise (some y) none pos) X.env) Q X.xe s:=by
 rw[arm_exec_Raise];refine wpAny_bind (wpAny_standAt ?_);obtain⟨nm,qn,N,bs,sn,sub,ab,col,dd,k0,k1,k2,k3,k5,l1,_⟩:=F.lk;show wpAny _ _ (raiseStmt X.env (some (do let v <- eval y X.env;standAt pos;pure v)) none) _ _ _;refine raise_dict (C:=C) (nm:=nm) (q:=qn) (N:=N) (bs:=bs) (bm:=.ref T::bmV) (hdct:=true) (sn:=sn) (sub:=sub) (ab:=ab) (col:=col) (dd:=dd) (k0:=k0) (k1:=k1) (k2:=k2) (k3:=k3) (k5:=k5) (newId:=JA) (by rfl) hh ?_;refine wpAny_bind (thn (hy pins s σ H _ I h) fun u s1 ⟨v,H1,I1,r,e,dct,ev,he,q⟩=>wpAny_bind (wpAny_standAt (wpAny_pure ?_)));subst ev;obtain rfl:u=Value.ref e:=r;obtain⟨⟨t0,he1⟩,_⟩:=I1.hok e _ he;exact⟨e,t0,dct,rfl,I1.kIn _ _ l1,he1,q _ I1⟩
end
end Z
namespace Z
open PySem PySem.Spec PySem.Calls PyProof.Rows PySem.W L2
theorem alone_ok{P:Program}{w:World}{K:Frag}{mg:Str->Option Value}{base:Heap}{CX:CXT}{x:Str}{st:Stmt}{f:Addr}{fd:FuncData}(F:Fun K x x st f fd)(S:FnScope ["_law_e","_law_flags"] ["_law_e"] (jj st))
 (l0:(jj st).names.lookup ("_law_e":Str)=some .local) (l1:(jj st).names.lookup ("_law_flags":Str)=some .local)
 (gl:∀c∈("isinstance":Str)::("TrueError":Str)::("ValueError":Str)::names12,(jj st).names.lookup c=some .globalImplicit) (hb:vw (jY st)=true):FnOk P w K mg base CX 1 f fd ["_law_e"] (spA K mg):=by
 obtain⟨oc,od,kV,doc,pm,an,cdv,ct,osl,rfl,lk,hcd⟩:=F.ex
 refine fn_of (k:=0) lk hcd S (fun vs H Q E h=>by obtain⟨y,D,ea,oe,u,_,rfl,_⟩:=h;rfl) fun A outer s H vs Q E hr h=>?_
 obtain⟨y,D,ea,oe,u,af,rfl,he,hc,q⟩:=h
 have ax:AX (Jl CX P w K mg base ["_law_e","_law_flags"] x (jj st) f cdv A outer s H E):=⟨rfl,rfl,S.nd,l0,l1,fun c hc=>gl c hc,fun _=>rfl⟩
 exact⟨_,pss_alone (D:=D) (y:=y) ax af (show 1<2 by decide) hb,⟨ea,oe,u,rfl,he,hc⟩,rfl,q⟩
noncomputable def zG(w:Str)(v:Expr):Bool:=PyData.strOk w&&(asSub v).any fun z=>(JZ z.1).any fun xs=>decide (xs.length=2)&&decide (j3 (xs.getD 0 v)=some (.str w))&&decide (j3 (xs.getD 1 v)=some (.str "other")) &&
 (jX z.2).any fun c=>decide (c.1=("int":Str))&&decide (c.2.1.length=1)&&(asUn (c.2.1.getD 0 v)).any fun n=>decide (n.1=.Not)&&(jX n.2).any fun f=>decide (f.1=("_law_alone":Str))&&decide (f.2.1.length=1)&&decide (js (f.2.1.getD 0 v)=some ("_law_e":Str))
noncomputable def tellOk(w:Str):Option Str->Expr->Bool
 |none,v=>zG w v
 |some n,v=>(Kh v).any fun xs=>decide (xs.length=2)&&zG w (xs.getD 0 v)&&(yh (xs.getD 1 v)).any fun y=>decide (js y.1=some ("_law_e":Str))&&decide (y.2.1=n)
noncomputable def Qc(w:Str)(n:Option Str):List Stmt->Bool
 |[s]=>(JK s).any fun v=>v.any fun v=>tellOk w n v
 |_=>false
theorem wordOk_{w:Str}{v:Expr}(h:zG w v=true):PyData.strOk w=true/\∃j1 p1 j2 p2 lp qi qf qe cp up ip sp,v=.Subscript (.List [.Constant (.str w) j1 p1,.Constant (.str "other") j2 p2] lp) (.Call (.Name "int" qi) [.UnaryOp .Not (.Call (.Name "_law_alone" qf) [.Name "_law_e" qe] [] cp) up] [] ip) sp:=by
 unfold zG at h;rw[Bool.and_eq_true]at h;obtain⟨h0,h⟩:=h;refine⟨h0,?_⟩;replace h:=jb h;obtain⟨⟨a,b⟩,h2,h⟩:=h;obtain⟨sp,rfl⟩:=KP h2;replace h:=jb h;obtain⟨xs,h3,h⟩:=h;obtain⟨lp,e3⟩:=yG h3;simp only at e3;subst e3;simp only[Bool.and_eq_true,decide_eq_true_eq]at h;obtain⟨⟨⟨h4,h5⟩,h6⟩,h⟩:=h;obtain⟨x1,x2,rfl⟩:=qE h4;obtain⟨j1,p1,rfl⟩:=kY (show j3 x1=_ from h5);obtain⟨j2,p2,rfl⟩:=kY (show j3 x2=_ from h6);replace h:=jb h;obtain⟨⟨i,ys,ip⟩,h7,h⟩:=h;obtain⟨qi,e7⟩:=jG h7
 try simp only at e7
 subst e7;simp only[Bool.and_eq_true,decide_eq_true_eq]at h;obtain⟨⟨h8,h9⟩,h⟩:=h;subst h8;obtain⟨u,rfl⟩:=k7 h9;replace h:=jb h;obtain⟨⟨o,n⟩,h10,h⟩:=h;obtain⟨up,e10⟩:=asUn_ (show asUn u=_ from h10);subst e10;simp only[Bool.and_eq_true,decide_eq_true_eq]at h;obtain⟨h11,h⟩:=h;subst h11;replace h:=jb h;obtain⟨⟨f,zs,cp⟩,h12,h⟩:=h;obtain⟨qf,e12⟩:=jG h12
 try simp only at e12
 subst e12;simp only[Bool.and_eq_true,decide_eq_true_eq]at h;obtain⟨⟨h13,h14⟩,h15⟩:=h;subst h13;obtain⟨z,rfl⟩:=k7 h14;obtain⟨qe,rfl⟩:=jt (show js z=_ from h15);exact⟨j1,p1,j2,p2,lp,qi,qf,qe,cp,up,ip,sp,rfl⟩
structure Alone (X:Cx):Prop where
 fn:∃f fd,FnOk X.prog X.w X.K X.mg X.base (CXz X.prog X.w X.mg) 1 f fd ["_law_e"] (spA X.K X.mg)/\X.mg "_law_alone"=some (.ref f)/\PySem.W.keepIn X.K (.ref f)=true/\ud X.K fd ["_law_e"] []
 rm:X.A.depth+3*1+5<recursionLimit/\X.A.units+16*1+200<cLine
 int:X.mg "int"=none
section
variable {X:Cx} {D:Addr} {y:Str} {i:Nat}
noncomputable def K0(i:Nat)(D:Addr)(σ:L2.St)(H:Hp):Prop:=∃e oe u,σ[i]?=some (some (.ref e))/\H e=some (.frz oe u)/\oe.cls=.ref D
theorem pe_word{ea:Addr}(al:Alone X)(hi:X.N[i]?=some ("_law_e":Str))(hl:X.env.scope.names.lookup ("_law_e":Str)=some .local)(gi:Gl X "int")(ga:Gl X "_law_alone")(af:AloneF X.K X.mg y D){w:Str}{v:Expr}(h:zG w v=true) :
 PE (mkX X ea) v (fun σ H Q=>K0 i D σ H/\∀H',jc H H'->Q (.str w) H')/\PyData.strOk w=true:=by
 obtain⟨h0,j1,p1,j2,p2,lp,qi,qf,qe,cp,up,ip,sp,rfl⟩:=wordOk_ h;refine⟨?_,h0⟩;obtain⟨f,fd,F,hm,hk,hb⟩:=al.fn
 have rm:Room 1 (mkX X ea).A:=⟨fun z=>absurd z (by decide),al.rm.1,al.rm.2⟩
 have pc:PE (mkX X ea) (.Call (.Name "_law_alone" qf) [.Name "_law_e" qe] [] cp) _:=zT (X:=mkX X ea) (CX:=CXz X.prog X.w X.mg) (E:=E0) (dvs:=[]) F rm ga hm hk hb .nil passZ (ju (qq hi (.inl hl)) j6);refine PE.imp (fun σ H Q z=>?_) (pe_ix ix_list (Ja (ju uG (ju uG j6))) (q0 (T:="int") uu gi al.int PyProof.Rows.boot_int (ju (pe_not pc) j6)) (fun _ _=>rfl));obtain⟨⟨e,oe,u,e1,he,hc⟩,z⟩:=z;refine⟨by show 2<=sizeLine;decide,fun p hp=>?_⟩;have s1:=jB hp (.lst [.str w,.str "other"]);refine⟨.ref e,e1,y,D,e,oe,u,af,rfl,s1 _ _ he,hc,fun H' s2=>⟨true,rfl,.inr ⟨false,rfl,?_⟩⟩⟩;exact⟨p,_,_,.str w,rfl,rfl,SqL.of (s2 _ _ (jm ..)),rfl,z H' (s1.trans s2)⟩
theorem pe_xfld{ea T f:Addr}{n:Str}{p pos:Pos}(F:InitF X.K X.mg D T f n)(hi:X.N[i]?=some ("_law_e":Str))(hl:X.env.scope.names.lookup ("_law_e":Str)=some .local) :
 PE (mkX X ea) (.Attribute (.Name "_law_e" p) n pos) (fun σ H Q=>∃e oe u vs dA v,σ[i]?=some (some (.ref e))/\H e=some (.frz oe u)/\oe.cls=.ref D/\oe.data=.fields vs/\oe.dict=some dA/\H dA=some (.xd [(n,v)])/\Q v H):=by
 intro pins s σ H Q I h;obtain⟨e,oe,u,vs,dA,v,e1,he,hc,hd,hdc,hx,q⟩:=h;refine attr_of rfl (thn (qq (X:=mkX X ea) hi (.inl hl) (by decide) (by decide) pins s σ H (fun v H2=>v=.ref e/\H2=H) I ⟨_,e1,rfl,rfl⟩) fun ov s1 ⟨v1,H1,I1,rx,q1,q2⟩=>?_);subst q1 q2;obtain rfl:ov=Value.ref e:=rx;obtain⟨nm,qn,N,bs,sn,sub,ab,col,dd,k0,k1,k2,k3,k5,mN,hh⟩:=F.heap I1.kIn;obtain⟨he1,_⟩:=I1.hok e _ he;obtain⟨mA,hns,hf⟩:=I1.hok dA _ hx;have hf:=hf n;simp only[List.lookup_cons,beq_self_eq_true,if_true]at hf;obtain⟨hp,g,d,tk,os⟩:=s1
 cases hv:mA n with
 |none=>rw[hv]at hf;exact hf.elim
 |some uv =>
  rw[hv]at hf;have rv:jM v uv:=hf;refine fld_attr PySem.F.attrBase_ValueError hh.hC hh.hn (hh.no _ (by simp)) (hh.no _ (by simp)) hh.tq (hh.tn _ (by simp[quietNames])) (hh.tn _ (by simp[quietNames])) (hh.tn _ (by simp)) F.bl (hh.no _ (by simp)) he1 hc hd hdc hns.ns hv ?_ ⟨v,H1,I1.tok _,rv,q⟩;intro id z;subst z
  cases v<;>first|exact nomatch rv|(obtain⟨_,z⟩:=rv;exact nomatch z)
noncomputable def TellE(i:Nat)(D:Addr)(w:Str):Option Str->Ends->L2.St->Hp->Prop
 |none,E,_,H=>∀H',jc H H'->E.rt (.str w) H'
 |some n,E,σ,H=>∃e oe u vs dA v,σ[i]?=some (some (.ref e))/\H e=some (.frz oe u)/\oe.cls=.ref D/\oe.data=.fields vs/\oe.dict=some dA/\H dA=some (.xd [(n,v)])/\∀t H',jc H H'->H t=none->H' t=some (.tup [.str w,v])->E.rt (.ref t) H'
theorem pss_suite{ea:Addr}(al:Alone X)(hi:X.N[i]?=some ("_law_e":Str))(hl:X.env.scope.names.lookup ("_law_e":Str)=some .local)(gi:Gl X "int")(ga:Gl X "_law_alone")(af:AloneF X.K X.mg y D){ss:List Stmt}{w:Str}{nf:Option Str}(hF:∀n,nf=some n->∃T f,InitF X.K X.mg D T f n)(h:Qc w nf ss=true) :
 PSs (mkX X ea) ss (fun E σ H=>K0 i D σ H/\TellE i D w nf E σ H)/\PyData.strOk w=true:=by
 unfold Qc at h;split at h
 ·next s =>
  replace h:=jb h;obtain⟨ov,h1,h⟩:=h;obtain⟨rp,rfl⟩:=vB h1;replace h:=jb h;obtain⟨v,rfl,h⟩:=h
  cases nf with
  |none =>
   obtain⟨p1,h0⟩:=pe_word (ea:=ea) al hi hl gi ga af h
   exact⟨PSs.imp (fun E σ H w=>w) (kf (uw p1) xA),h0⟩
  |some n =>
   obtain⟨T,f,F⟩:=hF n rfl;replace h:=jb h;obtain⟨xs,h2,h⟩:=h;obtain⟨j,tp,rfl⟩:=v6 h2;simp only[Bool.and_eq_true,decide_eq_true_eq]at h;obtain⟨⟨h3,h4⟩,h5⟩:=h;obtain⟨v1,v2,rfl⟩:=qE h3;replace h5:=jb h5;obtain⟨⟨b,n',ap⟩,h6,h5⟩:=h5;have e6:=x8 (show yh v2=_ from h6);subst e6;simp only[Bool.and_eq_true,decide_eq_true_eq]at h5;obtain⟨h7,rfl⟩:=h5;obtain⟨ep,rfl⟩:=jt h7;obtain⟨p1,h0⟩:=pe_word (ea:=ea) al hi hl gi ga af (show zG w v1=true from h4)
   have st:∀ys env,starEach (v1::ys) env=(false,eval v1 env)::starEach ys env:=fun ys env=>by
    obtain⟨_,j1,p1,j2,p2,lp,qi,qf,qe,cp,up,ip,sp,rfl⟩:=wordOk_ (show zG w v1=true from h4);rfl
   refine⟨PSs.imp (fun E σ H w=>?_) (kf (uw (pe_tup (ju p1 (ju (pe_xfld (ea:=ea) F hi hl) j6 rfl) (st _ _)))) xA),h0⟩;obtain⟨c,e,oe,u,vs,dA,v,z1,z2,z3,z4,z5,z6,q⟩:=w;refine⟨c,fun H' s1=>⟨e,oe,u,vs,dA,v,z1,s1 _ _ z2,z3,z4,z5,s1 _ _ z6,by show 2<=sizeLine;decide,fun p hp=>?_⟩⟩;exact q p _ (s1.trans (jB hp _)) (s1.free hp) (jm ..)
 ·cases h
end
end Z
namespace Z
open PySem PySem.Spec PySem.Calls PyProof.Rows PySem.W L2
section
variable {X:Cx} {pins:List (Addr×Obj)} {σ:L2.St} {H:Hp} {s:Shared}
theorem xH{st:Stmt}{t:TS}(h:PS X.nox st t):PS X st t:=fun pins s σ H D I hw =>
 wpAny_mono (h pins s σ H D (I.wish _) hw) (fun f s' z=>z.unwish) fun _ _ z=>z.elim
theorem pe_nox{e:Expr}{t:TE}(h:PE X.nox e t):PE X e t:=fun pins s σ H Q I hw =>
 wpAny_mono (h pins s σ H Q (I.wish _) hw) (fun u s' ⟨v,H',J,r,q⟩=>⟨v,H',J.unwish,r,q⟩) fun _ _ z=>z.elim
theorem pa_nox{es:List Expr}{t:TA}(h:PA X.nox es t):PA X es t:=fun pos pins s σ H Q I hw =>
 wpAny_mono (h pos pins s σ H Q (I.wish _) hw) (fun us s' ⟨vs,H',J,r,q⟩=>⟨vs,H',J.unwish,r,q⟩) fun _ _ z=>z.elim
theorem name_gone{M:Model}{A:Around}{E:Value->Shared->Prop}{Q:Unit->Shared->Prop}{n:Str}{pos:Pos}(I:Inv X pins σ H s)(w:Own X)(hl:X.env.scope.names.lookup n=some .local)
 (hq:∀s',Inv X pins (List.replicate X.N.length none) H s'->Q () s'):wpAny M A (do bindName X.env n .none;unbindBehindTheSuite X.env n pos) Q E s:=by
 obtain⟨m,hn,_⟩:=I.loc
 refine wpAny_nameGoes hl hn (by rw[I.ok.kind];rfl) fun h' m' hn' sb=>hq _ ?_
 have old:∀ {b:Addr} {o:Obj},X.s₀.heap.get? b=some o->b≠X.env.locals:=fun {b o} e z=>by
  have:=Heap.lt_size e;rw[z]at this;exact absurd this (Nat.not_lt.mpr I.ok.above)
 have same:∀b,b≠X.env.locals->h'.get? b=s.heap.get? b:=fun b hb=>sb.2 b hb
 refine⟨I.ok,I.os,I.bare,⟨fun b o e n hb hx=>?_,fun b o e n hb hx=>?_,I.base.free,fun b o e hx=>?_,I.base.tups,I.base.frzs,I.base.tbls⟩,⟨m',hn',fun i x v _ h2 _=>?_⟩,fun x c e=>?_,I.free,I.freeC,fun p hp=>?_,fun b u e=>?_,by simp⟩
 ·exact(same b (old e)).trans (I.base.keep b o e n hb hx)
 ·obtain⟨sl,q⟩:=I.base.slot b o e n hb hx;exact⟨sl,(same b (old e)).trans q⟩
 ·obtain⟨o',q⟩:=I.base.there b o e hx;exact⟨o',(same b (old e)).trans q⟩
 ·rw[List.getElem?_replicate]at h2
  split at h2<;>cases h2
 ·obtain⟨v,o,q,d⟩:=I.cell x c e;exact⟨v,o,(same c (I.cne x c e)).trans q,d⟩
 ·obtain⟨g1,g2,g3,g4⟩:=I.pin p hp;exact⟨(same p.1 g3).trans g1,g2,g3,g4⟩
 ·refine(I.hok b u e).stay (fun c v hc q=>(same c fun z=>?_).trans q) (fun _ z=>z) fun _ _ z=>z
  have hf:=I.free;rcases hc with hc|hc
  ·rw[<- z,hc,e]at hf;cases hf
  ·rw[<- z,hc]at hf;cases hf
end
noncomputable def vq:Stmt->Option Expr
 |.Raise (some e) none _=>some e
 |_=>none
theorem asRaise_{s:Stmt}{e:Expr}(h:vq s=some e):∃p,s=.Raise (some e) none p:=by
 unfold vq at h;split at h
 ·cases h;exact⟨_,rfl⟩
 ·cases h
noncomputable def isStrC:Const->Bool
 |.str _=>true
 |_=>false
noncomputable def asTry:Stmt->Option (List Stmt×List ExceptHandler)
 |.Try body hs [] [] _=>some (body,hs)
 |_=>none
theorem asTry_{s:Stmt}{b:List Stmt}{hs:List ExceptHandler}(h:asTry s=some (b,hs)):∃pos,s=.Try b hs [] [] pos:=by
 unfold asTry at h;split at h
 ·cases h;exact⟨_,rfl⟩
 ·cases h
noncomputable def asHd:ExceptHandler->Option (Expr×Str×List Stmt)
 |.ExceptHandler (some t) (some n) (b::suite) _=>some (t,n,b::suite)
 |_=>none
theorem asHd_{s:ExceptHandler}{t:Expr}{n:Str}{b:List Stmt}(h:asHd s=some (t,n,b)):∃b0 suite p,s=.ExceptHandler (some t) (some n) (b0::suite) p/\b=b0::suite:=by
 unfold asHd at h;split at h
 ·cases h;exact⟨_,_,_,rfl,rfl⟩
 ·cases h
noncomputable def hasF(x:Str):Bool:=x == ("BadText":Str) ||x == ("Dependent":Str)
noncomputable def fldO(x:Str)(g:Bool):Option Str:=if g=true then some (yK x) else none
noncomputable def chkH(k:Ck)(h:Str×Str×Bool)(e:ExceptHandler):Bool:=decide (h.1∈k.cls)&&k.gl h.1&&(!h.2.2 ||hasF h.1)&&(asHd e).any fun z=>decide (js z.1=some h.1)&&decide (z.2.1=("_law_e":Str))&&Qc h.2.1 (fldO h.1 h.2.2) z.2.2
noncomputable def JJ(k:Ck):List (Str×Str×Bool)->List ExceptHandler->Bool
 |[],es=>es.isEmpty
 |h::r,es=>!es.isEmpty&&chkH k h (es.getD 0 (.ExceptHandler none none [] ⟨0,0,0,0⟩))&&JJ k r (es.drop 1)
theorem zo{k:Ck}{h:Str×Str×Bool}{r:List (Str×Str×Bool)}{es:List ExceptHandler}(w:JJ k (h::r) es=true):∃e l,es=e::l/\chkH k h e=true/\JJ k r l=true:=by
 rw[JJ]at w
 cases es with
 |nil=>simp at w
 |cons e l =>
  simp only[Bool.and_eq_true,List.drop_succ_cons,List.drop_zero]at w;exact⟨e,l,rfl,w.1.2,w.2⟩
theorem hnd_at{k:Ck}{rt:D->Prop}{z:XD}:∀ {hs:List (Str×Str×Bool)} {es:List ExceptHandler},JJ k hs es=true->(hs.map (·.1)).Nodup->hnd rt hs z->∃h e pre post,h∈hs/\es=pre++e::post/\chkH k h e=true/\hndl rt h z/\∀e'∈pre,∃h',chkH k h' e'=true/\h'.1≠z.t
 |[],es,_,_,w=>w.elim
 |[h],es,c,_,w=>by
  obtain⟨e,l,rfl,c1,c2⟩:=zo c
  exact⟨h,e,[],l,by simp,rfl,c1,w,fun _ z=>nomatch z⟩
 |h::h2::r,es,c,nd,w=>by
  obtain⟨e,l,rfl,c1,c2⟩:=zo c;rcases w with w|w
  ·exact⟨h,e,[],l,by simp,rfl,c1,w,fun _ z=>nomatch z⟩
  ·obtain⟨h',e',pre,post,m,rfl,q1,q2,q3⟩:=hnd_at c2 (List.nodup_cons.mp nd).2 w;refine⟨h',e',e::pre,post,List.mem_cons_of_mem _ m,rfl,q1,q2,fun x hx=>?_⟩;rcases List.mem_cons.mp hx with rfl|hx
   ·refine⟨h,c1,fun z=>(List.nodup_cons.mp nd).1 ?_⟩;show h.1∈_;rw[z,q2.1];exact List.mem_map_of_mem m
   ·exact q3 x hx
noncomputable def uo(k:Ck)(f:Nat)(es:List Ex):List (Nat×List Ex)->Expr->Bool
 |[],v=>(jX v).any fun c=>decide (k.fns[f]?=some (c.1,c.2.1.length))&&k.gl c.1 && !c.2.1.isEmpty&&qm k es c.2.1
 |gr::rest,v=>(jX v).any fun c=>decide (k.fns[gr.1]?=some (c.1,c.2.1.length))&&k.gl c.1 && !c.2.1.isEmpty&&uo k f es rest (c.2.1.getD 0 v)&&qm k gr.2 (c.2.1.drop 1)
mutual
noncomputable def chkX(k:Ck):Sm->Stmt->Bool
 |.ite c a b,s=>(asIfS s).any fun z=>chkE k c z.1&&zl k a z.2.1&&zl k b z.2.2
 |.raise x,s=>k.rs&&decide (x∈k.cls)&&k.gl x && !hasF x&&(vq s).any fun e=>(jX e).any fun c=>decide (c.1=x)&&decide (c.2.1.length=1)&&(j3 (c.2.1.getD 0 e)).any isStrC
 |.retX fs f es,s=>(JK s).any fun v=>v.any fun v=>uo k f es fs v
 |.raiseA x e,s=>k.rs&&decide (x∈k.cls)&&k.gl x&&hasF x&&(vq s).any fun y=>(jX y).any fun c=>decide (c.1=x)&&decide (c.2.1.length=2)&&(j3 (c.2.1.getD 0 y)).any isStrC&&chkE k e (c.2.1.getD 1 y)
 |.setX i fs f es,s=>(Ji s).any fun z=>(sole z.1).any fun t=>(js t).any fun x=>k.loc i x&&uo k f es fs z.2
 |.retP w f es,s=>PyData.strOk w&&(JK s).any fun v=>v.any fun v=>(Kh v).any fun xs=>decide (xs.length=2)&&decide (j3 (xs.getD 0 v)=some (.str w))&&uo k f es [] (xs.getD 1 v)
 |.tryX b hs,s=>k.al&&k.gl "int" && k.gl "_law_alone" && decide (k.names.lookup ("_law_e":Str)=some .local)&&k.N.contains "_law_e" && decide (hs.map (·.1)).Nodup && !hs.isEmpty&&(asTry s).any fun z=>JJ k hs z.2&&zl { k with rs:=false } b z.1
 |.nop,_=>false
 |.seq _ _,_=>false
 |.shr _,_=>false
 |.set i e,s=>uC k (.set i e) s
 |.unp i e,s=>uC k (.unp i e) s
 |.ret e,s=>uC k (.ret e) s
 |.whl c b,s=>uC k (.whl c b) s
 |.forR i e b,s=>uC k (.forR i e b) s
 |.brk,s=>uC k .brk s
 |.cnt,s=>uC k .cnt s
 |.never,s=>uC k .never s
 |.new i,s=>uC k (.new i) s
 |.app i e,s=>uC k (.app i e) s
noncomputable def zl(k:Ck):Sm->List Stmt->Bool
 |.nop,ss=>ss.isEmpty
 |.seq a b,ss=>if uc a then zl k b ss else !ss.isEmpty&&chkX k a (ss.getD 0 (.Pass ⟨0,0,0,0⟩))&&zl k b (ss.drop 1)
 |_,_=>false
end
structure ClsOk (K:Frag) (mg:Str->Option Value) (x:Str) (Ca:Addr) (al:Bool):Prop where
 cl:ExcCl K Ca
 pl:hasF x=false->excIn K Ca bmV JA=true
 ow:hasF x=true->∃T f,InitF K mg Ca T f (yK x)/\∀(P:Program) (w:World) (base:Heap),∃fd p,FnOk P w K mg base (CXz P w mg) 1 f fd ["self","text",p] (spI K Ca (yK x) (x == ("Dependent":Str)))/\ud K fd ["self","text",p] []
 al:al=true->AloneF K mg x Ca
structure OkX (X:Cx) (k:Ck) (C:Cfg) (O₀:List Addr) (H₀:Hp) (ex:XD->Prop):Prop where
 ok:OkS X.nox k C
 own:Own X
 o0:∀a∈O₀,H₀ a≠none
 thr:∀y Ca,ex y->X.mg y.t=some (.ref Ca)->∀pins σ H s H1 da e s',Inv X pins σ H s->jc H₀ H1->Fld X.K O₀ y H1 da->zD X.prog X.w Ca X.stack H s H1 da e s'->X.xe e s'
 raz:k.rs=true->∀x Ca,ex ⟨0,x,[]⟩->X.mg x=some (.ref Ca)->∀pins σ H s h1 e args,Inv X pins σ H s->jc H₀ H->Heap.MadeExcOf s.heap h1 e (.ref Ca) args->X.xe (.ref e) { s with heap:=h1 }
 rax:k.rs=true->Room 2 X.A/\∀y Ca,ex y->X.mg y.t=some (.ref Ca)->∀pins σ H s e da,Inv X pins σ H s->H e=some (xo e Ca da)->H₀ e=none->X.s₀.heap.get? e=none->jc H₀ (del H e)->Fld X.K O₀ y (del H e) da->X.xe (.ref e) s
 exc:∀x∈k.cls,∃Ca,X.mg x=some (.ref Ca)/\ClsOk X.K X.mg x Ca k.al
 al:k.al=true->Alone X
section
variable {k:Ck} {C:Cfg} {O₀:List Addr} {H₀:Hp}
theorem call_N{k:Ck}{f:Nat}{es:List Ex}{fs:List (Nat×List Ex)}{v:Expr}(h:uo k f es fs v=true):∃c,jX v=some c:=by
 cases fs<;>rw[uo]at h<;>replace h:=jb h<;>exact⟨_,h.choose_spec.1⟩
theorem star_N{k:Ck}{f:Nat}{es:List Ex}{fs:List (Nat×List Ex)}{v:Expr}(h:uo k f es fs v=true)(ys:List Expr)(env:Env):starEach (v::ys) env=(false,eval v env)::starEach ys env:=by
 obtain⟨⟨x,xs,cp⟩,hc⟩:=call_N h;obtain⟨q,rfl⟩:=jG hc;rfl
noncomputable def XE0(K:Frag)(O₀:List Addr)(H₀:Hp)(ex:XD->Prop):XK:=fun v da H=>∃y:XD,v=.str y.t 0/\ex y/\jc H₀ H/\Fld K O₀ y H da
theorem sN{X:Cx}{k:Ck}{ex:XD->Prop}(ok:OkX X k C O₀ H₀ ex)(f:Nat)(es:List Ex):∀(fs:List (Nat×List Ex)) (v:Expr),uo k f es fs v=true->PE X v fun τ H Q=>∃σ O,jc H₀ H/\(∀a∈O₀,a∈O)/\Reps X.K O H σ τ/\wpN C σ f es fs (Wd X.K O H Q) ex
 |[],v,h=>by
  rw[uo]at h;replace h:=jb h;obtain⟨⟨fx,xs,cp⟩,hc,h⟩:=h;obtain⟨q,rfl⟩:=jG hc;simp only[Bool.and_eq_true,decide_eq_true_eq]at h;obtain⟨⟨⟨k1,k2⟩,hne⟩,k4⟩:=h;obtain⟨y,ys,rfl⟩:=qY hne;obtain⟨g1,g2,g3⟩:=ok.ok.toOk.gl k2;obtain⟨fa,fd,ps,lv,F,hr,hm,hk,hb⟩:=ok.ok.toOk.fns f fx _ k1
  have hs:starEach (y::ys) X.env=(false,eval y X.env)::starEach ys X.env/\(backTo cp (starEach ys X.env)).any (·.1)=false:=by
   cases es with
   |nil=>have:=kg k4;cases this
   |cons z zs =>
    obtain⟨y',ys',e',h5,h6⟩:=j0 k4;cases e';exact⟨jP h5 _ _,qd h6 _ _⟩
  have pass:Jp (CXz X.prog X.w X.mg) X (XE0 X.K O₀ H₀ ex):=fun pins σ H s e s' I ⟨x,Ca,H1,da,⟨y,e1,hx,sm,fd⟩,hm,T⟩=>by
   cases e1;exact ok.thr y Ca hx hm pins σ H s H1 da e s' I sm fd T
  refine PE.imp (fun τ H Q w=>?_) (zT (CX:=CXz X.prog X.w X.mg) (E:=XE0 X.K O₀ H₀ ex) (dvs:=[]) F hr g1 hm hk hb .nil pass (pa_nox (sA ok.ok.toOk es _ k4)) g2 hs.1 hs.2);obtain⟨σ,O,sm,so,R,w⟩:=w;unfold wpN at w;refine⟨σ,O,R,jq es (fun ds ⟨hl,wd⟩ vs H1 s1 i1=>?_) (xk es w)⟩;show spD X.K (y::ys).length (C.fr f) (C.f2 f) (C.ct f) (vs ++ []) H1 _ _;rw[List.append_nil]
  exact⟨O,ds,by rw[hl,zu k4],(R.mono s1).own,i1,wd.1,fun d r=>((wd.2.1 d r).mono s1).rw (R.mono s1).own,fun z hz H2 da s2 fd=>⟨z,rfl,wd.2.2 z hz,(sm.trans s1).trans s2,fd.less so⟩⟩
 |(g,r)::rest,v,h=>by
  rw[uo]at h;replace h:=jb h;obtain⟨⟨fx,xs,cp⟩,hc,h⟩:=h;obtain⟨q,rfl⟩:=jG hc;simp only[Bool.and_eq_true,decide_eq_true_eq]at h;obtain⟨⟨⟨⟨k1,k2⟩,hne⟩,k3⟩,k4⟩:=h;obtain⟨y,ys,rfl⟩:=qY hne;have k3:uo k f es rest y=true:=k3;have k4:qm k r ys=true:=k4;obtain⟨g1,g2,g3⟩:=ok.ok.toOk.gl k2;obtain⟨fa,fd,ps,lv,F,hr,hm,hk,hb⟩:=ok.ok.toOk.fns g fx _ k1;have pa:PA X (y::ys) _:=ju (sN ok f es rest y k3) (pa_nox (sA ok.ok.toOk r ys k4)) (star_N k3 _ _);refine PE.imp (fun τ H Q w=>?_) (zT (CX:=CXz X.prog X.w X.mg) (E:=E0) (dvs:=[]) F hr g1 hm hk hb .nil passZ pa g2 (star_N k3 _ _) (qd k4 _ _));obtain⟨σ,O,sm,so,R,w⟩:=w;unfold wpN at w;refine⟨σ,O,sm,so,R,qz rest (fun d wd v H1 s1 i1=>⟨σ,O,R.mono s1,jq r (fun ds ⟨hl,wds⟩ vs H2 s2 i2=>?_) (xk r wd)⟩) (fun _ q=>q) w⟩;show spD X.K (y::ys).length (C.fr g) (C.f2 g) (C.ct g) ((v::vs) ++ []) H2 Q E0;rw[List.append_nil];exact⟨O,d::ds,by simp[hl,zu k4],((R.mono s1).mono s2).own,by unfold Iss;exact⟨v,vs,rfl,Is.mono (jd s2) d i1,i2⟩,wds.1,fun d' q=>((wds.2.1 d' q).mono (s1.trans s2)).rw ((R.mono s1).mono s2).own,fun x hx=>(ok.ok.toOk.E x (wds.2.2 x hx)).elim⟩
mutual
theorem sY{X:Cx}{k:Ck}{ex:XD->Prop}(ok:OkX X k C O₀ H₀ ex)(f:Nat)(es:List Ex)(v:Expr)(h:uo k f es [] v=true):PE X v fun τ H Q=>∃σ O,jc H₀ H/\(∀a∈O₀,a∈O)/\Reps X.K O H σ τ/\wpEs C es σ fun ds=>C.fr f=true/\(C.ct f).wp ds (fun d=>WdF X.K O H Q d) ex:=by
 rw[uo]at h;replace h:=jb h;obtain⟨⟨fx,xs,cp⟩,hc,h⟩:=h;obtain⟨q,rfl⟩:=jG hc;simp only[Bool.and_eq_true,decide_eq_true_eq]at h;obtain⟨⟨⟨k1,k2⟩,hne⟩,k4⟩:=h;obtain⟨y,ys,rfl⟩:=qY hne;obtain⟨g1,g2,g3⟩:=ok.ok.toOk.gl k2;obtain⟨fa,fd,ps,lv,F,hr,hm,hk,hb⟩:=ok.ok.toOk.fns f fx _ k1
 have hs:starEach (y::ys) X.env=(false,eval y X.env)::starEach ys X.env/\(backTo cp (starEach ys X.env)).any (·.1)=false:=by
  cases es with
  |nil=>have:=kg k4;cases this
  |cons z zs =>
   obtain⟨y',ys',e',h5,h6⟩:=j0 k4;cases e';exact⟨jP h5 _ _,qd h6 _ _⟩
 have pass:Jp (CXz X.prog X.w X.mg) X (XE0 X.K O₀ H₀ ex):=fun pins σ H s e s' I ⟨x,Ca,H1,da,⟨y,e1,hx,sm,fd⟩,hm,T⟩=>by
  cases e1;exact ok.thr y Ca hx hm pins σ H s H1 da e s' I sm fd T
 refine PE.imp (fun τ H Q w=>?_) (zT (CX:=CXz X.prog X.w X.mg) (E:=XE0 X.K O₀ H₀ ex) (dvs:=[]) F hr g1 hm hk hb .nil pass (pa_nox (sA ok.ok.toOk es _ k4)) g2 hs.1 hs.2);obtain⟨σ,O,sm,so,R,w⟩:=w;refine⟨σ,O,R,jq es (fun ds ⟨hl,wd⟩ vs H1 s1 i1=>?_) (xk es w)⟩;show spD X.K (y::ys).length (C.fr f) (C.f2 f) (C.ct f) (vs ++ []) H1 _ _;rw[List.append_nil];refine⟨O,ds,by rw[hl,zu k4],(R.mono s1).own,i1,wd.2.1,fun d r=>?_,fun z hz H2 da s2 fd=>⟨z,rfl,wd.2.2.2 z hz,(sm.trans s1).trans s2,fd.less so⟩⟩;unfold Rw;rw[if_pos wd.1];exact(wd.2.2.1 d r).mono s1
theorem sX:∀ {X:Cx} {k:Ck} {ex:XD->Prop} (ok:OkX X k C O₀ H₀ ex) (s:Sm) (st:Stmt),chkX k s st=true->PS X st (tS X.K C O₀ H₀ ex s)
 |X,k,ex,ok,.ite c a b,st,h=>by
  replace h:=jb h;obtain⟨⟨t,x,y⟩,hz,h⟩:=h;obtain⟨pos,rfl⟩:=asIfS_ hz;simp only[Bool.and_eq_true]at h;refine PS.imp (fun D τ H w=>?_) (ps_if (sB ok.ok.toOk c t h.1.1).2.nox (sXB ok a x h.1.2) (sXB ok b y h.2));obtain⟨σ,O,g,R,w⟩:=w;refine⟨σ,O,R.toReps,ja c (fun d=>jW fun t wt H1 s1=>?_) w⟩
  cases t with
  |true=>exact⟨σ,O,g.mono s1,R.mono s1,jn a (xD (jd s1)) wt⟩
  |false=>exact⟨σ,O,g.mono s1,R.mono s1,jn b (xD (jd s1)) wt⟩
 |X,k,ex,ok,.raise x,st,h=>by
  replace h:(_&&_)=true:=h;simp only[Bool.and_eq_true,decide_eq_true_eq]at h;obtain⟨⟨⟨⟨hrs,hcl⟩,hgl⟩,hpl⟩,h⟩:=h
  replace hpl:hasF x=false:=by simpa using hpl
  replace h:=jb h;obtain⟨e,he,h⟩:=h;obtain⟨pos,rfl⟩:=asRaise_ he;replace h:=jb h;obtain⟨⟨x',xs,cp⟩,hc,h⟩:=h;obtain⟨np,rfl⟩:=jG hc;simp only[Bool.and_eq_true,decide_eq_true_eq]at h;obtain⟨⟨h1,h2⟩,h3⟩:=h;subst h1;obtain⟨z,rfl⟩:=k7 h2;replace h3:=jb h3;obtain⟨cc,hcc,h3⟩:=h3;obtain⟨j,zp,rfl⟩:=kY (show j3 z=_ from hcc)
  obtain⟨tx,rfl⟩:∃tx,cc=.str tx:=by
   cases cc with
   |str tx=>exact⟨tx,rfl⟩
   |_=>cases h3
  obtain⟨Ca,hm,co⟩:=ok.exc x' hcl;have hq:=co.pl hpl;obtain⟨g1,g2,g3⟩:=ok.ok.toOk.gl hgl;intro pins s τ H D I w;obtain⟨σ,O,g,R,w⟩:=w;have hh:X.A.handled=none:=I.ok.hd ok.ok.calm;obtain⟨bm,N,nm,qn,bs,hd,sn,sub,ab,col,dd,k0,k1,k2,k3,k5,mN,hC,hN,hni,TL⟩:=exc_obj I.mod.kin hq
  refine wpAny_Raise_call_subU (C:=Ca) (nm:=nm) (q:=qn) (N:=N) (bs:=bs) (bm:=bm) (hdct:=hd) (sn:=sn) (sub:=sub) (ab:=ab) (col:=col) (dd:=dd) (k0:=k0) (k1:=k1) (k2:=k2) (k3:=k3) (k5:=k5) (mN:=mN)
   PySem.F.excBase_ValueError (by decide +kernel) PySem.F.excBase_ValueError (TL.hasType (by decide +kernel)) hh rfl hni (yi I g1 hm ⟨rfl,?_⟩ g2)
  have pa:PA X [.Constant (.str tx) j zp] _:=ju uG j6;refine Calls.evalArgs_plain (wpAny_mono (pa cp pins s τ H (fun vs H'=>vs.length<=1/\jc H₀ H') I ⟨by simp,g.same⟩) (fun us s2 ⟨vs,H2,J,r,q1,q2⟩=>?_) fun _ _ z=>z)
  have hl:us.length<=sizeLine:=by rw[<- r.length];exact Nat.le_trans q1 (by decide)
  exact⟨rfl,hl,J.bk _ _ hC,hN.keeps J.bk,TL.keeps J.bk,fun h' e hx=>ok.raz hrs x' Ca w hm pins τ H2 s2 h' e us J q2 hx⟩
 |X,k,ex,ok,.retX fs f es,st,h=>by
  replace h:=jb h;obtain⟨ov,ho,h⟩:=h;replace h:=jb h;obtain⟨v,hv,h⟩:=h;subst hv;obtain⟨pos,rfl⟩:=vB ho;refine PS.imp (fun D τ H w=>?_) (uw (sN ok f es fs v h));obtain⟨σ,O,g,R,w⟩:=w
  exact⟨σ,O,g.same,g.sub,R.toReps,qz fs (fun d rt v H' s2 i2=>rt v H' (g.same.trans s2) (Is.mono (jI g.sub) d i2)) (fun _ q=>q) w⟩
 |X,k,ex,ok,.raiseA x e,st,h=>by
  replace h:(_&&_)=true:=h;simp only[Bool.and_eq_true,decide_eq_true_eq]at h;obtain⟨⟨⟨⟨hrs,hcl⟩,hgl⟩,hpl⟩,h⟩:=h;replace h:=jb h;obtain⟨y,he,h⟩:=h;obtain⟨pos,rfl⟩:=asRaise_ he;replace h:=jb h;obtain⟨⟨x',xs,cp⟩,hc,h⟩:=h;obtain⟨np,rfl⟩:=jG hc;simp only[Bool.and_eq_true,decide_eq_true_eq]at h;obtain⟨⟨⟨h1,h2⟩,h3⟩,h4⟩:=h;subst h1;obtain⟨z,z2,rfl⟩:=qE h2;replace h3:=jb h3;obtain⟨cc,hcc,h3⟩:=h3;obtain⟨j,zp,rfl⟩:=kY (show j3 z=_ from hcc)
  obtain⟨tx,rfl⟩:∃tx,cc=.str tx:=by
   cases cc with
   |str tx=>exact⟨tx,rfl⟩
   |_=>cases h3
  obtain⟨Ca,hm,co⟩:=ok.exc x' hcl;obtain⟨T,f,F,fn⟩:=co.ow hpl;obtain⟨g1,g2,g3⟩:=ok.ok.toOk.gl hgl;obtain⟨rm,rax⟩:=ok.rax hrs;have h4:chkE k e z2=true:=h4;have pa:PA X [.Constant (.str tx) j zp,z2] _:=ju uG (ju (pe_nox (sB ok.ok.toOk e z2 h4).1) j6 (jP h4 _ _));have px:=pe_exc (np:=np) (cp:=cp) ok.own ⟨F,fn X.prog X.w X.base,rm⟩ g1 hm pa g2 rfl (by rw[jP h4];rfl);intro pins s τ H D I w;obtain⟨σ,O,g,R,w⟩:=w;have hh:X.A.handled=none:=I.ok.hd ok.ok.calm;refine raise_x (te:=_) I hh F px ?_;refine⟨σ,O,R.toReps,ja e (fun d wd v H1 s1 i1=>⟨rfl,fun ea h0 h0'=>?_⟩) w⟩;have sm:jc H₀ H1:=g.same.trans s1;have fr0:H₀ ea=none:=sm.free h0
  have ne:∀ {b:Addr} {u:HO},H1 b=some u->b≠ea:=fun {b u} q z=>by rw[z,h0]at q;cases q
  refine⟨ea,.str tx,v,rfl,jm ..,?_⟩;obtain⟨fo,xn⟩:=wd;have xn:ex ⟨0,x',[d]⟩:=xn;split
  ·next hd =>
   obtain⟨xs,rfl⟩:=fo (by simpa using hd);obtain⟨a,vs,rfl,sq,iv⟩:=jD i1;refine⟨a,vs,rfl,?_,fun q dA hq hdA nq=>⟨rfl,ea,some dA,rfl,jm ..,fun s2 I2=>?_⟩⟩
   ·rcases(je _ _).seq sq with(z|⟨o,z⟩)|z
    ·exact .inl (.inl (by rw[jh (ne z)];exact z))
    ·exact .inl (.inr ⟨o,by rw[jh (ne z)];exact z⟩)
    ·exact .inr z
   ·have nq':q≠ea:=fun z=>by rw[z,jm]at hq;cases hq
    have nd':dA≠ea:=fun z=>by rw[z,jm]at hdA;cases hdA
    have hq0:H1 q=none:=by rw[jh nq']at hq;exact hq
    have hd0:H1 dA=none:=by rw[jh nd']at hdA;exact hdA
    have sd:jc H1 (del (upd (upd (upd (upd H1 ea (xo ea Ca none)) q (.lst vs)) dA (.xd [(yK x',.ref q)])) ea (xo ea Ca (some dA))) ea):=fun b o z=>by
     have n1:=ne z
     have n2:b≠q:=fun y=>by rw[y,hq0]at z;cases z
     have n3:b≠dA:=fun y=>by rw[y,hd0]at z;cases z
     rw[kN n1,jh n1,jh n3,jh n2,jh n1];exact z
    have at1:del (upd (upd (upd (upd H1 ea (xo ea Ca none)) q (.lst vs)) dA (.xd [(yK x',.ref q)])) ea (xo ea Ca (some dA))) ea dA=some (.xd [(yK x',.ref q)]):=by rw[kN nd',jh nd',jm]
    have at2:del (upd (upd (upd (upd H1 ea (xo ea Ca none)) q (.lst vs)) dA (.xd [(yK x',.ref q)])) ea (xo ea Ca (some dA))) ea q=some (.lst vs):=by rw[kN nq',jh nq',jh nq,jm]
    refine rax ⟨0,x',[.lst xs]⟩ Ca xn hm pins τ _ s2 ea (some dA) I2 (jm ..) fr0 h0' (sm.trans sd) fun d hd=>?_
    rw[List.mem_singleton.mp hd]
    have nO:q ∉ O₀:=fun z=>(R.mono s1).own q (g.sub q z) hq0
    refine⟨dA,.ref q,rfl,at1,xf (SqL.of ?_) (Iss.mono ((jI g.sub).trans (jd sd)) xs iv)⟩;rw[kG nO];exact at2
  ·next hd =>
   intro dA hdA
   have nd':dA≠ea:=fun z=>by rw[z,jm]at hdA;cases hdA
   have hd0:H1 dA=none:=by rw[jh nd']at hdA;exact hdA
   have sd:jc H1 (del (upd (upd (upd H1 ea (xo ea Ca none)) dA (.xd [(yK x',v)])) ea (xo ea Ca (some dA))) ea):=fun b o z=>by
    have n1:=ne z
    have n3:b≠dA:=fun y=>by rw[y,hd0]at z;cases z
    rw[kN n1,jh n1,jh n3,jh n1];exact z
   have at1:del (upd (upd (upd H1 ea (xo ea Ca none)) dA (.xd [(yK x',v)])) ea (xo ea Ca (some dA))) ea dA=some (.xd [(yK x',v)]):=by rw[kN nd',jh nd',jm]
   refine⟨rfl,ea,some dA,rfl,jm ..,fun s2 I2=>?_⟩
   refine rax ⟨0,x',[d]⟩ Ca xn hm pins τ _ s2 ea (some dA) I2 (jm ..) fr0 h0' (sm.trans sd) fun d' hd=>?_
   rw[List.mem_singleton.mp hd]
   exact⟨dA,v,rfl,at1,Is.mono ((jI g.sub).trans (jd sd)) d i1⟩
 |X,k,ex,ok,.setX i fs f es,st,h=>by
  replace h:=jb h;obtain⟨⟨ts,v⟩,ha,h⟩:=h;obtain⟨pos,rfl⟩:=uQ ha;replace h:=jb h;obtain⟨t,ht,h⟩:=h;have et:=JQ ht;simp only at et;subst et;replace h:=jb h;obtain⟨x,hx,h⟩:=h;obtain⟨p,rfl⟩:=jt hx;rw[Bool.and_eq_true]at h;obtain⟨h1,h2,h3,h4⟩:=ok.ok.toOk.vis h.1
  have hsw:swapsWith v (some (.Name x p)) pos.line X.env=pure false:=by
   obtain⟨c,hc⟩:=call_N h.2;obtain⟨q,rfl⟩:=jG hc;rfl
  refine PS.imp (fun D τ H w=>?_) (uH (X:=X) ok.ok.nd h1 h2 (sN ok f es fs v h.2) hsw (.inl (ok.ok.fn _)));obtain⟨σ,O,g,R,w⟩:=w
  exact⟨σ,O,g.same,g.sub,R.toReps,qz fs (fun d wd v H1 s1 i1=>wd _ H1 O (g.mono s1) (jd s1) ((R.mono s1).set i1)) (fun _ q=>q) w⟩
 |X,k,ex,ok,.retP x f es,st,h=>by
  replace h:(_&&_)=true:=h;rw[Bool.and_eq_true]at h;obtain⟨hw,h⟩:=h;replace h:=jb h;obtain⟨ov,ho,h⟩:=h;replace h:=jb h;obtain⟨v,hv,h⟩:=h;subst hv;obtain⟨pos,rfl⟩:=vB ho;replace h:=jb h;obtain⟨xs,hx,h⟩:=h;obtain⟨j,p,rfl⟩:=v6 hx;simp only[Bool.and_eq_true,decide_eq_true_eq]at h;obtain⟨⟨h1,h2⟩,h3⟩:=h;obtain⟨v1,v2,rfl⟩:=qE h1;obtain⟨j1,p1,rfl⟩:=kY (show j3 v1=_ from h2);have h3:uo k f es [] v2=true:=h3;refine PS.imp (fun D τ H w=>?_) (uw (pe_tup (ju uG (ju (sN ok f es [] v2 h3) j6 (star_N h3 _ _)))));obtain⟨σ,O,g,R,w⟩:=w;refine⟨σ,O,g.same,g.sub,R.toReps,qz [] (fun d rt v H1 s1 i1=>⟨by show 2<=sizeLine;decide,fun p hp=>?_⟩) (fun _ q=>q) w⟩;have s2:=jB hp (.tup [.str x,v])
  have np:p ∉ O₀:=fun z=>(R.mono s1).own p (g.sub p z) hp
  refine rt _ _ ((g.same.trans s1).trans s2) (K7 (vs:=[.str x,v]) (.inl (.inl ?_)) ?_)
  ·rw[kG np];exact jm ..
  ·unfold Iss;refine⟨_,_,rfl,j9 hw,?_⟩;unfold Iss
   exact⟨_,_,rfl,Is.mono ((jI g.sub).trans (jd s2)) d i1,by unfold Iss;rfl⟩
 |X,k,ex,ok,.tryX b hds,st,h=>by
  replace h:(_&&_)=true:=h;simp only[Bool.and_eq_true,decide_eq_true_eq]at h;obtain⟨⟨⟨⟨⟨⟨⟨hal,hgi⟩,hga⟩,hle⟩,hce⟩,hnod⟩,hne⟩,h⟩:=h;replace h:=jb h;obtain⟨⟨bs,hes⟩,ht,h⟩:=h;obtain⟨pos,rfl⟩:=asTry_ ht;simp only[Bool.and_eq_true]at h;obtain⟨hhs,hb⟩:=h;have al:=ok.al hal
  obtain⟨eh0,el,hel⟩:∃e0 l,hes=e0::l:=by
   cases hds with
   |nil=>simp at hne
   |cons a r=>obtain⟨e,l,q,_⟩:=zo hhs;exact⟨e,l,q⟩
  obtain⟨gi,_,_⟩:=ok.ok.toOk.gl hgi;obtain⟨ga,_,_⟩:=ok.ok.toOk.gl hga
  have hle:X.env.scope.names.lookup ("_law_e":Str)=some .local:=by rw[show X.env.scope.names=k.names from ok.ok.names];exact hle
  obtain⟨i,hi⟩:∃i,X.N[i]?=some ("_law_e":Str):=by
   have hce:("_law_e":Str)∈X.N:=by rw[show X.N=k.N from ok.ok.N];simpa using hce
   obtain⟨i,hi,e⟩:=List.getElem_of_mem hce;exact⟨i,by rw[List.getElem?_eq_getElem hi,e]⟩
  intro pins s τ H D I w;rw[hel];refine wpAny_Try_except ?_;rw[<- hel];obtain⟨σ,O,g,R,w⟩:=w
  let xe':Value->Shared->Prop:=fun e s₁=>wpAny (model X.prog X.w) X.A (noteFrame e X.env) (fun _ s₂=>wpAny (model X.prog X.w) X.A (setFlight e none) (fun _ s₃=>wpAny (model X.prog X.w) X.A (handleBy e X.env hes) (SP X pins D) X.xe s₃) X.xe s₂) X.xe s₁
  let X':Cx:={ X with xe:=xe',pn:=X.pn++pins }
  have toX:∀ {ps:List (Addr×Obj)} {σ':L2.St} {H':Hp} {s':Shared},Inv X' ps σ' H' s'->Inv X pins σ' H' s':=fun {ps σ' H' s'} J=>⟨I.ok,J.os,J.bare,J.base,J.loc,J.cell,J.free,J.freeC,fun q hq=>J.pin q (List.mem_append_left _ hq),J.hok,J.len⟩
  have I':Inv X' [] τ H s:=⟨⟨I.ok.mod,I.ok.kind,I.ok.glob,I.ok.blt,I.ok.above,I.ok.inj,I.ok.has,I.ok.cab,I.ok.hd,I.ok.frames,I.ok.stk,I.ok.exf,I.ok.bs,I.ok.bsz,I.ok.noex,I.ok.exfs,I.ok.funs,I.ok.frf⟩,I.os,I.bare,I.base,I.loc,I.cell,I.free,I.freeC,fun q hq=>I.pin q (by simpa[X']using hq),I.hok,I.len⟩
  have ok':OkX X' { k with rs:=false } C O₀ H₀ (hnd (lift X.K O₀ H₀ ex D O H).rt hds):=by
   refine⟨⟨⟨ok.ok.N,ok.ok.nd,ok.ok.names,ok.ok.kd,ok.ok.calm,rfl,ok.ok.units,ok.ok.fns,ok.ok.cns,ok.ok.blt,ok.ok.E⟩,ok.ok.fn⟩,⟨ok.own.stk,ok.own.frm,ok.own.ex⟩,ok.o0,?_,(fun z=>Bool.noConfusion z),(fun z=>Bool.noConfusion z),ok.exc,fun _=>⟨al.fn,al.rm,al.int⟩⟩;intro z Ca hz hm pins' σ' H' s' H1 da e s2 J sm fd T;obtain⟨hd,eh,pre,post,_,rfl,hck,hzl,hpre⟩:=hnd_at hhs hnod hz;unfold chkH at hck;simp only[Bool.and_eq_true,decide_eq_true_eq]at hck;obtain⟨⟨⟨hcl,hgl⟩,hfo⟩,hck⟩:=hck;replace hck:=jb hck;obtain⟨⟨te,n,ss⟩,hhd,hck⟩:=hck;obtain⟨b0,suite,p,rfl,rfl⟩:=asHd_ hhd;simp only[Bool.and_eq_true,decide_eq_true_eq]at hck;obtain⟨⟨hna,rfl⟩,hsu⟩:=hck;obtain⟨np,rfl⟩:=jt hna;obtain⟨zt,hzl⟩:=hzl;rw[zt]at hm;obtain⟨Cz,hmz,co⟩:=ok.exc _ hcl
   have ec:Ca=Cz:=by rw[show X.mg hd.1=some (.ref Ca) from hm]at hmz;cases hmz;rfl
   subst ec;have af:=co.al hal;obtain⟨g1,g2,_⟩:=ok.ok.toOk.gl hgl
   have past:∀e'∈pre,Past X' Ca e':=fun e' he'=>by
    obtain⟨h',hck',hne⟩:=hpre e' he';unfold chkH at hck';simp only[Bool.and_eq_true,decide_eq_true_eq]at hck';obtain⟨⟨⟨hcl',hgl'⟩,_⟩,hck'⟩:=hck';replace hck':=jb hck';obtain⟨⟨te',n',ss'⟩,hhd',hck'⟩:=hck';obtain⟨b0',suite',p',rfl,rfl⟩:=asHd_ hhd';simp only[Bool.and_eq_true,decide_eq_true_eq]at hck';obtain⟨⟨hna',_⟩,_⟩:=hck';obtain⟨np',rfl⟩:=jt hna';obtain⟨Cy,hmy,coy⟩:=ok.exc _ hcl';obtain⟨g1',g2',_⟩:=ok.ok.toOk.gl hgl';refine⟨_,Cy,np',_,_,_,rfl,hmy,coy.cl,g1',g2',?_⟩;obtain⟨Cy',hmy',kk⟩:=af.cls h'.1 (coy.al hal).mem
    have e1:Cy'=Cy:=by rw[hmy]at hmy';cases hmy';rfl
    subst e1
    have hne':¬ h'.1=hd.1:=fun q=>hne (q.trans zt.symm)
    rw[decide_eq_false hne']at kk;unfold kitOne at kk;split at kk
    ·cases kk
    ·unfold kitCls at kk;simp only at kk;split at kk
     ·exact kk
     ·cases kk
   refine caught (X:=X') (Q:=SP X pins D) (E:=X.xe) past J ⟨ok.own.stk,ok.own.frm,ok.own.ex⟩ ok.ok.nd hm co.cl g1 g2 hi hle T ?_;rintro ea oe vs s7 s1 cl dt dc rfl J7 hn;have s2':jc H1 (upd H1 ea (.frz oe (.ext fun _=>True))):=jB hn _
   have hlen:i<σ'.length:=by
    rw[J.len];exact(List.getElem?_eq_some_iff.mp hi).1
   have hF:∀n,fldO hd.1 hd.2.2=some n->∃T f,InitF X'.K X'.mg Ca T f n:=fun n hn=>by
    unfold fldO at hn;split at hn
    ·next hg =>
     cases hn;obtain⟨T,f,F,_⟩:=co.ow (by rw[hg]at hfo;simpa using hfo);exact⟨T,f,F⟩
    ·cases hn
   obtain⟨psu,hwo⟩:=pss_suite (X:=X') (ea:=ea) (i:=i) (y:=hd.1) (D:=Ca) ⟨al.fn,al.rm,al.int⟩ hi hle gi ga af hF hsu
   have st0:K0 i Ca (σ'.set i (some (.ref ea))) (upd H1 ea (.frz oe (.ext fun _=>True))):=⟨ea,oe,_,List.getElem?_set_self hlen,jm ..,cl⟩
   have fin:∀(f:Flow) (s8:Shared),SP (mkX X' ea) pins' { nx:=fun _ _=>False,rt:=fun v H'=>jc (upd H1 ea (.frz oe (.ext fun _=>True))) H'/\D.rt v H' } f s8 ->
    wpAny (model X'.prog X'.w) X'.A (do bindName X'.env "_law_e" .none;unbindBehindTheSuite X'.env "_law_e" p) (fun _ s₅=>SP X pins D f s₅) X.xe s8:=fun f s8 z=>by
    cases f with
    |ret u =>
     obtain⟨v,σ8,H8,J8,r8,s8',q8⟩:=z
     refine name_gone (X:=X') (inv_unX J J8) ⟨ok.own.stk,ok.own.frm,ok.own.ex⟩ hle fun s9 J9=>?_
     exact⟨v,_,H8,toX J9,r8,q8⟩
    |next=>obtain⟨_,_,_,z⟩:=z;exact z.elim
    |brk=>obtain⟨_,_,_,z⟩:=z;exact z.elim
    |cont=>obtain⟨_,_,_,z⟩:=z;exact z.elim
   refine wpAny_mono (psu pins' s7 _ _ _ J7 ⟨st0,?_⟩) fin fun _ _ z=>z
   cases hg:hd.2.2 with
   |false =>
    rw[hg,if_neg (by decide)]at hzl;unfold fldO;rw[if_neg (by decide)]
    exact fun H8 s8=>⟨s8,hzl _ _ ((sm.trans s2').trans s8) (j9 hwo)⟩
   |true =>
    rw[hg,if_pos rfl]at hzl;obtain⟨d,zf,rt⟩:=hzl;obtain⟨dA,v,rfl,hdA,iv⟩:=fd d (by rw[zf];simp);unfold fldO;rw[if_pos rfl];rw[zt]at hdA;refine⟨ea,oe,_,vs,dA,v,List.getElem?_set_self hlen,jm ..,cl,dt,dc.resolve_left (fun z=>nomatch z),s2' _ _ hdA,fun t H8 s8 ht0 ht8=>⟨s8,?_⟩⟩
    have htO:t ∉ O₀:=fun z=>ok.o0 t z ((sm.trans s2').free ht0)
    refine rt _ _ ((sm.trans s2').trans s8) (K7 (vs:=[.str hd.2.1,v]) (.inl (.inl ?_)) ?_)
    ·rw[kG htO];exact ht8
    ·unfold Iss;refine⟨_,_,rfl,j9 hwo,?_⟩;unfold Iss;exact⟨_,_,rfl,Is.mono (jd (s2'.trans s8)) d iv,by unfold Iss;rfl⟩
  refine wpAny_mono (sXB ok' b bs hb [] s τ H D I' ⟨σ,O,g,R,jn b ⟨fun _ q=>q,fun _ q=>q,fun _ q=>q,fun _ q=>q,fun _ q=>q,fun _ q=>q,fun _ q=>q⟩ w⟩) (fun f s1 z=>?_) fun e s1 z=>z
  cases f with
  |ret u=>obtain⟨v,σ8,H8,J8,r8,q8⟩:=z;exact⟨v,σ8,H8,toX J8,r8,q8⟩
  |next =>
   obtain⟨σ8,H8,J8,q8⟩:=z
   exact xA (X:=X) pins s1 σ8 H8 D (toX J8) q8
  |brk=>obtain⟨σ8,H8,J8,q8⟩:=z;exact⟨σ8,H8,toX J8,q8⟩
  |cont=>obtain⟨σ8,H8,J8,q8⟩:=z;exact⟨σ8,H8,toX J8,q8⟩
 |X,k,ex,ok,.nop,st,h=>nomatch (show false=true from h)
 |X,k,ex,ok,.seq a b,st,h=>nomatch (show false=true from h)
 |X,k,ex,ok,.shr i,st,h=>nomatch (show false=true from h)
 |X,k,ex,ok,.set i e,st,h=>by exact xH (sS ok.ok _ st h)
 |X,k,ex,ok,.unp i e,st,h=>by exact xH (sS ok.ok _ st h)
 |X,k,ex,ok,.ret e,st,h=>by exact xH (sS ok.ok _ st h)
 |X,k,ex,ok,.whl c b,st,h=>by exact xH (sS ok.ok _ st h)
 |X,k,ex,ok,.forR i e b,st,h=>by exact xH (sS ok.ok _ st h)
 |X,k,ex,ok,.brk,st,h=>by exact xH (sS ok.ok _ st h)
 |X,k,ex,ok,.cnt,st,h=>by exact xH (sS ok.ok _ st h)
 |X,k,ex,ok,.never,st,h=>by exact xH (sS ok.ok _ st h)
 |X,k,ex,ok,.new i,st,h=>by exact xH (sS ok.ok _ st h)
 |X,k,ex,ok,.app i e,st,h=>by exact xH (sS ok.ok _ st h)
theorem sXB:∀ {X:Cx} {k:Ck} {ex:XD->Prop} (ok:OkX X k C O₀ H₀ ex) (s:Sm) (st:List Stmt),zl k s st=true->PSs X st (tS X.K C O₀ H₀ ex s)
 |X,k,ex,ok,.nop,st,h=>by
  have e:st=[]:=by rw[zl]at h;simpa using h
  subst e;refine PSs.imp (fun D τ H w=>?_) xA;obtain⟨σ,O,g,R,w⟩:=w
  exact w τ H O g (jc.refl _) R
 |X,k,ex,ok,.seq a b,st,h=>by
  by_cases hs:uc a=true
  ·rw[zl,if_pos hs]at h;exact PSs.imp (fun D τ H w=>shr_tS hs w) (sXB ok b st h)
  rw[zl,if_neg hs]at h
  cases st with
  |nil=>simp at h
  |cons s r =>
   simp only[Bool.and_eq_true,List.drop_succ_cons,List.drop_zero]at h;refine PSs.imp (fun D τ H w=>?_) (kf (sX ok a s h.1.2) (sXB ok b r h.2));obtain⟨σ,O,g,R,w⟩:=w;refine⟨σ,O,g,R,jn a ?_ w⟩
   exact⟨fun σ' q τ' H' O' g' s' r'=>⟨σ',O',g',r',jn b (xD s') q⟩,fun _ q=>q,fun _ q=>q,fun _ q=>q,fun _ q=>q,fun _ q=>q,fun _ q=>q⟩
 |X,k,ex,ok,.set _ _,_,h=>nomatch (show false=true from h)
 |X,k,ex,ok,.unp _ _,_,h=>nomatch (show false=true from h)
 |X,k,ex,ok,.ret _,_,h=>nomatch (show false=true from h)
 |X,k,ex,ok,.ite _ _ _,_,h=>nomatch (show false=true from h)
 |X,k,ex,ok,.whl _ _,_,h=>nomatch (show false=true from h)
 |X,k,ex,ok,.forR _ _ _,_,h=>nomatch (show false=true from h)
 |X,k,ex,ok,.brk,_,h=>nomatch (show false=true from h)
 |X,k,ex,ok,.cnt,_,h=>nomatch (show false=true from h)
 |X,k,ex,ok,.never,_,h=>nomatch (show false=true from h)
 |X,k,ex,ok,.new _,_,h=>nomatch (show false=true from h)
 |X,k,ex,ok,.app _ _,_,h=>nomatch (show false=true from h)
 |X,k,ex,ok,.shr _,_,h=>nomatch (show false=true from h)
 |X,k,ex,ok,.raise _,_,h=>nomatch (show false=true from h)
 |X,k,ex,ok,.retX _ _ _,_,h=>nomatch (show false=true from h)
 |X,k,ex,ok,.raiseA _ _,_,h=>nomatch (show false=true from h)
 |X,k,ex,ok,.setX _ _ _ _,_,h=>nomatch (show false=true from h)
 |X,k,ex,ok,.retP _ _ _,_,h=>nomatch (show false=true from h)
 |X,k,ex,ok,.tryX _ _,_,h=>nomatch (show false=true from h)
end
end
end Z
namespace Z
open PySem PySem.Spec PyProof.Rows L2
structure FnI where
 x:Str
 st:Stmt
 N:List Str
 ps:List Str
 b:Sm
 c:Ctr
 fr:Bool:=false
 rz:Bool:=false
 cls:List Str:=[]
 al:Bool:=true
 g:Bool:=false
noncomputable def FnI.Keep(i:FnI)(C:Cfg):Prop:=if i.rz=true then if i.fr=true then KeepsY C i.N.length i.b i.c else i.fr=false/\(if i.g=true then KeepsQ C i.N.length i.b i.c else vP C i.N.length i.b i.c) else if i.fr=true then KeepsF C i.N.length i.b i.c else if i.g=true then KeepsG C i.N.length i.b i.c else jC C i.N.length i.b i.c
noncomputable def FnI.ck(i:FnI)(L:List FnI)(cns:List Str):Ck:={ N:=i.N,names:=(jj i.st).names,fns:=L.map fun j=>(j.x,j.ps.length),cns:=cns,cls:=i.cls,rz:=i.rz,rs:=i.rz,al:=i.al }
noncomputable def ul(i:FnI):Bool :=
 decide ((jj i.st).kind=.function) && !(jj i.st).isCoroutine && !(jj i.st).isGenerator&&decide i.N.Nodup&&decide (i.N.take i.ps.length=i.ps) &&
  i.ps.all (fun x=>decide ((jj i.st).names.lookup x=some .local) ||decide ((jj i.st).names.lookup x=some .cell))&&(jj i.st).names.all fun y=>decide (y.2 ≠ .free)
theorem Jf{i:FnI}(h:ul i=true):FnScope i.N i.ps (jj i.st):=by
 unfold ul at h;simp only[Bool.and_eq_true,decide_eq_true_eq,Bool.not_eq_true',List.all_eq_true,Bool.or_eq_true]at h;obtain⟨⟨⟨⟨⟨⟨h1,h2⟩,h3⟩,h4⟩,h5⟩,h6⟩,h7⟩:=h;exact⟨h1,h2,h3,h4,h5,h6,h7⟩
noncomputable def chkFn(i:FnI)(L:List FnI)(cns:List Str):Bool:=ul i&&if i.rz=true then zl (i.ck L cns) i.b (jY i.st) else zh (i.ck L cns) i.b (jY i.st)
noncomputable def vM(L:List FnI)(cns:List Str):Bool:=(List.range L.length).all fun n=>match L[n]? with
 |some i=>chkFn i (L.take n) cns
 |none=>true
theorem chk_at{L:List FnI}{cns:List Str}(h:vM L cns=true){n:Nat}{i:FnI}(e:L[n]?=some i):chkFn i (L.take n) cns=true:=by
 unfold vM at h;rw[List.all_eq_true]at h
 have hn:n<L.length:=by
  rcases Nat.lt_or_ge n L.length with z|z
  ·exact z
  ·rw[List.getElem?_eq_none z]at e;cases e
 have:=h n (List.mem_range.mpr hn);rw[e]at this;exact this
structure FnAt (K:PySem.W.Frag) (mg:Str->Option Value) (i:FnI) (f:Addr) (fd:FuncData):Prop where
 fn:Fun K i.x i.x i.st f fd
 mg:mg i.x=some (.ref f)
 bd:∀us:List Value,us.length=i.ps.length->bindArgs fd ⟨us,[]⟩=pure (i.ps.zip us)
noncomputable def Jv(K:PySem.W.Frag)(mg:Str->Option Value)(i:FnI):Prop:=∃f fd,FnAt K mg i f fd
section
variable {α:Type} {P:List α->Prop}
theorem len1(k:∀a,P [a]):∀us,us.length=1->P us
 |[a],_=>k a
theorem len2(k:∀a b,P [a,b]):∀us,us.length=2->P us
 |[a,b],_=>k a b
theorem len3(k:∀a b c,P [a,b,c]):∀us,us.length=3->P us
 |[a,b,c],_=>k a b c
theorem len4(k:∀a b c d,P [a,b,c,d]):∀us,us.length=4->P us
 |[a,b,c,d],_=>k a b c d
end
theorem fact_mk{K:PySem.W.Frag}{h:Heap}{mg:Str->Option Value}{i:FnI}{f:Addr}{od an:Option Addr}{sl:Array (Option Value)}{oc kV dc pm cd ct:Value}(X:K.In h)(G:h.Ns mainGlobals mg)
 (b:∀(kV doc pm:Value) (an:Option Addr) (cdv ct:Value) (us:List Value),us.length=i.ps.length->bindArgs (PySem.W.fnOf i.x i.x (qQ i.st) (jY i.st) (jj i.st) .none kV doc pm an cdv ct) ⟨us,[]⟩=pure (i.ps.zip us))
 (a:PySem.W.nsIn K mainGlobals i.x=some (some (.ref f))) (l:K.lookup f=some ⟨oc,od,.func (PySem.W.fnOf i.x i.x (qQ i.st) (jY i.st) (jj i.st) .none kV dc pm an cd ct),sl⟩) (c:PySem.W.codeIn K cd i.x=true) (k:PySem.W.keepIn K (.ref f)=true):Jv K mg i :=
 ⟨f,_,fun_mk l c k,PySem.W.mg_of X G a,fun us h=>b kV dc pm an cd ct us h⟩
theorem FnAt.one{K:PySem.W.Frag}{mg:Str->Option Value}{i:FnI}{f f':Addr}{fd fd':FuncData}(a:FnAt K mg i f fd)(b:FnAt K mg i f' fd'):f=f'/\fd=fd':=by
 have e:=a.mg.symm.trans b.mg;cases e;obtain⟨oc,od,kV,doc,pm,an,cdv,ct,osl,e1,e2,_⟩:=a.fn.ex;obtain⟨oc',od',kV',doc',pm',an',cdv',ct',osl',e1',e2',_⟩:=b.fn.ex;rw[e2]at e2';injection e2' with e3;injection e3 with _ _ e4 _;injection e4 with e5;exact⟨rfl,e5⟩
section
variable {P:Program} {w:World} {K:PySem.W.Frag} {mg:Str->Option Value} {base:Heap} {C:Cfg} {cns:List Str}
theorem uW:∀(ds:List D) (j m:Nat) (rs:List (List D)),getS (startS m ds) j≠some (.ot rs):=by
 intro ds j m rs;unfold startS;generalize m-ds.length=r
 induction ds generalizing j with
 |nil =>
  have:∀(m j:Nat),getS (List.replicate m none) j=none:=by
   intro m
   induction m with
   |zero=>intro j;rfl
   |succ m ih=>intro j;cases j with|zero=>rfl|succ j=>exact ih j
  simp only[List.map_nil,List.nil_append]
  rw[this];exact fun z=>nomatch z
 |cons e es ih =>
  cases j with
  |zero=>simp only[List.map_cons,List.cons_append,getS];exact fun z=>nomatch z
  |succ j=>simp only[List.map_cons,List.cons_append,getS];exact ih j
theorem start_reps{H:Hp}{O:List Addr}{n:Nat}{ds:List D}{vs:List V}{N:List Str}(hn:N.length=n)(ho:∀a∈O,H a≠none)(i:Iss K (minus H O) ds vs):Reps K O H (startS n ds) (L2.start N vs) where
 len:=by
  unfold startS L2.start;rw[List.length_append,List.length_append,List.length_map,List.length_map,List.length_replicate,List.length_replicate,i.length,hn]
 own:=ho
 sh:=fun j d g=>by
  have aux:∀(ds:List D) (vs:List V) (j:Nat) (d:D) (m m':Nat),Iss K (minus H O) ds vs->getS (ds.map (fun d=>some (Sl.sh d))++List.replicate m none) j=some (.sh d)->∃v,(vs.map some++List.replicate m' none)[j]?=some (some v)/\Is K (minus H O) d v:=by
   intro ds
   induction ds with
   |nil =>
    intro vs j d m m' i g
    have:∀(m j:Nat),getS (List.replicate m none) j=none:=by
     intro m
     induction m with
     |zero=>intro j;rfl
     |succ m ih=>intro j;cases j with|zero=>rfl|succ j=>exact ih j
    simp only[List.map_nil,List.nil_append]at g
    rw[this]at g;cases g
   |cons e es ih =>
    intro vs j d m m' i g;unfold Iss at i;obtain⟨v,r,rfl,i1,i2⟩:=i
    cases j with
    |zero =>
     simp only[List.map_cons,List.cons_append,getS]at g;cases g
     exact⟨v,rfl,i1⟩
    |succ j =>
     simp only[List.map_cons,List.cons_append,getS]at g;obtain⟨u,e1,e2⟩:=ih r j d m m' i2 g;exact⟨u,by simpa using e1,e2⟩
  exact aux ds vs j d _ _ i g
 ow:=fun j es g=>by
  exfalso
  have aux:∀(ds:List D) (j:Nat) (m:Nat),getS (ds.map (fun d=>some (Sl.sh d))++List.replicate m none) j≠some (.ow es):=by
   intro ds
   induction ds with
   |nil =>
    intro j m
    have:∀(m j:Nat),getS (List.replicate m none) j=none:=by
     intro m
     induction m with
     |zero=>intro j;rfl
     |succ m ih=>intro j;cases j with|zero=>rfl|succ j=>exact ih j
    simp only[List.map_nil,List.nil_append]
    rw[this];exact fun z=>nomatch z
   |cons e es ih =>
    intro j m
    cases j with
    |zero=>simp only[List.map_cons,List.cons_append,getS];exact fun z=>nomatch z
    |succ j=>simp only[List.map_cons,List.cons_append,getS];exact ih j m
  exact aux ds j _ g
 dj:=fun j l es fs hjl g1 g2=>by
  exfalso
  have aux:∀(ds:List D) (j:Nat) (m:Nat),getS (ds.map (fun d=>some (Sl.sh d))++List.replicate m none) j≠some (.ow es):=by
   intro ds
   induction ds with
   |nil =>
    intro j m
    have:∀(m j:Nat),getS (List.replicate m none) j=none:=by
     intro m
     induction m with
     |zero=>intro j;rfl
     |succ m ih=>intro j;cases j with|zero=>rfl|succ j=>exact ih j
    simp only[List.map_nil,List.nil_append]
    rw[this];exact fun z=>nomatch z
   |cons e es ih =>
    intro j m
    cases j with
    |zero=>simp only[List.map_cons,List.cons_append,getS];exact fun z=>nomatch z
    |succ j=>simp only[List.map_cons,List.cons_append,getS];exact ih j m
  exact aux ds j _ g1
 tt:=⟨fun j rows g=>absurd g (uW ds j _ rows),fun j l rs qs g1 _=>absurd g1 (uW ds j _ rs)⟩
theorem start_no:∀(ds:List D) (j m:Nat) (es:List D),getS (startS m ds) j≠some (.ow es):=by
 intro ds j m es;unfold startS;generalize m-ds.length=r
 induction ds generalizing j with
 |nil =>
  have:∀(m j:Nat),getS (List.replicate m none) j=none:=by
   intro m
   induction m with
   |zero=>intro j;rfl
   |succ m ih=>intro j;cases j with|zero=>rfl|succ j=>exact ih j
  simp only[List.map_nil,List.nil_append]
  rw[this];exact fun z=>nomatch z
 |cons e es ih =>
  cases j with
  |zero=>simp only[List.map_cons,List.cons_append,getS];exact fun z=>nomatch z
  |succ j=>simp only[List.map_cons,List.cons_append,getS];exact ih j
theorem fun_okz{CX:CXT}{x qual:Str}{st:Stmt}{f:Addr}{fd:FuncData}{N ps:List Str}{k:Nat}{sp:Sp}(F:Fun K x qual st f fd)(S:FnScope N ps (jj st))(len:∀vs H Q E,sp vs H Q E->vs.length=ps.length)
 (hb:∀(cdv:Value) (A:Around) (outer:List Env) (s:Shared) (H:Hp) (vs:List V) (Q:VK) (E:XK),Room k (A.deeper (envOfC qual (jj st) s.heap.objs.size f cdv))->sp vs H Q E ->
  ∃t,PSs (Jl CX P w K mg base N qual (jj st) f cdv A outer s H E) (jY st) t/\t { nx:=fun _ H'=>Q .non H',rt:=Q } (L2.start N vs) H):FnOk P w K mg base CX (k+1) f fd ps sp:=by
 obtain⟨oc,od,kV,doc,pm,an,cdv,ct,osl,rfl,lk,hcd⟩:=F.ex
 exact fn_of lk hcd S len fun A outer s H vs Q E hr hsp=>hb cdv A outer s H vs Q E hr hsp
noncomputable def Qb(i:FnI):Bool:=ul i&&decide (i.x=("_law_alone":Str))&&decide (i.ps=[("_law_e":Str)])&&decide (i.N=[("_law_e":Str),("_law_flags":Str)])&&decide ((jj i.st).names.lookup ("_law_e":Str)=some .local)&&decide ((jj i.st).names.lookup ("_law_flags":Str)=some .local) &&
 ((("isinstance":Str)::("TrueError":Str)::("ValueError":Str)::names12).all fun c=>decide ((jj i.st).names.lookup c=some .globalImplicit))&&vw (jY i.st)
structure ExcOk (K:PySem.W.Frag) (mg:Str->Option Value) (cls:List Str) (b:Bool):Prop where
 al:b=true->∃i,Jv K mg i/\Qb i=true
 exc:∀x∈cls,∃Ca,mg x=some (.ref Ca)/\ClsOk K mg x Ca b
theorem ExcOk.fn{cls:List Str}{b:Bool}(e:ExcOk K mg cls b)(hb:b=true):∃f fd,FnOk P w K mg base (CXz P w mg) 1 f fd ["_law_e"] (spA K mg)/\mg "_law_alone"=some (.ref f)/\PySem.W.keepIn K (.ref f)=true/\ud K fd ["_law_e"] []:=by
 obtain⟨i,⟨f,fd,A⟩,h⟩:=e.al hb;unfold Qb at h;simp only[Bool.and_eq_true,decide_eq_true_eq,List.all_eq_true]at h;obtain⟨⟨⟨⟨⟨⟨⟨h1,h2⟩,h3⟩,h4⟩,h5⟩,h6⟩,h7⟩,h8⟩:=h;have S:=Jf h1;have b:=A.bd;have m:=A.mg;rw[h3]at b;rw[h2]at m;rw[h3,h4]at S;exact⟨f,fd,alone_ok A.fn S h5 h6 h7 h8,m,A.fn.kp,.all b⟩
theorem fn_sound{i:FnI}{L:List FnI}{lv:Nat}{f:Addr}{fd:FuncData}(h2:2<=lv)(F:FnAt K mg i f fd)(hc:chkFn i L cns=true)(hk:i.Keep C)
 (fns:∀n j,L[n]?=some j->∃f fd,FnOk P w K mg base (CXz P w mg) lv f fd j.ps (spD K j.ps.length (C.fr n) (C.f2 n) (C.ct n))/\FnAt K mg j f fd)
 (hcn:∀n x,cns[n]?=some x->∃u v,mg x=some u/\jM v u/\∀S,Is K S (C.cn n) v) (hb:∀x∈blts,mg x=none) (hE:∀x,¬ C.E x) (hz:i.rz=true->ExcOk K mg i.cls i.al) :
 FnOk P w K mg base (CXz P w mg) (lv+1) f fd i.ps (spD K i.ps.length i.fr i.g i.c):=by
 unfold chkFn at hc;rw[Bool.and_eq_true]at hc;have S:=Jf hc.1;refine fun_okz F.fn S (fun vs H Q E h=>?_) (fun cdv A outer s H vs Q E hr h=>?_)
 ·obtain⟨O,ds,hl,_,is,_⟩:=h;rw[is.length,hl]
 obtain⟨O,ds,hl,ho,is,hp,hq,hx⟩:=h
 have hun:(A.deeper (envOfC i.x (jj i.st) s.heap.objs.size f cdv)).units+100<cLine:=by have:=hr.un;lia
 have hdp:=hr.dp
 have hcalm:A.handled.isNone=true:=by
  have e:A.handled=none:=hr.hd h2;rw[e];rfl
 have ok:OkS (Jl (CXz P w mg) P w K mg base i.N i.x (jj i.st) f cdv A outer s H E).nox (i.ck L cns) C:=by
  refine⟨⟨rfl,S.nd,rfl,S.kind,hcalm,rfl,hun,?_,hcn,hb,hE⟩,fun _=>rfl⟩;intro n x m e;have e':(L.map fun j=>(j.x,j.ps.length))[n]?=some (x,m):=e;rw[List.getElem?_map]at e'
  cases q:L[n]? with
  |none=>rw[q]at e';cases e'
  |some j =>
   rw[q]at e';cases e';obtain⟨f',fd',F',A'⟩:=fns n j q;exact⟨f',fd',j.ps,lv,F',hr,A'.mg,A'.fn.kp,.all A'.bd⟩
 have st:=start_reps (K:=K) (N:=i.N) rfl ho is
 have mine:∀j es a,getS (startS i.N.length ds) j=some (.ow es)->(L2.start i.N vs)[j]?=some (some (.ref a))->a ∉ O:=fun j es a g=>(start_no ds j _ es g).elim
 have mineT:MT O H (startS i.N.length ds) (L2.start i.N vs):=fun j rs a as g=>(uW ds j _ rs g).elim
 unfold FnI.Keep at hk;by_cases hrz:i.rz=true
 ·rw[if_pos hrz]at hk;rw[if_pos hrz]at hc;have eo:=hz hrz
  have own:Own (Jl (CXz P w mg) P w K mg base i.N i.x (jj i.st) f cdv A outer s H E):=⟨rfl,rfl,rfl⟩
  have okx:OkX (Jl (CXz P w mg) P w K mg base i.N i.x (jj i.st) f cdv A outer s H E) (i.ck L cns) C O H (i.c.exn ds):=by
   refine⟨ok,own,ho,?_,?_,fun _=>⟨hr.mono h2,?_⟩,eo.exc,fun q=>⟨eo.fn q,⟨?_,?_⟩,hb _ (by decide)⟩⟩
   ·intro y Ca hex hm pins σ H' s' H1 da e s2 I sm fd T
    exact thrown_on I own sm T fun s3 T3=>⟨y.t,Ca,H1,da,hx y hex H1 da sm fd,hm,T3⟩
   ·intro _ x Ca hex hm pins σ H' s' h1 e args I sm M
    exact thrown_made I own sm M fun s3 T3=>⟨x,Ca,H',none,hx ⟨0,x,[]⟩ hex H' none sm (fun d hd=>nomatch hd),hm,T3⟩
   ·intro y Ca hex hm pins σ H' s' e da I he h0 h0' sm fd;obtain⟨⟨t0,he1⟩,_⟩:=I.hok e _ he
    exact thrown_own (inv_del I he h0) own sm he1 rfl rfl rfl rfl rfl del_same h0' fun s3 T3=>⟨y.t,Ca,_,da,hx y hex _ da sm fd,hm,T3⟩
   ·show (A.deeper (envOfC i.x (jj i.st) s.heap.objs.size f cdv)).depth+3*1+5<recursionLimit;lia
   ·have:=hr.un;show (A.deeper (envOfC i.x (jj i.st) s.heap.objs.size f cdv)).units+16*1+200<cLine;lia
  by_cases hfr:i.fr=true
  ·rw[if_pos hfr]at hk;unfold Rw at hq;simp only[hfr,if_true]at hq;refine⟨_,sXB (O₀:=O) okx i.b _ hc.2,startS i.N.length ds,O,⟨jc.refl _,fun _ z=>z,fun _ z=>.inl z⟩,⟨st,mine,mineT⟩,jn i.b ?_ (hk ds hp)⟩;exact⟨fun _ z=>z.elim,fun _ z=>z.elim,fun _ z=>z.elim,fun _ z=>z.elim,fun xs q a H' us s' h0 hl' is'=>hq _ q xs a H' us rfl s' h0 hl' is',fun _ z=>z,fun _ z=>z.elim⟩
  rw[if_neg hfr]at hk;obtain⟨hf,hk⟩:=hk;unfold Rw at hq;simp only[hf,Bool.false_eq_true,if_false]at hq;by_cases hg:i.g=true
  ·rw[if_pos hg]at hk;simp only[hg,if_true]at hq;refine⟨_,sXB (O₀:=O) okx i.b _ hc.2,startS i.N.length ds,O,⟨jc.refl _,fun _ z=>z,fun _ z=>.inl z⟩,⟨st,mine,mineT⟩,jn i.b ?_ (hk ds hp)⟩;exact⟨fun _ z=>z.elim,fun d q v H' s' i'=>(hq d q.2).2 q.1 v H' s' i',fun _ z=>z.elim,fun _ z=>z.elim,fun _ z=>z.elim,fun _ z=>z,fun rows q a as H' s' h0 t=>(hq _ q).1 rows a as H' rfl s' h0 t⟩
  rw[if_neg hg]at hk;simp only[hg,Bool.false_eq_true,if_false]at hq;refine⟨_,sXB (O₀:=O) okx i.b _ hc.2,startS i.N.length ds,O,⟨jc.refl _,fun _ z=>z,fun _ z=>.inl z⟩,⟨st,mine,mineT⟩,jn i.b ?_ (hk ds hp)⟩;exact⟨fun σ' q τ' H' O' g' s' r'=>hq _ q _ _ g'.same non_is,fun d q v H' s' i'=>hq d q v H' s' i',fun _ z=>z.elim,fun _ z=>z.elim,fun _ z=>z.elim,fun _ z=>z,fun _ z=>z.elim⟩
 rw[if_neg hrz]at hk;rw[if_neg hrz]at hc;refine⟨tS K C O H (fun _=>False) i.b,PSs.nox (sK ok i.b _ hc.2),?_⟩;unfold Rw at hq;by_cases hf:i.fr=true
 ·rw[if_pos hf]at hk;simp only[hf,if_true]at hq;refine⟨startS i.N.length ds,O,⟨jc.refl _,fun _ z=>z,fun _ z=>.inl z⟩,⟨st,mine,mineT⟩,jn i.b ?_ (hk ds hp)⟩;exact⟨fun _ z=>z.elim,fun _ z=>z.elim,fun _ z=>z.elim,fun _ z=>z.elim,fun xs q a H' us s' h0 hl' is'=>hq _ q xs a H' us rfl s' h0 hl' is',fun _ z=>z,fun _ z=>z.elim⟩
 rw[if_neg hf]at hk;by_cases hg:i.g=true
 ·rw[if_pos hg]at hk;simp only[hf,hg,Bool.false_eq_true,if_false,if_true]at hq;refine⟨startS i.N.length ds,O,⟨jc.refl _,fun _ z=>z,fun _ z=>.inl z⟩,⟨st,mine,mineT⟩,jn i.b ?_ (hk ds hp)⟩;exact⟨fun _ z=>z.elim,fun _ z=>z.elim,fun _ z=>z.elim,fun _ z=>z.elim,fun _ z=>z.elim,fun _ z=>z,fun rows q a as H' s' h0 t=>(hq _ q).1 rows a as H' rfl s' h0 t⟩
 ·rw[if_neg hg]at hk;simp only[hf,hg,Bool.false_eq_true,if_false]at hq;refine⟨startS i.N.length ds,O,⟨jc.refl _,fun _ z=>z,fun _ z=>.inl z⟩,⟨st,mine,mineT⟩,jn i.b ?_ (hk ds hp)⟩;exact⟨fun σ' q τ' H' O' g' s' r'=>hq _ q _ _ g'.same non_is,fun d q v H' s' i'=>hq d q v H' s' i',fun _ z=>z.elim,fun _ z=>z.elim,fun _ z=>z.elim,fun _ z=>z,fun _ z=>z.elim⟩
theorem all_sound{L:List FnI}(F:∀i∈L,Jv K mg i)(hc:vM L cns=true)(hk:∀i∈L,i.Keep C)(ct:∀n i,L[n]?=some i->C.ct n=i.c/\C.fr n=i.fr/\C.f2 n=i.g)
 (hcn:∀n x,cns[n]?=some x->∃u v,mg x=some u/\jM v u/\∀S,Is K S (C.cn n) v) (hb:∀x∈blts,mg x=none) (hE:∀x,¬ C.E x) (hz:∀i∈L,i.rz=true->ExcOk K mg i.cls i.al) :
 ∀(n:Nat) (i:FnI) (f:Addr) (fd:FuncData),L[n]?=some i->FnAt K mg i f fd->FnOk P w K mg base (CXz P w mg) (n+3) f fd i.ps (spD K i.ps.length i.fr i.g i.c):=by
 intro n
 induction n using Nat.strongRecOn with
 |ind n ih =>
  intro i f fd e A;refine fn_sound (L:=L.take n) (lv:=n+2) (by lia) A (chk_at hc e) (hk i (List.mem_of_getElem? e)) (fun m j q=>?_) hcn hb hE (hz i (List.mem_of_getElem? e))
  have hm:m<n:=by
   rcases Nat.lt_or_ge m n with z|z
   ·exact z
   ·rw[List.getElem?_eq_none (by rw[List.length_take];lia)]at q;cases q
  rw[List.getElem?_take_of_lt hm]at q;obtain⟨f',fd',A'⟩:=F j (List.mem_of_getElem? q);rw[(ct m j q).1,(ct m j q).2.1,(ct m j q).2.2];exact⟨f',fd',(ih m hm j f' fd' q A').mono (by lia),A'⟩
end
section
variable {K:PySem.W.Frag} {h:Heap} {mg:Str->Option Value}
theorem kit_of{Ca D:Addr}{b:Bool}(t:PySem.W.typeIn K (.ref Ca)=some (.type "type"))(m:PySem.W.mroIn K Ca (.type "object")=some true)(s:PySem.W.subIn K (.ref D) (.ref Ca)=some b)(hd:decide (D=Ca)=true->b=true):PySem.W.kitOne K (.ref D) (.ref Ca)=some b:=by
 have hs:(PySem.W.clsIn K Ca).isSome=true:=by
  unfold PySem.W.mroIn at m
  cases q:PySem.W.clsIn K Ca with
  |none=>rw[q]at m;cases m
  |some c=>rfl
 unfold PySem.W.kitOne;split
 ·next e =>
  have e':D=Ca:=Value.ref.inj (beq_iff_eq.mp e);rw[hd (by simpa using e')]
 ·unfold PySem.W.kitCls;simp only[hs,t,beq_self_eq_true,Bool.and_self,if_true,s]
theorem kit_cl(X:K.In h)(G:h.Ns mainGlobals mg){c y:Str}{Ca D:Addr}{b:Bool}(a:PySem.W.nsIn K mainGlobals c=some (some (.ref Ca)))(t:PySem.W.typeIn K (.ref Ca)=some (.type "type"))(m:PySem.W.mroIn K Ca (.type "object")=some true)
 (s:PySem.W.subIn K (.ref D) (.ref Ca)=some b) (hb:b=decide (c=y)) (hd:decide (D=Ca)=true->b=true):∃Ca,mg c=some (.ref Ca)/\PySem.W.kitOne K (.ref D) (.ref Ca)=some (decide (c=y)) :=
 ⟨Ca,PySem.W.mg_of X G a,by rw[<- hb];exact kit_of t m s hd⟩
theorem alone_mk(X:K.In h)(G:h.Ns mainGlobals mg){x:Str}{D T:Addr}
 (e1:PySem.W.findIn K (.ref D) "__getattribute__"=some (some (.builtin "BaseException.__getattribute__"))) (e2:PySem.W.findIn K (.ref D) "__getattr__"=some none) (e3:PySem.W.findIn K (.ref D) "__class__"=some (some (.builtin "object.__class__")))
 (e4:PySem.W.specialIn K (.builtin "object.__class__") "__get__"=some (some (.builtin "getset_descriptor.__get__"))) (e5:PySem.W.takesIn K (.builtin "object.__class__")=some true) (e6:PySem.W.mroIn K D (.type "object")=some true) (e7:PySem.W.mroIn K D (.type "BaseException")=some true)
 (t1:PySem.W.nsIn K mainGlobals "TrueError"=some (some (.ref T))) (t2:PySem.W.typeIn K (.ref T)=some (.type "type")) (t3:PySem.W.mroIn K T (.type "object")=some true) (t4:PySem.W.subIn K (.ref D) (.ref T)=some true)
 (v1:PySem.W.subIn K (.ref D) (.type "ValueError")=some true) (v2:PySem.W.nsIn K mainGlobals "ValueError"=some none) (v3:PySem.W.nsIn K mainGlobals "isinstance"=some none) (mem:x∈names12)
 (cl:∀c∈names12,∃Ca,mg c=some (.ref Ca)/\PySem.W.kitOne K (.ref D) (.ref Ca)=some (decide (c=x))):AloneF K mg x D:=by
 refine⟨⟨e1,e2,e3,e4,e5,e6,e7⟩,cl,⟨T,PySem.W.mg_of X G t1,kit_of t2 t3 t4 fun _=>rfl⟩,?_,PySem.W.mg_none_of X G v2,PySem.W.mg_none_of X G v3,mem⟩;unfold PySem.W.kitOne;rw[if_neg (by intro z;cases beq_iff_eq.mp z)];unfold PySem.W.kitCls
 have km:PySem.W.kitMeta "ValueError"=true:=by decide +kernel
 simp only[km,if_true,v1]
end
theorem exc_ok{K:PySem.W.Frag}{h:Heap}{mg:Str->Option Value}{cls:List Str}{i:FnI}(_:K.In h)(al:Jv K mg i)(st:Qb i=true)(ex:∀x∈cls,∃Ca,mg x=some (.ref Ca)/\ClsOk K mg x Ca true):ExcOk K mg cls true:=⟨fun _=>⟨i,al,st⟩,ex⟩
theorem exc_mk{K:PySem.W.Frag}{h:Heap}{mg:Str->Option Value}{x:Str}{b:Bool}(X:K.In h)(G:h.Ns mainGlobals mg){D:Addr}(a:PySem.W.nsIn K mainGlobals x=some (some (.ref D)))(q:PySem.W.excIn K D bmV JA=true)(hf:hasF x=false)(al:b=true->AloneF K mg x D):∃Ca,mg x=some (.ref Ca)/\ClsOk K mg x Ca b :=
 ⟨D,PySem.W.mg_of X G a,excCl_of q,fun _=>q,(fun z=>by rw[hf]at z;cases z),al⟩
theorem bl_at:typeLookup (.type "ValueError") "at"=pure none:=by kernel_rfl
theorem bl_w:typeLookup (.type "ValueError") "weights"=pure none:=by kernel_rfl
theorem bl_f(x:Str):typeLookup (.type "ValueError") (yK x)=pure none:=by
 unfold yK;split
 ·exact bl_w
 ·exact bl_at
def clsDef:Stmt->Stmt
 |.ClassDef _ _ _ b ..=>b.getD 0 (.Pass ⟨0,0,0,0⟩)
 |s=>s
noncomputable def strKey(e:DictEntry):Bool:=match e.key with
 |.str ..=>true
 |_=>false
theorem nsOk_of{K:PySem.W.Frag}{N:Addr}{c:Value}{d:Option Addr}{es:Array DictEntry}{ep:Nat}{sl:Array (Option Value)}(l:K.lookup N=some ⟨c,d,.dict es ep,sl⟩)(a:es.toList.all strKey=true):PySem.W.nsOkIn K N=true:=by
 unfold PySem.W.nsOkIn;rw[l];simp only;rw[<- Array.all_toList];exact a
noncomputable def iniSt(x:Str)(i:FnI):Bool:=ul i&&match i.ps with
 |[a,b,p]=>decide (i.N=i.ps)&&decide (a=("self":Str))&&decide (b=("text":Str)) && !(p == ("__debug__":Str)) && !(p == ("__classdict__":Str))&&decide ((jj i.st).names.lookup ("TrueError":Str)=some .globalImplicit)&&(!(x == ("Dependent":Str)) ||decide ((jj i.st).names.lookup ("list":Str)=some .globalImplicit))&&Jh (yK x) p (x == ("Dependent":Str)) (jY i.st)
 |_=>false
theorem exc_mkO{K:PySem.W.Frag}{h:Heap}{mg:Str->Option Value}{x:Str}{bb:Bool}{i:FnI}(X:K.In h)(G:h.Ns mainGlobals mg){C T f N:Addr}{nm qn q:Str}{bs:List Value}{sn:List Str}{sub:List Value}{ab:Bool}{col:Option Bool}{dd ddT d1 d2 od an dD:Option Addr}{k0 k1 k2 k3 k5:Option Value}{cdT:ClassData}{slT sl1 sl2 osl slD:Array (Option Value)}{c1 c2 oc d0 cD kV doc pm cdv ct:Value}{Td:Addr}{nD:Nat}{es1 es2:Array DictEntry}{ep1 ep2:Nat}
 (hs:iniSt x i=true) (hf:hasF x=true)
 (b:∀(kV doc pm:Value) (an:Option Addr) (cdv ct d0 u1 u2 u3:Value) (Td:Addr),∃k,bindArgs (PySem.W.fnOf "__init__" q (qQ i.st) (jY i.st) (jj i.st) (.ref Td) kV doc pm an cdv ct) ⟨[u1,u2,u3],[]⟩=seqItems? (.ref Td) >>= k/\k (some #[d0])=pure (i.ps.zip [u1,u2,u3]))
 (a:PySem.W.nsIn K mainGlobals x=some (some (.ref C))) (te:PySem.W.nsIn K mainGlobals "TrueError"=some (some (.ref T))) (ml:PySem.W.nsIn K mainGlobals "list"=some none)
 (l:K.lookup C=some (excClassObj nm qn C N bs (.ref T::bmV) true sn sub ab col dd k0 k1 k2 k3 k5 JA)) (lN:K.lookup N=some ⟨c1,d1,.dict es1 ep1,sl1⟩) (aN:es1.toList.all strKey=true)
 (lT:K.lookup T=some ⟨.type "type",ddT,.cls cdT,slT⟩) (lM:K.lookup cdT.ns=some ⟨c2,d2,.dict es2 ep2,sl2⟩) (aM:es2.toList.all strKey=true)
 (ii:PySem.W.nsIn K N "__init__"=some (some (.ref f))) (n1:PySem.W.nsIn K N "__getattribute__"=some none) (n2:PySem.W.nsIn K N "__getattr__"=some none) (n3:PySem.W.nsIn K N "__setattr__"=some none) (n4:PySem.W.nsIn K N (yK x)=some none)
 (m1:PySem.W.nsIn K cdT.ns (yK x)=some none) (m2:PySem.W.nsIn K cdT.ns "__setattr__"=some none) (m3:PySem.W.nsIn K cdT.ns "__init__"=some none) (m4:PySem.W.nsIn K cdT.ns "__getattribute__"=some none) (m5:PySem.W.nsIn K cdT.ns "__getattr__"=some none) (m6:PySem.W.nsIn K cdT.ns "args"=some none)
 (op:PySem.W.nsIn K cStatics "thirdparty.any"=some none) (fi:PySem.W.findIn K (.ref T) "__init__"=some (some (.builtin "ValueError.__init__"))) (fn:PySem.W.isFn K (.ref f)=true) (kp:PySem.W.keepIn K (.ref C)=true)
 (lf:K.lookup f=some ⟨oc,od,.func (PySem.W.fnOf "__init__" q (qQ i.st) (jY i.st) (jj i.st) (.ref Td) kV doc pm an cdv ct),osl⟩) (lD:K.lookup Td=some ⟨cD,dD,.seq #[d0] nD,slD⟩) (hcd:PySem.W.codeIn K cdv q=true) (al:bb=true->AloneF K mg x C):∃Ca,mg x=some (.ref Ca)/\ClsOk K mg x Ca bb:=by
 have F:InitF K mg C T f (yK x):=by
  refine⟨⟨nm,qn,N,bs,sn,sub,ab,col,dd,k0,k1,k2,k3,k5,l,nsOk_of lN aN,ii,fun y hy=>?_⟩,⟨ddT,cdT,slT,lT,nsOk_of lM aM,fun y hy=>?_⟩,op,fi,PySem.W.mg_of X G te,fn,kp,bl_f x⟩
  ·simp only[List.mem_cons,List.not_mem_nil,or_false]at hy
   rcases hy with rfl|rfl|rfl|rfl<;>assumption
  ·simp only[quietNames,List.mem_cons,List.not_mem_nil,or_false]at hy
   rcases hy with rfl|rfl|rfl|rfl|rfl|rfl<;>assumption
 unfold iniSt at hs;rw[Bool.and_eq_true]at hs;obtain⟨hsc,hs⟩:=hs;have S:=Jf hsc;split at hs
 ·next a' b' p hps =>
  simp only[Bool.and_eq_true,decide_eq_true_eq,Bool.not_eq_true',Bool.or_eq_true]at hs;obtain⟨⟨⟨⟨⟨⟨⟨hN,rfl⟩,rfl⟩,hp1⟩,hp2⟩,hg1⟩,hg2⟩,hb⟩:=hs;rw[hN,hps]at S;rw[hps]at b;refine⟨C,PySem.W.mg_of X G a,?_,(fun z=>by rw[hf]at z;cases z),fun _=>⟨T,f,F,fun P w base=>⟨_,p,init_ok lf hcd S F ⟨hp1,hp2⟩ hg1 (fun z=>?_) (PySem.W.mg_none_of X G ml) hb,fun s us Xs hl=>?_⟩⟩,al⟩
  ·intro h' X';obtain⟨_,_,_,_,_,_,_,_,_,_,_,_,_,_,_,hh⟩:=F.heap X';exact⟨_,_,_,_,_,_,_,_,_,_,_,_,_,_,_,_,hh.hC,hh.tl⟩
  ·rcases hg2 with q|q
   ·rw[z]at q;cases q
   ·exact q
  ·rw[List.append_nil]at hl ⊢;obtain⟨u1,r,rfl⟩:=qY (xs:=us) (by cases us<;>first|rfl|cases hl);obtain⟨u2,u3,rfl⟩:=qE (xs:=r) (by simpa using hl);obtain⟨k,e1,e2⟩:=b kV doc pm an cdv ct d0 u1 u2 u3 Td;exact BindsTo.of_defaults rfl (Xs _ _ lD) rfl e1 e2
 ·cases hs
theorem cn_mk{K:PySem.W.Frag}{h:Heap}{mg:Str->Option Value}{x:Str}{i:Int}{t:Tok}(X:K.In h)(G:h.Ns mainGlobals mg)(z:PySem.W.nsIn K mainGlobals x=some (some (.int i t))):∃u v,mg x=some u/\jM v u/\∀S,Is K S (.int i) v :=
 ⟨_,.int i,PySem.W.mg_of X G z,⟨_,rfl⟩,fun _=>jF i⟩
theorem cn_mkS{K:PySem.W.Frag}{h:Heap}{mg:Str->Option Value}{x y:Str}{t:Tok}(X:K.In h)(G:h.Ns mainGlobals mg)(ok:PyData.strOk y=true)(z:PySem.W.nsIn K mainGlobals x=some (some (.str y t))):∃u v,mg x=some u/\jM v u/\∀S,Is K S (.str y) v :=
 ⟨_,.str y,PySem.W.mg_of X G z,⟨_,rfl⟩,fun _=>j9 ok⟩
theorem law_sp{K:PySem.W.Frag}{H:Hp}{a:Addr}{ns:List Int}(hl:ns.length<=63)(h:SqL K H a (ns.map V.int)):spD K 1 false false ui [.ref a] H (fun v _=>v=.bl true) fun _ _ _=>False:=by
 have is:∀ns:List Int,Iss K (minus H []) (ns.map D.int) (ns.map V.int):=by
  intro ns
  induction ns with
  |nil=>unfold Iss;rfl
  |cons n r ih =>
   simp only[List.map_cons];unfold Iss;exact⟨_,_,rfl,jF n,ih⟩
 refine⟨[],[.lst (ns.map .int)],rfl,(fun _ z=>nomatch z),?_,⟨ns,rfl,hl⟩,fun d e v H' s i=>?_,fun _ z=>z.elim⟩
 ·unfold Iss;refine⟨_,_,rfl,xf ?_ (is ns),?_⟩
  ·have e:minus H []=H:=by
    funext b;exact kG (by simp)
   rw[e];exact h
  ·unfold Iss;rfl
 ·have e':d=.bl true:=e;subst e';exact kI i
theorem law_walkX{l:PySem.W.OpenLaw}{q:Program}{loose:List Str}{XP:(Str->Option Value)->Heap->Prop}{YP:World->Heap->Prop}{d:DefRec}{K:Params->PySem.W.Frag}(L:List FnI)(cns:List Str)(C:Cfg)(n:Nat)(i:FnI){x:Str}
 (hn:l.most=some 63) (hdf:d.params.defaults=[]) (hY:∀(w:World) (h:Heap),YP w h->(K w.params).In h) (hr:Room (n+3) callerA)
 (hi:L[n]?=some i) (hx:i.ps=[x]) (hic:i.c=ui) (hif:i.fr=false/\i.g=false) (hdn:d.name=i.x) (hc:vM L cns=true) (hk:∀i∈L,i.Keep C) (ct:∀n i,L[n]?=some i->C.ct n=i.c/\C.fr n=i.fr/\C.f2 n=i.g) (hE:∀x,¬ C.E x)
 (F:∀(w:World) (mg:Str->Option Value) (h:Heap),(K w.params).In h->h.Ns mainGlobals mg ->
  (∀i∈L,Jv (K w.params) mg i)/\(∀n x,cns[n]?=some x->∃u v,mg x=some u/\jM v u/\∀S,Is (K w.params) S (C.cn n) v)/\(∀x∈blts,mg x=none)/\∀i∈L,i.rz=true->ExcOk (K w.params) mg i.cls i.al) :
 PySem.W.WalkO q loose XP YP l.row.toRowW d [] (fun f vs=>PySem.call f vs):=by
 have key:∀(w:World) (mg:Str->Option Value) (h:Heap),(K w.params).In h->h.Ns mainGlobals mg->∃f fd,FnAt (K w.params) mg i f fd/\∀base:Heap,FnOk l.prog w (K w.params) mg base (CXz l.prog w mg) (n+3) f fd [x] (spD (K w.params) 1 false false ui):=fun w mg h KX G=>by
  obtain⟨F1,F2,F3,F4⟩:=F w mg h KX G;obtain⟨f,fd,A⟩:=F1 i (List.mem_of_getElem? hi);refine⟨f,fd,A,fun base=>?_⟩;have:=all_sound (P:=l.prog) (w:=w) (base:=base) F1 hc hk ct F2 F3 hE F4 n i f fd hi A;rw[hx,hic,hif.1,hif.2]at this;exact this
 refine L2.walk_of (n:=63) (k:=n+3) (x:=x) (CX:=fun _=>fun _ _ _ E _ _=>∃v da H,E v da H) (sp:=fun w=>spD (K w.params) 1 false false ui) hn (by decide) hdf hr hY ?_ (fun w H a ns hl _ hS=>law_sp hl hS) fun _ _ _ _ _ ⟨_,_,_,z⟩=>z
 intro w mg fa h KX G hmg;obtain⟨f,fd,A,ok⟩:=key w mg h KX G
 have e:fa=f:=by
  have:=A.mg;rw[<- hdn,hmg]at this;cases this;rfl
 subst e;refine⟨fd,fun s u=>.of_eq ?_,fun base _ _=>?_⟩
 ·have:=A.bd [u] (by rw[hx];rfl);rw[hx]at this;exact this
 ·exact⟨(ok base).len,fun A outer s H args us vs Q E r e0 b rv hsp=>codeAny_mono ((ok base).run A outer s H args us vs Q E r e0 b rv hsp) fun r s' z=>by
   cases r with
   |ok fl=>cases fl<;>exact z
   |error e=>obtain⟨x,C,H1,da,z,_⟩:=z;exact⟨_,_,_,z⟩⟩
end Z
namespace Z
open PySem
noncomputable def qr:Sm :=
 (.seq (.set 2 (.bi .abs [(.var 0)]))
 (.seq (.set 3 (.bi .abs [(.var 1)]))
 (.seq (.whl (.cmp .gt (.var 3) (.cst (.int 0))) (.seq (.set 4 (.bin .mod (.var 2) (.var 3)))
  (.seq (.set 2 (.var 3))
  (.seq (.set 3 (.var 4))
  .nop))))
 (.seq (.ret (.var 2))
 .nop))))
noncomputable def K1(i_common_divisor:Nat):Sm :=
 (.seq (.ite (.cmp .eq (.var 1) (.cst (.int 0))) (.seq .never
  .nop) .nop)
 (.seq (.set 2 (.call i_common_divisor [(.var 0),(.var 1)]))
 (.seq (.ite (.cmp .lt (.var 1) (.cst (.int 0))) (.seq (.set 2 (.neg (.var 2)))
  .nop) .nop)
 (.seq (.ret (.tup [(.bin .fdiv (.var 0) (.var 2)),(.bin .fdiv (.var 1) (.var 2))]))
 .nop))))
noncomputable def rq(r:Rat):D:=.tup [.int r.num,.int r.den]
noncomputable def szr(n:Nat)(r:Rat):Prop:=bits r.num<=n/\bits (r.den:Int)<=n
theorem szr.mono{n m:Nat}{r:Rat}(h:szr n r)(hm:n<=m):szr m r:=⟨Nat.le_trans h.1 hm,Nat.le_trans h.2 hm⟩
theorem Kj(t:Int){u:Int}(h:u≠0):bits (Rat.divInt t u).num<=bits t/\bits ((Rat.divInt t u).den:Int)<=bits u:=by
 rw[Rat.num_divInt,Rat.den_divInt,if_neg h];have hg:0<u.gcd t:=Int.gcd_pos_of_ne_zero_left _ h;constructor
 ·refine Nat.le_trans (JP (by lia)) (yW ?_);rw[Int.natAbs_mul];rw[Int.natAbs_sign_of_ne_zero h,Nat.one_mul];exact Nat.le_refl _
 ·refine yW ?_;rw[Int.natAbs_natCast];exact Nat.div_le_self u.natAbs (u.gcd t)
theorem rat_eq(r:Rat):r=Rat.divInt r.num r.den:=(Rat.num_divInt_den r).symm
noncomputable def jR:Ctr where
 pre ds:=match ds with|[.int _,.int _]=>True|_=>False
 res ds d:=match ds with|[.int a,.int b]=>d=.int (Int.gcd a b)|_=>False
theorem uX{C:Cfg}:jC C 5 qr jR:=by
 rintro ds h;simp only[jR]at h;split at h
 case h_2=>exact h.elim
 next a b =>
 simp_all_arith! only[qr,jR,x6]
 refine qJ (fun σ=>∃(x y:Nat) (o:Option Sl),Nat.gcd x y=Int.gcd a b/\σ=[some (.sh (.int a)),some (.sh (.int b)),some (.sh (.int x)),some (.sh (.int y)),o]) (fun σ=>(xu σ 3).toNat) ?_ ?_
 ·exact⟨_,_,_,rfl,rfl⟩
 ·rintro σ ⟨x,y,o,hg,rfl⟩
  simp_all_arith! only[xu]
  by_cases h0:0<(y:Int)
  ·rw[if_pos h0,ji (by lia)];have hm:x%y<y:=Nat.mod_lt _ (by lia);refine⟨by lia,by lia,y,x%y,some (.sh (.int ((x:Int)%y))),?_,by simp⟩;rw[Nat.gcd_comm,<- Nat.gcd_rec,Nat.gcd_comm];exact hg
  ·rw[if_neg h0]
   have:y=0:=by lia
   subst this;simp only[Nat.gcd_zero_right]at hg;rw[hg]
noncomputable def xE:Ctr where
 pre ds:=match ds with|[.int _,.int u]=>u≠0/\bits u<=9000|_=>False
 res ds d:=match ds with|[.int t,.int u]=>d=rq (Rat.divInt t u)|_=>False
theorem k_ratio{C:Cfg}{i:Nat}(h1:C.ct i=jR):jC C 3 (K1 i) xE:=by
 rintro ds h;simp only[xE]at h;split at h
 case h_2=>exact h.elim
 next t u =>
 obtain⟨hu,hb⟩:=h;have hg:0<Int.gcd t u:=Int.gcd_pos_of_ne_zero_right _ hu
 have hgb:bits (Int.gcd t u:Int)<=9000:=by
  refine Nat.le_trans (yW ?_) hb;have:=Nat.le_of_dvd (by lia) (Int.gcd_dvd_natAbs_right t u);lia
 have dt:((Int.gcd t u:Nat):Int) ∣ t:=Int.gcd_dvd_left ..;have du:((Int.gcd t u:Nat):Int) ∣ u:=Int.gcd_dvd_right ..;have en:=Rat.num_divInt t u;have ed:=Rat.den_divInt t u;rw[if_neg hu]at ed;rw[Int.gcd_comm]at en ed
 simp_all_arith! only[K1,xE,h1,jR]
 rw[if_neg hu];generalize Int.gcd t u=g at *;obtain⟨t',rfl⟩:=dt;obtain⟨u',rfl⟩:=du
 have g0:(g:Int)≠0:=by lia
 by_cases hs:(g:Int)*u'<0
 ·rw[if_pos hs];refine⟨⟨by lia,by rw[zV];exact hgb⟩,⟨by lia,by rw[zV];exact hgb⟩,?_⟩
  have hu':u'<0:=by
   rcases Int.lt_or_le u' 0 with z|z
   ·exact z
   ·have:=Int.mul_nonneg (show (0:Int)<=g by lia) z;lia
  have e1:((g:Int)*t').fdiv (-g)=-t':=by
   rw[show (g:Int)*t'=-t' * -g by rw[Int.neg_mul_neg,Int.mul_comm]];exact Int.mul_fdiv_cancel _ (by lia)
  have e2:((g:Int)*u').fdiv (-g)=-u':=by
   rw[show (g:Int)*u'=-u' * -g by rw[Int.neg_mul_neg,Int.mul_comm]];exact Int.mul_fdiv_cancel _ (by lia)
  rw[e1,e2];unfold rq;rw[en,ed,Int.sign_eq_neg_one_of_neg hs]
  have e3:-1*((g:Int)*t') / g=-t':=by
   rw[show -1*((g:Int)*t')=g * -t' by grind,Int.mul_ediv_cancel_left _ g0]
  have e4:((g:Int)*u').natAbs / g=u'.natAbs:=by
   rw[Int.natAbs_mul,Int.natAbs_natCast,Nat.mul_div_cancel_left _ hg]
  rw[e3,e4]
  have:((u'.natAbs:Nat):Int)=-u':=by lia
  rw[this]
 ·rw[if_neg hs];refine⟨⟨by lia,hgb⟩,⟨by lia,hgb⟩,?_⟩
  have hu':0<u':=by
   have:u'≠0:=fun z=>by subst z;simp at hu
   rcases Int.lt_or_le u' 0 with z|z
   ·have:=Int.mul_neg_of_pos_of_neg (show (0:Int)<g by lia) z;lia
   ·lia
  have hp:0<(g:Int)*u':=Int.mul_pos (by lia) hu'
  have e1:((g:Int)*t').fdiv g=t':=by
   rw[Int.mul_comm];exact Int.mul_fdiv_cancel _ (by lia)
  have e2:((g:Int)*u').fdiv g=u':=by
   rw[Int.mul_comm];exact Int.mul_fdiv_cancel _ (by lia)
  rw[e1,e2];unfold rq;rw[en,ed,Int.sign_eq_one_of_pos hp,Int.one_mul,Int.mul_ediv_cancel_left _ g0]
  have e4:((g:Int)*u').natAbs / g=u'.natAbs:=by
   rw[Int.natAbs_mul,Int.natAbs_natCast,Nat.mul_div_cancel_left _ hg]
  rw[e4]
  have:((u'.natAbs:Nat):Int)=u':=by lia
  rw[this]
section
variable {C:Cfg} {i:Nat} (h1:C.ct i=xE)
include h1
end
end Z
namespace Z
open PySem
noncomputable def v2(n:Nat):Nat:=if h:n=0 then 0 else if n%2=1 then 0 else v2 (n / 2)+1
 termination_by n
 decreasing_by lia
theorem v2_odd{n:Nat}(h:n%2=1):v2 n=0:=by
 unfold v2
 have:n≠0:=by lia
 simp[this,h]
theorem v2_even{n:Nat}(h0:n≠0)(h:n%2=0):v2 n=v2 (n / 2)+1:=by
 rw[v2]
 have:¬ n%2=1:=by lia
 simp[h0,this]
theorem v2_mul{m:Nat}(h:m%2=1):∀v:Nat,v2 (2^v*m)=v
 |0=>by simpa using v2_odd h
 |v+1=>by
  have e:2^(v+1)*m=2*(2^v*m):=by rw[Nat.pow_succ];grind
  have hp:0<2^v*m:=Nat.mul_pos (Nat.two_pow_pos v) (by lia);rw[e,v2_even (by lia) (by lia)]
  have:2*(2^v*m) / 2=2^v*m:=by lia
  rw[this,v2_mul h v]
noncomputable def jL(w p:Int):Int×Int:=if w=0 then (0,0) else (w / 2^v2 w.natAbs,p+v2 w.natAbs)
theorem v5(p:Int):jL 0 p=(0,0):=by simp[jL]
theorem kh{m:Int}(h:m%2=1)(v:Nat)(p:Int):jL (m*2^v) p=(m,p+v):=by
 have hm:m≠0:=by lia
 have hp:=two_pow_pos v;have h0:m*2^v≠0:=Int.mul_ne_zero hm (by lia)
 have e:(m*2^v).natAbs=2^v*m.natAbs:=by rw[Int.natAbs_mul,Int.natAbs_pow,Nat.mul_comm];rfl
 unfold jL;rw[if_neg h0,e,v2_mul (by lia),Int.mul_ediv_cancel _ (by lia)]
theorem yU{w:Int}(h:w≠0):∃(m:Int) (v:Nat),w=m*2^v/\m%2=1:=by
 obtain⟨v,m,e,ho,_⟩:=low_of h;exact⟨m,v,e,ho⟩
theorem Bare.eq{w p w' p':Int}(b:Bare w p w' p'):(w',p')=jL w p:=by
 by_cases h:w=0
 ·obtain⟨rfl,rfl⟩:=b.nought h;subst h;exact(v5 p).symm
 ·obtain⟨v,e,ep,ho⟩:=b.same h;rw[e,kh ho,ep]
theorem vJ(w p:Int):Bare w p (jL w p).1 (jL w p).2:=by
 by_cases h:w=0
 ·subst h;exact⟨fun _=>by simp[jL],fun z=>absurd rfl z⟩
 ·obtain⟨m,v,rfl,ho⟩:=yU h;rw[kh ho];exact⟨fun z=>absurd z h,fun _=>⟨v,rfl,rfl,ho⟩⟩
theorem bareF_two(w p:Int):jL (w*2) p=jL w (p+1):=by
 by_cases h:w=0
 ·subst h;simp[jL]
 ·obtain⟨m,v,rfl,ho⟩:=yU h
  have e:m*2^v*2=m*2^(v+1):=by rw[Int.pow_succ,Int.mul_assoc]
  rw[e,kh ho,kh ho];congr 1;lia
theorem bareF_neg(w p:Int):jL (-w) p=(-(jL w p).1,(jL w p).2):=by
 by_cases h:w=0
 ·subst h;simp[jL]
 ·obtain⟨m,v,rfl,ho⟩:=yU h
  have e:-(m*2^v)=-m*2^v:=by rw[Int.neg_mul]
  rw[e,kh ho,kh (by lia)]
noncomputable def nq(x:Int×Int):D:=.tup [.int x.1,.int x.2]
noncomputable def Sc(t p:Int):Int:=t*2^(-p).toNat
noncomputable def Vc(u p:Int):Int:=u*2^p.toNat
theorem xc{u p:Int}(h:0<u):0<Vc u p:=Int.mul_pos h (two_pow_pos _)
theorem vt(t u p:Int):(Sc t (p+1)=Sc t p/\Vc u (p+1)=2*Vc u p)\/(Sc t p=2*Sc t (p+1)/\Vc u (p+1)=Vc u p):=by
 unfold Sc Vc;by_cases h:0<=p
 ·left
  have e1:(-(p+1)).toNat=(-p).toNat:=by lia
  have e2:(p+1).toNat=p.toNat+1:=by lia
  rw[e1,e2,Int.pow_succ];exact⟨rfl,by grind⟩
 ·right
  have e1:(-p).toNat=(-(p+1)).toNat+1:=by lia
  have e2:(p+1).toNat=p.toNat:=by lia
  rw[e1,e2,Int.pow_succ];exact⟨by grind,rfl⟩
structure Cut (n:Nat) (t u w p:Int):Prop where
 lo:2^(n-1)<=w
 hi:w<2^n
 le:w*Vc u p<=Sc t p
 lt:Sc t p<(w+1)*Vc u p
noncomputable def jf(n:Nat)(t u:Int):Int:=let p:=(bits t:Int)-bits u-n;if 2^n<=Sc t p / Vc u p then p+1 else p
noncomputable def qL(n:Nat)(t u:Int):Int:=Sc t (jf n t u) / Vc u (jf n t u)
theorem xx{t:Int}(h:0<t):(2:Int)^(bits t-1)<=t/\t<2^bits t:=by
 have h1:=vk t;have h2:=u8 (show t≠0 by lia)
 have c1:((2^bits t:Nat):Int)=2^bits t:=by simp
 have c2:((2^(bits t-1):Nat):Int)=2^(bits t-1):=by simp
 lia
theorem guess{n:Nat}{t u:Int}(hn:1<=n)(ht:0<t)(hu:0<u)(p:Int)(hp:p=(bits t:Int)-bits u-n):2^(n-1)*Vc u p<=Sc t p/\Sc t p<2^(n+1)*Vc u p:=by
 obtain⟨t1,t2⟩:=xx ht;obtain⟨u1,u2⟩:=xx hu;have bt:=kX (show t≠0 by lia);have bu:=kX (show u≠0 by lia);generalize ha:bits t=a at *;generalize hb:bits u=b at *;unfold Sc Vc;have k1:(0:Int)<=2^(-p).toNat:=Int.le_of_lt (two_pow_pos _);have k2:(0:Int)<=2^p.toNat:=Int.le_of_lt (two_pow_pos _);have kn:(0:Int)<=2^(n-1):=Int.le_of_lt (two_pow_pos _);have kn1:(0:Int)<=2^(n+1):=Int.le_of_lt (two_pow_pos _);constructor
 ·have s1:2^(n-1)*(u*2^p.toNat)<=2^(n-1)*(2^b*2^p.toNat):=Int.mul_le_mul_of_nonneg_left (Int.mul_le_mul_of_nonneg_right (by lia) k2) kn;have s2:(2:Int)^(a-1)*2^(-p).toNat<=t*2^(-p).toNat:=Int.mul_le_mul_of_nonneg_right t1 k1
  have s3:(2:Int)^(n-1)*(2^b*2^p.toNat)=2^(a-1)*2^(-p).toNat:=by
   rw[<- Int.pow_add,<- Int.pow_add,<- Int.pow_add];congr 1;lia
  lia
 ·have s1:2^(n+1)*(2^(b-1)*2^p.toNat)<=2^(n+1)*(u*2^p.toNat):=Int.mul_le_mul_of_nonneg_left (Int.mul_le_mul_of_nonneg_right (by lia) k2) kn1;have s2:t*2^(-p).toNat<2^a*2^(-p).toNat:=Int.mul_lt_mul_of_pos_right t2 (two_pow_pos _)
  have s3:(2:Int)^(n+1)*(2^(b-1)*2^p.toNat)=2^a*2^(-p).toNat:=by
   rw[<- Int.pow_add,<- Int.pow_add,<- Int.pow_add];congr 1;lia
  lia
theorem Js(s:Int){v:Int}(hv:0<v):s / v*v<=s/\s<(s / v+1)*v:=⟨Int.ediv_mul_le s (by lia),Int.lt_ediv_add_one_mul_self s hv⟩
theorem uq{n:Nat}{t u:Int}(hn:1<=n)(ht:0<t)(hu:0<u):Cut n t u (qL n t u) (jf n t u):=by
 have g:=guess hn ht hu _ rfl
 have e2:(2:Int)^n=2*2^(n-1):=by
  conv=>lhs;rw[show n=(n-1)+1 by lia,Int.pow_succ]
  lia
 have e3:(2:Int)^(n+1)=2*2^n:=by rw[Int.pow_succ];lia
 have kn:=two_pow_pos n;unfold qL jf;simp only[];generalize hp:(bits t:Int)-bits u-n=p at *;have hv:=xc (p:=p) hu;by_cases c:2^n<=Sc t p / Vc u p
 ·rw[if_pos c];have hv1:=xc (p:=p+1) hu;have f:=Js (Sc t (p+1)) hv1;have c':=Int.mul_le_of_le_ediv hv c;rcases vt t u p with⟨s1,s2⟩|⟨s1,s2⟩
  ·refine⟨?_,?_,f.1,f.2⟩
   ·refine Int.le_ediv_of_mul_le hv1 ?_;rw[s1,s2]
    have:(2:Int)^(n-1)*(2*Vc u p)=2^n*Vc u p:=by rw[e2];grind
    lia
   ·refine Int.ediv_lt_of_lt_mul hv1 ?_;rw[s1,s2]
    have:(2:Int)^n*(2*Vc u p)=2^(n+1)*Vc u p:=by rw[e3];grind
    lia
  ·refine⟨?_,?_,f.1,f.2⟩
   ·refine Int.le_ediv_of_mul_le hv1 ?_;rw[s2]
    have:(2:Int)^n*Vc u p=2*(2^(n-1)*Vc u p):=by rw[e2];grind
    lia
   ·refine Int.ediv_lt_of_lt_mul hv1 ?_;rw[s2]
    have:(2:Int)^(n+1)*Vc u p=2*(2^n*Vc u p):=by rw[e3];grind
    lia
 ·rw[if_neg c];have f:=Js (Sc t p) hv;exact⟨Int.le_ediv_of_mul_le hv g.1,by lia,f.1,f.2⟩
end Z
namespace Z
open PySem
noncomputable def zq:Sm :=
 (.seq (.whl (.cmp .eq (.bin .mod (.var 0) (.cst (.int 2))) (.cst (.int 0))) (.seq (.set 0 (.bin .fdiv (.var 0) (.cst (.int 2))))
  (.seq (.set 1 (.bin .add (.var 1) (.cst (.int 1))))
  .nop)))
 (.seq (.ret (.tup [(.var 0),(.var 1)]))
 .nop))
noncomputable def uU(c_NONE_LEFT c_HALF_LEFT c_BELOW_HALF c_ABOVE_HALF:Nat):Sm :=
 (.seq (.ite (.cmp .eq (.var 0) (.cst (.int 0))) (.seq (.ret (.con c_NONE_LEFT))
  .nop) .nop)
 (.seq (.ite (.cmp .eq (.bin .mul (.cst (.int 2)) (.var 0)) (.var 1)) (.seq (.ret (.con c_HALF_LEFT))
  .nop) .nop)
 (.seq (.ret (.ife (.cmp .lt (.bin .mul (.cst (.int 2)) (.var 0)) (.var 1)) (.con c_BELOW_HALF) (.con c_ABOVE_HALF)))
 .nop)))
noncomputable def b_cut(i_two_to i_left_of:Nat):Sm :=
 (.seq (.set 3 (.bin .sub (.bin .sub (.meth .bitlen (.var 0)) (.meth .bitlen (.var 1))) (.var 2)))
 (.seq (.ite (.cmp .lt (.var 3) (.cst (.int 0))) (.seq (.set 0 (.bin .mul (.var 0) (.call i_two_to [(.neg (.var 3))])))
  .nop) (.seq (.set 1 (.bin .mul (.var 1) (.call i_two_to [(.var 3)])))
  .nop))
 (.seq (.ite (.cmp .ge (.bin .fdiv (.var 0) (.var 1)) (.call i_two_to [(.var 2)])) (.seq (.set 1 (.bin .mul (.var 1) (.cst (.int 2))))
  (.seq (.set 3 (.bin .add (.var 3) (.cst (.int 1))))
  .nop)) .nop)
 (.seq (.ret (.tup [(.bin .fdiv (.var 0) (.var 1)),(.var 3),(.call i_left_of [(.bin .mod (.var 0) (.var 1)),(.var 1)])]))
 .nop))))
noncomputable def zE(i_odd_form:Nat):Sm :=
 (.seq (.set 3 (.ife (.var 1) (.bin .add (.ix (.var 0) (.cst (.int 0))) (.cst (.int 1))) (.ix (.var 0) (.cst (.int 0)))))
 (.seq (.ret (.call i_odd_form [(.ife (.var 2) (.neg (.var 3)) (.var 3)),(.ix (.var 0) (.cst (.int 1)))]))
 .nop))
noncomputable def b_near(i_cut i_from_cut c_HALF_LEFT c_ABOVE_HALF:Nat):Sm :=
 (.seq (.ite (.cmp .eq (.ix (.var 0) (.cst (.int 0))) (.cst (.int 0))) (.seq (.ret (.tup [(.cst (.int 0)),(.cst (.int 0))]))
  .nop) .nop)
 (.seq (.set 2 (.call i_cut [(.bi .abs [(.ix (.var 0) (.cst (.int 0)))]),(.ix (.var 0) (.cst (.int 1))),(.var 1)]))
 (.seq (.set 3 (.and (.cmp .eq (.ix (.var 2) (.cst (.int 2))) (.con c_HALF_LEFT)) (.cmp .eq (.bin .mod (.ix (.var 2) (.cst (.int 0))) (.cst (.int 2))) (.cst (.int 1)))))
 (.seq (.ret (.call i_from_cut [(.var 2),(.or (.cmp .eq (.ix (.var 2) (.cst (.int 2))) (.con c_ABOVE_HALF)) (.var 3)),(.cmp .lt (.ix (.var 0) (.cst (.int 0))) (.cst (.int 0)))]))
 .nop))))
noncomputable def qu:Ctr where
 pre ds:=match ds with|[.int w,.int _]=>w≠0|_=>False
 res ds d:=match ds with|[.int w,.int p]=>d=nq (jL w p)|_=>False
theorem k_odd_form{C:Cfg}:jC C 2 zq qu:=by
 rintro ds h;simp only[qu]at h;split at h
 case h_2=>exact h.elim
 next w p =>
 simp_arith! only[zq,qu]
 refine jO (fun σ=>σ=[some (.sh (.int (jL w p).1)),some (.sh (.int (jL w p).2))]) ?_ ?_
 ·refine qJ (fun σ=>∃w' p':Int,w'≠0/\jL w' p'=jL w p/\σ=[some (.sh (.int w')),some (.sh (.int p'))]) (fun σ=>(xu σ 0).natAbs) ⟨w,p,h,rfl,rfl⟩ ?_;rintro σ ⟨w',p',h0,e,rfl⟩
  simp_all_arith! only[xu]
  rw[ji (by decide),jr (by decide)];by_cases c:w'%2=0
  ·rw[if_pos c];refine⟨by decide,by lia,w' / 2,p'+1,by lia,?_,rfl⟩;rw[<- e,<- bareF_two];congr 1;lia
  ·rw[if_neg c]
   have:jL w' p'=(w',p'):=by simpa using kh (m:=w') (by lia) 0 p'
   rw[<- e,this]
 ·rintro σ rfl
  simp_all_arith! only[]
  rfl
noncomputable def cls(r v:Int):Int:=if r=0 then 0 else if 2*r=v then 2 else if 2*r<v then 1 else 3
theorem cls_two{r v:Int}:cls (2*r) (2*v)=cls r v:=by
 unfold cls
 have e1:2*r=0 ↔ r=0:=by lia
 have e2:2*(2*r)=2*v ↔ 2*r=v:=by lia
 have e3:2*(2*r)<2*v ↔ 2*r<v:=by lia
 simp only[e1,e2,e3]
noncomputable def ky:Ctr where
 pre ds:=match ds with|[.int _,.int _]=>True|_=>False
 res ds d:=match ds with|[.int r,.int v]=>d=.int (cls r v)|_=>False
theorem k_left_of{C:Cfg}{c0 c2 c1 c3:Nat}(h0:C.cn c0=.int 0)(h2:C.cn c2=.int 2)(h1:C.cn c1=.int 1)(h3:C.cn c3=.int 3):jC C 2 (uU c0 c2 c1 c3) ky:=by
 rintro ds h;simp only[ky]at h;split at h
 case h_2=>exact h.elim
 next r v =>
 simp_all_arith! only[uU,ky,h0,h1,h2,h3]
 unfold cls;by_cases a:r=0
 ·rw[if_pos a,if_pos a]
 ·rw[if_neg a,if_neg a];refine⟨.inl (by decide),?_⟩;by_cases b:2*r=v
  ·rw[if_pos b,if_pos b]
  ·rw[if_neg b,if_neg b];refine⟨.inl (by decide),?_⟩;by_cases c:2*r<v
   ·rw[if_pos c,if_pos c]
   ·rw[if_neg c,if_neg c]
noncomputable def qR(n:Nat)(t u:Int):Int:=Sc t (jf n t u)-qL n t u*Vc u (jf n t u)
noncomputable def JC:Ctr where
 pre ds:=match ds with|[.int t,.int u,.int n]=>(0<t/\0<u)/\(8<=n/\n<=64)/\bits t<=4400/\bits u<=4400|_=>False
 res ds d:=match ds with|[.int t,.int u,.int n]=>d=.tup [.int (qL n.toNat t u),.int (jf n.toNat t u),.int (cls (qR n.toNat t u) (Vc u (jf n.toNat t u)))]|_=>False
theorem k_cut{C:Cfg}{i j:Nat}(h1:C.ct i=kH)(h2:C.ct j=ky):jC C 4 (b_cut i j) JC:=by
 rintro ds h;simp only[JC]at h;split at h
 case h_2=>exact h.elim
 next t u n =>
 obtain⟨⟨ht,hu⟩,⟨n1,n2⟩,bt,bu⟩:=h
 obtain⟨n,rfl⟩:∃m:Nat,n=m:=⟨n.toNat,by lia⟩
 simp_arith! only[b_cut,JC]
 generalize hp:(bits t:Int)-bits u-n=p;have hv:=xc (p:=p) hu
 let P:Sto->Prop:=fun σ=>σ=[some (.sh (.int (Sc t p))),some (.sh (.int (Vc u p))),some (.sh (.int n)),some (.sh (.int p))]
 refine jO P ?_ ?_
 ·simp_all_arith! only[h1,kH]
  by_cases c:p<0
  ·rw[if_pos c];refine⟨⟨by lia,by lia⟩,jJ (by rw[jz];lia),?_⟩
   have e:p.toNat=0:=by lia
   show _=_;simp[Sc,Vc,e]
  ·rw[if_neg c];refine⟨⟨by lia,by lia⟩,jJ (by rw[jz];lia),?_⟩
   have e:(-p).toNat=0:=by lia
   show _=_;simp[Sc,Vc,e]
 rintro σ rfl
 have bV:bits (Vc u p)<=8990:=by
  unfold Vc;have:=j5 u (2^p.toNat);rw[jz]at this;lia
 have bV2:bits (Vc u p*2)<=9000:=by
  have:=j5 (Vc u p) 2
  have b2:bits 2=2:=by decide
  lia
 have mod_eq:∀s v:Int,s%v=s-s / v*v:=fun s v=>by rw[Int.emod_def,Int.mul_comm]
 by_cases c:2^n<=Sc t p / Vc u p
 ·have eP:jf n t u=p+1:=by unfold jf;simp only[hp];rw[if_pos c]
  simp_all_arith! only[h1,h2,kH,ky,Int.toNat_natCast,eP]
  rw[jr (by lia)];refine⟨⟨by lia,by lia⟩,⟨by lia,by lia⟩,?_⟩;rw[if_pos c];rw[jr (by lia),ji (by lia)];refine⟨.inr (.inl (by decide)),⟨by lia,by lia⟩,by lia,?_⟩;have hv1:=xc (p:=p+1) hu
  have eW:qL n t u=Sc t (p+1) / Vc u (p+1):=by unfold qL;rw[eP]
  have eR:qR n t u=Sc t (p+1)%Vc u (p+1):=by unfold qR;rw[eP,eW,mod_eq]
  rw[eW,eR];rcases vt t u p with⟨s1,s2⟩|⟨s1,s2⟩
  ·rw[s1,s2,Int.mul_comm (Vc u p) 2]
  ·rw[s1,s2,Int.mul_comm (Vc u p) 2,Int.mul_ediv_mul_of_pos _ _ (by decide),Int.mul_emod_mul_of_pos _ _ (by decide),cls_two]
 ·have eP:jf n t u=p:=by unfold jf;simp only[hp];rw[if_neg c]
  simp_all_arith! only[h1,h2,kH,ky,Int.toNat_natCast,eP]
  rw[jr (by lia)];refine⟨⟨by lia,by lia⟩,⟨by lia,by lia⟩,?_⟩;rw[if_neg c,ji (by lia)];refine⟨⟨by lia,by lia⟩,by lia,?_⟩
  have eW:qL n t u=Sc t p / Vc u p:=by unfold qL;rw[eP]
  have eR:qR n t u=Sc t p%Vc u p:=by unfold qR;rw[eP,eW,mod_eq]
  rw[eW,eR]
noncomputable def qy:Ctr where
 pre ds:=match ds with|[.tup [.int w,.int _,.int _],.bl _,.bl _]=>0<w|_=>False
 res ds d:=match ds with|[.tup [.int w,.int p,.int _],.bl up,.bl lo]=>d=nq (jL (if lo then -(if up then w+1 else w) else (if up then w+1 else w)) p)|_=>False
theorem k_from_cut{C:Cfg}{i:Nat}(h1:C.ct i=qu):jC C 4 (zE i) qy:=by
 rintro ds h;simp only[qy]at h;split at h
 case h_2=>exact h.elim
 next w p x up lo =>
 cases up<;>cases lo<;>(simp_all_arith! only[zE,qy,h1,qu];lia)
noncomputable def kA(n:Nat)(t u:Int):Int:=if 2*qR n t u > Vc u (jf n t u)\/(2*qR n t u=Vc u (jf n t u)/\qL n t u%2=1) then qL n t u+1 else qL n t u
noncomputable def qF(n:Nat)(t u:Int):Int×Int:=if t=0 then (0,0) else if t<0 then jL (-kA n (-t) u) (jf n (-t) u) else jL (kA n t u) (jf n t u)
noncomputable def xJ:Ctr where
 pre ds:=match ds with|[.tup [.int t,.int u],.int n]=>0<u/\(8<=n/\n<=64)/\bits t<=4400/\bits u<=4400|_=>False
 res ds d:=match ds with|[.tup [.int t,.int u],.int n]=>d=nq (qF n.toNat t u)|_=>False
theorem cut_lt{n:Nat}{t u:Int}(hn:1<=n)(ht:0<t)(hu:0<u):0<=qR n t u/\qR n t u<Vc u (jf n t u)/\0<qL n t u:=by
 have c:=uq hn ht hu;have:=c.le;have:=c.lt;have:=c.lo;have:=two_pow_pos (n-1);unfold qR
 have e:(qL n t u+1)*Vc u (jf n t u)=qL n t u*Vc u (jf n t u)+Vc u (jf n t u):=by grind
 lia
theorem k_near{C:Cfg}{i j c2 c3:Nat}(h1:C.ct i=JC)(h2:C.ct j=qy)(hc2:C.cn c2=.int 2)(hc3:C.cn c3=.int 3):jC C 4 (b_near i j c2 c3) xJ:=by
 rintro ds h;simp only[xJ]at h;split at h
 case h_2=>exact h.elim
 next t u n =>
 obtain⟨hu,⟨n1,n2⟩,bt,bu⟩:=h
 obtain⟨n,rfl⟩:∃m:Nat,n=m:=⟨n.toNat,by lia⟩
 simp_all_arith! only[b_near,xJ,h1,h2,JC,qy,hc2,hc3,x6,Int.toNat_natCast]
 unfold qF;by_cases h0:t=0
 ·rw[if_pos h0,if_pos h0];rfl
 ·rw[if_neg h0,if_neg h0]
  have ha:0<(t.natAbs:Int):=by lia
  have cl:=cut_lt (n:=n) (by lia) ha hu;refine⟨⟨⟨ha,hu⟩,⟨n1,n2⟩,by rw[zN];exact bt,bu⟩,?_⟩;rw[ji (by decide)];generalize hA:(t.natAbs:Int)=A at *
  have fin:∀x:Int,x=kA n A u->nq (jL (if t<0 then -x else x) (jf n A u))=nq (if t<0 then jL (-kA n (-t) u) (jf n (-t) u) else jL (kA n t u) (jf n t u)):=by
   rintro x rfl;by_cases hs:t<0
   ·have e:A=-t:=by lia
    subst e;simp only[hs,if_true]
   ·have e:A=t:=by lia
    subst e;simp only[hs,if_false]
  have cc:cls (qR n A u) (Vc u (jf n A u))=2 ↔ 2*qR n A u=Vc u (jf n A u):=by
   unfold cls;split
   ·lia
   ·split
    ·lia
    ·split<;>lia
  have cd:cls (qR n A u) (Vc u (jf n A u))=3 ↔ 2*qR n A u > Vc u (jf n A u):=by
   unfold cls;split
   ·lia
   ·split
    ·lia
    ·split<;>lia
  by_cases e2:cls (qR n A u) (Vc u (jf n A u))=2
  ·rw[if_pos e2]
   have n3:¬ cls (qR n A u) (Vc u (jf n A u))=3:=by lia
   have e2':=cc.mp e2;simp only[n3,if_false];refine⟨cl.2.2,fin _ ?_⟩;unfold kA;by_cases ho:qL n A u%2=1
   ·rw[if_pos ho,if_pos (.inr ⟨e2',ho⟩)]
   ·rw[if_neg ho,if_neg (by lia)]
  ·rw[if_neg e2]
   have e2':¬ 2*qR n A u=Vc u (jf n A u):=fun z=>e2 (cc.mpr z)
   by_cases e3:cls (qR n A u) (Vc u (jf n A u))=3
   ·simp only[e3,if_true];have:=cd.mp e3;exact⟨cl.2.2,fin _ (by unfold kA;rw[if_pos (by lia)])⟩
   ·simp only[e3,if_false]
    have:¬ 2*qR n A u > Vc u (jf n A u):=fun z=>e3 (cd.mpr z)
    exact⟨cl.2.2,fin _ (by unfold kA;rw[if_neg (by lia)])⟩
noncomputable def xG(x:Int×Int):Int×Int:=(-x.1,x.2)
end Z
namespace Z
open PySem
abbrev tw(p:Int):Rat:=(2:Rat)^p
theorem two_ne:(2:Rat)≠0:=by decide
theorem zg(p:Int):tw (p+1)=2*tw p:=by rw[tw,Rat.zpow_add_one two_ne,Rat.mul_comm]
theorem tw_zero:tw 0=1:=by decide
theorem tw_nat(n:Nat):tw n=((2^n:Int):Rat):=by
 induction n with
 |zero=>decide
 |succ n ih=>rw[show ((n+1:Nat):Int)=(n:Int)+1 by lia,zg,ih,Int.pow_succ];grind
theorem kK(p:Int)(k:Nat):tw (p+k)=tw p*((2^k:Int):Rat):=by
 induction k with
 |zero=>simp
 |succ k ih=>rw[show p+((k+1:Nat):Int)=p+k+1 by lia,zg,ih,Int.pow_succ];grind
theorem xL(a b:Rat):a<b\/b<=a:=by grind
theorem j8(p:Int):0<tw p:=by
 have pos:∀n:Nat,0<tw n:=fun n=>by rw[tw_nat];have:=two_pow_pos n;exact_mod_cast this
 rcases Int.le_total 0 p with h|h
 ·obtain⟨n,rfl⟩:∃n:Nat,p=n:=⟨p.toNat,by lia⟩
  exact pos n
 ·obtain⟨n,rfl⟩:∃n:Nat,p=-(n:Int):=⟨(-p).toNat,by lia⟩
  have e:=kK (-(n:Int)) n;rw[show -(n:Int)+n=0 by lia,tw_zero]at e
  have h2:(0:Rat)<((2^n:Int):Rat):=by have:=two_pow_pos n;exact_mod_cast this
  generalize ha:tw (-(n:Int))=a at *;generalize hb:((2^n:Int):Rat)=b at *;rcases xL 0 a with z|z
  ·exact z
  ·have:=Rat.mul_nonneg (a:=-a) (b:=b) (by grind) (by grind)
   grind
theorem jK{a b c:Rat}(h:a<=b)(hc:0<c):a*c<=b*c:=by
 have:=Rat.mul_nonneg (a:=b-a) (b:=c) (by grind) (by grind)
 grind
theorem vK{a b c:Rat}(h:a<b)(hc:0<c):a*c<b*c:=by
 have:=Rat.mul_pos (a:=b-a) (b:=c) (by grind) (by grind)
 grind
theorem yr{a b c:Rat}(hc:0<c):a*c<=b*c ↔ a<=b :=
 ⟨fun h=>by
  rcases xL b a with y|y
  ·have:=vK y hc;grind
  ·exact y,fun h=>jK h hc⟩
theorem xb{a b c:Rat}(hc:0<c):a*c<b*c ↔ a<b :=
 ⟨fun h=>by
  rcases xL a b with z|z
  ·exact z
  ·have:=jK z hc;grind,fun h=>vK h hc⟩
theorem yx{a b c:Rat}(hc:0<c):a*c=b*c ↔ a=b :=
 ⟨fun h=>by
  have h1:=(yr (a:=a) (b:=b) hc).mp (by grind);have h2:=(yr (a:=b) (b:=a) hc).mp (by grind)
  grind,fun h=>by rw[h]⟩
noncomputable def vr(x:Int×Int):Rat:=(x.1:Rat)*tw x.2
theorem vr_mul(m:Int)(v:Nat)(p:Int):vr (m*2^v,p)=vr (m,p+v):=by
 unfold vr;simp only[];rw[kK,Rat.intCast_mul];grind
theorem zQ(w p:Int):vr (jL w p)=w*tw p:=by
 by_cases h:w=0
 ·subst h;simp[jL,vr]
 ·obtain⟨m,v,rfl,ho⟩:=yU h;rw[kh ho,<- vr_mul];rfl
theorem vr_neg(x:Int×Int):vr (xG x)=-vr x:=by
 unfold vr xG;simp only[Rat.intCast_neg];grind
structure CutR (n:Nat) (r:Rat) (w p:Int):Prop where
 lo:2^(n-1)<=w
 hi:w<2^n
 le:w*tw p<=r
 lt:r<(w+1)*tw p
theorem tw_toNat(p:Int):((2^(-p).toNat:Int):Rat)*tw p=((2^p.toNat:Int):Rat):=by
 rcases Int.le_total 0 p with h|h
 ·obtain⟨n,rfl⟩:∃n:Nat,p=n:=⟨p.toNat,by lia⟩
  rw[tw_nat,show (-(n:Int)).toNat=0 by lia,Int.toNat_natCast];simp
 ·obtain⟨n,rfl⟩:∃n:Nat,p=-(n:Int):=⟨(-p).toNat,by lia⟩
  have e:=kK (-(n:Int)) n;rw[show -(n:Int)+n=0 by lia,tw_zero]at e;rw[show (- -(n:Int)).toNat=n by lia,show (-(n:Int)).toNat=0 by lia,Rat.mul_comm,<- e];simp
theorem kl{t u:Int}(hu:0<u):Rat.divInt t u*u=t:=by
 have hu':(u:Rat)≠0:=by
  intro z
  have:u=0:=by exact_mod_cast z
  lia
 rw[Rat.divInt_eq_div,Rat.div_mul_cancel hu']
theorem sc_rat{t u:Int}(hu:0<u)(p:Int):(Sc t p:Rat)*tw p=Rat.divInt t u*(Vc u p:Int):=by
 have e:=kl (t:=t) hu;unfold Sc Vc;rw[Rat.intCast_mul,Rat.intCast_mul,Rat.mul_assoc,tw_toNat,<- Rat.mul_assoc,e]
theorem cut_rat{n:Nat}{t u w p:Int}(hu:0<u):Cut n t u w p ↔ CutR n (Rat.divInt t u) w p:=by
 have hV:(0:Rat)<(Vc u p:Int):=by have:=xc (p:=p) hu;exact_mod_cast this
 have ht:=j8 p;have e:=sc_rat (t:=t) hu p
 have a1:w*Vc u p<=Sc t p ↔ w*tw p<=Rat.divInt t u:=by
  rw[<- yr hV,<- e,<- Rat.intCast_le_intCast,<- yr ht,Rat.intCast_mul]
  grind
 have a2:Sc t p<(w+1)*Vc u p ↔ Rat.divInt t u<(w+1)*tw p:=by
  rw[<- xb hV,<- e,<- Rat.intCast_lt_intCast,<- xb ht,Rat.intCast_mul,Rat.intCast_add]
  grind
 exact⟨fun c=>⟨c.lo,c.hi,a1.mp c.le,a2.mp c.lt⟩,fun c=>⟨c.lo,c.hi,a1.mpr c.le,a2.mpr c.lt⟩⟩
theorem tw_le{p q:Int}(h:p<=q):tw p<=tw q:=by
 obtain⟨k,rfl⟩:∃k:Nat,q=p+k:=⟨(q-p).toNat,by lia⟩
 have hp:=j8 p
 have h1:(1:Rat)<=((2^k:Int):Rat):=by have:=two_pow_pos k;exact_mod_cast (show (1:Int)<=2^k by lia)
 have:=jK h1 hp;rw[kK];grind
theorem ku{a b:Int}(h:a<=b):(a:Rat)<=b:=by exact_mod_cast h
theorem pow_n{n:Nat}(hn:1<=n):(2:Int)^n=2*2^(n-1):=by
 conv=>lhs;rw[show n=(n-1)+1 by lia,Int.pow_succ]
 lia
theorem CutR.mono{n:Nat}{r s:Rat}{w p w' p':Int}(hn:1<=n)(c:CutR n r w p)(c':CutR n s w' p')(h:r<=s):p<p'\/(p=p'/\w<=w'):=by
 rcases Int.lt_trichotomy p p' with z|z|z
 ·exact .inl z
 ·subst z;refine .inr ⟨rfl,?_⟩;have hp:=j8 p;have h1:=c.le;have h2:=c'.lt
  have:(w:Rat)*tw p<(w'+1)*tw p:=by grind
  rw[xb hp]at this
  have:w<w'+1:=by exact_mod_cast this
  lia
 ·exfalso;have h1:=c.le;have h2:=c'.lt;have hp:=j8 p;have hp':=j8 p';have l1:=jK (ku c.lo) hp;have l2:=jK (ku (show w'+1<=2^n by have:=c'.hi;lia)) hp';have l3:tw (p'+1)<=tw p:=tw_le (by lia);rw[zg]at l3
  have e:((2^n:Int):Rat)=2*((2^(n-1):Int):Rat):=by rw[pow_n hn];grind
  have hq:(0:Rat)<((2^(n-1):Int):Rat):=by have:=two_pow_pos (n-1);exact_mod_cast this
  have l4:=jK l3 hq
  have l5:((w'+1:Int):Rat)=(w':Rat)+1:=by grind
  rw[e,l5]at l2;generalize ((2^(n-1):Int):Rat)=m at *;generalize tw p=a at *;generalize tw p'=b at *
  grind
theorem CutR.unique{n:Nat}{r:Rat}{w p w' p':Int}(hn:1<=n)(c:CutR n r w p)(c':CutR n r w' p'):w=w'/\p=p':=by
 have h1:=c.mono hn c' Rat.le_refl;have h2:=c'.mono hn c Rat.le_refl;lia
structure NearR (n:Nat) (r:Rat) (W p:Int):Prop where
 ex:∃w,CutR n r w p/\((W=w/\(2*(r-w*tw p)<tw p\/(2*(r-w*tw p)=tw p/\w%2=0)))\/(W=w+1/\(tw p<2*(r-w*tw p)\/(2*(r-w*tw p)=tw p/\w%2=1))))
theorem NearR.unique{n:Nat}{r:Rat}{w p w' p':Int}(hn:1<=n)(c:NearR n r w p)(c':NearR n r w' p'):w=w'/\p=p':=by
 obtain⟨v,c,h⟩:=c.ex;obtain⟨v',c',h'⟩:=c'.ex;obtain⟨rfl,rfl⟩:=c.unique hn c';refine⟨?_,rfl⟩
 rcases h with⟨e,h⟩|⟨e,h⟩<;>rcases h' with⟨e',h'⟩|⟨e',h'⟩<;>grind
theorem NearR.bound{n:Nat}{r:Rat}{W p:Int}(c:NearR n r W p):2^(n-1)<=W/\W<=2^n:=by
 obtain⟨v,c,h⟩:=c.ex;have:=c.lo;have:=c.hi
 rcases h with⟨e,h⟩|⟨e,h⟩<;>lia
theorem Jm{n:Nat}{t u:Int}(hn:1<=n)(ht:0<t)(hu:0<u):NearR n (Rat.divInt t u) (kA n t u) (jf n t u):=by
 have c:=uq hn ht hu;refine⟨qL n t u,(cut_rat hu).mp c,?_⟩;have e:=sc_rat (t:=t) hu (jf n t u)
 have hV:(0:Rat)<(Vc u (jf n t u):Int):=by have:=xc (p:=jf n t u) hu;exact_mod_cast this
 have hp:=j8 (jf n t u);unfold kA;generalize hw:qL n t u=w at *;generalize hq:jf n t u=p at *
 have er:qR n t u=Sc t p-w*Vc u p:=by unfold qR;rw[hw,hq]
 rw[er]
 have k:(((2*(Sc t p-w*Vc u p):Int):Rat))*tw p=2*(Rat.divInt t u-w*tw p)*(Vc u p:Int):=by
  have:((2*(Sc t p-w*Vc u p):Int):Rat)=2*((Sc t p:Rat)-w*(Vc u p:Int)):=by grind
  rw[this];grind
 have a1:2*(Sc t p-w*Vc u p) > Vc u p ↔ tw p<2*(Rat.divInt t u-w*tw p):=by
  rw[<- xb hV,<- k,gt_iff_lt,<- Rat.intCast_lt_intCast,<- xb hp,Rat.mul_comm (tw p)]
 have a2:2*(Sc t p-w*Vc u p)=Vc u p ↔ 2*(Rat.divInt t u-w*tw p)=tw p:=by
  rw[<- yx hV,<- k,<- Rat.intCast_inj,<- yx hp,Rat.mul_comm (tw p)]
 have a3:2*(Sc t p-w*Vc u p)<Vc u p ↔ 2*(Rat.divInt t u-w*tw p)<tw p:=by
  rw[<- xb hV,<- k,<- Rat.intCast_lt_intCast,<- xb hp,Rat.mul_comm (tw p)]
 rw[<- a1,<- a2,<- a3]
 split<;>lia
noncomputable def jo(n:Nat)(r:Rat):Int×Int:=qF n r.num r.den
theorem zZ(r:Rat):(0:Int)<r.den:=by have:=r.den_nz;lia
theorem vo{r:Rat}:0<r.num ↔ 0<r:=by rw[Rat.lt_iff];simp
theorem Jd(w p:Int):jL (-w) p=xG (jL w p):=by rw[bareF_neg];rfl
theorem yV(x:Int×Int):xG (xG x)=x:=by unfold xG;simp
theorem JX(n:Nat)(t u:Int):qF n (-t) u=xG (qF n t u):=by
 unfold qF;rcases Int.lt_trichotomy t 0 with h|h|h
 ·rw[if_neg (by lia),if_neg (by lia),if_neg (by lia),if_pos h,Jd,yV]
 ·subst h;simp[xG]
 ·rw[if_neg (by lia),if_pos (by lia),if_neg (by lia),if_neg (by lia),Int.neg_neg,Jd]
theorem qW(n:Nat)(r:Rat):jo n (-r)=xG (jo n r):=by
 unfold jo;rw[Rat.neg_num,Rat.neg_den,JX]
theorem kO(n:Nat):jo n 0=(0,0):=by unfold jo qF;simp
theorem xS{n:Nat}{r:Rat}(hn:1<=n)(h:0<r):∃W p,NearR n r W p/\jo n r=jL W p:=by
 have h1:0<r.num:=vo.mpr h;refine⟨kA n r.num r.den,jf n r.num r.den,?_,?_⟩
 ·have:=Jm hn h1 (zZ r);rw[<- rat_eq]at this;exact this
 ·unfold jo qF;rw[if_neg (by lia),if_neg (by lia)]
theorem vT{n:Nat}{r:Rat}{W p:Int}(hn:1<=n)(h:0<r)(k:NearR n r W p):jo n r=jL W p:=by
 obtain⟨W',p',k',e⟩:=xS hn h;obtain⟨rfl,rfl⟩:=k.unique hn k';exact e
theorem nearF_q{n:Nat}{t u:Int}(hn:1<=n)(hu:0<u):qF n t u=jo n (Rat.divInt t u):=by
 have pos:∀t:Int,0<t->qF n t u=jo n (Rat.divInt t u):=by
  intro t ht;have h:=Jm hn ht hu
  have hr:0<Rat.divInt t u:=by
   rw[<- vo,Rat.num_divInt,Int.sign_eq_one_of_pos hu,Int.one_mul];have hg:0<u.gcd t:=Int.gcd_pos_of_ne_zero_left _ (by lia);have:((u.gcd t:Nat):Int) ∣ t:=Int.gcd_dvd_right ..;exact Int.ediv_pos_of_pos_of_dvd ht (by lia) this
  rw[vT hn hr h];unfold qF;rw[if_neg (by lia),if_neg (by lia)]
 rcases Int.lt_trichotomy t 0 with h|h|h
 ·have:=pos (-t) (by lia);rw[JX,<- Rat.neg_divInt,qW]at this;rw[<- yV (qF n t u),this,yV]
 ·subst h;rw[Rat.zero_divInt,kO];unfold qF;simp
 ·exact pos t h
theorem vr_near_pos{n:Nat}{r:Rat}(hn:1<=n)(h:0<r):0<vr (jo n r):=by
 obtain⟨W,p,k,e⟩:=xS hn h;have b:=k.bound;have:=two_pow_pos (n-1);rw[e,zQ];exact Rat.mul_pos (by exact_mod_cast (show 0<W by lia)) (j8 p)
theorem xV{n:Nat}{x:Int×Int}(hn:1<=n)(h:Num n x.1 x.2):jo n (vr x)=x:=by
 have pos:∀m p:Int,0<m->m%2=1->m.natAbs<2^n->jo n (vr (m,p))=(m,p):=by
  intro m p hm ho hs;obtain⟨m1,m2⟩:=xx hm;have bm:=kX (show m≠0 by lia);have bn:bits m<=n:=jg.mpr hs
  obtain⟨k,hk⟩:∃k:Nat,bits m+k=n:=⟨n-bits m,by lia⟩
  have hkp:=two_pow_pos k
  have e:vr (m,p)=((m*2^k:Int):Rat)*tw (p-k):=by
   have h1:=kK (p-k) k;rw[show p-(k:Int)+k=p by lia]at h1;unfold vr;simp only[];rw[h1,Rat.intCast_mul];grind
  have tp:=j8 (p-k)
  have c:NearR n (vr (m,p)) (m*2^k) (p-k):=by
   refine⟨m*2^k,⟨?_,?_,?_,?_⟩,.inl ⟨rfl,.inl ?_⟩⟩
   ·rw[show n-1=(bits m-1)+k by lia,Int.pow_add];exact Int.mul_le_mul_of_nonneg_right m1 (by lia)
   ·rw[<- hk,Int.pow_add];exact Int.mul_lt_mul_of_pos_right m2 hkp
   ·rw[e];exact Rat.le_refl
   ·rw[e];grind
   ·rw[e];grind
  have hv:0<vr (m,p):=Rat.mul_pos (by exact_mod_cast hm) (j8 p);rw[vT hn hv c,kh ho];simp only[Prod.mk.injEq,true_and];lia
 obtain⟨m,p⟩:=x;obtain⟨ho,hs⟩:=h;simp only[]at ho hs;rcases ho with ho|⟨rfl,rfl⟩
 ·rcases Int.lt_trichotomy m 0 with z|z|z
  ·have:=pos (-m) p (by lia) (by lia) (by lia);have e:vr (-m,p)=-vr (m,p):=vr_neg (m,p);rw[e,qW]at this;rw[<- yV (jo n (vr (m,p))),this];simp[xG]
  ·lia
  ·exact pos m p z ho hs
 ·have:vr (0,0)=0:=by simp[vr]
  rw[this,kO]
theorem bareF_num{n:Nat}{W p:Int}(h1:0<=W)(h2:W<=2^n)(hn:1<=n):Num n (jL W p).1 (jL W p).2:=by
 by_cases h0:W=0
 ·subst h0;rw[v5];exact⟨.inr ⟨rfl,rfl⟩,Nat.two_pow_pos n⟩
 ·rcases Int.lt_or_eq_of_le h2 with z|z
  ·have hw:W.natAbs<2^n:=by
    have:((2^n:Nat):Int)=2^n:=by simp
    lia
   exact(vJ W p).num hw
  ·have e:W=1*2^n:=by lia
   rw[e,kh (by decide)];exact⟨.inl (by show (1:Int)%2=1;decide),by have:=Nat.pow_lt_pow_right (a:=2) (by decide) (show 0<n by lia);simpa using this⟩
theorem cutPow_far(n:Nat)(t u:Int):(bits t:Int)-bits u-n<=jf n t u/\jf n t u<=(bits t:Int)-bits u-n+1:=by
 unfold jf;simp only[]
 split<;>lia
structure OkN (n:Nat) (M:Int) (x:Int×Int):Prop where
 num:Num n x.1 x.2
 lo:-M<=x.2
 hi:x.2<=M
theorem OkN.neg{n:Nat}{M:Int}{x:Int×Int}(h:OkN n M x):OkN n M (xG x):=by
 obtain⟨⟨ho,hs⟩,h1,h2⟩:=h;exact⟨⟨by unfold xG;simp only[];lia,by unfold xG;simp only[];lia⟩,h1,h2⟩
theorem gcd_odd{w:Int}{n:Nat}(h:w%2=1):Int.gcd w (2^n)=1:=by
 have:Nat.Coprime w.natAbs (2^n):=Nat.Coprime.pow_right n (by
  have:w.natAbs%2=1:=by lia
  unfold Nat.Coprime
  rw[Nat.gcd_comm,Nat.gcd_rec,this];rfl)
 show Nat.gcd w.natAbs (2^n:Int).natAbs=1;rw[Int.natAbs_pow];exact this
theorem rq_of{a b:Int}(hb:0<b)(hg:Int.gcd a b=1):.tup [.int a,.int b]=rq (Rat.divInt a b):=by
 unfold rq;rw[Rat.num_divInt,Rat.den_divInt,if_neg (by lia),Int.sign_eq_one_of_pos hb,Int.one_mul,Int.gcd_comm,hg];simp;lia
theorem value_rq{n:Nat}{x:Int×Int}(h:Num n x.1 x.2):.tup [.int (if x.2<0 then x.1 else x.1*2^x.2.toNat),.int (if x.2<0 then 2^(-x.2).toNat else 1)]=rq (vr x):=by
 obtain⟨w,p⟩:=x;simp only[]at h ⊢;by_cases hp:p<0
 ·simp only[hp,if_true]
  have ho:w%2=1:=by rcases h.odd with z|z<;>lia
  rw[rq_of (two_pow_pos _) (gcd_odd ho)];congr 1;have hq:=two_pow_pos (-p).toNat
  have hQ:(0:Rat)<((2^(-p).toNat:Int):Rat):=by exact_mod_cast hq
  refine(yx hQ).mp ?_;rw[kl hq];have e:=tw_toNat p;rw[show p.toNat=0 by lia]at e;unfold vr;simp only[];rw[Rat.mul_assoc,Rat.mul_comm (tw p),e];simp
 ·simp only[hp,if_false];rw[rq_of (by decide) (by simp)];congr 1
  obtain⟨k,rfl⟩:∃k:Nat,p=k:=⟨p.toNat,by lia⟩
  unfold vr;simp only[];rw[tw_nat,Int.toNat_natCast,<- Rat.intCast_mul];have h:=kl (t:=w*2^k) (u:=1) (by decide);rw[<- h];have e1:((1:Int):Rat)=1:=rfl;rw[e1,Rat.mul_one]
theorem szr_vr{n:Nat}{M:Int}{x:Int×Int}(h:OkN n M x)(hn:n<=64):szr (66+M.toNat) (vr x):=by
 have e:=value_rq h.num;unfold rq at e;injection e with e;injection e with e1 e2;injection e1 with e1;injection e2 with e2 e3;injection e2 with e2;have bx:bits x.1<=n:=jg.mpr h.num.sz;have:=h.lo;have:=h.hi;unfold szr;rw[<- e1,<- e2];constructor
 ·split
  ·lia
  ·have:=j5 x.1 (2^x.2.toNat);rw[jz]at this;lia
 ·split
  ·rw[jz];lia
  ·have:bits 1=1:=by decide
   lia
theorem wp_near{n:Nat}{r:Rat}{Q:D->Prop}{E:XD->Prop}(h:szr 4400 r)(h1:8<=n)(h2:n<=64):xJ.wp [rq r,.int n] Q E ↔ Q (nq (jo n r)):=by
 unfold Ctr.wp xJ rq jo;simp only[Int.toNat_natCast];have:=zZ r;exact⟨fun w=>w.2.1 _ rfl,fun q=>⟨⟨zZ r,by lia,h.1,h.2⟩,fun d e=>by rw[e];exact q,fun x z=>z.elim⟩⟩
theorem wp_value{n:Nat}{M:Int}{x:Int×Int}{Q:D->Prop}{E:XD->Prop}(h:OkN n M x)(hn:n<=64)(hM:M<=1000000):xC.wp [nq x] Q E ↔ Q (rq (vr x)):=by
 have bx:bits x.1<=n:=jg.mpr h.num.sz;have:=h.lo;have:=h.hi;unfold Ctr.wp xC nq;simp only[];rw[value_rq h.num];exact⟨fun w=>w.2.1 _ rfl,fun q=>⟨⟨⟨by lia,by lia⟩,by lia⟩,fun d e=>by rw[e];exact q,fun x z=>z.elim⟩⟩
theorem Jc(x y:Int×Int):eqD (nq x) (nq y)=decide (x=y):=by
 obtain⟨a,b⟩:=x;obtain⟨c,d⟩:=y;unfold nq;rw[Bool.eq_iff_iff];simp[eqD,xr]
theorem zz(x:Int×Int):kt (nq x)=1:=by simp[nq,dep_tup,deps_c,deps_n,dep_int]
theorem wp_ratio{t u:Int}{Q:D->Prop}{E:XD->Prop}(h:u≠0)(hb:bits u<=9000):xE.wp [.int t,.int u] Q E ↔ Q (rq (Rat.divInt t u)):=by
 unfold Ctr.wp xE;simp only[];exact⟨fun w=>w.2.1 _ rfl,fun q=>⟨⟨h,hb⟩,fun d e=>by rw[e];exact q,fun x z=>z.elim⟩⟩
end Z
namespace Z
open PySem
noncomputable def Jz(x:Int×Int):Prop:=x.1%2=1\/(x.1=0/\x.2=0)
theorem Jz.num{x:Int×Int}(h:Jz x):∃n,1<=n/\∀m,n<=m->Num m x.1 x.2:=by
 refine⟨bits x.1+1,by lia,fun m hm=>⟨h,?_⟩⟩;exact jg.mp (by lia)
theorem odd_unique{x y:Int×Int}(hx:Jz x)(hy:Jz y)(e:vr x=vr y):x=y:=by
 obtain⟨n,n1,h1⟩:=hx.num;obtain⟨m,m1,h2⟩:=hy.num;have f1:=xV (n:=n+m) (by lia) (h1 _ (by lia));have f2:=xV (n:=n+m) (by lia) (h2 _ (by lia));rw[<- f1,<- f2,e]
theorem bareF_odd(w p:Int):Jz (jL w p):=by
 have b:=vJ w p;by_cases h:w=0
 ·exact .inr (b.nought h)
 ·obtain⟨v,_,_,ho⟩:=b.same h;exact .inl ho
theorem near_odd{n:Nat}{r:Rat}(hn:1<=n):Jz (jo n r):=by
 have pos:∀r:Rat,0<r->Jz (jo n r):=fun r h=>by
  obtain⟨W,p,_,e⟩:=xS hn h;rw[e];exact bareF_odd W p
 rcases xL 0 r with y|y
 ·exact pos r y
 ·by_cases h0:r=0
  ·subst h0;rw[kO];exact .inr ⟨rfl,rfl⟩
  ·have:=pos (-r) (by grind);rw[qW]at this;unfold xG Jz at this;unfold Jz;simp only[]at this;lia
theorem vY{n:Nat}{r:Rat}(hn:1<=n):Num n (jo n r).1 (jo n r).2:=by
 have pos:∀r:Rat,0<r->Num n (jo n r).1 (jo n r).2:=fun r h=>by
  obtain⟨W,p,k,e⟩:=xS hn h;rw[e];have:=two_pow_pos (n-1);exact bareF_num (by have:=k.bound;lia) k.bound.2 hn
 rcases xL 0 r with y|y
 ·exact pos r y
 ·by_cases h0:r=0
  ·subst h0;rw[kO];exact⟨.inr ⟨rfl,rfl⟩,Nat.two_pow_pos n⟩
  ·have:=pos (-r) (by grind);rw[qW]at this;obtain⟨ho,hs⟩:=this;unfold xG at ho hs;simp only[]at ho hs;exact⟨by lia,by lia⟩
theorem rabs_ge{a b:Rat}(h:a.abs<=b):-b<=a/\a<=b:=by
 unfold Rat.abs at h;split at h<;>constructor<;>grind
theorem yL(a:Rat):(-a).abs=a.abs:=by unfold Rat.abs;split<;>split<;>grind
theorem xZ{a:Rat}(h:0<=a):a.abs=a:=by unfold Rat.abs;rw[if_pos h]
theorem NearR.half{n:Nat}{r:Rat}{W p:Int}(c:NearR n r W p):2*(r-W*tw p).abs<=tw p:=by
 obtain⟨w,c,h⟩:=c.ex;have h1:=c.le;have h2:=c.lt;have tp:=j8 p;rcases h with⟨e,h⟩|⟨e,h⟩
 ·subst e;rw[xZ (by grind)]
  grind
 ·subst e
  have e1:((w+1:Int):Rat)=w+1:=by grind
  rw[<- yL,xZ (by rw[e1];grind),e1]
  grind
theorem KC{n:Nat}{x:Int×Int}(hn:1<=n)(h:Num n x.1 x.2)(h0:0<vr x):∃w p,CutR n (vr x) w p/\vr x=w*tw p:=by
 obtain⟨m,p⟩:=x
 have hm:0<m:=by
  rcases Int.lt_or_le 0 m with z|z
  ·exact z
  ·exfalso
   have:(m:Rat)<=0:=by exact_mod_cast z
   have:=jK this (j8 p);unfold vr at h0;simp only[]at h0
   grind
 obtain⟨ho,hs⟩:=h;simp only[]at hs;obtain⟨m1,m2⟩:=xx hm;have bm:=kX (show m≠0 by lia);have bn:bits m<=n:=jg.mpr hs
 obtain⟨k,hk⟩:∃k:Nat,bits m+k=n:=⟨n-bits m,by lia⟩
 have hkp:=two_pow_pos k
 have e:vr (m,p)=((m*2^k:Int):Rat)*tw (p-k):=by
  have h1:=kK (p-k) k;rw[show p-(k:Int)+k=p by lia]at h1;unfold vr;simp only[];rw[h1,Rat.intCast_mul];grind
 have tp:=j8 (p-k);refine⟨m*2^k,p-k,⟨?_,?_,by rw[e];exact Rat.le_refl,by rw[e];grind⟩,e⟩
 ·rw[show n-1=(bits m-1)+k by lia,Int.pow_add];exact Int.mul_le_mul_of_nonneg_right m1 (by lia)
 ·rw[<- hk,Int.pow_add];exact Int.mul_lt_mul_of_pos_right m2 hkp
theorem nearest{n:Nat}{r:Rat}{z:Int×Int}(hn:1<=n)(hz:Num n z.1 z.2):(r-vr (jo n r)).abs<=(r-vr z).abs:=by
 have pos:∀(r:Rat) (z:Int×Int),0<r->Num n z.1 z.2->(r-vr (jo n r)).abs<=(r-vr z).abs:=by
  intro r z h hz;obtain⟨W,p,k,e⟩:=xS hn h;rw[e,zQ];have hh:=k.half;obtain⟨w,c,kk⟩:=k.ex;have tp:=j8 p;have c1:=c.le;have c2:=c.lt
  have key:vr z<=w*tw p\/(w+1)*tw p<=vr z\/vr z=r:=by
   rcases xL 0 (vr z) with z0|z0
   ·obtain⟨w',p',c',e'⟩:=KC hn hz z0;rcases xL (vr z) r with y|y
    ·left;rcases c'.mono hn c (by grind) with q|⟨rfl,q⟩
     ·rw[e'];have l1:=jK (ku (show w'<=2^n by have:=c'.hi;lia)) (j8 p');have l2:=jK (ku c.lo) tp;have l3:tw (p'+1)<=tw p:=tw_le (by lia);rw[zg]at l3
      have e2:((2^n:Int):Rat)=2*((2^(n-1):Int):Rat):=by rw[pow_n hn];grind
      have hq:(0:Rat)<((2^(n-1):Int):Rat):=by have:=two_pow_pos (n-1);exact_mod_cast this
      have l4:=jK l3 hq;rw[e2]at l1;generalize ((2^(n-1):Int):Rat)=m at *;generalize tw p=a at *;generalize tw p'=b at *
      grind
     ·rw[e'];exact jK (ku q) tp
    ·right;rcases c.mono hn c' y with q|⟨rfl,q⟩
     ·left;rw[e'];have l1:=jK (ku (show w+1<=2^n by have:=c.hi;lia)) tp;have l2:=jK (ku c'.lo) (j8 p');have l3:tw (p+1)<=tw p':=tw_le (by lia);rw[zg]at l3
      have e2:((2^n:Int):Rat)=2*((2^(n-1):Int):Rat):=by rw[pow_n hn];grind
      have hq:(0:Rat)<((2^(n-1):Int):Rat):=by have:=two_pow_pos (n-1);exact_mod_cast this
      have l4:=jK l3 hq;rw[e2]at l1
      have e3:((w+1:Int):Rat)=w+1:=by grind
      rw[e3]at l1;generalize ((2^(n-1):Int):Rat)=m at *;generalize tw p=a at *;generalize tw p'=b at *
      grind
     ·rcases Int.lt_or_eq_of_le q with q|q
      ·left;rw[e'];have:=jK (ku (show w+1<=w' by lia)) tp
       have e3:((w+1:Int):Rat)=w+1:=by grind
       rw[e3]at this;exact this
      ·right;subst q
       grind
   ·left
    have:(0:Rat)<w:=by
     have:=c.lo;have:=two_pow_pos (n-1)
     exact_mod_cast (show 0<w by lia)
    have:=vK this tp
    grind
  have e3:((w+1:Int):Rat)=w+1:=by grind
  rcases key with q|q|q
  ·have a1:r-w*tw p<=(r-vr z).abs:=by rw[xZ (by grind)];grind
   rcases kk with⟨rfl,kk⟩|⟨rfl,kk⟩
   ·rw[xZ (by grind)];exact a1
   ·rw[e3]at hh ⊢;grind
  ·have a1:(w+1)*tw p-r<=(r-vr z).abs:=by rw[<- yL,xZ (by grind)];grind
   rcases kk with⟨rfl,kk⟩|⟨rfl,kk⟩
   ·grind
   ·rw[e3,<- yL,xZ (by grind)];grind
  ·rcases kk with⟨rfl,kk⟩|⟨rfl,kk⟩
   all_goals skip
   ·have:vr (jo n (vr z))=vr z:=by rw[xV hn hz]
    rw[q,e,zQ]at this;rw[this,q];exact Rat.le_refl
   ·have:vr (jo n (vr z))=vr z:=by rw[xV hn hz]
    rw[q,e,zQ]at this;rw[this,q];exact Rat.le_refl
 rcases xL 0 r with y|y
 ·exact pos r z y hz
 ·by_cases h0:r=0
  ·subst h0;rw[kO]
   have:vr (0,0)=0:=by simp[vr]
   rw[this];unfold Rat.abs;grind
  ·have hz':Num n (xG z).1 (xG z).2:=by
    obtain⟨ho,hs⟩:=hz;exact⟨by unfold xG;simp only[];lia,by unfold xG;simp only[];lia⟩
   have:=pos (-r) (xG z) (by grind) hz';rw[qW,vr_neg,vr_neg,show -r - -vr (jo n r)=-(r-vr (jo n r)) by grind,show -r - -vr z=-(r-vr z) by grind,yL,yL]at this;exact this
theorem Ko{k:Int}{m:Int}{d:Nat}:((k*2^d:Int):Rat)*tw m=k*tw (m+d):=by
 rw[kK,Rat.intCast_mul];grind
end Z
namespace Z
open PySem
noncomputable def qK(i_law_whole:Nat):Sm :=
 (.seq (.ite (.or (.not (.isi (.var 0) .tuple)) (.or (.cmp .ne (.bi .len [(.var 0)]) (.cst (.int 2))) (.or (.not (.call i_law_whole [(.ix (.var 0) (.cst (.int 0)))])) (.not (.call i_law_whole [(.ix (.var 0) (.cst (.int 1)))]))))) (.seq (.ret (.cst (.bl false)))
  .nop) .nop)
 (.seq (.ite (.cmp .eq (.ix (.var 0) (.cst (.int 0))) (.cst (.int 0))) (.seq (.ret (.cmp .eq (.ix (.var 0) (.cst (.int 1))) (.cst (.int 0))))
  .nop) .nop)
 (.seq (.ret (.and (.cmp .eq (.bin .mod (.ix (.var 0) (.cst (.int 0))) (.cst (.int 2))) (.cst (.int 1))) (.cmp .lt (.bi .abs [(.ix (.var 0) (.cst (.int 0)))]) (.bin .shl (.cst (.int 1)) (.var 1)))))
 .nop)))
end Z
set_option exponentiation.threshold 3000
namespace Z
open PySem
theorem xh{x y:Int×Int}(h:nq x=nq y):x=y:=by
 obtain⟨a,b⟩:=x;obtain⟨c,d⟩:=y;simp only[nq,D.tup.injEq,List.cons.injEq,D.int.injEq,and_true]at h;rw[h.1,h.2]
theorem kP(x:Int×Int){Q:D->Prop}:ixD (nq x) (.int 0) Q=Q (.int x.1):=by
 unfold nq;rw[ix_tup];simp[atD_0]
theorem xO(x:Int×Int){Q:D->Prop}:ixD (nq x) (.int 1) Q=Q (.int x.2):=by
 unfold nq;rw[ix_tup];simp[atD_1]
theorem zY(a b:Int):D.tup [.int a,.int b]=nq (a,b):=rfl
section
variable {x y:Int×Int} {n:Int} {d:D} {Q:D->Prop} {E:XD->Prop}
end
noncomputable def wOk(n:Int):Prop:=8<=n/\n<=64
noncomputable def mulOkP(x y:Int×Int)(n:Int):Prop:=wOk n/\((-20000<=x.2/\x.2<=20000)/\(-20000<=y.2/\y.2<=20000))/\bits x.1<=2200/\bits y.1<=2200
theorem mulOkP.bits{x y:Int×Int}{n:Int}(h:mulOkP x y n):bits (x.1*y.1)<=4400:=by
 have:=j5 x.1 y.1;have:=h.2.2;lia
end Z
set_option exponentiation.threshold 3000
namespace Z
open PySem
noncomputable def zK(i_law_bare:Nat):Sm :=
 (.seq (.set 3 (.bi .abs [(.var 0)]))
 (.seq (.ite (.cmp .eq (.var 3) (.cst (.int 0))) (.seq (.ret (.tup [(.cst (.int 0)),(.cst (.int 0))]))
  .nop) .nop)
 (.seq (.set 4 (.bin .sub (.bin .sub (.bin .sub (.meth .bitlen (.var 3)) (.meth .bitlen (.var 1))) (.var 2)) (.cst (.int 1))))
 (.seq (.whl (.cmp .ge (.bin .shl (.var 3) (.bi .max [(.cst (.int 0)),(.bin .sub (.cst (.int 0)) (.var 4))])) (.bin .shl (.var 1) (.bin .add (.bi .max [(.cst (.int 0)),(.var 4)]) (.var 2)))) (.seq (.set 4 (.bin .add (.var 4) (.cst (.int 1))))
  .nop))
 (.seq (.set 5 (.bin .shl (.var 1) (.bi .max [(.cst (.int 0)),(.var 4)])))
 (.seq (.set 6 (.bin .fdiv (.bin .shl (.var 3) (.bi .max [(.cst (.int 0)),(.bin .sub (.cst (.int 0)) (.var 4))])) (.var 5)))
 (.seq (.set 7 (.bin .sub (.bin .shl (.var 3) (.bi .max [(.cst (.int 0)),(.bin .sub (.cst (.int 0)) (.var 4))])) (.bin .mul (.var 6) (.var 5))))
 (.seq (.ite (.or (.cmp .gt (.bin .mul (.cst (.int 2)) (.var 7)) (.var 5)) (.and (.cmp .eq (.bin .mul (.cst (.int 2)) (.var 7)) (.var 5)) (.cmp .eq (.bin .mod (.var 6) (.cst (.int 2))) (.cst (.int 1))))) (.seq (.set 6 (.bin .add (.var 6) (.cst (.int 1))))
  .nop) .nop)
 (.seq (.ite (.cmp .lt (.var 0) (.cst (.int 0))) (.seq (.set 6 (.bin .sub (.cst (.int 0)) (.var 6)))
  .nop) .nop)
 (.seq (.ret (.call i_law_bare [(.var 6),(.var 4)]))
 .nop))))))))))
theorem vZ{n:Nat}{t u:Int}(hn:1<=n)(ht:0<t)(hu:0<u):∀(k:Nat),2^n*Vc u (jf n t u-1-k)<=Sc t (jf n t u-1-k)
 |0=>by
  have c:=uq hn ht hu;have h1:=c.le;have h2:=c.lo;have hV:=xc (p:=jf n t u) hu;have st:=vt t u (jf n t u-1);rw[show jf n t u-1+1=jf n t u by lia]at st;rw[show jf n t u-1-((0:Nat):Int)=jf n t u-1 by lia];change qL n t u*Vc u (jf n t u)<=Sc t (jf n t u) at h1;change 2^(n-1)<=qL n t u at h2;have k1:2^(n-1)*Vc u (jf n t u)<=Sc t (jf n t u):=Int.le_trans (Int.mul_le_mul_of_nonneg_right h2 (Int.le_of_lt hV)) h1;rw[pow_n hn];generalize (2:Int)^(n-1)=m at *;rcases st with⟨e1,e2⟩|⟨e1,e2⟩
  ·rw[<- e1];rw[e2]at k1;grind
  ·rw[e1,<- e2];grind
 |k+1=>by
  have ih:=vZ hn ht hu k;have st:=vt t u (jf n t u-1-((k+1:Nat):Int));rw[show jf n t u-1-((k+1:Nat):Int)+1=jf n t u-1-(k:Int) by lia]at st;have hV:=xc (p:=jf n t u-1-((k+1:Nat):Int)) hu;have hp:=two_pow_pos n;have hm:=Int.mul_pos hp hV;generalize jf n t u-1-((k+1:Nat):Int)=q at *;rcases st with⟨e1,e2⟩|⟨e1,e2⟩
  ·rw[<- e1];rw[e2]at ih;grind
  ·rw[e1,<- e2];have:0<2^n*Vc u (jf n t u-1 - ↑k):=Int.mul_pos hp (xc hu);lia
noncomputable def yk:Ctr where
 pre ds:=match ds with|[.int t,.int u,.int n]=>0<u/\(8<=n/\n<=64)/\bits t<=8000/\bits u<=8000|_=>False
 res ds d:=match ds with|[.int t,.int u,.int n]=>d=nq (jo n.toNat (Rat.divInt t u))|_=>False
theorem k_near0{C:Cfg}{i:Nat}(h1:C.ct i=uV):jC C 8 (zK i) yk:=by
 rintro ds h;simp only[yk]at h;split at h
 case h_2=>exact h.elim
 next t u n =>
 obtain⟨hu,⟨n1,n2⟩,bt,bu⟩:=h
 obtain⟨n,rfl⟩:∃m:Nat,n=m:=⟨n.toNat,by lia⟩
 simp_arith! only[zK,yk,x6]
 refine jO (fun σ=>t≠0/\σ=[some (.sh (.int t)),some (.sh (.int u)),some (.sh (.int n)),some (.sh (.int t.natAbs)),none,none,none,none]) ?_ ?_
 ·simp_all_arith! only[]
  by_cases h0:t=0
  ·rw[if_pos (by lia),h0,Rat.zero_divInt,kO];rfl
  ·rw[if_neg (by lia)]
   first|exact⟨h0,rfl⟩|exact h0
 rintro σ ⟨h0,rfl⟩
 have ht:(0:Int)<t.natAbs:=by lia
 have hn:1<=n:=by lia
 have bs:bits (t.natAbs:Int)=bits t:=zN t;generalize hz:((t.natAbs:Nat):Int)=z at *
 simp_arith! only[]
 have cs:=uq hn ht hu;have g1:(bits z:Int)-bits u-n<=jf n z u/\jf n z u<=(bits z:Int)-bits u-n+1:=cutPow_far n z u
 have mx:∀q:Int,(if 0-q > 0 then 0-q else 0).toNat=(-q).toNat:=fun q=>by split<;>lia
 have mx2:∀q:Int,(if q > 0 then q else 0).toNat=q.toNat:=fun q=>by split<;>lia
 have mx3:∀q:Int,((if q > 0 then q else 0)+(n:Int)).toNat=q.toNat+n:=fun q=>by split<;>lia
 have s1:∀q:Int,-20000<=q->q<=20000->ShlOk z (if 0-q > 0 then 0-q else 0):=fun q _ _=>⟨by split<;>lia,by split<;>lia⟩
 have s2:∀q:Int,-20000<=q->q<=20000->ShlOk u (if q > 0 then q else 0):=fun q _ _=>⟨by split<;>lia,by split<;>lia⟩
 have s3:∀q:Int,-20000<=q->q<=20000->ShlOk u ((if q > 0 then q else 0)+(n:Int)):=fun q _ _=>⟨by split<;>lia,by split<;>lia⟩
 refine jO (fun σ=>σ=[some (.sh (.int t)),some (.sh (.int u)),some (.sh (.int n)),some (.sh (.int z)),some (.sh (.int (jf n z u))),none,none,none]) ?_ ?_
 ·refine qJ (fun σ=>∃p:Int,(p<=jf n z u /\ -10000<=p)/\σ=[some (.sh (.int t)),some (.sh (.int u)),some (.sh (.int n)),some (.sh (.int z)),some (.sh (.int p)),none,none,none]) (fun σ=>(jf n z u-xu σ 4).toNat) ⟨_,⟨by lia,by lia⟩,rfl⟩ ?_;rintro σ ⟨p,⟨p1,p2⟩,rfl⟩
  simp_all_arith! only[xu,mx,mx3]
  refine⟨s1 p (by lia) (by lia),s3 p (by lia) (by lia),?_⟩
  have ev:u*2^(p.toNat+n)=2^n*Vc u p:=by unfold Vc;rw[Int.pow_add];grind
  rw[ev]
  change if 2^n*Vc u p<=Sc z p then _ else _
  rcases Int.lt_or_eq_of_le p1 with q|q
  ·obtain⟨k,hk⟩:∃k:Nat,p=jf n z u-1-k:=⟨(jf n z u-1-p).toNat,by lia⟩
   rw[if_pos (by rw[hk];exact vZ hn ht hu k)];exact⟨by lia,p+1,⟨by lia,by lia⟩,rfl⟩
  ·subst q;have l1:=cs.lt;have l2:=cs.hi;have hV:=xc (p:=jf n z u) hu;have:(qL n z u+1)*Vc u (jf n z u)<=2^n*Vc u (jf n z u):=Int.mul_le_mul_of_nonneg_right (by lia) (Int.le_of_lt hV);rw[if_neg (by change Sc z (jf n z u)<(qL n z u+1)*Vc u (jf n z u) at l1;lia)]
 rintro σ rfl;generalize hc:jf n z u=p at *;have hV:0<Vc u p:=xc hu
 have bV:bits (Vc u p)<=9000:=by
  unfold Vc;have:=j5 u (2^p.toNat);rw[jz]at this;have:=kX (show z≠0 by lia);lia
 simp_arith! only[mx,mx2]
 have e1:u*2^p.toNat=Vc u p:=rfl;have e2:z*2^(-p).toNat=Sc z p:=rfl;rw[e1,e2,jr (Int.le_of_lt hV)]
 have ew:Sc z p / Vc u p=qL n z u:=by unfold qL;rw[hc]
 have bS:bits (Sc z p)<=40000:=by
  unfold Sc;have:=j5 z (2^(-p).toNat);rw[jz]at this;lia
 have bw:bits (Sc z p / Vc u p)<=40000:=Nat.le_trans (JP hV) bS;refine⟨s2 p (by lia) (by lia),s1 p (by lia) (by lia),⟨by lia,bV⟩,s1 p (by lia) (by lia),jJ (by lia),?_⟩;rw[ew]at *
 have er:Sc z p-qL n z u*Vc u p=qR n z u:=by unfold qR;rw[hc]
 rw[er];generalize hw:qL n z u=w at *;generalize hr:qR n z u=r at *;refine jO (fun σ=>σ=[some (.sh (.int t)),some (.sh (.int u)),some (.sh (.int n)),some (.sh (.int z)),some (.sh (.int p)),some (.sh (.int (Vc u p))),some (.sh (.int (kA n z u))),some (.sh (.int r))]) ?_ ?_
 ·simp_all_arith! only[]
  have en:kA n z u=if 2*r > Vc u p\/(2*r=Vc u p/\w%2=1) then w+1 else w:=by unfold kA;rw[hr,hc,hw]
  refine⟨.inl (by decide),?_⟩;by_cases c1:Vc u p<2*r
  ·rw[if_pos c1];rw[en,if_pos (.inl c1)]
  ·rw[if_neg c1];refine⟨.inl (by decide),?_⟩;by_cases c2:2*r=Vc u p
   ·rw[if_pos c2];rw[ji (by decide)];by_cases c3:w%2=1
    ·rw[if_pos c3,en,if_pos (.inr ⟨c2,c3⟩)]
    ·rw[if_neg c3,en,if_neg (by lia)]
   ·rw[if_neg c2];rw[en,if_neg (by lia)]
 rintro σ rfl;refine jO (fun σ=>σ=[some (.sh (.int t)),some (.sh (.int u)),some (.sh (.int n)),some (.sh (.int z)),some (.sh (.int p)),some (.sh (.int (Vc u p))),some (.sh (.int (if t<0 then -kA n z u else kA n z u))),some (.sh (.int r))]) ?_ ?_
 ·simp_all_arith! only[]
  by_cases c1:t<0
  ·rw[if_pos c1,if_pos c1,Int.zero_sub]
  ·rw[if_neg c1,if_neg c1]
 rintro σ rfl
 have bn:bits (if t<0 then -kA n z u else kA n z u)<=9000:=by
  have b1:kA n z u<=w+1/\w<=kA n z u:=by unfold kA;rw[hr,hc,hw];split<;>lia
  have b2:=cs.hi;have b3:=cs.lo;have b4:=two_pow_pos (n-1)
  have b5:bits (kA n z u)<=n+1:=by
   refine jg.mpr ?_
   have:(2:Int)^(n+1)=2*2^n:=by rw[Int.pow_succ];lia
   have e:((2^(n+1):Nat):Int)=2^(n+1):=by simp
   lia
  split
  ·rw[zV];lia
  ·lia
 simp_all_arith! only[h1,uV]
 refine⟨bn,?_⟩;rintro d ⟨w',p',rfl,hb⟩;have:=hb.eq;rw[zY,this];rw[Int.toNat_natCast,<- nearF_q hn hu];unfold qF;rw[if_neg h0];by_cases c1:t<0
 ·have ez:z=-t:=by lia
  rw[if_pos c1,if_pos c1,<- ez,hc]
 ·have ez:z=t:=by lia
  rw[if_neg c1,if_neg c1,<- ez,hc]
end Z
set_option exponentiation.threshold 3000
namespace Z
open PySem
theorem kB{C:Cfg}{c:Ex}{a b:Sm}{K:DE}{σ:Sto}(hc:wpE C c σ fun d=>d=.bl false)(h:wpS C b K σ):wpS C (.seq (.ite c a .nop) b) K σ:=by
 rw[jp,kZ];refine ja c (fun d e=>?_) hc;subst e;rw[uF,if_neg (by decide),ws_nop];exact h
section
variable {Q:D->Prop} {E:XD->Prop}
noncomputable def xz:Ctr where
 pre ds:=∃(x:Int×Int) (n:Nat),ds=[nq x,.int n]/\Num n x.1 x.2/\8<=n/\n<=64
 res _ d:=d=.bl true
theorem JY{n:Nat}{x:Int×Int}(h:Num n x.1 x.2)(h1:8<=n)(h2:n<=64):xz.wp [nq x,.int n] Q E ↔ Q (.bl true) :=
 ⟨fun w=>w.2.1 _ rfl,fun q=>⟨⟨x,n,rfl,h,h1,h2⟩,fun d e=>by rw[e];exact q,fun _ z=>z.elim⟩⟩
theorem k_isnum{C:Cfg}{i:Nat}(hw:C.ct i=kJ):jC C 2 (qK i) xz:=by
 rintro ds ⟨x,n,rfl,⟨ho,hs⟩,h1,h2⟩
 have sh:ShlOk 1 n:=⟨by lia,by have:bits 1=1:=by decide
                               lia⟩
 obtain⟨w,p⟩:=x;simp only[]at ho hs
 simp_all_arith! only[qK,nq,hw,kJ,isInt,shl_one,x6,xz]
 by_cases h0:w=0
 ·have e:p=0:=by lia
  rw[if_pos h0,e];rfl
 ·rw[if_neg h0,ji (by decide),if_pos (by lia)];refine⟨sh,?_⟩;rw[decide_eq_true]
  exact_mod_cast hs
theorem wp_near0{t u:Int}{n:Nat}(hu:0<u)(h1:8<=n)(h2:n<=64)(bt:bits t<=8000)(bu:bits u<=8000):yk.wp [.int t,.int u,.int n] Q E ↔ Q (nq (jo n (Rat.divInt t u))):=by
 unfold Ctr.wp yk;simp only[Int.toNat_natCast];exact⟨fun w=>w.2.1 _ rfl,fun q=>⟨⟨hu,by lia,bt,bu⟩,fun d e=>by rw[e];exact q,fun _ z=>z.elim⟩⟩
end
theorem bits_shl{w:Int}{k:Nat}:bits (w*2^k)<=bits w+k:=by
 by_cases h:w=0
 ·subst h
  have:bits 0=0:=by decide
  rw[Int.zero_mul];lia
 ·rw[jg,Int.natAbs_mul,Int.natAbs_pow,Nat.pow_add];exact Nat.mul_lt_mul_of_pos_right (jg.mp (Nat.le_refl _)) (Nat.two_pow_pos k)
theorem OkN.bits{n:Nat}{M:Int}{x:Int×Int}(h:OkN n M x):bits x.1<=n:=jg.mpr h.num.sz
section
variable {Q:D->Prop} {E:XD->Prop}
theorem wp_width{ns:List Int}{k:Int}(hl:ns.length<=63)(hk:0<=k):yZ.wp [.lst (ns.map .int),.int k] Q E ↔ ∀n:Nat,8<=n->n<=64->Q (.int n):=by
 unfold Ctr.wp yZ;constructor
 ·intro w n h1 h2;exact w.2.1 _ ⟨n,rfl,by lia,by lia⟩
 ·intro q;refine⟨⟨ns,k,rfl,hl,hk⟩,?_,fun _ z=>z.elim⟩;rintro d ⟨i,rfl,h1,h2⟩
  obtain⟨n,rfl⟩:∃m:Nat,i=m:=⟨i.toNat,by lia⟩
  exact q n (by lia) (by lia)
theorem wp_cell{ns:List Int}{k:Int}(hl:ns.length<=63)(hk:0<=k):yO.wp [.lst (ns.map .int),.int k] Q E ↔ ∀c:Int,Q (.int c):=by
 unfold Ctr.wp yO;constructor
 ·intro w c;exact w.2.1 _ ⟨c,rfl⟩
 ·intro q;refine⟨⟨ns,k,rfl,hl,hk⟩,?_,fun _ z=>z.elim⟩;rintro d ⟨c,rfl⟩;exact q c
theorem uf{c k:Int}:qh.wp [.int c,.int k] Q E ↔ ∀m:Int,0<=m->m<340282366920938463463374607431768211297->Q (.int m):=by
 unfold Ctr.wp qh;simp only[];constructor
 ·intro w m h1 h2;exact w.2.1 _ ⟨m,rfl,h1,h2⟩
 ·intro q;refine⟨trivial,?_,fun _ z=>z.elim⟩;rintro d ⟨m,rfl,h1,h2⟩;exact q m h1 h2
end
end Z
set_option exponentiation.threshold 3000
namespace Z
open PySem
end Z
namespace Z
open PySem PySem.NumText
noncomputable def sx(l:List Nat):Str:=⟨l.toArray⟩
noncomputable def tx(l:List Nat):D:=.str (sx l)
theorem ki(l:List Nat):(sx l).length=l.length:=by simp[sx,Str.length]
theorem kx(l:List Nat):(sx l).cps.toList=l:=by simp[sx]
theorem sx_app(l m:List Nat):sx l++sx m=sx (l++m):=by
 show (⟨l.toArray++m.toArray⟩:Str)=⟨(l++m).toArray⟩;simp
theorem sx_inj{l m:List Nat}(h:sx l=sx m):l=m:=by
 have:=congrArg (fun x:Str=>x.cps.toList) h;simpa[sx]using this
theorem zj(l m:List Nat):eqD (tx l) (tx m)=decide (l=m):=by
 show (sx l == sx m)=_;by_cases h:l=m
 ·subst h;simp
 ·rw[decide_eq_false h]
  exact beq_eq_false_iff_ne.mpr fun e=>h (sx_inj e)
section
variable {Q:D->Prop} {l m:List Nat}
theorem qH:xt .add (tx l) (tx m) Q ↔ l.length+m.length<=lim/\Q (tx (l++m)):=by
 show (sx l).length+(sx m).length<=lim/\Q (.str (sx l++sx m)) ↔ _;rw[ki,ki,sx_app];rfl
theorem yu:biD .len [tx l] Q ↔ l.length<=lim/\Q (.int l.length):=by
 show (sx l).length<=lim/\Q (.int (sx l).length) ↔ _;rw[ki]
theorem tx_ix{i:Int}:ixD (tx l) (.int i) Q ↔ ∃c,(l.length<=lim/\0<=i/\l[i.toNat]?=some c)/\Q (tx [c]):=by
 show (∃c,((sx l).length<=lim/\0<=i/\(sx l).cps[i.toNat]?=some c)/\Q (.str ⟨#[c]⟩)) ↔ _;rw[ki]
 have e:(sx l).cps[i.toNat]?=l[i.toNat]?:=by simp[sx]
 rw[e];rfl
theorem JU{i:Int}{c:Nat}(h0:0<=i)(hl:l.length<=lim)(h:l[i.toNat]?=some c):ixD (tx l) (.int i) Q ↔ Q (tx [c]):=by
 rw[tx_ix];constructor
 ·rintro⟨d,⟨_,_,e⟩,q⟩;rw[h]at e;cases e;exact q
 ·intro q;exact⟨c,⟨hl,h0,h⟩,q⟩
theorem tx_in{c:Nat}:kT .inn (tx [c]) (tx l) Q ↔ Q (.bl (decide (c∈l))):=by
 show Q (.bl ((!(Builtin.Str.occurrences (sx l) ⟨#[c]⟩ 0 (sx l).length 1).isEmpty) == true)) ↔ _;rw[PySem.StrLaws.found_one,kx];simp
theorem seen_digits{l:List Nat}(h:AllDigits l):PySem.numSeenOf (sx l)=l:=by
 have h1:(sx l).cps.all (· < 128)=true:=by
  rw[Array.all_eq_true_iff_forall_mem];intro c hc;have:=h c (by simpa[sx]using hc);exact decide_eq_true (by lia)
 have h2:PySem.numTextOf (sx l)=l:=by
  show (if (sx l).cps.all (· < 128) then (sx l).cps.toList else _)=l;rw[if_pos h1,kx]
 show (PySem.numTextOf (sx l)).takeWhile (· != 0)=l;rw[h2];clear h1 h2
 induction l with
 |nil=>rfl
 |cons c l ih =>
  have:=h.head;rw[List.takeWhile_cons,if_pos (bne_iff_ne.mpr (by lia)),ih h.tail]
theorem Jt(h:AllDigits l)(h1:l ≠ [])(h2:l.length<=4300):biD .int [tx l] Q ↔ Q (.int (digitsVal l:Nat)):=by
 have e:=intText_digits (x:=sx l) (by rw[kx];exact h) (by rw[kx];exact h1) (by rw[ki];lia);rw[kx]at e;show (∃v,(((sx l).length<=640\/(640<(PySem.numSeenOf (sx l)).length/\(sx l).length<=lim))/\PySem.intText? (sx l)=some v)/\Q (.int v)) ↔ _;rw[e]
 have hl:(sx l).length<=640\/(640<(PySem.numSeenOf (sx l)).length/\(sx l).length<=lim):=by
  rw[seen_digits h,ki];unfold lim;lia
 exact⟨fun⟨v,⟨_,e⟩,q⟩=>by cases e;exact q,fun q=>⟨_,⟨hl,rfl⟩,q⟩⟩
theorem tx_intn(h:AllDigits l)(h1:l ≠ [])(h2:l.length<640):biD .int [tx (45::l)] Q ↔ Q (.int (-((digitsVal l:Nat):Int))):=by
 have e:=intText_neg (x:=sx (45::l)) (by rw[kx]) h h1 (by rw[ki];simp;lia);show (∃v,(((sx (45::l)).length<=640\/_)/\PySem.intText? (sx (45::l))=some v)/\Q (.int v)) ↔ _;rw[e,ki];exact⟨fun⟨v,⟨_,e⟩,q⟩=>by cases e;exact q,fun q=>⟨_,⟨.inl (by simp;lia),rfl⟩,q⟩⟩
theorem KY{k:Int}:xt .mul (tx l) (.int k) Q ↔ ue l.length k/\Q (tx (List.replicate k.toNat l).flatten):=by
 show ue (sx l).length k/\Q (.str ⟨(List.replicate k.toNat (sx l).cps.toList).flatten.toArray⟩) ↔ _;rw[ki,kx];rfl
theorem uY{lo hi:Option Int}:slD (tx l) lo hi Q ↔ l.length<=lim/\Q (tx ((l.drop (sIx l.length 0 lo)).take (sIx l.length l.length hi-sIx l.length 0 lo))):=by
 show (sx l).length<=lim/\Q (.str (Kr (sx l) lo hi)) ↔ _;unfold Kr;rw[ki,kx];rfl
end
end Z
namespace Z
open PySem PySem.NumText
noncomputable def xN:Sm :=
 (.seq (.ret (.ife (.cmp .eq (.slc (.var 0) (.var 1) (.bin .add (.var 1) (.cst (.int 1)))) (.var 2)) (.bin .add (.var 1) (.cst (.int 1))) (.var 1)))
 .nop)
noncomputable def qt(c_FIGURES:Nat):Sm :=
 (.seq (.set 3 (.var 1))
 (.seq (.whl (.and (.cmp .lt (.var 3) (.bi .len [(.var 0)])) (.and (.cmp .lt (.bin .sub (.var 3) (.var 1)) (.var 2)) (.cmp .inn (.ix (.var 0) (.var 3)) (.con c_FIGURES)))) (.seq (.set 3 (.bin .add (.var 3) (.cst (.int 1))))
  .nop))
 (.seq (.ret (.var 3))
 .nop)))
noncomputable def FIG:List Nat:=[48,49,50,51,52,53,54,55,56,57]
noncomputable def dig(c:Nat):Bool:=decide (48<=c/\c<=57)
theorem in_fig(c:Nat):decide (c∈FIG)=dig c:=by
 unfold dig FIG;refine decide_eq_decide.mpr ?_;simp only[List.mem_cons,List.not_mem_nil,or_false];omega
noncomputable def nF:List Nat->Nat->Nat
 |[],_=>0
 |_,0=>0
 |c::l,m+1=>if dig c then nF l m+1 else 0
theorem nF_le:∀(l:List Nat) (m:Nat),nF l m<=l.length/\nF l m<=m
 |[],m=>by simp[nF]
 |_::_,0=>by simp[nF]
 |c::l,m+1=>by
  have:=nF_le l m;unfold nF
  split<;>simp<;>lia
theorem nF_all:∀(p r:List Nat) (m:Nat),AllDigits p->p.length<=m->(p.length=m\/∀c,r.head?=some c->dig c=false)->nF (p++r) m=p.length
 |[],r,m,_,_,h=>by
  cases r with
  |nil=>cases m<;>rfl
  |cons c r =>
   cases m with
   |zero=>rfl
   |succ m =>
    rcases h with h|h
    ·simp at h
    ·simp[nF,h c rfl]
 |d::p,r,m,hp,hl,h=>by
  cases m with
  |zero=>simp at hl
  |succ m =>
   have hd:dig d=true:=by have:=hp.head;unfold dig;exact decide_eq_true this
   simp only[List.cons_append,nF,hd,if_true,List.length_cons];rw[nF_all p r m hp.tail (by simpa using hl) (by simpa using h)]
noncomputable def jQ:Ctr where
 pre ds:=∃(l:List Nat) (a c:Nat),ds=[tx l,.int a,tx [c]]/\a<=l.length/\l.length<=2000
 res ds d:=∀(l:List Nat) (a c:Nat),ds=[tx l,.int a,tx [c]]->d=.int (if l[a]?=some c then a+1 else a)
theorem kj{l m:List Nat}(h:tx l=tx m):l=m:=by
 unfold tx at h;injection h with h;exact sx_inj h
theorem xl{l:List Nat}{a c:Nat}{Q:D->Prop}{E:XD->Prop}(h:a<=l.length)(h2:l.length<=2000):jQ.wp [tx l,.int a,tx [c]] Q E ↔ Q (.int (if l[a]?=some c then a+1 else a)):=by
 constructor
 ·intro w
  refine w.2.1 _ fun l' a' c' e=>?_
  simp only[List.cons.injEq,and_true,D.int.injEq]at e;obtain⟨e1,e2,e3⟩:=e;cases kj e1;have:=kj e3;simp only[List.cons.injEq,and_true]at this;subst this
  have:a=a':=by lia
  rw[this]
 ·intro q;refine⟨⟨l,a,c,rfl,h,h2⟩,fun d e=>?_,fun _ z=>z.elim⟩;rw[e l a c rfl];exact q
theorem kW{n d a:Nat}(h:a<=n):sIx n d (some (a:Int))=a:=by
 show (if (a:Int)<0 then ((a:Int)+(n:Int)).toNat else min (a:Int).toNat n)=_;rw[if_neg (by lia)];lia
theorem sIx_up{n d a:Nat}(h:n<=a):sIx n d (some (a:Int))=n:=by
 show (if (a:Int)<0 then ((a:Int)+(n:Int)).toNat else min (a:Int).toNat n)=_;rw[if_neg (by lia)];lia
theorem tx_one{l:List Nat}{a:Nat}{Q:D->Prop}(h:a<=l.length)(h2:l.length<=2000):slD (tx l) (some (a:Int)) (some ((a:Int)+1)) Q ↔ Q (tx ((l.drop a).take 1)):=by
 rw[uY,kW h]
 have e:sIx l.length l.length (some ((a:Int)+1))=min (a+1) l.length:=by
  have:((a:Int)+1)=((a+1:Nat):Int):=by lia
  rw[this];rcases Nat.lt_or_ge (a+1) l.length with z|z
  ·rw[kW (by lia)];lia
  ·rw[sIx_up z];lia
 rw[e]
 have:(l.drop a).take (min (a+1) l.length-a)=(l.drop a).take 1:=by
  rcases Nat.lt_or_ge a l.length with z|z
  ·rw[show min (a+1) l.length-a=1 by lia]
  ·rw[List.drop_eq_nil_of_le z];simp
 rw[this];exact and_iff_right (by unfold lim;lia)
theorem one_eq{l:List Nat}{a c:Nat}:decide ((l.drop a).take 1=[c])=decide (l[a]?=some c):=by
 refine decide_eq_decide.mpr ?_;rcases Nat.lt_or_ge a l.length with z|z
 ·rw[List.drop_eq_getElem_cons z,List.getElem?_eq_getElem z,List.take_succ_cons,List.take_zero];simp only[List.cons.injEq,and_true,Option.some.injEq]
 ·rw[List.drop_eq_nil_of_le z,List.getElem?_eq_none z];simp
theorem xK(l:List Nat):kt (tx l)=0:=by unfold tx kt;rfl
theorem JB{C:Cfg}:jC C 3 xN jQ:=by
 rintro ds ⟨l,a,c,rfl,h,h2⟩;rw[xN]
 have t:=fun Q=>tx_one (Q:=Q) h h2
 have fin:∀v:Int,v=(if l[a]?=some c then (a:Int)+1 else a)->jQ.res [tx l,.int a,tx [c]] (.int v):=fun v hv l' a' c' e=>by
  simp only[List.cons.injEq,and_true,D.int.injEq]at e;obtain⟨e1,e2,e3⟩:=e;cases kj e1;have:=kj e3;simp only[List.cons.injEq,and_true]at this;subst this
  have:a=a':=by lia
  rw[hv,this]
 simp_all! only[prt,kD,vN,t,zj,one_eq,xK];split
 ·next h=>exact fin _ (by rw[if_pos h])
 ·next h=>exact fin _ (by rw[if_neg h])
noncomputable def jw:Ctr where
 pre ds:=∃(l:List Nat) (a m:Nat),ds=[tx l,.int a,.int m]/\a<=l.length/\l.length<=2000
 res ds d:=∀(l:List Nat) (a m:Nat),ds=[tx l,.int a,.int m]->d=.int ((a+nF (l.drop a) m:Nat):Int)
theorem inj_bf{l l':List Nat}{a m a' m':Nat}(e:[tx l,D.int a,.int m]=[tx l',.int a',.int m']):l=l'/\a=a'/\m=m':=by
 simp only[List.cons.injEq,and_true,D.int.injEq]at e;exact⟨kj e.1,by lia,by lia⟩
theorem qj{l:List Nat}{a m:Nat}{Q:D->Prop}{E:XD->Prop}(h:a<=l.length)(h2:l.length<=2000):jw.wp [tx l,.int a,.int m] Q E ↔ Q (.int ((a+nF (l.drop a) m:Nat):Int)):=by
 constructor
 ·intro w
  refine w.2.1 _ fun l' a' m' e=>?_
  obtain⟨rfl,rfl,rfl⟩:=inj_bf e;rfl
 ·intro q;refine⟨⟨l,a,m,rfl,h,h2⟩,fun d e=>?_,fun _ z=>z.elim⟩;rw[e l a m rfl];exact q
theorem uR{C:Cfg}{c:Nat}(h1:C.cn c=tx FIG):jC C 4 (qt c) jw:=by
 rintro ds ⟨l,a,m,rfl,h,h2⟩;rw[qt];simp_all! only[]
 let P:Sto->Prop:=fun σ=>∃k:Nat,(a+k<=l.length/\k<=m/\nF (l.drop a) m=k+nF (l.drop (a+k)) (m-k))/\σ=[some (.sh (tx l)),some (.sh (.int a)),some (.sh (.int m)),some (.sh (.int ((a+k:Nat):Int)))]
 let μ:Sto->Nat:=fun σ=>match getS σ 3 with|some (.sh (.int e))=>l.length-e.toNat|_=>0
 have fin:∀k:Nat,nF (l.drop a) m=k->jw.res [tx l,.int a,.int m] (.int ((a+k:Nat):Int)):=fun k hk l' a' m' e=>by
  obtain⟨rfl,rfl,rfl⟩:=inj_bf e;rw[hk]
 refine jO (fun σ=>∃k:Nat,nF (l.drop a) m=k/\σ=[some (.sh (tx l)),some (.sh (.int a)),some (.sh (.int m)),some (.sh (.int ((a+k:Nat):Int)))]) ?_ ?_
 ·refine qJ P μ ⟨0,⟨by lia,Nat.zero_le _,by simp⟩,by simp⟩ ?_;rintro σ ⟨k,⟨k1,k2,k3⟩,rfl⟩
  have hl:l.length<=lim:=by unfold lim;lia
  dsimp! only[yu,hl]
  have done:nF (l.drop (a+k)) (m-k)=0->[some (Sl.sh (tx l)),some (.sh (.int a)),some (.sh (.int m)),some (.sh (.int ((a+k:Nat):Int)))]=[some (Sl.sh (tx l)),some (.sh (.int a)),some (.sh (.int m)),some (.sh (.int ((a+nF (l.drop a) m:Nat):Int)))]:=fun z=>by rw[k3,z];rfl
  by_cases c1:a+k<l.length
  ·rw[if_pos (by lia)];by_cases c2:k<m
   ·rw[if_pos (by lia),JU (by lia) hl (c:=l[a+k]) (by rw[Int.toNat_natCast];exact List.getElem?_eq_getElem c1),h1,tx_in,in_fig];simp only[isB]
    obtain⟨q,hq⟩:∃q,m-k=q+1:=⟨m-k-1,by lia⟩
    have dr:=List.drop_eq_getElem_cons c1
    cases hd:dig l[a+k] with
    |true =>
     rw[if_pos rfl];simp_all! only[];refine⟨?_,k+1,⟨by lia,by lia,?_⟩,?_⟩
     ·show l.length-(((a+k:Nat):Int)+1).toNat<l.length-((a+k:Nat):Int).toNat;lia
     ·rw[k3,dr,hq]
      have:m-(k+1)=q:=by lia
      rw[this,show a+(k+1)=a+k+1 by lia];simp only[nF,hd,if_true];lia
     ·rw[show (((a+k:Nat):Int)+1)=((a+(k+1):Nat):Int) by lia]
    |false =>
     rw[if_neg (by decide)];exact done (by rw[dr,hq];simp[nF,hd])
   ·rw[if_neg (by lia)]
    exact done (by
     rw[show m-k=0 by lia]
     cases l.drop (a+k)<;>rfl)
  ·rw[if_neg (by lia)];exact done (by rw[List.drop_eq_nil_of_le (by lia)];cases (m-k)<;>rfl)
 rintro σ ⟨k,hk,rfl⟩;simp_all! only[];exact fin k hk
noncomputable def exL:Option (Bool×List Nat)->List Nat
 |none=>[]
 |some (g,p)=>101::((if g then [45] else [])++p)
noncomputable def exV:Option (Bool×List Nat)->Int
 |none=>0
 |some (g,p)=>if g then -((digitsVal p:Nat):Int) else (digitsVal p:Nat)
noncomputable def exOk:Option (Bool×List Nat)->Prop
 |none=>True
 |some (_,p)=>AllDigits p/\1<=p.length/\p.length<=3
theorem exV_inj{E E':Option (Bool×List Nat)}(e1:exL E=exL E')(h4:exOk E)(e2:exOk E'):exV E=exV E':=by
 match E,E',e1,h4,e2 with
 |none,none,_,_,_=>rfl
 |some (g,p),some (g',p'),e1,h4,e2 =>
  simp only[exL,List.cons.injEq,true_and]at e1
  have nd:∀ {p r:List Nat},AllDigits p->1<=p.length->p≠45::r:=fun hp _ hz=>by
   subst hz;have:=hp.head;lia
  cases g<;>cases g'
  ·simp at e1;subst e1;rfl
  ·exact absurd (by simpa using e1) (nd h4.1 h4.2.1)
  ·exact absurd (by simpa using e1.symm) (nd e2.1 e2.2.1)
  ·simp at e1;subst e1;rfl
theorem st_e:D.str (Str.ofString "e")=tx [101]:=congrArg D.str (by decide +kernel)
theorem st_m:D.str (Str.ofString "-")=tx [45]:=congrArg D.str (by decide +kernel)
theorem st_p:D.str (Str.ofString ".")=tx [46]:=congrArg D.str (by decide +kernel)
theorem st_0:D.str (Str.ofString "0")=tx [48]:=congrArg D.str (by decide +kernel)
theorem st_1:D.str (Str.ofString "1")=tx [49]:=congrArg D.str (by decide +kernel)
theorem Kx:D.str (Str.ofString "")=tx []:=congrArg D.str (by decide +kernel)
theorem Jo(k:Nat):digitsVal (49::List.replicate k 48)=10^k:=by
 induction k with
 |zero=>rfl
 |succ k ih =>
  have e:49::List.replicate (k+1) 48=(49::List.replicate k 48) ++ [48]:=by
   rw[List.replicate_succ',List.cons_append]
  rw[e,digitsVal_snoc,ih,Nat.pow_succ];simp
theorem Jn(k:Nat):AllDigits (49::List.replicate k 48):=fun c hc=>by
 rcases List.mem_cons.mp hc with rfl|hc
 ·decide
 ·rw[(List.mem_replicate.mp hc).2];decide
theorem zO(k c:Nat):(List.replicate k [c]).flatten=List.replicate k c:=by
 induction k with
 |zero=>rfl
 |succ k ih=>rw[List.replicate_succ,List.flatten_cons,ih,List.replicate_succ];rfl
end Z
set_option exponentiation.threshold 3000
namespace Z
open PySem PySem.NumText
noncomputable def yB(i_ratio:Nat):Sm :=
 (.seq (.set 2 (.bi .int [(.bin .add (.cst (.str "1")) (.bin .mul (.cst (.str "0")) (.bi .abs [(.var 1)])))]))
 (.seq (.ret (.ife (.cmp .lt (.var 1) (.cst (.int 0))) (.call i_ratio [(.var 0),(.var 2)]) (.call i_ratio [(.bin .mul (.var 0) (.var 2)),(.cst (.int 1))])))
 .nop))
noncomputable def vI:Sm :=
 (.seq (.set 1 (.cst (.int 1)))
 (.seq (.set 2 (.cst (.int 10)))
 (.seq (.set 3 (.var 0))
 (.seq (.whl (.cmp .gt (.var 3) (.cst (.int 0))) (.seq (.ite (.cmp .eq (.bin .mod (.var 3) (.cst (.int 2))) (.cst (.int 1))) (.seq (.set 1 (.bin .mul (.var 1) (.var 2)))
  .nop) .nop)
  (.seq (.set 2 (.bin .mul (.var 2) (.var 2)))
  (.seq (.set 3 (.bin .fdiv (.var 3) (.cst (.int 2))))
  .nop))))
 (.seq (.ret (.var 1))
 .nop)))))
noncomputable def xg(i_ten_to:Nat):Sm :=
 (.seq (.ite (.cmp .lt (.var 1) (.cst (.int 0))) (.seq (.ret (.tup [(.ix (.var 0) (.cst (.int 0))),(.bin .mul (.ix (.var 0) (.cst (.int 1))) (.call i_ten_to [(.neg (.var 1))]))]))
  .nop) .nop)
 (.seq (.ret (.tup [(.bin .mul (.ix (.var 0) (.cst (.int 0))) (.call i_ten_to [(.var 1)])),(.ix (.var 0) (.cst (.int 1)))]))
 .nop))
noncomputable def uE(i_times_ten_to:Nat):Sm :=
 (.seq (.set 2 (.call i_times_ten_to [(.var 0),(.neg (.var 1))]))
 (.seq (.ret (.cmp .ge (.ix (.var 2) (.cst (.int 0))) (.ix (.var 2) (.cst (.int 1)))))
 .nop))
noncomputable def ttF(w p:Int):Rat:=if p<0 then Rat.divInt w (10^p.natAbs) else Rat.divInt (w*10^p.natAbs) 1
noncomputable def qB:Ctr where
 pre ds:=∃w p:Int,ds=[.int w,.int p]/\bits w<=2000 /\ -1100<=p/\p<=1100
 res ds d:=∀w p:Int,ds=[.int w,.int p]->d=rq (ttF w p)
theorem K3{w p:Int}{Q:D->Prop}{E:XD->Prop}(h:bits w<=2000)(h1:-1100<=p)(h2:p<=1100):qB.wp [.int w,.int p] Q E ↔ Q (rq (ttF w p)) :=
 ⟨fun z=>z.2.1 _ fun w' p' e=>by cases e;rfl,fun q=>⟨⟨w,p,rfl,h,h1,h2⟩,fun d e=>by rw[e w p rfl];exact q,fun _ z=>z.elim⟩⟩
theorem j4(k:Nat):bits ((10:Int)^k)<=4*k+1:=by
 refine jg.mpr ?_;rw[Int.natAbs_pow]
 have e:(2:Nat)^(4*k+1)=16^k*2:=by rw[Nat.pow_succ,Nat.pow_mul]
 have:(Int.natAbs 10)^k<=16^k:=Nat.pow_le_pow_left (by decide) k;have:=Nat.pow_pos (n:=k) (show 0<16 by decide);lia
theorem k_times_ten{C:Cfg}{i:Nat}(h1:C.ct i=xE):jC C 3 (yB i) qB:=by
 rintro ds ⟨w,p,rfl,hw,p1,p2⟩;rw[yB]
 have fin:qB.res [.int w,.int p] (rq (ttF w p)):=fun w' p' e=>by cases e;rfl
 have rp:ue 1 (p.natAbs:Int):=⟨by lia,by unfold lim;lia⟩
 have tm:∀(Q:D->Prop),xt .mul (tx [48]) (.int (p.natAbs:Int)) Q ↔ Q (tx (List.replicate p.natAbs 48)):=fun Q=>by
  rw[KY,Int.toNat_natCast,zO];exact and_iff_right rp
 have ta:∀(Q:D->Prop),xt .add (tx [49]) (tx (List.replicate p.natAbs 48)) Q ↔ Q (tx (49::List.replicate p.natAbs 48)):=fun Q=>by
  rw[qH];refine(and_iff_right ?_);simp;unfold lim;lia
 have ti:∀(Q:D->Prop),biD .int [tx (49::List.replicate p.natAbs 48)] Q ↔ Q (.int ((10:Int)^p.natAbs)):=fun Q=>by
  rw[Jt (Jn _) (by simp) (by simp;lia),Jo,Int.natCast_pow];rfl
 have b10:=j4 p.natAbs
 have n10:(10:Int)^p.natAbs≠0:=by
  have:=Int.pow_pos (n:=(10:Int)) (m:=p.natAbs) (by decide);lia
 simp_all! only[st_1,st_0,x6,tm,ta,ti]
 have wr:=fun Q E=>wp_ratio (t:=w) (u:=(10:Int)^p.natAbs) (Q:=Q) (E:=E) n10 (by lia)
 have wr2:=fun Q E=>wp_ratio (t:=w*(10:Int)^p.natAbs) (u:=1) (Q:=Q) (E:=E) (by decide) (by decide)
 by_cases hp:p<0
 ·rw[if_pos hp];rw[h1,wr];unfold ttF at fin;rw[if_pos hp]at fin;exact fin
 ·rw[if_neg hp];refine⟨.inr (.inr (by lia)),?_⟩;rw[h1,wr2];unfold ttF at fin;rw[if_neg hp]at fin;exact fin
structure TxOk (pt:Bool) (f1 f2:List Nat) (E:Option (Bool×List Nat)):Prop where
 d1:AllDigits f1
 d2:AllDigits f2
 n1:1<=f1.length+f2.length
 n2:f1.length+f2.length<=40
 pt0:pt=false->f2=[]
 ex:exOk E
noncomputable def sgL(b:Bool)(c:Nat):List Nat:=if b then [c] else []
noncomputable def txL(neg:Bool)(f1:List Nat)(pt:Bool)(f2:List Nat)(E:Option (Bool×List Nat)):List Nat:=sgL neg 45++(f1++(sgL pt 46++(f2++exL E)))
theorem zF(b:Bool)(c:Nat):(sgL b c).length=if b then 1 else 0:=by cases b<;>rfl
theorem Qe(E:Option (Bool×List Nat)):∀c,(exL E).head?=some c->c=101:=by
 cases E with
 |none=>intro c h;cases h
 |some q=>intro c h;simp only[exL,List.head?_cons,Option.some.injEq]at h;exact h.symm
theorem ex_len{E:Option (Bool×List Nat)}(h:exOk E):(exL E).length<=5:=by
 cases E with
 |none=>simp[exL]
 |some q =>
  obtain⟨g,p⟩:=q;have:=h.2.2
  cases g<;>simp[exL]<;>lia
theorem qA{α:Type}(a b:List α):(a++b).drop a.length=b:=by simp
section
variable {neg pt:Bool} {f1 f2:List Nat} {E:Option (Bool×List Nat)}
theorem zb(h:TxOk pt f1 f2 E):(txL neg f1 pt f2 E).length<=50:=by
 have:=h.n2;have:=ex_len h.ex;unfold txL;simp only[List.length_append,zF]
 split<;>split<;>lia
theorem Jq(h:TxOk pt f1 f2 E):(txL neg f1 pt f2 E)[0]?=some 45 ↔ neg=true:=by
 cases neg with
 |true=>simp[txL,sgL]
 |false =>
  simp only[txL,sgL,Bool.false_eq_true,if_false,List.nil_append,iff_false]
  cases f1 with
  |cons c f1 =>
   have:=h.d1.head
   simp;lia
  |nil =>
   cases pt with
   |true=>simp
   |false =>
    have:=h.pt0 rfl;have:=h.n1;simp_all
theorem rd_point(h:TxOk pt f1 f2 E):nF ((txL neg f1 pt f2 E).drop (sgL neg 45).length) 40=f1.length:=by
 unfold txL;rw[qA];have:=h.n2;refine nF_all f1 _ 40 h.d1 (by lia) (.inr fun c hc=>?_)
 cases pt with
 |true =>
  simp only[sgL,if_true,List.cons_append,List.head?_cons,Option.some.injEq]at hc
  subst hc;rfl
 |false =>
  rw[h.pt0 rfl]at hc;simp only[sgL,Bool.false_eq_true,if_false,List.nil_append]at hc;rw[Qe E c hc];rfl
theorem Kk(h:TxOk pt f1 f2 E):(txL neg f1 pt f2 E)[(sgL neg 45).length+f1.length]?=some 46 ↔ pt=true:=by
 have e:(txL neg f1 pt f2 E)[(sgL neg 45).length+f1.length]?=(sgL pt 46++(f2++exL E))[0]?:=by
  unfold txL;rw[<- List.append_assoc,<- List.length_append,List.getElem?_append_right (Nat.le_refl _),Nat.sub_self]
 rw[e]
 cases pt with
 |true=>simp[sgL]
 |false =>
  rw[h.pt0 rfl];simp only[sgL,Bool.false_eq_true,if_false,List.nil_append,iff_false];intro z;have:=Qe E 46 (by rw[List.head?_eq_getElem?];exact z);lia
theorem rd_end(h:TxOk pt f1 f2 E):nF ((txL neg f1 pt f2 E).drop ((sgL neg 45).length+f1.length+(sgL pt 46).length)) (40-f1.length)=f2.length:=by
 have e:(txL neg f1 pt f2 E).drop ((sgL neg 45).length+f1.length+(sgL pt 46).length)=f2++exL E:=by
  unfold txL;rw[<- List.append_assoc,<- List.append_assoc,<- List.length_append,<- List.length_append,qA]
 rw[e];have:=h.n2;refine nF_all f2 _ _ h.d2 (by lia) (.inr fun c hc=>?_);rw[Qe E c hc];rfl
end
theorem bool_iff{a b:Bool}(h:a=true ↔ b=true):a=b:=by cases a<;>cases b<;>simp_all
theorem Jg{neg neg' pt pt':Bool}{f1 f2 f1' f2':List Nat}{E E':Option (Bool×List Nat)}(h:TxOk pt f1 f2 E)(h':TxOk pt' f1' f2' E')(e:txL neg f1 pt f2 E=txL neg' f1' pt' f2' E'):neg=neg'/\f1=f1'/\f2=f2'/\exV E=exV E':=by
 have n:neg=neg':=bool_iff ((Jq (neg:=neg) h).symm.trans (by rw[e];exact Jq h'));subst n
 have l1:f1.length=f1'.length:=by rw[<- rd_point (neg:=neg) h,e,rd_point h']
 have p:pt=pt':=bool_iff ((Kk (neg:=neg) h).symm.trans (by rw[e,l1];exact Kk h'));subst p
 have l2:f2.length=f2'.length:=by rw[<- rd_end (neg:=neg) h,e,l1,rd_end h']
 have e1:=List.append_cancel_left e;obtain⟨a,e2⟩:=List.append_inj e1 l1;have e3:=List.append_cancel_left e2;obtain⟨b,e4⟩:=List.append_inj e3 l2;exact⟨rfl,a,b,exV_inj e4 h.ex h'.ex⟩
noncomputable def sgV(neg:Bool)(v:Nat):Int:=if neg then -(v:Int) else v
theorem fold_lt:∀(l:List Nat) (a:Nat),AllDigits l->l.foldl (fun acc c=>acc*10+(c-48)) a<(a+1)*10^l.length
 |[],a,_=>by simp
 |c::l,a,h=>by
  have hc:=h.head;have ih:=fold_lt l (a*10+(c-48)) h.tail;rw[List.foldl_cons,List.length_cons,Nat.pow_succ];have:(a*10+(c-48)+1)*10^l.length<=((a+1)*10)*10^l.length:=Nat.mul_le_mul_right _ (by lia)
  have e:(a+1)*(10^l.length*10)=((a+1)*10)*10^l.length:=by rw[Nat.mul_comm (10^l.length) 10,Nat.mul_assoc]
  rw[e];exact Nat.lt_of_lt_of_le ih this
theorem x5(l:List Nat)(h:AllDigits l):digitsVal l<10^l.length:=by
 have:=fold_lt l 0 h;simpa[digitsVal]using this
end Z
set_option exponentiation.threshold 3000
namespace Z
open PySem
noncomputable def kq:Ctr where
 pre ds:=match ds with|[.int n]=>0<=n/\n<=1100|_=>False
 res ds d:=match ds with|[.int n]=>d=.int (10^n.toNat)|_=>False
theorem k_ten_to{C:Cfg}:jC C 4 vI kq:=by
 rintro ds h;simp only[kq]at h;split at h
 case h_2=>exact h.elim
 next n =>
 obtain⟨n,rfl⟩:∃m:Nat,n=m:=⟨n.toNat,by lia⟩
 have hn:n<=1100:=by lia
 simp_all_arith! only[vI,kq,Int.toNat_natCast]
 refine qJ (fun σ=>∃j:Nat,2^j<=2*n+2/\σ=[some (.sh (.int n)),some (.sh (.int (10^(n%2^j)))),some (.sh (.int (10^(2^j)))),some (.sh (.int ((n / 2^j:Nat):Int)))]) (fun σ=>(xu σ 3).toNat) ?_ ?_
 ·refine⟨0,by lia,?_⟩;simp[Nat.mod_one]
 ·rintro σ ⟨j,hj,rfl⟩
  simp_all_arith! only[xu]
  by_cases h0:0<n / 2^j
  ·rw[if_pos (by lia)]
   have hle:2^j<=n:=by
    rcases Nat.lt_or_ge n (2^j) with h|h
    ·rw[Nat.div_eq_of_lt h]at h0;lia
    ·exact h
   have e1:((n / 2^j:Nat):Int).fmod 2=((n / 2^j%2:Nat):Int):=by rw[ji (by decide)];lia
   have e2:((n / 2^j:Nat):Int).fdiv 2=((n / 2^(j+1):Nat):Int):=by
    rw[jr (by decide),Nat.pow_succ,<- Nat.div_div_eq_div_mul];lia
   have e3:(10:Int)^2^j*10^2^j=10^2^(j+1):=by rw[<- Int.pow_add,Nat.pow_succ];congr 1;lia
   have m2:zm ((10:Int)^2^j) (10^2^j):=jJ (by have:=j4 (2^j);lia)
   have lt:(((n / 2^(j+1):Nat):Int)).toNat<(((n / 2^j:Nat):Int)).toNat:=by
    have:n / 2^(j+1)<n / 2^j:=by rw[Nat.pow_succ,<- Nat.div_div_eq_div_mul];lia
    lia
   have hj':2^(j+1)<=2*n+2:=by rw[Nat.pow_succ];lia
   rw[e1,e2,e3]
   have dec:n%2^(j+1)=n%2^j+2^j*(n / 2^j%2):=by rw[Nat.pow_succ,Nat.mod_mul]
   by_cases ho:n / 2^j%2=1
   ·rw[if_pos (by lia)]
    have e4:(10:Int)^(n%2^j)*10^2^j=10^(n%2^(j+1)):=by rw[<- Int.pow_add,dec,ho];congr 1;lia
    have hm:n%2^j<2^j:=Nat.mod_lt _ (Nat.two_pow_pos j);have m1:zm ((10:Int)^(n%2^j)) (10^2^j):=jJ (by have:=j4 (2^j);have:=j4 (n%2^j);lia);exact⟨m1,m2,by decide,lt,j+1,hj',by rw[e4]⟩
   ·rw[if_neg (by lia)]
    have e4:n%2^(j+1)=n%2^j:=by
     have:n / 2^j%2=0:=by lia
     rw[dec,this];lia
    exact⟨m2,by decide,lt,j+1,hj',by rw[e4]⟩
  ·rw[if_neg (by lia)]
   have:n<2^j:=by
    rcases Nat.lt_or_ge n (2^j) with h|h
    ·exact h
    ·have:=Nat.div_pos h (Nat.two_pow_pos j);lia
   rw[Nat.mod_eq_of_lt this]
theorem yT{n:Int}{Q:D->Prop}{E:XD->Prop}(h0:0<=n)(h1:n<=1100):kq.wp [.int n] Q E ↔ Q (.int (10^n.toNat)):=⟨fun w=>w.2.1 _ rfl,fun q=>⟨⟨h0,h1⟩,fun d h=>by cases h;exact q,fun _ z=>z.elim⟩⟩
noncomputable def mvF(x:Int×Int)(p:Int):Int×Int:=if p<0 then (x.1,x.2*10^p.natAbs) else (x.1*10^p.natAbs,x.2)
noncomputable def jS:Ctr where
 pre ds:=∃(x:Int×Int) (p:Int),ds=[nq x,.int p]/\bits x.1<=4000/\bits x.2<=4000 /\ -1000<=p/\p<=1000
 res ds d:=∀(x:Int×Int) (p:Int),ds=[nq x,.int p]->d=nq (mvF x p)
theorem Kp{x x':Int×Int}{p p':Int}(e:[nq x,D.int p]=[nq x',.int p']):x=x'/\p=p':=by
 simp only[List.cons.injEq,and_true,D.int.injEq]at e;exact⟨xh e.1,e.2⟩
theorem qI{x:Int×Int}{p:Int}{Q:D->Prop}{E:XD->Prop}(h1:bits x.1<=4000)(h2:bits x.2<=4000)(h3:-1000<=p)(h4:p<=1000):jS.wp [nq x,.int p] Q E ↔ Q (nq (mvF x p)) :=
 ⟨fun w=>w.2.1 _ fun x' p' e=>by obtain⟨rfl,rfl⟩:=Kp e;rfl,fun q=>⟨⟨x,p,rfl,h1,h2,h3,h4⟩,fun d e=>by rw[e x p rfl];exact q,fun _ z=>z.elim⟩⟩
theorem Jj{C:Cfg}{i:Nat}(h1:C.ct i=kq):jC C 2 (xg i) jS:=by
 rintro ds ⟨x,p,rfl,b1,b2,p1,p2⟩;rw[xg]
 have fin:jS.res [nq x,.int p] (nq (mvF x p)):=fun x' p' e=>by obtain⟨rfl,rfl⟩:=Kp e;rfl
 have bt:=j4 p.natAbs;by_cases hp:p<0
 ·have w:=fun Q E=>yT (n:=-p) (Q:=Q) (E:=E) (by lia) (by lia)
  have e:(-p).toNat=p.natAbs:=by lia
  rw[jp,kZ];dsimp! only[hp,decide_true];simp_all! only[kP,xO,h1,w,e,zY];unfold mvF at fin;rw[if_pos hp]at fin;exact⟨.inr (.inr (by lia)),fin⟩
 ·have w:=fun Q E=>yT (n:=p) (Q:=Q) (E:=E) (by lia) (by lia)
  have e:p.toNat=p.natAbs:=by lia
  refine kB (by dsimp! only[];exact congrArg _ (decide_eq_false hp)) ?_;simp_all! only[kP,xO,h1,w,e,zY];unfold mvF at fin;rw[if_neg hp]at fin;exact⟨.inr (.inr (by lia)),fin⟩
noncomputable def xU:Ctr where
 pre ds:=∃(x:Int×Int) (p:Int),ds=[nq x,.int p]/\bits x.1<=4000/\bits x.2<=4000 /\ -1000<=p/\p<=1000
 res ds d:=∀(x:Int×Int) (p:Int),ds=[nq x,.int p]->d=.bl (decide ((mvF x (-p)).2<=(mvF x (-p)).1))
theorem wp_reaches{x:Int×Int}{p:Int}{Q:D->Prop}{E:XD->Prop}(h1:bits x.1<=4000)(h2:bits x.2<=4000)(h3:-1000<=p)(h4:p<=1000):xU.wp [nq x,.int p] Q E ↔ Q (.bl (decide ((mvF x (-p)).2<=(mvF x (-p)).1))) :=
 ⟨fun w=>w.2.1 _ fun x' p' e=>by obtain⟨rfl,rfl⟩:=Kp e;rfl,fun q=>⟨⟨x,p,rfl,h1,h2,h3,h4⟩,fun d e=>by rw[e x p rfl];exact q,fun _ z=>z.elim⟩⟩
theorem k_reaches{C:Cfg}{i:Nat}(h1:C.ct i=jS):jC C 3 (uE i) xU:=by
 rintro ds ⟨x,p,rfl,b1,b2,p1,p2⟩;rw[uE]
 have w:=fun Q E=>qI (x:=x) (p:=-p) (Q:=Q) (E:=E) b1 b2 (by lia) (by lia)
 simp_all! only[h1,w,kP,xO];intro x' p' e;obtain⟨rfl,rfl⟩:=Kp e;rfl
end Z
set_option exponentiation.threshold 3000
namespace Z
open PySem
noncomputable def xP(i_reaches:Nat):Sm :=
 (.seq (.set 1 (.bin .fdiv (.bin .mul (.bin .sub (.meth .bitlen (.ix (.var 0) (.cst (.int 0)))) (.meth .bitlen (.ix (.var 0) (.cst (.int 1))))) (.cst (.int 30103))) (.cst (.int 100000))))
 (.seq (.whl (.not (.call i_reaches [(.var 0),(.var 1)])) (.seq (.set 1 (.bin .sub (.var 1) (.cst (.int 1))))
  .nop))
 (.seq (.whl (.call i_reaches [(.var 0),(.bin .add (.var 1) (.cst (.int 1)))]) (.seq (.set 1 (.bin .add (.var 1) (.cst (.int 1))))
  .nop))
 (.seq (.ret (.var 1))
 .nop))))
noncomputable def yy(x:Int×Int)(p:Int):Bool:=decide ((mvF x (-p)).2<=(mvF x (-p)).1)
structure SzOk (x:Int×Int):Prop where
 p1:0<x.1
 p2:0<x.2
 b1:bits x.1<=1100
 b2:bits x.2<=1100
theorem ten332:(2:Nat)^1100<=10^332:=by decide +kernel
theorem SzOk.low{x:Int×Int}(h:SzOk x){p:Int}(hp:p<=-332):yy x p=true:=by
 have b:=jg.mp h.b2;have t:(10:Nat)^332<=10^p.natAbs:=Nat.pow_le_pow_right (by decide) (by lia);have t0:=ten332;have p1:=h.p1;have p2:=h.p2;unfold yy mvF;rw[if_neg (by lia),Int.natAbs_neg];refine decide_eq_true ?_;simp only[]
 have e:(10:Int)^p.natAbs=((10^p.natAbs:Nat):Int):=by simp
 rw[e];have:(1:Int)*((10^p.natAbs:Nat):Int)<=x.1*((10^p.natAbs:Nat):Int):=Int.mul_le_mul_of_nonneg_right (by lia) (by lia);generalize 10^p.natAbs=T at *;generalize (10:Nat)^332=A at *;generalize (2:Nat)^1100=B at *;lia
theorem SzOk.high{x:Int×Int}(h:SzOk x){p:Int}(hp:332<=p):yy x p=false:=by
 have b:=jg.mp h.b1;have t:(10:Nat)^332<=10^p.natAbs:=Nat.pow_le_pow_right (by decide) (by lia);have t0:=ten332;have p1:=h.p1;have p2:=h.p2;unfold yy mvF;rw[if_pos (by lia),Int.natAbs_neg];refine decide_eq_false ?_;simp only[]
 have e:(10:Int)^p.natAbs=((10^p.natAbs:Nat):Int):=by simp
 rw[e];have:(1:Int)*((10^p.natAbs:Nat):Int)<=x.2*((10^p.natAbs:Nat):Int):=Int.mul_le_mul_of_nonneg_right (by lia) (by lia);generalize 10^p.natAbs=T at *;generalize (10:Nat)^332=A at *;generalize (2:Nat)^1100=B at *;lia
noncomputable def kE:Ctr where
 pre ds:=∃x:Int×Int,ds=[nq x]/\SzOk x
 res ds d:=∀x:Int×Int,ds=[nq x]->∃P:Int,d=.int P/\yy x P=true/\yy x (P+1)=false /\ -332<=P/\P<=331
theorem vH{x:Int×Int}{Q:D->Prop}{E:XD->Prop}(h:SzOk x):kE.wp [nq x] Q E ↔ ∀P:Int,yy x P=true->yy x (P+1)=false->-332<=P->P<=331->Q (.int P):=by
 constructor
 ·intro w P h1 h2 h3 h4
  refine w.2.1 _ fun x' e=>?_
  simp only[List.cons.injEq,and_true]at e;cases xh e;exact⟨P,rfl,h1,h2,h3,h4⟩
 ·intro q;refine⟨⟨x,rfl,h⟩,fun d e=>?_,fun _ z=>z.elim⟩;obtain⟨P,rfl,h1,h2,h3,h4⟩:=e x rfl;exact q P h1 h2 h3 h4
theorem Jy{C:Cfg}{i:Nat}(h1:C.ct i=xU):jC C 2 (xP i) kE:=by
 rintro ds ⟨x,rfl,h⟩;rw[xP];have b1:=h.b1;have b2:=h.b2
 have wr:∀(p:Int),-1000<=p->p<=1000->∀(Q:D->Prop) (E:XD->Prop),xU.wp [nq x,.int p] Q E ↔ Q (.bl (yy x p)):=fun p l u Q E=>wp_reaches (by lia) (by lia) l u
 simp_all! only[kP,xO]
 have bm:bits ((bits x.1:Int)-(bits x.2:Int))<=64:=by
  refine Nat.le_trans (jg (n:=12) |>.mpr ?_) (by decide);lia
 refine⟨.inl bm,by decide,?_⟩;have q1:(((bits x.1:Int)-(bits x.2:Int))*30103).fdiv 100000=((bits x.1:Int)-(bits x.2:Int))*30103 / 100000:=jr (by decide);rw[q1]
 have q2:-332<=((bits x.1:Int)-(bits x.2:Int))*30103 / 100000:=by lia
 have q3:((bits x.1:Int)-(bits x.2:Int))*30103 / 100000<=331:=by lia
 generalize ((bits x.1:Int)-(bits x.2:Int))*30103 / 100000=p0 at *;refine jO (fun σ=>∃p:Int,(-332<=p/\p<=331/\yy x p=true)/\σ=[some (.sh (nq x)),some (.sh (.int p))]) ?_ ?_
 ·refine qJ (fun σ=>∃p:Int,(-332<=p/\p<=331)/\σ=[some (.sh (nq x)),some (.sh (.int p))]) (fun σ=>(xu σ 1+333).toNat) ⟨p0,⟨q2,q3⟩,rfl⟩ ?_;rintro σ ⟨p,⟨l,u⟩,rfl⟩;have w:=wr p (by lia) (by lia);dsimp! only[h1,w]
  cases hr:yy x p with
  |true =>
   try simp only[Bool.not_true,Bool.false_eq_true,if_false]
   exact⟨p,⟨l,u,hr⟩,rfl⟩
  |false =>
   try simp only[Bool.not_false,if_true]
   have:p ≠ -332:=fun z=>by rw[h.low (by lia)]at hr;cases hr
   simp_all! only[xu];exact⟨by lia,p-1,⟨by lia,by lia⟩,rfl⟩
 rintro σ ⟨p,⟨l,u,hr⟩,rfl⟩;refine jO (fun σ=>∃p:Int,(-332<=p/\p<=331/\yy x p=true/\yy x (p+1)=false)/\σ=[some (.sh (nq x)),some (.sh (.int p))]) ?_ ?_
 ·refine qJ (fun σ=>∃p:Int,(-332<=p/\p<=331/\yy x p=true)/\σ=[some (.sh (nq x)),some (.sh (.int p))]) (fun σ=>(332-xu σ 1).toNat) ⟨p,⟨l,u,hr⟩,rfl⟩ ?_;clear l u hr p;rintro σ ⟨p,⟨l,u,hr⟩,rfl⟩;have w:=wr (p+1) (by lia) (by lia);dsimp! only[h1,w]
  cases hs:yy x (p+1) with
  |true =>
   try simp only[if_true]
   have:p+1<332:=by
    rcases Int.lt_or_le (p+1) 332 with z|z
    ·exact z
    ·rw[h.high z]at hs;cases hs
   simp_all! only[xu]
   exact⟨by lia,p+1,⟨by lia,by lia,hs⟩,rfl⟩
  |false =>
   try simp only[Bool.false_eq_true,if_false]
   exact⟨p,⟨l,u,hr,hs⟩,rfl⟩
 clear l u hr p;rintro σ ⟨p,⟨l,u,hr,hs⟩,rfl⟩;simp_all! only[];intro x' e;simp only[List.cons.injEq,and_true]at e;cases xh e;exact⟨p,rfl,hr,hs,l,u⟩
end Z
set_option exponentiation.threshold 3000
namespace Z
open PySem
noncomputable def qM(i_times_ten_to i_left_of c_NONE_LEFT c_ABOVE_HALF c_HALF_LEFT:Nat):Sm :=
 (.seq (.set 3 (.call i_times_ten_to [(.var 0),(.bin .sub (.bin .sub (.var 2) (.cst (.int 1))) (.var 1))]))
 (.seq (.set 4 (.bin .fdiv (.ix (.var 3) (.cst (.int 0))) (.ix (.var 3) (.cst (.int 1)))))
 (.seq (.set 5 (.call i_left_of [(.bin .mod (.ix (.var 3) (.cst (.int 0))) (.ix (.var 3) (.cst (.int 1)))),(.ix (.var 3) (.cst (.int 1)))]))
 (.seq (.ite (.cmp .eq (.var 5) (.con c_NONE_LEFT)) (.seq (.ret (.lst [(.var 4)]))
  .nop) .nop)
 (.seq (.ite (.or (.cmp .eq (.var 5) (.con c_ABOVE_HALF)) (.and (.cmp .eq (.var 5) (.con c_HALF_LEFT)) (.cmp .eq (.bin .mod (.var 4) (.cst (.int 2))) (.cst (.int 1))))) (.seq (.ret (.lst [(.bin .add (.var 4) (.cst (.int 1))),(.var 4)]))
  .nop) .nop)
 (.seq (.ret (.lst [(.var 4),(.bin .add (.var 4) (.cst (.int 1)))]))
 .nop))))))
noncomputable def yI(t u:Int):Int:=if t%u=0 then t / u else if u<2*(t%u)\/(2*(t%u)=u/\t / u%2=1) then t / u+1 else t / u
noncomputable def z7(t u:Int):List Int:=if t%u=0 then [] else if u<2*(t%u)\/(2*(t%u)=u/\t / u%2=1) then [t / u] else [t / u+1]
noncomputable def jV:Ctr where
 pre ds:=∃(x:Int×Int) (p k:Int),ds=[nq x,.int p,.int k]/\SzOk x /\ -332<=p/\p<=331/\1<=k/\k<=60
 res ds d:=∀(x:Int×Int) (p k:Int),ds=[nq x,.int p,.int k]->d=.lst ((yI (mvF x (k-1-p)).1 (mvF x (k-1-p)).2::z7 (mvF x (k-1-p)).1 (mvF x (k-1-p)).2).map .int)
theorem mv_bits{x:Int×Int}{p:Int}(h:SzOk x)(hp:p.natAbs<=400):bits (mvF x p).1<=3000/\bits (mvF x p).2<=3000/\0<(mvF x p).1/\0<(mvF x p).2:=by
 have b1:=h.b1;have b2:=h.b2;have p1:=h.p1;have p2:=h.p2;have bt:=j4 p.natAbs;have tp:(0:Int)<10^p.natAbs:=Int.pow_pos (by decide);unfold mvF;split
 ·refine⟨by lia,?_,p1,Int.mul_pos p2 tp⟩;refine Nat.le_trans (j5 _ _) ?_
  try simp only[]
  lia
 ·refine⟨?_,by lia,Int.mul_pos p1 tp,p2⟩;refine Nat.le_trans (j5 _ _) ?_
  try simp only[]
  lia
theorem inj_wa{x x':Int×Int}{p p' k k':Int}(e:[nq x,D.int p,.int k]=[nq x',.int p',.int k']):x=x'/\p=p'/\k=k':=by
 simp only[List.cons.injEq,and_true,D.int.injEq]at e;exact⟨xh e.1,e.2.1,e.2.2⟩
theorem uO{x:Int×Int}{p k:Int}{Q:D->Prop}{E:XD->Prop}(h:SzOk x)(h1:-332<=p)(h2:p<=331)(h3:1<=k)(h4:k<=60):jV.wp [nq x,.int p,.int k] Q E ↔ Q (.lst ((yI (mvF x (k-1-p)).1 (mvF x (k-1-p)).2::z7 (mvF x (k-1-p)).1 (mvF x (k-1-p)).2).map .int)) :=
 ⟨fun w=>w.2.1 _ fun x' p' k' e=>by obtain⟨rfl,rfl,rfl⟩:=inj_wa e;rfl,fun q=>⟨⟨x,p,k,rfl,h,h1,h2,h3,h4⟩,fun d e=>by rw[e x p k rfl];exact q,fun _ z=>z.elim⟩⟩
theorem zR{C:Cfg}{c:Ex}{a b r:Sm}{K:DE}{σ:Sto}(hc:wpE C c σ fun d=>d=.bl true)(h:wpS C a { K with nx:=fun σ'=>wpS C r K σ' } σ):wpS C (.seq (.ite c a b) r) K σ:=by
 rw[jp,kZ];refine ja c (fun d e=>?_) hc;subst e;simp only[isB,if_true];exact h
theorem vd{C:Cfg}{i1 i2 c0 c3 c2:Nat}(h1:C.ct i1=jS)(h2:C.ct i2=ky)(e0:C.cn c0=.int 0)(e3:C.cn c3=.int 3)(e2:C.cn c2=.int 2):jC C 6 (qM i1 i2 c0 c3 c2) jV:=by
 rintro ds ⟨x,p,k,rfl,h,a1,a2,a3,a4⟩;rw[qM];have b1:=h.b1;have b2:=h.b2
 have w:=fun Q E=>qI (x:=x) (p:=k-1-p) (Q:=Q) (E:=E) (by lia) (by lia) (by lia) (by lia)
 obtain⟨m1,m2,m3,m4⟩:=mv_bits (p:=k-1-p) h (by lia)
 have fin:jV.res [nq x,.int p,.int k] (.lst ((yI (mvF x (k-1-p)).1 (mvF x (k-1-p)).2::z7 (mvF x (k-1-p)).1 (mvF x (k-1-p)).2).map .int)):=fun x' p' k' e=>by obtain⟨rfl,rfl,rfl⟩:=inj_wa e;rfl
 have wl:∀(r v:Int) (Q:D->Prop) (E:XD->Prop),ky.wp [.int r,.int v] Q E ↔ Q (.int (cls r v)):=fun r v Q E=>⟨fun w=>w.2.1 _ rfl,fun q=>⟨trivial,fun d h=>by cases h;exact q,fun _ z=>z.elim⟩⟩
 simp_all! only[h1,w,kP,xO];generalize hT:mvF x (k-1-p)=T at *;obtain⟨t,u⟩:=T;simp only[]at m1 m2 m3 m4 fin ⊢;have q1:t.fdiv u=t / u:=jr (by lia);have q2:t.fmod u=t%u:=ji (by lia);have q3:(t / u).fmod 2=t / u%2:=ji (by decide);refine⟨⟨by lia,by lia⟩,by lia,?_⟩;rw[q1,q2,h2,wl];unfold yI z7 at fin;by_cases r0:t%u=0
 ·have c:cls (t%u) u=0:=by unfold cls;rw[if_pos r0]
  rw[if_pos r0,if_pos r0]at fin;rw[c];refine zR (by dsimp! only[e0]) ?_;simp_all! only[];exact fin
 ·rw[if_neg r0,if_neg r0]at fin;by_cases r2:2*(t%u)=u
  ·have c:cls (t%u) u=2:=by unfold cls;rw[if_neg r0,if_pos r2]
   rw[c];refine kB (by dsimp! only[e0];try decide) ?_;by_cases ho:t / u%2=1
   ·rw[if_pos (.inr ⟨r2,ho⟩),if_pos (.inr ⟨r2,ho⟩)]at fin;refine zR (by dsimp! only[e3,e2,q3,ho];try decide) ?_;simp_all! only[];exact fin
   ·rw[if_neg (by rintro(z|z)<;>lia),if_neg (by rintro(z|z)<;>lia)]at fin;refine kB (by dsimp! only[e3,e2,q3];first|(exact congrArg _ (beq_eq_false_iff_ne.mpr ho))|(simp[ho];done)|skip) ?_;simp_all! only[];exact fin
  ·by_cases r1:2*(t%u)<u
   ·have c:cls (t%u) u=1:=by unfold cls;rw[if_neg r0,if_neg r2,if_pos r1]
    rw[c];rw[if_neg (by rintro(z|z)<;>lia),if_neg (by rintro(z|z)<;>lia)]at fin;refine kB (by dsimp! only[e0];try decide) ?_;refine kB (by dsimp! only[e3,e2];try decide) ?_;simp_all! only[];exact fin
   ·have c:cls (t%u) u=3:=by unfold cls;rw[if_neg r0,if_neg r2,if_neg r1]
    rw[c];rw[if_pos (.inl (by lia)),if_pos (.inl (by lia))]at fin;refine kB (by dsimp! only[e0];try decide) ?_;refine zR (by dsimp! only[e3]) ?_;simp_all! only[];exact fin
end Z
namespace Z
open PySem PySem.NumText
noncomputable def uN:Sm :=
 (.seq (.set 4 (.bi .str [(.var 0)]))
 (.seq (.ite (.cmp .gt (.bi .len [(.var 4)]) (.var 2)) (.seq (.set 1 (.bin .add (.var 1) (.cst (.int 1))))
  .nop) .nop)
 (.seq (.set 5 (.ife (.var 3) (.cst (.str "-")) (.cst (.str ""))))
 (.seq (.set 6 (.ix (.var 4) (.cst (.int 0))))
 (.seq (.set 7 (.ife (.cmp .gt (.var 2) (.cst (.int 1))) (.cst (.str ".")) (.cst (.str ""))))
 (.seq (.set 8 (.slc (.var 4) (.cst (.int 1)) (.var 2)))
 (.seq (.ret (.fst [(.var 5),(.var 6),(.var 7),(.var 8),(.cst (.str "e")),(.var 1)]))
 .nop)))))))
noncomputable def dgs(n:Nat):List Nat:=(Nat.toDigits 10 n).map Char.toNat
noncomputable def itS(i:Int):List Nat:=if i<0 then 45::dgs i.natAbs else dgs i.natAbs
theorem of_chars(l:List Char):Str.ofString (String.ofList l)=sx (l.map Char.toNat):=by
 rw[Str.ofString_eq_toList];unfold sx;simp
theorem zW(i:Int):Str.ofString (toString i)=sx (itS i):=by
 unfold itS
 cases i with
 |ofNat n =>
  rw[if_neg (by simp)];have e:toString (Int.ofNat n)=String.ofList (Nat.toDigits 10 n):=rfl;rw[e,of_chars]
  rfl
 |negSucc n =>
  rw[if_pos (Int.negSucc_lt_zero n)];have e:toString (Int.negSucc n)="-" ++ String.ofList (Nat.toDigits 10 (n+1)):=rfl;rw[e,Str.ofString_eq_toList];unfold sx;simp[dgs]
theorem KD(n:Nat):1<=(dgs n).length:=by
 unfold dgs;rw[List.length_map];exact Nat.length_toDigits_pos
theorem uK{n k:Nat}(h0:0<k)(h:n<10^k):(dgs n).length<=k:=by
 unfold dgs;rw[List.length_map];exact(Nat.length_toDigits_le_iff (by decide) h0).mpr h
noncomputable def spF(n:Nat)(p:Int)(k:Nat)(b:Bool):List Nat:=sgL b 45++((dgs n).take 1++(sgL (decide (1<k)) 46++(((dgs n).drop 1).take (k-1)++(101::itS (if k<(dgs n).length then p+1 else p)))))
noncomputable def qZ:Ctr where
 pre ds:=∃(n:Nat) (p:Int) (k:Nat) (b:Bool),ds=[.int n,.int p,.int k,.bl b]/\n<10^61 /\ -1000<=p/\p<=1000/\1<=k/\k<=60
 res ds d:=∀(n:Nat) (p:Int) (k:Nat) (b:Bool),ds=[.int n,.int p,.int k,.bl b]->d=tx (spF n p k b)
theorem ex_tx{l:List Nat}{out:List Nat}{P:Str->Prop}:(∃z,(fmtS (tx l)=some z/\out.length+z.length<=lim)/\P z) ↔ (out.length+l.length<=lim/\P (sx l)):=by
 have e:fmtS (tx l)=some (sx l):=rfl;constructor
 ·rintro⟨z,⟨e',hl⟩,q⟩;rw[e]at e';cases e';rw[ki]at hl;exact⟨hl,q⟩
 ·rintro⟨hl,q⟩;exact⟨_,⟨e,by rw[ki];exact hl⟩,q⟩
theorem ex_int{i:Int}{out:List Nat}{P:Str->Prop}(h:i.natAbs.log2<1920):(∃z,(fmtS (.int i)=some z/\out.length+z.length<=lim)/\P z) ↔ (out.length+(itS i).length<=lim/\P (sx (itS i))):=by
 have e:fmtS (.int i)=some (sx (itS i)):=by
  show (if i.natAbs.log2<1920 then some (Str.ofString (toString i)) else none)=_;rw[if_pos h,zW]
 constructor
 ·rintro⟨z,⟨e',hl⟩,q⟩;rw[e]at e';cases e';rw[ki]at hl;exact⟨hl,q⟩
 ·rintro⟨hl,q⟩;exact⟨_,⟨e,by rw[ki];exact hl⟩,q⟩
theorem zc{n k:Nat}(h:n<2^k)(hk:0<k):n.log2<k:=by
 by_cases z:n=0
 ·subst z;simpa using hk
 ·exact(Nat.log2_lt z).mpr h
theorem vm(n:Nat):∀c∈dgs n,c<1114112:=by
 intro c hc;obtain⟨ch,h,rfl⟩:=List.mem_map.mp hc;have:=ch.valid;unfold Char.toNat
 rcases this with h|h<;>omega
theorem k_spelled{C:Cfg}:jC C 9 uN qZ:=by
 rintro ds ⟨n,p,k,b,rfl,hn,p1,p2,k1,k2⟩;rw[uN]
 have fin:qZ.res [.int n,.int p,.int k,.bl b] (tx (spF n p k b)):=fun n' p' k' b' e=>by
  simp only[List.cons.injEq,and_true,D.int.injEq,D.bl.injEq]at e;obtain⟨e1,e2,e3,e4⟩:=e
  have:n=n':=by lia
  have:k=k':=by lia
  subst_vars;rfl
 have lg:(n:Int).natAbs.log2<1920:=by
  refine zc (Nat.lt_of_lt_of_le (by simpa using hn) ?_) (by decide);decide +kernel
 have hl:=uK (by decide) hn;have h1:=KD n
 have tn:D.str (Str.ofString (toString (n:Int)))=tx (dgs n):=by
  rw[zW];unfold itS;rw[if_neg (by lia),Int.natAbs_natCast];rfl
 have hlim:(dgs n).length<=lim:=by unfold lim;lia
 simp_all! only[bi_str,lg,tn]
 let P1:Int:=if k<(dgs n).length then p+1 else p
 refine jO (fun σ=>σ=[some (.sh (.int n)),some (.sh (.int P1)),some (.sh (.int k)),some (.sh (.bl b)),some (.sh (tx (dgs n))),none,none,none,none]) ?_ ?_
 ·rw[kZ];dsimp! only[yu,hlim];by_cases c:k<(dgs n).length
  ·rw[if_pos (by lia)];simp_all! only[];show _=[_,some (Sl.sh (.int P1)),_,_,_,_,_,_,_];rw[show P1=p+1 from if_pos c]
  ·rw[if_neg (by lia)];simp_all! only[];show _=[_,some (Sl.sh (.int P1)),_,_,_,_,_,_,_];rw[show P1=p from if_neg c]
 rintro σ rfl
 obtain⟨c0,hc0⟩:∃c0,(dgs n)[0]?=some c0:=⟨_,List.getElem?_eq_getElem h1⟩
 have i0:=fun Q=>JU (Q:=Q) (i:=0) (Int.le_refl 0) hlim (c:=c0) hc0
 have hP:P1=if k<(dgs n).length then p+1 else p:=rfl
 have sl:∀Q:D->Prop,slD (tx (dgs n)) (some 1) (some (k:Int)) Q ↔ Q (tx (((dgs n).drop 1).take (k-1))):=fun Q=>by
  rw[uY,show sIx (dgs n).length 0 (some (1:Int))=1 from kW (a:=1) h1];rw[and_iff_right hlim]
  have:((dgs n).drop 1).take (sIx (dgs n).length (dgs n).length (some (k:Int))-1)=((dgs n).drop 1).take (k-1):=by
   rcases Nat.lt_or_ge (dgs n).length k with z|z
   ·rw[sIx_up (by lia),List.take_of_length_le (by rw[List.length_drop];lia),List.take_of_length_le (by rw[List.length_drop];lia)]
   ·rw[kW z]
  rw[this]
 clear_value P1
 have a1:=zc (n:=P1.natAbs) (k:=11) (by rw[hP];split<;>lia) (by decide)
 have a2:(itS P1).length<=5:=by
  unfold itS;have:=uK (n:=P1.natAbs) (k:=4) (by decide) (by rw[hP];split<;>lia);split
  ·rw[List.length_cons];lia
  ·lia
 have a3:∀c∈itS P1,c<1114112:=by
  intro c hc;unfold itS at hc;split at hc
  ·rcases List.mem_cons.mp hc with rfl|z
   ·decide
   ·exact vm _ c z
  ·exact vm _ c hc
 have a4:(List.take (k-1) (List.drop 1 (dgs n))).length<=60:=by
  rw[List.length_take,List.length_drop];lia
 have a5:∀c∈List.take (k-1) (List.drop 1 (dgs n)),c<1114112:=fun c hc=>vm n c (List.mem_of_mem_drop (List.mem_of_mem_take hc))
 have a6:(dgs n).take 1=[c0]:=by
  cases hd:dgs n with
  |nil=>rw[hd]at h1;simp at h1
  |cons c l=>rw[hd]at hc0;simp at hc0;subst hc0;rfl
 have a7:c0<1114112:=vm n c0 (List.mem_of_getElem? hc0)
 have key:∀A B:List Nat,A=sgL b 45->B=sgL (decide (1<k)) 46->xI C [Ex.var 5,Ex.var 6,Ex.var 7,Ex.var 8,Ex.cst (D.str (Str.ofString "e")),Ex.var 1] []
  [some (Sl.sh (D.int n)),some (Sl.sh (D.int P1)),some (Sl.sh (D.int k)),some (Sl.sh (D.bl b)),
   some (Sl.sh (tx (dgs n))),some (Sl.sh (tx A)),some (Sl.sh (tx [c0])),some (Sl.sh (tx B)),
   some (Sl.sh (tx (List.take (k-1) (List.drop 1 (dgs n)))))]
  fun l=>(∀(c:Nat),c∈l->c<1114112)/\qZ.res [D.int n,D.int p,D.int k,D.bl b] (D.str { cps:=l.toArray }):=fun A B hA hB=>by
  have lA:A.length<=1:=by rw[hA,zF];split<;>lia
  have lB:B.length<=1:=by rw[hB,zF];split<;>lia
  have uA:∀c∈A,c<1114112:=fun c hc=>by rw[hA]at hc;unfold sgL at hc;split at hc<;>simp at hc;subst hc;decide
  have uB:∀c∈B,c<1114112:=fun c hc=>by rw[hB]at hc;unfold sgL at hc;split at hc<;>simp at hc;subst hc;decide
  generalize hF:List.take (k-1) (List.drop 1 (dgs n))=F at *
  have ei:=fun(out:List Nat) (P:Str->Prop)=>ex_int (i:=P1) (out:=out) (P:=P) (by lia)
  unfold xI xI xI xI xI xI xI;dsimp! only[st_e,ex_tx,ei,kx]
  have l0:∀a:Nat,a<=100->a<=lim:=fun a h=>by unfold lim;lia
  refine⟨sx A,⟨rfl,by rw[ki];exact l0 _ (by lia)⟩,?_⟩;rw[kx];simp only[List.length_append,List.length_cons,List.length_nil];refine⟨l0 _ (by lia),l0 _ (by lia),l0 _ (by lia),l0 _ (by lia),l0 _ (by lia),fun c hc=>?_,?_⟩
  ·simp only[List.mem_append,List.mem_singleton]at hc;rcases hc with((((z|z)|z)|z)|z)|z
   ·exact uA c z
   ·rw[z];exact a7
   ·exact uB c z
   ·exact a5 c z
   ·rw[z];decide
   ·exact a3 c z
  ·have e:A ++ [c0]++B++F ++ [101]++itS P1=spF n p k b:=by
    unfold spF;rw[a6,hF,<- hP,hA,hB];simp only[List.append_assoc,List.singleton_append,List.cons_append,List.nil_append]
   rw[e];exact fin
 simp_all! only[st_m,Kx,st_p,i0,prt,kD,vN,sl]
 cases b with
 |true =>
  rw[if_pos rfl];by_cases c:1<k
  ·rw[if_pos (by lia)];exact key _ _ rfl (by rw[decide_eq_true c];rfl)
  ·rw[if_neg (by lia)];exact key _ _ rfl (by rw[decide_eq_false c];rfl)
 |false =>
  rw[if_neg (by decide)];by_cases c:1<k
  ·rw[if_pos (by lia)];exact key _ _ rfl (by rw[decide_eq_true c];rfl)
  ·rw[if_neg (by lia)];exact key _ _ rfl (by rw[decide_eq_false c];rfl)
end Z
set_option exponentiation.threshold 3000
namespace Z
open PySem PySem.NumText
abbrev tn(p:Int):Rat:=(10:Rat)^p
theorem ten_ne:(10:Rat)≠0:=by decide
theorem tn_succ(p:Int):tn (p+1)=10*tn p:=by rw[tn,Rat.zpow_add_one ten_ne,Rat.mul_comm]
theorem vz:tn 0=1:=by decide
theorem yR(p q:Int):tn (p+q)=tn p*tn q:=by unfold tn;exact Rat.zpow_add ten_ne ..
theorem qN(n:Nat):tn n=((10^n:Int):Rat):=by
 induction n with
 |zero=>decide
 |succ n ih=>rw[show ((n+1:Nat):Int)=(n:Int)+1 by lia,tn_succ,ih,Int.pow_succ];grind
theorem xm(p:Int):tn (-p)*tn p=1:=by rw[<- yR,show -p+p=0 by lia,vz]
theorem j7(n:Nat):(0:Int)<10^n:=Int.pow_pos (by decide)
theorem vX(p:Int):0<tn p:=by
 have pos:∀n:Nat,0<tn n:=fun n=>by rw[qN];have:=j7 n;exact_mod_cast this
 rcases Int.le_total 0 p with h|h
 ·obtain⟨n,rfl⟩:∃n:Nat,p=n:=⟨p.toNat,by lia⟩
  exact pos n
 ·obtain⟨n,rfl⟩:∃n:Nat,p=-(n:Int):=⟨(-p).toNat,by lia⟩
  have e:=xm (n:Int);have h2:=pos n;generalize ha:tn (-(n:Int))=a at *;generalize hb:tn (n:Int)=b at *;rcases xL 0 a with z|z
  ·exact z
  ·have:=Rat.mul_nonneg (a:=-a) (b:=b) (by grind) (by grind)
   grind
theorem mv_val{x:Int×Int}(h:0<x.2)(p:Int):Rat.divInt (mvF x p).1 (mvF x p).2=Rat.divInt x.1 x.2*tn p:=by
 have hx:(0:Rat)<(x.2:Rat):=by exact_mod_cast h
 have e:=kl (t:=x.1) h;unfold mvF;split
 ·next hp =>
  obtain⟨n,rfl⟩:∃n:Nat,p=-(n:Int):=⟨(-p).toNat,by lia⟩
  rw[show (-(n:Int)).natAbs=n by lia];have h2:0<x.2*10^n:=Int.mul_pos h (j7 n);have e2:=kl (t:=x.1) h2;have e3:=xm (n:Int);rw[Rat.intCast_mul,<- qN]at e2;refine(yx (c:=x.2*tn n) (Rat.mul_pos hx (vX _))).mp ?_;rw[e2]
  grind
 ·next hp =>
  obtain⟨n,rfl⟩:∃n:Nat,p=n:=⟨p.toNat,by lia⟩
  rw[show (n:Int).natAbs=n by lia];have e2:=kl (t:=x.1*10^n) h;rw[Rat.intCast_mul,<- qN]at e2;refine(yx hx).mp ?_;rw[e2]
  grind
theorem mv_pos{x:Int×Int}(h:0<x.2)(p:Int):0<(mvF x p).2:=by
 unfold mvF;split
 ·exact Int.mul_pos h (j7 _)
 ·exact h
theorem le_div{t u:Int}(hu:0<u):(1:Rat)<=Rat.divInt t u ↔ u<=t:=by
 have e:=kl (t:=t) hu
 have hu':(0:Rat)<u:=by exact_mod_cast hu
 rw[<- yr hu',e,Rat.one_mul,Rat.intCast_le_intCast]
theorem rch_iff{x:Int×Int}(h:0<x.2)(p:Int):yy x p=true ↔ tn p<=Rat.divInt x.1 x.2:=by
 unfold yy;rw[decide_eq_true_iff,<- le_div (mv_pos h _),mv_val h,<- yr (vX p),Rat.mul_assoc,xm,Rat.mul_one,Rat.one_mul]
theorem rch_not{x:Int×Int}(h:0<x.2)(p:Int):yy x p=false ↔ Rat.divInt x.1 x.2<tn p:=by
 rw[<- Bool.not_eq_true,rch_iff h]
 grind
structure RndR (r:Rat) (w:Int):Prop where
 lo:2*(r-w)<=1
 hi:2*(w-r)<=1
 ev:(2*(r-w)=1\/2*(w-r)=1)->w%2=0
theorem rnd_is{t u:Int}(hu:0<u):RndR (Rat.divInt t u) (yI t u):=by
 have e:=kl (t:=t) hu
 have hu':(0:Rat)<u:=by exact_mod_cast hu
 have m:=Int.mul_ediv_add_emod t u;have m1:=Int.emod_nonneg t (show u≠0 by lia);have m2:=Int.emod_lt_of_pos t hu
 have c1:∀w:Int,2*(Rat.divInt t u-w)<=1 ↔ 2*(t-w*u)<=u:=fun w=>by
  rw[<- yr hu',<- Rat.intCast_le_intCast];simp only[Rat.intCast_mul,Rat.intCast_sub,Rat.intCast_ofNat]
  grind
 have c2:∀w:Int,2*(w-Rat.divInt t u)<=1 ↔ 2*(w*u-t)<=u:=fun w=>by
  rw[<- yr hu',<- Rat.intCast_le_intCast];simp only[Rat.intCast_mul,Rat.intCast_sub,Rat.intCast_ofNat]
  grind
 have c3:∀w:Int,2*(Rat.divInt t u-w)=1 ↔ 2*(t-w*u)=u:=fun w=>by
  rw[<- yx hu',<- Rat.intCast_inj];simp only[Rat.intCast_mul,Rat.intCast_sub,Rat.intCast_ofNat]
  grind
 have c4:∀w:Int,2*(w-Rat.divInt t u)=1 ↔ 2*(w*u-t)=u:=fun w=>by
  rw[<- yx hu',<- Rat.intCast_inj];simp only[Rat.intCast_mul,Rat.intCast_sub,Rat.intCast_ofNat]
  grind
 have d1:t-t / u*u=t%u:=by rw[Int.mul_comm];lia
 have d2:t-(t / u+1)*u=t%u-u:=by rw[Int.add_mul,Int.mul_comm (t / u)];lia
 have d3:t / u*u-t=-(t%u):=by rw[Int.mul_comm];lia
 have d4:(t / u+1)*u-t=u-t%u:=by rw[Int.add_mul,Int.mul_comm (t / u)];lia
 unfold yI;split
 ·exact⟨(c1 _).mpr (by lia),(c2 _).mpr (by lia),fun z=>by rw[c3,c4]at z;lia⟩
 split
 ·exact⟨(c1 _).mpr (by lia),(c2 _).mpr (by lia),fun z=>by rw[c3,c4]at z;lia⟩
 ·exact⟨(c1 _).mpr (by lia),(c2 _).mpr (by lia),fun z=>by rw[c3,c4]at z;lia⟩
theorem RndR.only{r:Rat}{w d:Int}(h:RndR r w)(h1:2*(r-d)<1)(h2:2*(d-r)<1):w=d:=by
 have a:=h.lo;have b:=h.hi
 have c:((w-1:Int):Rat)<d:=by rw[Rat.intCast_sub];grind
 have e:((d-1:Int):Rat)<w:=by rw[Rat.intCast_sub];grind
 rw[Rat.intCast_lt_intCast]at c e;lia
theorem rq_nq(r:Rat):rq r=nq (r.num,(r.den:Int)):=rfl
theorem spell_wp{n:Nat}{p:Int}{k:Nat}{b:Bool}{Q:D->Prop}{E:XD->Prop}(h1:n<10^61)(h2:-1000<=p)(h3:p<=1000)(h4:1<=k)(h5:k<=60):qZ.wp [.int n,.int p,.int k,.bl b] Q E ↔ Q (tx (spF n p k b)):=by
 constructor
 ·intro w
  refine w.2.1 _ fun n' p' k' b' e=>?_
  simp only[List.cons.injEq,and_true,D.int.injEq,D.bl.injEq]at e;obtain⟨e1,e2,e3,e4⟩:=e
  have:n=n':=by lia
  have:k=k':=by lia
  subst_vars;rfl
 ·intro q;refine⟨⟨n,p,k,b,rfl,h1,h2,h3,h4,h5⟩,fun d e=>?_,fun _ z=>z.elim⟩;rw[e n p k b rfl];exact q
end Z
set_option exponentiation.threshold 3000
namespace Z
open PySem PySem.NumText
theorem vL:∀ {l:List Nat},AllDigits l->(l.map Char.ofNat).map Char.toNat=l
 |[],_=>rfl
 |c::l,h=>by
  have hc:=h.head;rw[List.map_cons,List.map_cons,vL h.tail]
  have:(Char.ofNat c).toNat=c:=by
   have hv:c.isValidChar:=.inl (by lia);unfold Char.ofNat;rw[dif_pos hv];rfl
  rw[this]
theorem Qj{c:Nat}{r:List Nat}(h:AllDigits (c::r))(h1:49<=c):dgs (digitsVal (c::r))=c::r:=by
 unfold dgs;rw[toDigits_digitsVal r.length (c::r) rfl h (.inr ⟨c,r,rfl,h1⟩),vL h]
theorem dgs_ten(k:Nat):dgs (10^k)=49::List.replicate k 48:=by
 rw[<- Jo,Qj (Jn k) (by decide)]
theorem v4(n:Nat):0<n->∃c r,AllDigits (c::r)/\49<=c/\digitsVal (c::r)=n:=by
 induction n using Nat.strongRecOn with
 |ind n ih =>
  intro h0;by_cases h:n<10
  ·refine⟨48+n,[],fun c hc=>?_,by lia,?_⟩
   ·rw[List.mem_singleton]at hc;subst hc;constructor<;>lia
   ·show 0*10+(48+n-48)=n;lia
  ·obtain⟨c,r,a,b,e⟩:=ih (n / 10) (by lia) (by lia);refine⟨c,r ++ [48+n%10],fun x hx=>?_,b,?_⟩
   ·rw[<- List.cons_append]at hx;rcases List.mem_append.mp hx with z|z
    ·exact a x z
    ·rw[List.mem_singleton]at z;subst z;constructor<;>lia
   ·rw[<- List.cons_append,digitsVal_snoc,e];lia
theorem yX(n:Nat):AllDigits (dgs n)/\digitsVal (dgs n)=n:=by
 by_cases h:0<n
 ·obtain⟨c,r,a,b,rfl⟩:=v4 n h;rw[Qj a b];exact⟨a,rfl⟩
 ·have:n=0:=by lia
  subst this
  have e:dgs 0=[48]:=by decide
  rw[e];exact⟨fun c hc=>by rw[List.mem_singleton]at hc;subst hc;decide,rfl⟩
noncomputable def eP(e:Int):Option (Bool×List Nat):=some (decide (e<0),dgs e.natAbs)
theorem eP_l(e:Int):exL (eP e)=101::itS e:=by
 unfold eP exL itS;by_cases h:e<0
 ·simp[h]
 ·simp[h]
theorem eP_v(e:Int):exV (eP e)=e:=by
 unfold eP exV;simp only[(yX _).2];by_cases h:e<0
 ·simp only[h,decide_true,if_true];lia
 ·simp only[h,decide_false,Bool.false_eq_true,if_false];lia
theorem eP_ok{e:Int}(h:e.natAbs<1000):exOk (eP e):=⟨(yX _).1,KD _,uK (by decide) h⟩
structure FigOk (l:List Nat) (k:Nat):Prop where
 ad:AllDigits l
 hd:∃c r,l=c::r/\49<=c
 ln:l.length=k
theorem sp_fig{l:List Nat}{k:Nat}(h:FigOk l k)(e:Int)(b:Bool):spF (digitsVal l) e k b=txL b (l.take 1) (decide (1<k)) (l.drop 1) (eP e):=by
 obtain⟨c,r,rfl,hc⟩:=h.hd;have hl:=h.ln;unfold spF txL;rw[Qj h.ad hc,if_neg (by lia),eP_l,List.take_of_length_le (l:=List.drop 1 (c::r)) (by rw[List.length_drop];lia)]
theorem sp_up{k:Nat}(hk:1<=k)(e:Int)(b:Bool):spF (10^k) (e-1) k b=spF (10^(k-1)) e k b:=by
 unfold spF
 have e1:((List.replicate k 48).take (k-1))=((List.replicate (k-1) 48).take (k-1)):=by
  rw[List.take_replicate,List.take_replicate];congr 1;lia
 rw[dgs_ten,dgs_ten,if_pos (by simp),if_neg (by simp;lia)];simp only[List.take_succ_cons,List.take_zero,List.drop_succ_cons,List.drop_zero,e1];rw[show e-1+1=e by lia]
theorem fig_tx{l:List Nat}{k:Nat}(h:FigOk l k)(h40:k<=40){e:Int}(he:e.natAbs<1000):TxOk (decide (1<k)) (l.take 1) (l.drop 1) (eP e):=by
 obtain⟨c,r,rfl,hc⟩:=h.hd;have hl:=h.ln;rw[List.length_cons]at hl;refine⟨fun x hx=>h.ad x (List.mem_of_mem_take hx),fun x hx=>h.ad x (List.mem_of_mem_drop hx),?_,?_,fun z=>?_,eP_ok he⟩
 ·simp
 ·simp;lia
 ·have:=of_decide_eq_false z;refine List.eq_nil_of_length_eq_zero ?_;rw[List.length_drop,List.length_cons];lia
theorem tt_val(w p:Int):ttF w p=w*tn p:=by
 unfold ttF;split
 ·next hp =>
  obtain⟨n,rfl⟩:∃n:Nat,p=-(n:Int):=⟨(-p).toNat,by lia⟩
  rw[show (-(n:Int)).natAbs=n by lia];have e2:=kl (t:=w) (j7 n);have e3:=xm (n:Int);rw[<- qN]at e2;refine(yx (vX n)).mp ?_;rw[e2]
  grind
 ·next hp =>
  obtain⟨n,rfl⟩:∃n:Nat,p=n:=⟨p.toNat,by lia⟩
  rw[show (n:Int).natAbs=n by lia,qN];have:=kl (t:=w*10^n) (u:=1) (by decide);rw[Rat.intCast_mul]at this;simpa using this
noncomputable def rdF(l:List Nat)(e:Int)(b:Bool):Rat:=ttF (sgV b (digitsVal l)) (e-(l.drop 1).length)
theorem rd_val{l:List Nat}{k:Nat}(h:FigOk l k)(e:Int)(b:Bool):rdF l e b=if b then -(digitsVal l*tn (e-(k-1))) else digitsVal l*tn (e-(k-1)):=by
 unfold rdF;have hl:=h.ln;obtain⟨c,r,rfl,hc⟩:=h.hd;rw[tt_val]
 have:e-(((c::r).drop 1).length:Int)=e-(k-1):=by
  rw[List.length_drop];rw[List.length_cons]at hl ⊢;lia
 rw[this];unfold sgV;cases b
 ·simp only[Bool.false_eq_true,if_false,Rat.intCast_natCast]
 ·simp only[if_true,Rat.intCast_neg,Rat.intCast_natCast];grind
end Z
set_option exponentiation.threshold 3000
namespace Z
open PySem PySem.NumText
theorem apart{n:Nat}{x y:Int×Int}(hn:1<=n)(hx:Num n x.1 x.2)(hy:Num n y.1 y.2)(x0:0<vr x)(y0:0<vr y)
 (h1:((2^n:Int):Rat)*(vr x-vr y)<vr x) (h2:((2^n:Int):Rat)*(vr y-vr x)<vr x):vr x=vr y:=by
 obtain⟨w,p,c,ex⟩:=KC hn hx x0;obtain⟨v,q,d,ey⟩:=KC hn hy y0;have A0:=two_pow_pos n
 have A0':(0:Rat)<((2^n:Int):Rat):=by exact_mod_cast A0
 have e2:(2:Int)^n=2*2^(n-1):=by
  obtain⟨m,rfl⟩:∃m,n=m+1:=⟨n-1,by lia⟩
  rw[Nat.add_sub_cancel,Int.pow_succ];lia
 rw[ex,ey]at h1 h2 ⊢;rcases Int.lt_or_le q p with z|z
 ·exfalso
  obtain⟨j,rfl⟩:∃j:Nat,p=q+1+j:=⟨(p-q-1).toNat,by lia⟩
  have tq:=j8 q
  have t1:2*tw q<=tw (q+1+j):=by
   have:=tw_le (p:=q+1) (q:=q+1+j) (by lia);rw[zg]at this;exact this
  have l1:((2^(n-1):Int):Rat)*tw (q+1+j)<=w*tw (q+1+j):=jK (ku c.lo) (j8 _);have l2:(v:Rat)*tw q<=((2^n-1:Int):Rat)*tw q:=jK (ku (by have:=d.hi;lia)) tq
  have m0:(0:Rat)<((2^(n-1):Int):Rat):=by have:=two_pow_pos (n-1);exact_mod_cast this
  have m1:(1:Rat)<=((2^n:Int):Rat):=by exact_mod_cast (show (1:Int)<=2^n by lia)
  have l3:=jK t1 m0
  have eA:((2^n:Int):Rat)=2*((2^(n-1):Int):Rat):=by rw[e2,Rat.intCast_mul];rfl
  rw[Rat.intCast_sub]at l2;clear c d ex ey x0 y0 hx hy t1 h2 e2 A0;generalize (w:Rat)*tw (q+1+j)=X at *;generalize (v:Rat)*tw q=Y at *;generalize tw q=T at *;generalize tw (q+1+j)=T' at *;generalize ((2^(n-1):Int):Rat)=m at *;generalize ((2^n:Int):Rat)=A at *
  have q1:A*T<=X:=by
   have e:A*T=2*T*m:=by rw[eA];grind
   rw[e];rw[Rat.mul_comm m]at l1;exact Rat.le_trans l3 l1
  have q2:=jK l2 A0'
  have q3:(A*T)*(A-1)<=X*(A-1):=by
   rcases xL 1 A with y|y
   ·exact jK q1 (by grind)
   ·have:A=1:=by grind
    subst this;grind
  grind
 ·obtain⟨j,rfl⟩:∃j:Nat,q=p+j:=⟨(q-p).toNat,by lia⟩
  have tp:=j8 p;have ev:(v:Rat)*tw (p+j)=((v*2^j:Int):Rat)*tw p:=Ko.symm;rw[ev]at h1 h2 ⊢;generalize v*2^j=V at *
  have hw:(w:Rat)*tw p<((2^n:Int):Rat)*tw p:=by rw[xb tp];exact_mod_cast c.hi
  have k1:((2^n:Int):Rat)*((w-V:Int):Rat)*tw p<((2^n:Int):Rat)*tw p:=by rw[Rat.intCast_sub];grind
  have k2:((2^n:Int):Rat)*((V-w:Int):Rat)*tw p<((2^n:Int):Rat)*tw p:=by rw[Rat.intCast_sub];grind
  rw[<- Rat.intCast_mul,xb tp,Rat.intCast_lt_intCast]at k1 k2
  have k3:w-V<1:=by
   rcases Int.lt_or_le (w-V) 1 with y|y
   ·exact y
   ·have:=Int.mul_le_mul_of_nonneg_left y (show 0<=(2:Int)^n by lia);lia
  have k4:V-w<1:=by
   rcases Int.lt_or_le (V-w) 1 with y|y
   ·exact y
   ·have:=Int.mul_le_mul_of_nonneg_left y (show 0<=(2:Int)^n by lia);lia
  rw[show w=V by lia]
theorem num_oddP{n:Nat}{x:Int×Int}(h:Num n x.1 x.2):Jz x:=h.odd
theorem close_near{n:Nat}{x:Int×Int}{R:Rat}(hn:1<=n)(hx:Num n x.1 x.2)(x0:0<vr x)(hR:0<R)
 (c1:2*((2^n:Int):Rat)*(vr x-R)<vr x) (c2:2*((2^n:Int):Rat)*(R-vr x)<vr x):jo n R=x:=by
 have nr:=nearest (r:=R) hn hx;have y0:=vr_near_pos hn hR
 have A0':(0:Rat)<((2^n:Int):Rat):=by have:=two_pow_pos n;exact_mod_cast this
 refine odd_unique (near_odd hn) (num_oddP hx) (apart hn hx (vY hn) x0 y0 ?_ ?_).symm
 all_goals
  obtain⟨g1,g2⟩:=rabs_ge nr;clear nr hx;generalize vr (jo n R)=Y at *;generalize vr x=X at *;generalize ((2^n:Int):Rat)=A at *
  have b:(R-X).abs=R-X\/(R-X).abs=X-R:=by
   unfold Rat.abs;split
   ·exact .inl rfl
   ·exact .inr (by grind)
  rcases b with b|b
  all_goals
   rw[b]at g1 g2;have m1:=jK g1 A0';have m2:=jK g2 A0'
   grind
theorem fig_of{n k:Nat}(hk:1<=k)(h1:10^(k-1)<=n)(h2:n<10^k):FigOk (dgs n) k:=by
 have p0:0<10^(k-1):=Nat.pow_pos (by decide);obtain⟨c,r,a,b,e⟩:=v4 n (by lia);subst e;have dl:=uK hk h2;rw[Qj a b]at dl ⊢;refine⟨a,⟨c,r,rfl,b⟩,?_⟩;have u:=x5 _ a;rcases Nat.lt_or_ge (c::r).length k with z|z
 ·have:10^(c::r).length<=10^(k-1):=Nat.pow_le_pow_right (by decide) (by lia);lia
 ·lia
theorem back_eq{R N a b:Rat}(h:a*b=1):2*(R*a-N)*b=2*(R-N*b):=by
 have:R*a*b=R:=by rw[Rat.mul_assoc,h,Rat.mul_one]
 grind
theorem back_eq2{R N a b:Rat}(h:a*b=1):2*(N-R*a)*b=2*(N*b-R):=by
 have:R*a*b=R:=by rw[Rat.mul_assoc,h,Rat.mul_one]
 grind
end Z
set_option exponentiation.threshold 3000
namespace Z
open PySem PySem.NumText
noncomputable def uL:Sm :=
 (.seq (.set 1 (.cst (.int 1)))
 (.seq (.set 2 (.cst (.int 10)))
 (.seq (.whl (.cmp .gt (.var 0) (.cst (.int 0))) (.seq (.ite (.cmp .eq (.bin .mod (.var 0) (.cst (.int 2))) (.cst (.int 1))) (.seq (.set 1 (.bin .mul (.var 1) (.var 2)))
  .nop) .nop)
  (.seq (.set 2 (.bin .mul (.var 2) (.var 2)))
  (.seq (.set 0 (.bin .fdiv (.var 0) (.cst (.int 2))))
  .nop))))
 (.seq (.ret (.var 1))
 .nop))))
theorem k_lten{C:Cfg}:jC C 3 uL kq:=by
 rintro ds h;simp only[kq]at h;split at h
 case h_2=>exact h.elim
 next n =>
 obtain⟨n,rfl⟩:∃m:Nat,n=m:=⟨n.toNat,by lia⟩
 have hn:n<=1100:=by lia
 simp_all_arith! only[uL,kq,Int.toNat_natCast]
 refine qJ (fun σ=>∃j:Nat,2^j<=2*n+2/\σ=[some (.sh (.int ((n / 2^j:Nat):Int))),some (.sh (.int (10^(n%2^j)))),some (.sh (.int (10^(2^j))))]) (fun σ=>(xu σ 0).toNat) ?_ ?_
 ·refine⟨0,by lia,?_⟩;simp[Nat.mod_one]
 ·rintro σ ⟨j,hj,rfl⟩
  simp_all_arith! only[xu]
  by_cases h0:0<n / 2^j
  ·rw[if_pos (by lia)]
   have hle:2^j<=n:=by
    rcases Nat.lt_or_ge n (2^j) with h|h
    ·rw[Nat.div_eq_of_lt h]at h0;lia
    ·exact h
   have e1:((n / 2^j:Nat):Int).fmod 2=((n / 2^j%2:Nat):Int):=by rw[ji (by decide)];lia
   have e2:((n / 2^j:Nat):Int).fdiv 2=((n / 2^(j+1):Nat):Int):=by
    rw[jr (by decide),Nat.pow_succ,<- Nat.div_div_eq_div_mul];lia
   have e3:(10:Int)^2^j*10^2^j=10^2^(j+1):=by rw[<- Int.pow_add,Nat.pow_succ];congr 1;lia
   have m2:zm ((10:Int)^2^j) (10^2^j):=jJ (by have:=j4 (2^j);lia)
   have lt:(((n / 2^(j+1):Nat):Int)).toNat<(((n / 2^j:Nat):Int)).toNat:=by
    have:n / 2^(j+1)<n / 2^j:=by rw[Nat.pow_succ,<- Nat.div_div_eq_div_mul];lia
    lia
   have hj':2^(j+1)<=2*n+2:=by rw[Nat.pow_succ];lia
   rw[e1,e2,e3]
   have dec:n%2^(j+1)=n%2^j+2^j*(n / 2^j%2):=by rw[Nat.pow_succ,Nat.mod_mul]
   by_cases ho:n / 2^j%2=1
   ·rw[if_pos (by lia)]
    have e4:(10:Int)^(n%2^j)*10^2^j=10^(n%2^(j+1)):=by rw[<- Int.pow_add,dec,ho];congr 1;lia
    have hm:n%2^j<2^j:=Nat.mod_lt _ (Nat.two_pow_pos j);have m1:zm ((10:Int)^(n%2^j)) (10^2^j):=jJ (by have:=j4 (2^j);have:=j4 (n%2^j);lia);exact⟨m1,m2,by decide,lt,j+1,hj',by rw[e4]⟩
   ·rw[if_neg (by lia)]
    have e4:n%2^(j+1)=n%2^j:=by
     have:n / 2^j%2=0:=by lia
     rw[dec,this];lia
    exact⟨m2,by decide,lt,j+1,hj',by rw[e4]⟩
  ·rw[if_neg (by lia)]
   have:n<2^j:=by
    rcases Nat.lt_or_ge n (2^j) with h|h
    ·exact h
    ·have:=Nat.div_pos h (Nat.two_pow_pos j);lia
   rw[Nat.mod_eq_of_lt this]
theorem st_fig:D.str (Str.ofString "0123456789")=tx FIG:=congrArg D.str (by decide +kernel)
theorem we_or{C:Cfg}{a b:Ex}{σ:Sto}{Q:D->Prop}:wpE C (.or a b) σ Q ↔ wpE C a σ (isB fun k=>if k=true then Q (.bl true) else wpE C b σ Q):=by
 rw[wE_or];exact⟨ja a fun x w=>by cases x<;>exact w,ja a fun x w=>by cases x<;>exact w⟩
theorem we_and{C:Cfg}{a b:Ex}{σ:Sto}{Q:D->Prop}:wpE C (.and a b) σ Q ↔ wpE C a σ (isB fun k=>if k=true then wpE C b σ Q else Q (.bl false)):=by
 rw[wE_and];exact⟨ja a fun x w=>by cases x<;>exact w,ja a fun x w=>by cases x<;>exact w⟩
end Z
set_option exponentiation.threshold 3000
namespace Z
open PySem PySem.NumText
noncomputable def yn(i_near i_times_ten_to:Nat):Sm :=
 (.seq (.ret (.cmp .eq (.call i_near [(.call i_times_ten_to [(.tup [(.var 0),(.cst (.int 1))]),(.var 1)]),(.var 3)]) (.var 2)))
 .nop)
noncomputable def ux(i_wholes_around i_value i_is_read_as:Nat):Sm :=
 (.seq (.set 4 (.call i_wholes_around [(.call i_value [(.var 0)]),(.var 2),(.var 3)]))
 (.seq (.ret (.compF (.var 4) (.call i_is_read_as [(.var 5),(.bin .add (.bin .sub (.var 2) (.var 3)) (.cst (.int 1))),(.var 0),(.var 1)]) (.var 5)))
 .nop))
noncomputable def zB(i_first_power i_value i_read_as i_spelled:Nat):Sm :=
 (.seq (.ite (.cmp .eq (.ix (.var 0) (.cst (.int 0))) (.cst (.int 0))) (.seq (.ret (.cst (.str "0")))
  .nop) .nop)
 (.seq (.set 2 (.tup [(.bi .abs [(.ix (.var 0) (.cst (.int 0)))]),(.ix (.var 0) (.cst (.int 1)))]))
 (.seq (.set 3 (.call i_first_power [(.call i_value [(.var 2)])]))
 (.seq (.set 4 (.cst (.int 1)))
 (.seq (.set 5 (.call i_read_as [(.var 2),(.var 1),(.var 3),(.var 4)]))
 (.seq (.whl (.cmp .eq (.bi .len [(.var 5)]) (.cst (.int 0))) (.seq (.set 4 (.bin .add (.var 4) (.cst (.int 1))))
  (.seq (.set 5 (.call i_read_as [(.var 2),(.var 1),(.var 3),(.var 4)]))
  .nop)))
 (.seq (.ret (.call i_spelled [(.ix (.var 5) (.cst (.int 0))),(.var 3),(.var 4),(.cmp .lt (.ix (.var 0) (.cst (.int 0))) (.cst (.int 0)))]))
 .nop)))))))
theorem nearF_eq{n:Nat}{t u:Int}(hn:1<=n)(ht:0<t)(hu:0<u):qF n t u=jo n (Rat.divInt t u):=by
 have e:=kl (t:=t) hu
 have hu':(0:Rat)<u:=by exact_mod_cast hu
 have pos:0<Rat.divInt t u:=by
  refine(xb hu').mp ?_;rw[e,Rat.zero_mul]
  exact_mod_cast ht
 rw[vT hn pos (Jm hn ht hu)];unfold qF;rw[if_neg (by lia),if_neg (by lia)]
theorem mv_int(w p:Int):Rat.divInt (mvF (w,1) p).1 (mvF (w,1) p).2=w*tn p:=by
 rw[mv_val (show (0:Int)<1 by decide)];congr 1;have:=kl (t:=w) (u:=1) (by decide);simpa using this
noncomputable def qS:Ctr where
 pre ds:=∃(w p:Int) (x:Int×Int) (n:Nat),ds=[.int w,.int p,nq x,.int n]/\(0<w/\bits w<=400)/\(-400<=p/\p<=400)/\8<=n/\n<=64
 res ds d:=∀(w p:Int) (x:Int×Int) (n:Nat),ds=[.int w,.int p,nq x,.int n]->d=.bl (decide (jo n (w*tn p)=x))
theorem inj_ra{w w' p p':Int}{x x':Int×Int}{n n':Nat}(e:[D.int w,.int p,nq x,.int n]=[D.int w',.int p',nq x',.int n']):w=w'/\p=p'/\x=x'/\n=n':=by
 simp only[List.cons.injEq,and_true,D.int.injEq]at e;exact⟨e.1,e.2.1,xh e.2.2.1,by lia⟩
theorem Jx{w p:Int}{x:Int×Int}{n:Nat}{Q:D->Prop}{E:XD->Prop}(h1:0<w)(h2:bits w<=400)(h3:-400<=p)(h4:p<=400)(h5:8<=n)(h6:n<=64):qS.wp [.int w,.int p,nq x,.int n] Q E ↔ Q (.bl (decide (jo n (w*tn p)=x))) :=
 ⟨fun z=>z.2.1 _ fun w' p' x' n' e=>by obtain⟨rfl,rfl,rfl,rfl⟩:=inj_ra e;rfl,fun q=>⟨⟨w,p,x,n,rfl,⟨h1,h2⟩,⟨h3,h4⟩,h5,h6⟩,fun d e=>by rw[e w p x n rfl];exact q,fun _ z=>z.elim⟩⟩
theorem wp_nearF{n:Nat}{x:Int×Int}{Q:D->Prop}{E:XD->Prop}(hu:0<x.2)(b1:bits x.1<=4400)(b2:bits x.2<=4400)(h1:8<=n)(h2:n<=64):xJ.wp [nq x,.int n] Q E ↔ Q (nq (qF n x.1 x.2)):=by
 unfold Ctr.wp xJ nq;simp only[Int.toNat_natCast];exact⟨fun w=>w.2.1 _ rfl,fun q=>⟨⟨hu,by lia,b1,b2⟩,fun d e=>by rw[e];exact q,fun x z=>z.elim⟩⟩
theorem mv1_bits{w p:Int}(h0:0<w)(h:bits w<=400)(h1:-400<=p)(h2:p<=400):0<(mvF (w,1) p).1/\0<(mvF (w,1) p).2/\bits (mvF (w,1) p).1<=4000/\bits (mvF (w,1) p).2<=4000:=by
 have bt:=j4 p.natAbs;have tp:=j7 p.natAbs
 have b1:bits (1:Int)=1:=by decide
 have m1:=j5 1 (10^p.natAbs);have m2:=j5 w (10^p.natAbs);unfold mvF;split
 ·exact⟨h0,Int.mul_pos (show (0:Int)<1 by decide) tp,by simp only[];lia,by simp only[];lia⟩
 ·exact⟨Int.mul_pos h0 tp,show (0:Int)<1 by decide,by simp only[];lia,by simp only[];lia⟩
theorem Ks{C:Cfg}{i1 i2:Nat}(h1:C.ct i1=xJ)(h2:C.ct i2=jS):jC C 4 (yn i1 i2) qS:=by
 rintro ds ⟨w,p,x,n,rfl,⟨w0,w1⟩,⟨p1,p2⟩,n1,n2⟩;rw[yn];obtain⟨m1,m2,m3,m4⟩:=mv1_bits w0 w1 p1 p2
 have b1:bits (1:Int)=1:=by decide
 have wt:=fun Q E=>qI (x:=(w,1)) (p:=p) (Q:=Q) (E:=E) (by lia) (by simp only[];lia) (by lia) (by lia)
 have wn:=fun Q E=>wp_nearF (n:=n) (x:=mvF (w,1) p) (Q:=Q) (E:=E) m2 (by lia) (by lia) n1 n2
 simp_all! only[zY,h1,h2,wt,wn,zz,Jc];intro w' p' x' n' e;obtain⟨rfl,rfl,rfl,rfl⟩:=inj_ra e;rw[nearF_eq (by lia) m1 m2,mv_int]
theorem cand_or{t u w:Int}(h:w∈yI t u::z7 t u):w=t / u\/w=t / u+1:=by
 unfold yI z7 at h;by_cases z:t%u=0
 ·rw[if_pos z,if_pos z]at h;simp at h;exact .inl h
 ·rw[if_neg z,if_neg z]at h;by_cases y:u<2*(t%u)\/2*(t%u)=u/\t / u%2=1
  ·rw[if_pos y,if_pos y]at h;simp at h;exact h.symm
  ·rw[if_neg y,if_neg y]at h;simp at h;exact h
theorem cand_all{t u:Int}(h:t%u≠0):t / u∈yI t u::z7 t u/\t / u+1∈yI t u::z7 t u:=by
 unfold yI z7;rw[if_neg h,if_neg h];by_cases y:u<2*(t%u)\/2*(t%u)=u/\t / u%2=1
 ·rw[if_pos y,if_pos y];simp
 ·rw[if_neg y,if_neg y];simp
theorem cand_one{t u:Int}(h:t%u=0):t / u∈yI t u::z7 t u:=by
 unfold yI z7;rw[if_pos h,if_pos h];simp
theorem vQ{t u:Int}(hu:0<u):((t / u:Int):Rat)<=Rat.divInt t u/\Rat.divInt t u<((t / u:Int):Rat)+1:=by
 have e:=kl (t:=t) hu
 have hu':(0:Rat)<u:=by exact_mod_cast hu
 have m:=Int.mul_ediv_add_emod t u;have m1:=Int.emod_nonneg t (show u≠0 by lia);have m2:=Int.emod_lt_of_pos t hu;constructor
 ·refine(yr hu').mp ?_;rw[e,<- Rat.intCast_mul];exact ku (by rw[Int.mul_comm];lia)
 ·refine(xb hu').mp ?_
  have:t<(t / u+1)*u:=by rw[Int.add_mul,Int.mul_comm (t / u)];lia
  rw[e]
  have h2:(t:Rat)<(((t / u+1)*u:Int):Rat):=by exact_mod_cast this
  rw[Rat.intCast_mul,Rat.intCast_add]at h2;exact h2
theorem floor_one{r:Rat}{f g:Int}(h1:(f:Rat)<=r)(h2:r<f+1)(g1:(g:Rat)<=r)(g2:r<g+1):f=g:=by
 have a:(f:Rat)<((g+1:Int):Rat):=by rw[Rat.intCast_add];grind
 have b:(g:Rat)<((f+1:Int):Rat):=by rw[Rat.intCast_add];grind
 rw[Rat.intCast_lt_intCast]at a b;lia
noncomputable def cnd(y:Int×Int)(P:Int)(k:Nat):List Int:=yI (mvF y (k-1-P)).1 (mvF y (k-1-P)).2::z7 (mvF y (k-1-P)).1 (mvF y (k-1-P)).2
noncomputable def vp(x:Int×Int):Int×Int:=((vr x).num,((vr x).den:Int))
structure RaOk (n:Nat) (x:Int×Int) (P:Int):Prop where
 ok:OkN n 963 x
 n1:8<=n
 n2:n<=64
 pos:0<vr x
 p1:tn P<=vr x
 p2:vr x<tn (P+1)
 q1:-332<=P
 q2:P<=331
theorem RaOk.sz{n:Nat}{x:Int×Int}{P:Int}(h:RaOk n x P):SzOk (vp x):=by
 have s:=(szr_vr h.ok h.n2).mono (show _<=1100 by decide);exact⟨vo.mpr h.pos,zZ _,s.1,s.2⟩
theorem RaOk.val{n:Nat}{x:Int×Int}{P:Int}(h:RaOk n x P)(k:Nat):Rat.divInt (mvF (vp x) (k-1-P)).1 (mvF (vp x) (k-1-P)).2=vr x*tn (k-1-P):=by
 rw[mv_val h.sz.p2];congr 1;exact(rat_eq _).symm
theorem RaOk.fl{n:Nat}{x:Int×Int}{P:Int}(h:RaOk n x P){k:Nat}(hk:1<=k){f:Int}(f1:(f:Rat)<=vr x*tn (k-1-P))(f2:vr x*tn (k-1-P)<f+1):10^(k-1)<=f/\f<10^k:=by
 have t:=vX (k-1-P)
 have e1:tn P*tn (k-1-P)=((10^(k-1):Int):Rat):=by
  rw[<- yR,<- qN];congr 1;lia
 have e2:tn (P+1)*tn (k-1-P)=((10^k:Int):Rat):=by
  rw[<- yR,<- qN];congr 1;lia
 have a:=jK h.p1 t;have b:=vK h.p2 t;rw[e1]at a;rw[e2]at b;constructor
 ·have:((10^(k-1):Int):Rat)<((f+1:Int):Rat):=by rw[Rat.intCast_add];grind
  rw[Rat.intCast_lt_intCast]at this;lia
 ·have:(f:Rat)<((10^k:Int):Rat):=by grind
  rw[Rat.intCast_lt_intCast]at this;exact this
theorem RaOk.cd{n:Nat}{x:Int×Int}{P:Int}(h:RaOk n x P){k:Nat}(hk:1<=k)(hk2:k<=60):0<(mvF (vp x) (k-1-P)).2/\∀w∈cnd (vp x) P k,10^(k-1)<=w/\w<=10^k/\0<w/\bits w<=400:=by
 have q1:=h.q1;have q2:=h.q2;obtain⟨m1,m2,m3,m4⟩:=mv_bits (p:=k-1-P) h.sz (by lia);refine⟨m4,fun w hw=>?_⟩;have f:=vQ (t:=(mvF (vp x) (k-1-P)).1) m4;rw[h.val]at f;have g:=h.fl hk f.1 f.2;have t0:=j7 (k-1)
 have r:10^(k-1)<=w/\w<=10^k:=by
  rcases cand_or hw with e|e<;>rw[e]<;>lia
 refine⟨r.1,r.2,by lia,jg.mpr ?_⟩
 have a:(10:Int)^k<=10^60:=by
  have:(10:Nat)^k<=10^60:=Nat.pow_le_pow_right (by decide) hk2
  exact_mod_cast this
 have c:(10:Int)^60<2^400:=by decide +kernel
 have d:((2^400:Nat):Int)=2^400:=by simp
 generalize (2:Nat)^400=B at *;generalize (2:Int)^400=B' at *;generalize (10:Int)^60=B'' at *;lia
noncomputable def xQ:Ctr where
 pre ds:=∃(x:Int×Int) (n:Nat) (P:Int) (k:Nat),ds=[nq x,.int n,.int P,.int k]/\RaOk n x P/\1<=k/\k<=60
 res ds d:=∀(x:Int×Int) (n:Nat) (P:Int) (k:Nat),ds=[nq x,.int n,.int P,.int k]->d=.lst (((cnd (vp x) P k).filter fun w:Int=>decide (jo n (w*tn (P-k+1))=x)).map .int)
theorem inj_rd{x x':Int×Int}{n n':Nat}{P P':Int}{k k':Nat}(e:[nq x,D.int n,.int P,.int k]=[nq x',D.int n',.int P',.int k']):x=x'/\n=n'/\P=P'/\k=k':=by
 simp only[List.cons.injEq,and_true,D.int.injEq]at e;exact⟨xh e.1,by lia,e.2.2.1,by lia⟩
theorem wp_read_as{x:Int×Int}{n:Nat}{P:Int}{k:Nat}{Q:D->Prop}{E:XD->Prop}(h:RaOk n x P)(h1:1<=k)(h2:k<=60):xQ.wp [nq x,.int n,.int P,.int k] Q E ↔ Q (.lst (((cnd (vp x) P k).filter fun w:Int=>decide (jo n (w*tn (P-k+1))=x)).map .int)) :=
 ⟨fun z=>z.2.1 _ fun x' n' P' k' e=>by obtain⟨rfl,rfl,rfl,rfl⟩:=inj_rd e;rfl,fun q=>⟨⟨x,n,P,k,rfl,h,h1,h2⟩,fun d e=>by rw[e x n P k rfl];exact q,fun _ z=>z.elim⟩⟩
theorem u7{p:D->(Bool->Prop)->Prop}{f:D->(D->Prop)->Prop}{t:Int->Bool}:∀ {l:List Int} {Q:List D->Prop},(∀a∈l,∀Q,p (.int a) Q ↔ Q (t a))->(∀a∈l,∀Q,f (.int a) Q ↔ Q (.int a))->(qk p f (l.map .int) Q ↔ Q ((l.filter t).map .int))
 |[],Q,_,_=>by simp[qk]
 |a::l,Q,k1,k2=>by
  rw[List.map_cons,qk,k1 a (List.mem_cons_self ..)]
  have ih:=fun Q=>u7 (p:=p) (f:=f) (t:=t) (l:=l) (Q:=Q) (fun b hb=>k1 b (List.mem_cons_of_mem _ hb)) fun b hb=>k2 b (List.mem_cons_of_mem _ hb)
  cases ht:t a with
  |true =>
   rw[if_pos rfl,k2 a (List.mem_cons_self ..),ih,List.filter_cons_of_pos ht,List.map_cons]
  |false =>
   rw[if_neg (by decide),ih,List.filter_cons_of_neg (by rw[ht];decide)]
theorem k_read_as{C:Cfg}{i1 i2 i3:Nat}(h1:C.ct i1=jV)(h2:C.ct i2=xC)(h3:C.ct i3=qS):jC C 5 (ux i1 i2 i3) xQ:=by
 rintro ds ⟨x,n,P,k,rfl,h,k1,k2⟩;rw[ux];have q1:=h.q1;have q2:=h.q2
 have wv:=fun Q X=>wp_value (Q:=Q) (E:=X) h.ok h.n2 (by decide)
 have wa:=fun Q X=>uO (x:=vp x) (p:=P) (k:=k) (Q:=Q) (E:=X) h.sz q1 q2 (by lia) (by lia)
 obtain⟨m4,cd⟩:=h.cd k1 k2;simp_all! only[h1,h2,wv,rq_nq];show jV.wp [nq (vp x),.int P,.int k] _ _;rw[wa];refine⟨(cnd (vp x) P k).map .int,rfl,by rw[List.length_map];unfold cnd;rw[List.length_cons];unfold z7 lim;split<;>(try split)<;>simp,?_⟩;rw[u7 (t:=fun w=>decide (jo n (w*tn (P-k+1))=x))]
 ·intro x' n' P' k' e;obtain⟨rfl,rfl,rfl,rfl⟩:=inj_rd e;rfl
 ·intro a ha Q;obtain⟨c1,c2,c3,c4⟩:=cd a ha
  have wr:=fun Q X=>Jx (w:=a) (p:=P-k+1) (x:=x) (n:=n) (Q:=Q) (E:=X) c3 c4 (by lia) (by lia) h.n1 h.n2
  dsimp! only[h3,wr]
 ·intro a ha Q;dsimp! only[]
theorem enough_one{n:Nat}{x:Int×Int}{P:Int}{k:Nat}{w:Int}(h:RaOk n x P)(hk:1<=k)(hN:(2:Int)^n<10^(k-1))(hr:RndR (vr x*tn (k-1-P)) w)(w0:0<w):jo n (w*tn (P-k+1))=x:=by
 have t:=vX (P-k+1)
 have t1:tn (k-1-P)*tn (P-k+1)=1:=by rw[<- yR,show (k:Int)-1-P+(P-k+1)=0 by lia,vz]
 have u1:=jK hr.lo t;have u2:=jK hr.hi t;rw[back_eq t1,Rat.one_mul]at u1;rw[back_eq2 t1,Rat.one_mul]at u2
 have tN:tn P=((10^(k-1):Int):Rat)*tn (P-k+1):=by
  rw[<- qN,<- yR];congr 1;lia
 have hA:((2^n:Int):Rat)<((10^(k-1):Int):Rat):=by exact_mod_cast hN
 have A0':(0:Rat)<((2^n:Int):Rat):=by have:=two_pow_pos n;exact_mod_cast this
 have key:=vK hA t;rw[<- tN]at key;have p1:=h.p1;have m1:=jK u1 A0';have m2:=jK u2 A0';have R0:0<(w:Rat)*tn (P-k+1):=Rat.mul_pos (by exact_mod_cast w0) t;refine close_near (by have:=h.n1;lia) h.ok.num h.pos R0 ?_ ?_
 ·clear tN hN hr u1 u2;generalize (w:Rat)*tn (P-k+1)=R at *;generalize tn (P-k+1)=T at *;generalize ((2^n:Int):Rat)=A at *;generalize vr x=X at *
  grind
 ·clear tN hN hr u1 u2;generalize (w:Rat)*tn (P-k+1)=R at *;generalize tn (P-k+1)=T at *;generalize ((2^n:Int):Rat)=A at *;generalize vr x=X at *
  grind
structure BriAt (n:Nat) (x:Int×Int) (P:Int) (k:Nat) (w:Int):Prop where
 ra:RaOk n x P
 k1:1<=k
 k2:k<=21
 wf:∃f:Int,(f:Rat)<=vr x*tn (k-1-P)/\vr x*tn (k-1-P)<f+1/\(w=f\/w=f+1)
 rd:jo n (w*tn (P-k+1))=x
 pr:RndR (vr x*tn (k-1-P)) w\/∀v:Int,RndR (vr x*tn (k-1-P)) v->jo n (v*tn (P-k+1))≠x
 no:∀j:Nat,1<=j->j<k->∀g:Int,(g:Rat)<=vr x*tn (j-1-P)->vr x*tn (j-1-P)<g+1->jo n (g*tn (P-j+1))≠x/\jo n ((g+1:Int)*tn (P-j+1))≠x
noncomputable def abP(x:Int×Int):Int×Int:=(if x.1<0 then -x.1 else x.1,x.2)
noncomputable def Bri(n:Nat)(x:Int×Int)(d:D):Prop:=(x.1=0->d=tx [48])/\(x.1≠0->∃(P:Int) (k:Nat) (w:Nat),BriAt n (abP x) P k w/\d=tx (spF w P k (decide (x.1<0))))
theorem rnd_uniq{r:Rat}{v w:Int}(h:RndR r v)(g:RndR r w):v=w:=by
 have a:=h.lo;have b:=h.hi;have c:=g.lo;have d:=g.hi
 have e:((v-w:Int):Rat)<=1:=by rw[Rat.intCast_sub];grind
 have f:((w-v:Int):Rat)<=1:=by rw[Rat.intCast_sub];grind
 have e':v-w<=1:=by exact_mod_cast e
 have f':w-v<=1:=by exact_mod_cast f
 rcases Int.lt_trichotomy v w with z|z|z
 ·have w1:w=v+1:=by lia
  subst w1;rw[Rat.intCast_add]at c d;have:=h.ev (.inl (by grind));have:=g.ev (.inr (by rw[Rat.intCast_add];grind));lia
 ·exact z
 ·have w1:v=w+1:=by lia
  subst w1;rw[Rat.intCast_add]at a b;have:=g.ev (.inl (by grind));have:=h.ev (.inr (by rw[Rat.intCast_add];grind));lia
theorem none_read{n:Nat}{x:Int×Int}{P:Int}{k:Nat}(h:RaOk n x P)(hk:1<=k)(hk2:k<=60)(e:∀w∈cnd (vp x) P k,jo n (w*tn (P-k+1))≠x){g:Int}(g1:(g:Rat)<=vr x*tn (k-1-P))(g2:vr x*tn (k-1-P)<g+1) :
 jo n (g*tn (P-k+1))≠x/\jo n ((g+1:Int)*tn (P-k+1))≠x:=by
 obtain⟨m4,_⟩:=h.cd hk hk2;have f:=vQ (t:=(mvF (vp x) (k-1-P)).1) m4;have dm:=kl (t:=(mvF (vp x) (k-1-P)).1) m4;rw[h.val]at f dm;have eg:=floor_one f.1 f.2 g1 g2;by_cases z:(mvF (vp x) (k-1-P)).1%(mvF (vp x) (k-1-P)).2=0
 ·exfalso;refine e _ (cand_one z) ?_;have m:=Int.mul_ediv_add_emod (mvF (vp x) (k-1-P)).1 (mvF (vp x) (k-1-P)).2;rw[z,Int.add_zero]at m
  have t1:tn (k-1-P)*tn (P-k+1)=1:=by rw[<- yR,show (k:Int)-1-P+(P-k+1)=0 by lia,vz]
  have q:(((mvF (vp x) (k-1-P)).1 / (mvF (vp x) (k-1-P)).2:Int):Rat)=vr x*tn (k-1-P):=by
   refine(yx (c:=((mvF (vp x) (k-1-P)).2:Rat)) (by exact_mod_cast m4)).mp ?_;rw[dm,<- Rat.intCast_mul,Int.mul_comm,m]
  rw[q,Rat.mul_assoc,t1,Rat.mul_one];exact xV (by have:=h.n1;lia) h.ok.num
 ·obtain⟨c1,c2⟩:=cand_all z;rw[eg]at c1 c2;exact⟨e _ c1,e _ c2⟩
noncomputable def ye:Ctr where
 pre ds:=∃(x:Int×Int) (n:Nat),ds=[nq x,.int n]/\OkN n 963 x/\8<=n/\n<=64
 res ds d:=∀(x:Int×Int) (n:Nat),ds=[nq x,.int n]->Bri n x d
theorem inj_br{x x':Int×Int}{n n':Nat}(e:[nq x,D.int n]=[nq x',D.int n']):x=x'/\n=n':=by
 simp only[List.cons.injEq,and_true,D.int.injEq]at e;exact⟨xh e.1,by lia⟩
theorem wp_briefest{x:Int×Int}{n:Nat}{Q:D->Prop}{E:XD->Prop}(h:OkN n 963 x)(h1:8<=n)(h2:n<=64):ye.wp [nq x,.int n] Q E ↔ ∀d,Bri n x d->Q d:=by
 constructor
 ·intro w d hd
  refine w.2.1 _ fun x' n' e=>?_
  obtain⟨rfl,rfl⟩:=inj_br e;exact hd
 ·intro q;exact⟨⟨x,n,rfl,h,h1,h2⟩,fun d e=>q d (e _ _ rfl),fun _ z=>z.elim⟩
theorem okn_ab{n:Nat}{M:Int}{x:Int×Int}(h:OkN n M x):OkN n M (abP x):=by
 obtain⟨⟨ho,hs⟩,a,b⟩:=h;unfold abP
 refine⟨⟨?_,?_⟩,a,b⟩<;>simp only[]<;>split<;>lia
theorem vr_ab{x:Int×Int}(h:x.1≠0):0<vr (abP x):=by
 unfold vr abP;have t:=j8 x.2;refine Rat.mul_pos ?_ t
 have:(0:Int)<if x.1<0 then -x.1 else x.1:=by split<;>lia
 exact_mod_cast this
theorem k_briefest{C:Cfg}{i1 i2 i3 i4:Nat}(h1:C.ct i1=kE)(h2:C.ct i2=xC)(h3:C.ct i3=xQ)(h4:C.ct i4=qZ):jC C 6 (zB i1 i2 i3 i4) ye:=by
 rintro ds ⟨x,n,rfl,ok,n1,n2⟩;rw[zB];by_cases z:x.1=0
 ·refine zR (by dsimp! only[kP,z]) ?_;simp_all! only[st_0];intro x' n' e;obtain⟨rfl,rfl⟩:=inj_br e;exact⟨fun _=>rfl,fun y=>absurd z y⟩
 refine kB (by dsimp! only[kP];exact congrArg _ (beq_eq_false_iff_ne.mpr z)) ?_;have oka:=okn_ab ok;have pos:=vr_ab z;have s:=(szr_vr oka n2).mono (show _<=1100 by decide)
 have sz:SzOk (vp (abP x)):=⟨vo.mpr pos,zZ _,s.1,s.2⟩
 have wv:=fun Q X=>wp_value (x:=abP x) (Q:=Q) (E:=X) oka n2 (by decide)
 have wf:=fun Q E=>vH (x:=vp (abP x)) (Q:=Q) (E:=E) sz
 have ea:(if x.1<0 then -x.1 else x.1,x.2)=abP x:=rfl;simp_all! only[kP,xO,zY,ea,h2,wv,h1,rq_nq];show kE.wp [nq (vp (abP x))] _ _;rw[wf];intro P r1 r2 p1 p2;have e0:Rat.divInt (vp (abP x)).1 (vp (abP x)).2=vr (abP x):=(rat_eq _).symm;have r1':=(rch_iff sz.p2 P).mp r1;have r2':=(rch_not sz.p2 (P+1)).mp r2;rw[e0]at r1' r2'
 have ra:RaOk n (abP x) P:=⟨oka,n1,n2,pos,r1',r2',p1,p2⟩
 have wr:=fun(k:Nat) (a:1<=k) (b:k<=60) (Q:D->Prop) (E:XD->Prop)=>wp_read_as (Q:=Q) (E:=E) ra a b
 have w1:=wr 1 (by decide) (by decide);simp_all! only[h3];show xQ.wp [nq (abP x),.int n,.int P,.int ((1:Nat):Int)] _ _;rw[w1]
 let L:Nat->List Int:=fun k=>(cnd (vp (abP x)) P k).filter fun w:Int=>decide (jo n (w*tn (P-k+1))=abP x)
 have eL:∀k:Nat,L k=(cnd (vp (abP x)) P k).filter fun w:Int=>decide (jo n (w*tn (P-k+1))=abP x):=fun k=>rfl
 have nil:∀k,L k=[]->∀w∈cnd (vp (abP x)) P k,jo n (w*tn (P-k+1))≠abP x:=fun k hk w hw=>by
  rw[eL,List.filter_eq_nil_iff]at hk;simpa using hk w hw
 have high:∀k:Nat,1<=k->k<=60->L k=[]->k<=20:=fun k a b e=>by
  rcases Nat.lt_or_ge 20 k with y|y
  ·exfalso
   have hn:(2:Int)^n<10^(k-1):=by
    have c1:(10:Nat)^20<=10^(k-1):=Nat.pow_le_pow_right (by decide) (by lia);have c2:(2:Nat)^n<=2^64:=Nat.pow_le_pow_right (by decide) n2
    have c3:(2:Nat)^64<10^20:=by decide
    have:(2:Nat)^n<10^(k-1):=by lia
    exact_mod_cast this
   obtain⟨m4,cd⟩:=ra.cd a b;have rn:=rnd_is (t:=(mvF (vp (abP x)) (k-1-P)).1) m4;rw[ra.val]at rn;have mem:yI (mvF (vp (abP x)) (k-1-P)).1 (mvF (vp (abP x)) (k-1-P)).2∈cnd (vp (abP x)) P k:=List.mem_cons_self ..;exact nil k e _ mem (enough_one ra a hn rn (cd _ mem).2.2.1)
  ·exact y
 refine jO (fun σ=>∃k:Nat,(1<=k/\k<=21/\L k ≠ []/\∀j:Nat,1<=j->j<k->L j=[])/\σ=[some (.sh (nq x)),some (.sh (.int n)),some (.sh (nq (abP x))),some (.sh (.int P)),some (.sh (.int k)),some (.sh (.lst ((L k).map .int)))]) ?_ ?_
 ·refine qJ (fun σ=>∃k:Nat,(1<=k/\k<=21/\∀j:Nat,1<=j->j<k->L j=[])/\σ=[some (.sh (nq x)),some (.sh (.int n)),some (.sh (nq (abP x))),some (.sh (.int P)),some (.sh (.int k)),some (.sh (.lst ((L k).map .int)))]) (fun σ=>100-(xu σ 4).toNat) ⟨1,⟨by decide,by decide,fun j a b=>by lia⟩,rfl⟩ ?_;rintro σ ⟨k,⟨k1,k2,no⟩,rfl⟩;dsimp! only[List.length_map];by_cases e:L k=[]
  ·have k20:=high k k1 (by lia) e;rw[if_pos (by rw[e];rfl)];have w2:=wr (k+1) (by lia) (by lia);simp_all! only[h3];rw[show (k:Int)+1=((k+1:Nat):Int) by lia,w2];refine⟨by simp only[xu,getS];lia,k+1,⟨by lia,by lia,fun j a b=>?_⟩,rfl⟩;rcases Nat.lt_or_ge j k with y|y
   ·exact no j a y
   ·rw[show j=k by lia];exact e
  ·rw[if_neg (by
    intro y
    have:(L k).length=0:=by lia
    exact e (List.eq_nil_of_length_eq_zero this))]
   exact⟨k,⟨k1,k2,e,no⟩,rfl⟩
 rintro σ ⟨k,⟨k1,k2,ne,no⟩,rfl⟩;obtain⟨w,rest,hw⟩:=List.exists_cons_of_ne_nil ne
 have wm:w∈L k:=by rw[hw];exact List.mem_cons_self ..
 obtain⟨wc,wrd⟩:=List.mem_filter.mp wm;obtain⟨m4,cd⟩:=ra.cd k1 (by lia);obtain⟨c1,c2,c3,c4⟩:=cd w wc
 obtain⟨W,rfl⟩:∃W:Nat,w=W:=⟨w.toNat,by lia⟩
 have nb:W<10^61:=by
  have:(10:Nat)^k<=10^60:=Nat.pow_le_pow_right (by decide) (by lia)
  have e:((10^k:Nat):Int)=10^k:=by simp
  have:(10:Nat)^60<10^61:=by decide
  generalize (10:Nat)^60=A at *;generalize (10:Nat)^61=B at *;generalize (10:Nat)^k=c at *;lia
 have ws:=fun b Q E=>spell_wp (n:=W) (p:=P) (k:=k) (b:=b) (Q:=Q) (E:=E) nb (by lia) (by lia) k1 (by lia)
 simp_all! only[hw,List.map_cons,atD_0,kP,h4,ws];intro x' n' e;obtain⟨rfl,rfl⟩:=inj_br e;have fl:=vQ (t:=(mvF (vp (abP x)) (k-1-P)).1) m4;have rn:=rnd_is (t:=(mvF (vp (abP x)) (k-1-P)).1) m4;rw[ra.val]at fl rn;refine⟨fun y=>absurd y z,fun _=>⟨P,k,W,⟨ra,k1,k2,⟨_,fl.1,fl.2,cand_or wc⟩,of_decide_eq_true wrd,?_,fun j j1 j2 g g1 g2=>none_read ra j1 (by lia) (nil j (no j j1 j2)) g1 g2⟩,rfl⟩⟩;by_cases y:jo n (yI (mvF (vp (abP x)) (k-1-P)).1 (mvF (vp (abP x)) (k-1-P)).2*tn (P-k+1))=abP x
 ·left
  have:L k=yI (mvF (vp (abP x)) (k-1-P)).1 (mvF (vp (abP x)) (k-1-P)).2::(z7 (mvF (vp (abP x)) (k-1-P)).1 (mvF (vp (abP x)) (k-1-P)).2).filter fun w:Int=>decide (jo n (w*tn (P-k+1))=abP x):=by
   rw[eL];exact List.filter_cons_of_pos (decide_eq_true y)
  rw[hw]at this;rw[(List.cons.inj this).1];exact rn
 ·right;intro v hv;rw[rnd_uniq hv rn];exact y
end Z
set_option exponentiation.threshold 3000
namespace Z.K52
open PySem PySem.NumText Z
noncomputable def b_law_figures:Sm :=
 (.seq (.new 2)
 (.seq (.forR 3 [(.var 1)] (.seq (.app 2 (.ix (.cst (.str "0123456789")) (.bin .mod (.bin .fdiv (.var 0) (.bin .add (.bin .mul (.var 3) (.cst (.int 3))) (.cst (.int 1)))) (.ix (.lst [(.cst (.int 10)),(.cst (.int 10)),(.cst (.int 2))]) (.bin .mod (.var 0) (.cst (.int 3)))))))
  .nop))
 (.seq (.shr 2)
 (.seq (.ret (.sm .join (.cst (.str "")) (.var 2)))
 .nop))))
noncomputable def b_law_text(i_law_drawn i_law_figures:Nat):Sm :=
 (.seq (.set 2 (.call i_law_drawn [(.var 0),(.bin .add (.var 1) (.cst (.int 150)))]))
 (.seq (.set 3 (.call i_law_drawn [(.var 0),(.bin .add (.var 1) (.cst (.int 151)))]))
 (.seq (.set 4 (.ix (.lst [(.bin .add (.cst (.int 1)) (.bin .mod (.var 2) (.cst (.int 3)))),(.bin .add (.cst (.int 1)) (.bin .mod (.var 2) (.cst (.int 40)))),(.cst (.int 40)),(.bin .add (.cst (.int 1)) (.bin .mod (.var 2) (.cst (.int 20))))]) (.bin .mod (.bin .fdiv (.var 2) (.cst (.int 40))) (.cst (.int 4)))))
 (.seq (.set 5 (.call i_law_figures [(.var 3),(.var 4)]))
 (.seq (.set 6 (.var 5))
 (.seq (.set 7 (.bin .mod (.bin .fdiv (.var 2) (.cst (.int 160))) (.bin .add (.bin .mul (.cst (.int 2)) (.var 4)) (.cst (.int 2)))))
 (.seq (.ite (.cmp .le (.var 7) (.var 4)) (.seq (.set 6 (.bin .add (.bin .add (.slc (.var 5) (.cst .non) (.var 7)) (.cst (.str "."))) (.slc (.var 5) (.var 7) (.cst .non))))
  .nop) .nop)
 (.seq (.ite (.cmp .eq (.bin .mod (.bin .fdiv (.var 2) (.cst (.int 20000))) (.cst (.int 2))) (.cst (.int 1))) (.seq (.set 6 (.bin .add (.cst (.str "-")) (.var 6)))
  .nop) .nop)
 (.seq (.ite (.cmp .eq (.bin .mod (.bin .fdiv (.var 2) (.cst (.int 40000))) (.cst (.int 2))) (.cst (.int 1))) (.seq (.set 8 (.bin .mul (.ix (.cst (.str "0123456789")) (.bin .mod (.var 3) (.cst (.int 10)))) (.bin .add (.cst (.int 1)) (.bin .mod (.bin .fdiv (.var 2) (.cst (.int 80000))) (.cst (.int 3))))))
  (.seq (.ite (.cmp .eq (.bin .mod (.bin .fdiv (.var 2) (.cst (.int 240000))) (.cst (.int 2))) (.cst (.int 1))) (.seq (.set 8 (.bi .str [(.bin .mod (.var 0) (.ix (.lst [(.cst (.int 10)),(.cst (.int 100)),(.cst (.int 1000))]) (.bin .mod (.bin .fdiv (.var 2) (.cst (.int 480000))) (.cst (.int 3)))))]))
   .nop) .nop)
  (.seq (.set 6 (.bin .add (.bin .add (.bin .add (.var 6) (.cst (.str "e"))) (.bin .mul (.cst (.str "-")) (.bin .mod (.bin .fdiv (.var 2) (.cst (.int 1440000))) (.cst (.int 2))))) (.var 8)))
  .nop))) .nop)
 (.seq (.ret (.var 6))
 .nop))))))))))
noncomputable def b_law_power:Sm :=
 (.seq (.ite (.cmp .eq (.var 1) (.cst (.str ""))) (.seq (.ret (.cst (.int 0)))
  .nop) .nop)
 (.seq (.ite (.cmp .inn (.cst (.str "e-")) (.var 0)) (.seq (.ret (.bin .sub (.cst (.int 0)) (.bi .int [(.var 1)])))
  .nop) .nop)
 (.seq (.ret (.bi .int [(.var 1)]))
 .nop)))
noncomputable def b_law_reads(i_law_power:Nat):Sm :=
 (.seq (.set 1 (.cst (.str "start")))
 (.seq (.set 2 (.cst (.str "")))
 (.seq (.set 3 (.cst (.int 0)))
 (.seq (.set 4 (.cst (.str "")))
 (.seq (.set 5 (.cst (.int 0)))
 (.seq (.whl (.cmp .lt (.var 5) (.bi .len [(.var 0)])) (.seq (.set 6 (.ix (.var 0) (.var 5)))
  (.seq (.set 7 (.cmp .inn (.var 6) (.cst (.str "0123456789"))))
  (.seq (.ite (.and (.var 7) (.and (.cmp .inn (.var 1) (.lst [(.cst (.str "start")),(.cst (.str "minus")),(.cst (.str "ahead"))])) (.cmp .lt (.bi .len [(.var 2)]) (.cst (.int 40))))) (.seq (.set 1 (.cst (.str "ahead")))
   (.seq (.set 2 (.bin .add (.var 2) (.var 6)))
   .nop)) (.seq (.ite (.and (.var 7) (.and (.cmp .inn (.var 1) (.lst [(.cst (.str "point")),(.cst (.str "behind"))])) (.cmp .lt (.bi .len [(.var 2)]) (.cst (.int 40))))) (.seq (.set 1 (.cst (.str "behind")))
    (.seq (.set 2 (.bin .add (.var 2) (.var 6)))
    (.seq (.set 3 (.bin .add (.var 3) (.cst (.int 1))))
    .nop))) (.seq (.ite (.and (.var 7) (.and (.cmp .inn (.var 1) (.lst [(.cst (.str "e")),(.cst (.str "e minus")),(.cst (.str "power"))])) (.cmp .lt (.bi .len [(.var 4)]) (.cst (.int 3))))) (.seq (.set 1 (.cst (.str "power")))
     (.seq (.set 4 (.bin .add (.var 4) (.var 6)))
     .nop)) (.seq (.ite (.and (.cmp .eq (.var 6) (.cst (.str "-"))) (.cmp .inn (.var 1) (.lst [(.cst (.str "start")),(.cst (.str "e"))]))) (.seq (.set 1 (.ix (.lst [(.cst (.str "minus")),(.cst (.str "e minus"))]) (.bi .int [(.cmp .eq (.var 1) (.cst (.str "e")))])))
      .nop) (.seq (.ite (.and (.cmp .eq (.var 6) (.cst (.str "."))) (.cmp .inn (.var 1) (.lst [(.cst (.str "start")),(.cst (.str "minus")),(.cst (.str "ahead"))]))) (.seq (.set 1 (.cst (.str "point")))
       .nop) (.seq (.ite (.and (.cmp .eq (.var 6) (.cst (.str "e"))) (.and (.cmp .ne (.var 2) (.cst (.str ""))) (.cmp .inn (.var 1) (.lst [(.cst (.str "ahead")),(.cst (.str "point")),(.cst (.str "behind"))])))) (.seq (.set 1 (.cst (.str "e")))
        .nop) (.seq (.ret (.tup [(.cst (.bl false)),(.var 5),(.cst (.int 0))]))
        .nop))
       .nop))
      .nop))
     .nop))
    .nop))
   .nop))
  (.seq (.set 5 (.bin .add (.var 5) (.cst (.int 1))))
  .nop)))))
 (.seq (.ite (.or (.cmp .eq (.var 2) (.cst (.str ""))) (.cmp .inn (.var 1) (.lst [(.cst (.str "e")),(.cst (.str "e minus"))]))) (.seq (.ret (.tup [(.cst (.bl false)),(.var 5),(.cst (.int 0))]))
  .nop) .nop)
 (.seq (.ret (.tup [(.cst (.bl true)),(.var 2),(.bin .sub (.call i_law_power [(.var 0),(.var 4)]) (.var 3))]))
 .nop))))))))
noncomputable def b_law(i_law_text i_law_cell i_law_reads i_law_parts_of i_law_is_ratio i_read_text:Nat):Sm :=
 (.seq (.forR 1 [(.bi .max [(.cst (.int 1)),(.bi .min [(.cst (.int 10)),(.bi .len [(.var 0)])])])] (.seq (.set 2 (.call i_law_text [(.call i_law_cell [(.var 0),(.var 1)]),(.var 1)]))
  (.seq (.unp [3,4,5] (.call i_law_reads [(.var 2)]))
  (.seq (.unp [6,7] (.call i_law_parts_of [(.var 4),(.var 5)]))
  (.seq (.ite (.cmp .eq (.ix (.var 2) (.cst (.int 0))) (.cst (.str "-"))) (.seq (.set 6 (.bin .sub (.cst (.int 0)) (.var 6)))
   .nop) .nop)
  (.seq (.ite (.or (.not (.var 3)) (.not (.call i_law_is_ratio [(.call i_read_text [(.var 2)]),(.var 6),(.var 7)]))) (.seq (.ret (.cst (.bl false)))
   .nop) .nop)
  (.seq (.set 8 (.call i_read_text [(.var 2)]))
  (.seq (.ite (.and (.cmp .ne (.ix (.var 2) (.cst (.int 0))) (.cst (.str "-"))) (.cmp .ne (.call i_read_text [(.bin .add (.cst (.str "-")) (.var 2))]) (.tup [(.bin .sub (.cst (.int 0)) (.ix (.var 8) (.cst (.int 0)))),(.ix (.var 8) (.cst (.int 1)))]))) (.seq (.ret (.cst (.bl false)))
   .nop) .nop)
  .nop))))))))
 (.seq (.ret (.cst (.bl true)))
 .nop))
noncomputable def c_figures:Ctr where
 pre ds:=∃(m:Int) (k:Nat),ds=[.int m,.int k]/\0<=m/\k<=40
 res ds d:=∀(m:Int) (k:Nat),ds=[.int m,.int k]->∃l,d=tx l/\AllDigits l/\l.length=k
theorem inj_fg{m m':Int}{k k':Nat}(e:[D.int m,.int k]=[D.int m',.int k']):m=m'/\k=k':=by
 simp only[List.cons.injEq,and_true,D.int.injEq]at e;exact⟨e.1,by lia⟩
theorem wp_figures{m:Int}{k:Nat}{Q:D->Prop}{E:XD->Prop}(h1:0<=m)(h2:k<=40):c_figures.wp [.int m,.int k] Q E ↔ ∀l,AllDigits l->l.length=k->Q (tx l):=by
 constructor
 ·intro w l a b
  refine w.2.1 _ fun m' k' e=>?_
  obtain⟨rfl,rfl⟩:=inj_fg e;exact⟨l,rfl,a,b⟩
 ·intro q;refine⟨⟨m,k,rfl,h1,h2⟩,fun d e=>?_,fun _ z=>z.elim⟩;obtain⟨l,rfl,a,b⟩:=e m k rfl;exact q l a b
theorem at_fig{i:Int}(h0:0<=i)(h1:i<10):FIG[i.toNat]?=some (48+i.toNat):=by
 have:i=0\/i=1\/i=2\/i=3\/i=4\/i=5\/i=6\/i=7\/i=8\/i=9:=by lia
 rcases this with rfl|rfl|rfl|rfl|rfl|rfl|rfl|rfl|rfl|rfl<;>rfl
theorem JR(lo st:Int):∀n:Nat,(kc lo st n).length=n
 |0=>rfl
 |n+1=>by
  show (kc (lo+st) st n).length+1=n+1;rw[JR]
theorem join_one(l:List Nat):((l.map fun c=>sx [c]).map (·.length)).sum=l.length/\((l.map fun c=>sx [c]).map (·.cps.toList)).flatten=l:=by
 induction l with
 |nil=>exact⟨rfl,rfl⟩
 |cons c l ih =>
  simp only[List.map_cons,List.sum_cons,List.flatten_cons,List.length_cons];rw[ih.1,ih.2,kx,ki];exact⟨by rw[List.length_singleton];lia,rfl⟩
theorem yA:∀ {a b:List Str},a.map D.str=b.map D.str->a=b
 |[],[],_=>rfl
 |[],_::_,e=>by simp at e
 |_::_,[],e=>by simp at e
 |x::a,y::b,e=>by
  simp only[List.map_cons,List.cons.injEq,D.str.injEq]at e;rw[e.1,yA e.2]
theorem tx_join{l:List Nat}(h:l.length<=lim){Q:D->Prop}:smD .join (sx []) (.lst (l.map fun c=>tx [c])) Q ↔ Q (tx l):=by
 have e:=join_one l;show (∃ss:List Str,((sx []).length=0/\(l.map fun c=>tx [c])=ss.map .str/\(ss.map (·.length)).sum<=lim)/\Q (.str ⟨(ss.map (·.cps.toList)).flatten.toArray⟩)) ↔ _;constructor
 ·rintro⟨ss,⟨_,e2,_⟩,q⟩
  have:ss=l.map fun c=>sx [c]:=by
   have:(l.map fun c=>tx [c])=(l.map fun c=>sx [c]).map D.str:=by rw[List.map_map];rfl
   rw[this]at e2;exact(yA e2).symm
  subst this;rw[e.2]at q;exact q
 ·intro q;refine⟨l.map fun c=>sx [c],⟨rfl,by rw[List.map_map];rfl,by rw[e.1];exact h⟩,?_⟩;rw[e.2];exact q
theorem k_figures{C:Cfg}:jC C 4 b_law_figures c_figures:=by
 rintro ds ⟨m,k,rfl,m0,k2⟩;rw[b_law_figures];simp_all! only[];refine jO (fun σ=>∃(l:List Nat) (j:Option Sl),(AllDigits l/\l.length=k)/\σ=[some (.sh (.int m)),some (.sh (.int k)),some (.ow (l.map fun c=>tx [c])),j]) ?_ ?_
 ·rw[ws_forR];dsimp! only[rgD];refine⟨by unfold xi;lia,?_⟩;refine forS_by (fun xs σ=>(∀x∈xs,∃i:Int,x=.int i/\0<=i/\i<=40)/\∃(l:List Nat) (j:Option Sl),(AllDigits l/\l.length+xs.length=k)/\σ=[some (.sh (.int m)),some (.sh (.int k)),some (.ow (l.map fun c=>tx [c])),j]) ?_ ?_ ?_
  ·refine⟨zn (P:=fun i=>0<=i/\i<=40) _ _ _ fun i hi=>by lia,[],_,⟨fun c hc=>(by cases hc),by rw[JR];simp⟩,rfl⟩
  ·rintro x xs σ ⟨hx,l,j,⟨al,ll⟩,rfl⟩;obtain⟨i,rfl,i1,i2⟩:=hx x (List.mem_cons_self ..);have q2:m.fdiv (i*3+1)=m / (i*3+1):=jr (by lia);have q3:m.fmod 3=m%3:=ji (by decide)
   obtain⟨v,ev,v1,v2⟩:∃v:Int,atD [D.int 10,D.int 10,D.int 2] (m%3)=some (.int v)/\2<=v/\v<=10:=by
    have:m%3=0\/m%3=1\/m%3=2:=by lia
    rcases this with e|e|e<;>rw[e]
    ·exact⟨10,rfl,by decide,by decide⟩
    ·exact⟨10,rfl,by decide,by decide⟩
    ·exact⟨2,rfl,by decide,by decide⟩
   have q4:(m / (i*3+1)).fmod v=m / (i*3+1)%v:=ji (by lia);have e1:=Int.emod_nonneg (m / (i*3+1)) (show v≠0 by lia);have e2:=Int.emod_lt_of_pos (m / (i*3+1)) (show (0:Int)<v by lia)
   have a2:=fun Q=>JU (Q:=Q) (l:=FIG) (i:=m / (i*3+1)%v) e1 (by decide) (at_fig e1 (by lia))
   simp_all! only[q2,q3];rw[List.length_cons]at ll;have bi:bits (i*3+1)<=9000:=Nat.le_trans (jg (n:=10) |>.mpr (by lia)) (by decide);refine⟨by rw[List.length_map];unfold lim;lia,.inr (.inl (by decide)),⟨by lia,bi⟩,_,ev,?_⟩;dsimp! only[q4,st_fig,a2];refine⟨by lia,fun x h=>hx x (List.mem_cons_of_mem _ h),l ++ [48+(m / (i*3+1)%v).toNat],_,⟨?_,by rw[List.length_append,List.length_singleton];lia⟩,by rw[List.map_append];rfl⟩;intro c hc;rcases List.mem_append.mp hc with z|z
   ·exact al c z
   ·rw[List.mem_singleton]at z;subst z;constructor<;>lia
  ·rintro σ ⟨_,l,j,⟨al,ll⟩,rfl⟩;exact⟨l,j,⟨al,by simpa using ll⟩,rfl⟩
 rintro σ ⟨l,j,⟨al,ll⟩,rfl⟩
 have sd:∀(m:List Nat) (f:Str->Prop),strD (tx m) f ↔ f (sx m):=fun m f=>Iff.rfl
 have tj:=fun Q=>tx_join (l:=l) (Q:=Q) (by unfold lim;lia)
 simp_all! only[sd,Kx,tj];intro m' k' e;obtain⟨rfl,rfl⟩:=inj_fg e;exact⟨l,rfl,al,ll⟩
noncomputable def c_ntext:Ctr where
 pre ds:=∃c k:Int,ds=[.int c,.int k]
 res ds d:=∃(neg:Bool) (f1:List Nat) (pt:Bool) (f2:List Nat) (E:Option (Bool×List Nat)),d=tx (txL neg f1 pt f2 E)/\TxOk pt f1 f2 E
theorem wp_ntext{c k:Int}{Q:D->Prop}{E:XD->Prop}:c_ntext.wp [.int c,.int k] Q E ↔ ∀(neg:Bool) (f1:List Nat) (pt:Bool) (f2:List Nat) (E:Option (Bool×List Nat)),TxOk pt f1 f2 E->Q (tx (txL neg f1 pt f2 E)):=by
 constructor
 ·intro w neg f1 pt f2 E h;exact w.2.1 _ ⟨neg,f1,pt,f2,E,rfl,h⟩
 ·intro q;refine⟨⟨c,k,rfl⟩,fun d e=>?_,fun _ z=>z.elim⟩;obtain⟨neg,f1,pt,f2,E,rfl,h⟩:=e;exact q neg f1 pt f2 E h
theorem k_ntext{C:Cfg}{i1 i2:Nat}(h1:C.ct i1=qh)(h2:C.ct i2=c_figures):jC C 9 (b_law_text i1 i2) c_ntext:=by
 rintro ds ⟨c,k,rfl⟩;rw[b_law_text];simp_all! only[h1,uf];intro m m0 m1 o o0 o1;have q1:m.fmod 3=m%3:=ji (by decide);have q2:m.fmod 40=m%40:=ji (by decide);have q3:m.fmod 20=m%20:=ji (by decide);have q4:m.fdiv 40=m / 40:=jr (by decide);have q5:(m / 40).fmod 4=m / 40%4:=ji (by decide);simp_all! only[q1,q2,q3,q4,q5];refine⟨by decide,?_⟩
 obtain⟨n,en,n1,n2⟩:∃n:Nat,atD [D.int (1+m%3),D.int (1+m%40),D.int 40,D.int (1+m%20)] (m / 40%4)=some (.int n)/\1<=n/\n<=40:=by
  have:m / 40%4=0\/m / 40%4=1\/m / 40%4=2\/m / 40%4=3:=by lia
  rcases this with e|e|e|e<;>rw[e]
  ·refine⟨(1+m%3).toNat,?_,by lia,by lia⟩;rw[Int.toNat_of_nonneg (by lia)];rfl
  ·refine⟨(1+m%40).toNat,?_,by lia,by lia⟩;rw[Int.toNat_of_nonneg (by lia)];rfl
  ·exact⟨40,rfl,by decide,by decide⟩
  ·refine⟨(1+m%20).toNat,?_,by lia,by lia⟩;rw[Int.toNat_of_nonneg (by lia)];rfl
 refine⟨_,en,?_⟩;rw[h2,wp_figures o0 n2];intro l al ll;have q6:m.fdiv 160=m / 160:=jr (by decide);have q7:(m / 160).fmod (2*n+2)=m / 160%(2*n+2):=ji (by lia);simp_all! only[q6,q7];have e1:=Int.emod_nonneg (m / 160) (show (2*(n:Int)+2)≠0 by lia);refine⟨by decide,.inl (by decide),by lia,?_⟩
 obtain⟨p,hp⟩:∃p:Nat,m / 160%(2*(n:Int)+2)=p:=⟨(m / 160%(2*(n:Int)+2)).toNat,by lia⟩
 rw[hp]
 have lm:∀a:Nat,a<=100->a<=lim:=fun a h=>by unfold lim;lia
 refine jO (fun σ=>∃(f1:List Nat) (pt:Bool) (f2:List Nat),TxOk pt f1 f2 none/\σ=[some (.sh (.int c)),some (.sh (.int k)),some (.sh (.int m)),some (.sh (.int o)),some (.sh (.int n)),some (.sh (tx l)),some (.sh (tx (f1++(sgL pt 46++f2)))),some (.sh (.int p)),none]) ?_ ?_
 ·rw[kZ];dsimp! only[];by_cases z:p<=n
  ·rw[if_pos (by lia)]
   have s1:∀Q:D->Prop,slD (tx l) none (some (p:Int)) Q ↔ Q (tx (l.take p)):=fun Q=>by
    rw[uY,and_iff_right (lm _ (by lia)),show sIx l.length 0 none=0 from rfl,List.drop_zero,Nat.sub_zero,kW (by lia)]
   have s2:∀Q:D->Prop,slD (tx l) (some (p:Int)) none Q ↔ Q (tx (l.drop p)):=fun Q=>by
    rw[uY,and_iff_right (lm _ (by lia)),show sIx l.length l.length none=l.length from rfl,kW (by lia),List.take_of_length_le (by rw[List.length_drop];exact Nat.le_refl _)]
   simp_all! only[prt,kD,vN,s1,s2,st_p,qH];simp only[List.length_append,List.length_take,List.length_drop,List.length_singleton];refine⟨lm _ (by lia),lm _ (by lia),l.take p,true,l.drop p,⟨fun x hx=>al x (List.mem_of_mem_take hx),fun x hx=>al x (List.mem_of_mem_drop hx),?_,?_,fun z=>(by cases z),trivial⟩,?_⟩
   ·rw[List.length_take,List.length_drop];lia
   ·rw[List.length_take,List.length_drop];lia
   ·simp[sgL]
  ·rw[if_neg (by lia)];simp_all! only[];exact⟨l,false,[],⟨al,fun x hx=>(by cases hx),by simp;lia,by simp;lia,fun _=>rfl,trivial⟩,by simp[sgL]⟩
 rintro σ ⟨f1,pt,f2,ok,rfl⟩;have n1':=ok.n1;have n2':=ok.n2
 have pl:(sgL pt 46).length<=1:=by rw[zF];split<;>lia
 refine jO (fun σ=>∃neg:Bool,σ=[some (.sh (.int c)),some (.sh (.int k)),some (.sh (.int m)),some (.sh (.int o)),some (.sh (.int n)),some (.sh (tx l)),some (.sh (tx (sgL neg 45++(f1++(sgL pt 46++f2))))),some (.sh (.int p)),none]) ?_ ?_
 ·have q8:m.fdiv 20000=m / 20000:=jr (by decide);have q9:(m / 20000).fmod 2=m / 20000%2:=ji (by decide);rw[kZ];dsimp! only[q8,q9];refine⟨by decide,?_⟩;by_cases z:m / 20000%2=1
  ·rw[if_pos z];simp_all! only[st_m,qH];simp only[List.length_append,List.length_singleton];exact⟨lm _ (by lia),true,rfl⟩
  ·rw[if_neg z];simp_all! only[];exact⟨false,rfl⟩
 rintro σ ⟨neg,rfl⟩
 have nl:(sgL neg 45).length<=1:=by rw[zF];split<;>lia
 refine jO (fun σ=>∃(E:Option (Bool×List Nat)) (y:Option Sl),exOk E/\σ=[some (.sh (.int c)),some (.sh (.int k)),some (.sh (.int m)),some (.sh (.int o)),some (.sh (.int n)),some (.sh (tx l)),some (.sh (tx (txL neg f1 pt f2 E))),some (.sh (.int p)),y]) ?_ ?_
 ·have q8:m.fdiv 40000=m / 40000:=jr (by decide);have q9:(m / 40000).fmod 2=m / 40000%2:=ji (by decide);rw[kZ];dsimp! only[q8,q9];refine⟨by decide,?_⟩;by_cases z:m / 40000%2=1
  ·rw[if_pos z];have r1:o.fmod 10=o%10:=ji (by decide);have r2:m.fdiv 80000=m / 80000:=jr (by decide);have r3:(m / 80000).fmod 3=m / 80000%3:=ji (by decide)
   have a2:=fun Q=>JU (Q:=Q) (l:=FIG) (i:=o%10) (by lia) (by decide) (at_fig (by lia) (by lia))
   simp_all! only[r1,r2,r3,st_fig,a2,KY,List.length_singleton,zO];refine⟨by decide,⟨by lia,by unfold lim;lia⟩,?_⟩;refine jO (fun σ=>∃w:List Nat,(AllDigits w/\1<=w.length/\w.length<=3)/\σ=[some (.sh (.int c)),some (.sh (.int k)),some (.sh (.int m)),some (.sh (.int o)),some (.sh (.int n)),some (.sh (tx l)),some (.sh (tx (sgL neg 45++(f1++(sgL pt 46++f2))))),some (.sh (.int p)),some (.sh (tx w))]) ?_ ?_
   ·have r4:m.fdiv 240000=m / 240000:=jr (by decide);have r5:(m / 240000).fmod 2=m / 240000%2:=ji (by decide);rw[kZ];dsimp! only[r4,r5];refine⟨by decide,?_⟩;by_cases y:m / 240000%2=1
    ·rw[if_pos y];have r6:m.fdiv 480000=m / 480000:=jr (by decide);have r7:(m / 480000).fmod 3=m / 480000%3:=ji (by decide)
     obtain⟨v,ev,v1,v2⟩:∃v:Int,atD [D.int 10,D.int 100,D.int 1000] (m / 480000%3)=some (.int v)/\10<=v/\v<=1000:=by
      have:m / 480000%3=0\/m / 480000%3=1\/m / 480000%3=2:=by lia
      rcases this with e|e|e<;>rw[e]
      ·exact⟨10,rfl,by decide,by decide⟩
      ·exact⟨100,rfl,by decide,by decide⟩
      ·exact⟨1000,rfl,by decide,by decide⟩
     simp_all! only[r6,r7];refine⟨by decide,_,ev,?_⟩;have r8:c.fmod v=c%v:=ji (by lia);have e1:=Int.emod_nonneg c (show v≠0 by lia);have e2:=Int.emod_lt_of_pos c (show (0:Int)<v by lia);dsimp! only[r8,bi_str];have lg:=zc (n:=(c%v).natAbs) (k:=11) (by lia) (by decide)
     have ei:D.str (Str.ofString (toString (c%v)))=tx (dgs (c%v).natAbs):=by
      rw[zW];unfold itS;rw[if_neg (by lia)];rfl
     refine⟨by lia,by lia,_,⟨(yX _).1,KD _,uK (by decide) (show (c%v).natAbs<10^3 by lia)⟩,by rw[ei]⟩
    ·rw[if_neg y];simp_all! only[];refine⟨_,⟨fun x hx=>?_,?_,?_⟩,rfl⟩
     ·rw[(List.mem_replicate.mp hx).2];constructor<;>lia
     ·rw[List.length_replicate];lia
     ·rw[List.length_replicate];lia
   rintro σ ⟨w,⟨aw,w1,w2⟩,rfl⟩;have r4:m.fdiv 1440000=m / 1440000:=jr (by decide);have r5:(m / 1440000).fmod 2=m / 1440000%2:=ji (by decide);simp_all! only[r4,r5,st_e,st_m,qH,KY,List.length_singleton,zO]
   have eb:List.replicate (m / 1440000%2).toNat 45=sgL (decide (m / 1440000%2=1)) 45:=by
    have:m / 1440000%2=0\/m / 1440000%2=1:=by lia
    rcases this with e|e<;>rw[e]<;>rfl
   rw[eb];generalize decide (m / 1440000%2=1)=ne
   have lne:(sgL ne 45).length<=1:=by rw[zF];split<;>lia
   simp only[List.length_append,List.length_singleton]
   have et:sgL neg 45++(f1++(sgL pt 46++f2)) ++ [101]++sgL ne 45++w=txL neg f1 pt f2 (some (ne,w)):=by
    unfold txL exL sgL
    cases ne<;>simp
   rw[et];exact⟨lm _ (by lia),by decide,⟨by lia,by unfold lim;lia⟩,lm _ (by lia),lm _ (by lia),some (ne,w),some (.sh (tx w)),⟨aw,w1,w2⟩,rfl⟩
  ·rw[if_neg z];simp_all! only[];refine⟨none,none,trivial,?_⟩;unfold txL exL;simp
 rintro σ ⟨E,y,he,rfl⟩;simp_all! only[];exact⟨neg,f1,pt,f2,E,rfl,⟨ok.d1,ok.d2,ok.n1,ok.n2,ok.pt0,he⟩⟩
inductive S8 where
 |start|minus|ahead|point|behind|ee|emin|power
 deriving DecidableEq
noncomputable def S8.s:S8->Str
 |.start=>"start"
 |.minus=>"minus"
 |.ahead=>"ahead"
 |.point=>"point"
 |.behind=>"behind"
 |.ee=>"e"
 |.emin=>"e minus"
 |.power=>"power"
theorem uM{i:Str}(ss:List Str){Q:D->Prop}(h:ss.length<=lim):kT .inn (.str i) (.lst (ss.map .str)) Q ↔ Q (.bl (ss.contains i)):=by
 show (∃zs:List Str,ss.map D.str=zs.map .str/\(ss.map D.str).length<=lim/\Q (.bl (zs.contains i == true))) ↔ _;constructor
 ·rintro⟨zs,e,_,q⟩;rw[<- yA e]at q;simpa using q
 ·intro q;exact⟨ss,rfl,by rw[List.length_map];exact h,by simpa using q⟩
noncomputable def in3:S8->Bool
 |.start|.minus|.ahead=>true
 |_=>false
noncomputable def in2:S8->Bool
 |.point|.behind=>true
 |_=>false
noncomputable def inE:S8->Bool
 |.ee|.emin|.power=>true
 |_=>false
noncomputable def inM:S8->Bool
 |.start|.ee=>true
 |_=>false
noncomputable def inP:S8->Bool
 |.ahead|.point|.behind=>true
 |_=>false
noncomputable def inX:S8->Bool
 |.ee|.emin=>true
 |_=>false
section
variable {Q:D->Prop} (s:S8)
theorem m3:kT .inn (.str s.s) (.lst [.str "start",.str "minus",.str "ahead"]) Q ↔ Q (.bl (in3 s)):=by
 rw[show [D.str (Str.ofString "start"),.str (Str.ofString "minus"),.str (Str.ofString "ahead")]=[Str.ofString "start",Str.ofString "minus",Str.ofString "ahead"].map .str from rfl,uM _ (by decide)];rw[show [Str.ofString "start",Str.ofString "minus",Str.ofString "ahead"].contains s.s=in3 s by cases s<;>decide +kernel]
theorem m2:kT .inn (.str s.s) (.lst [.str "point",.str "behind"]) Q ↔ Q (.bl (in2 s)):=by
 rw[show [D.str (Str.ofString "point"),.str (Str.ofString "behind")]=[Str.ofString "point",Str.ofString "behind"].map .str from rfl,uM _ (by decide)];rw[show [Str.ofString "point",Str.ofString "behind"].contains s.s=in2 s by cases s<;>decide +kernel]
theorem mE:kT .inn (.str s.s) (.lst [.str "e",.str "e minus",.str "power"]) Q ↔ Q (.bl (inE s)):=by
 rw[show [D.str (Str.ofString "e"),.str (Str.ofString "e minus"),.str (Str.ofString "power")]=[Str.ofString "e",Str.ofString "e minus",Str.ofString "power"].map .str from rfl,uM _ (by decide)];rw[show [Str.ofString "e",Str.ofString "e minus",Str.ofString "power"].contains s.s=inE s by cases s<;>decide +kernel]
theorem mM:kT .inn (.str s.s) (.lst [.str "start",.str "e"]) Q ↔ Q (.bl (inM s)):=by
 rw[show [D.str (Str.ofString "start"),.str (Str.ofString "e")]=[Str.ofString "start",Str.ofString "e"].map .str from rfl,uM _ (by decide)];rw[show [Str.ofString "start",Str.ofString "e"].contains s.s=inM s by cases s<;>decide +kernel]
theorem mP:kT .inn (.str s.s) (.lst [.str "ahead",.str "point",.str "behind"]) Q ↔ Q (.bl (inP s)):=by
 rw[show [D.str (Str.ofString "ahead"),.str (Str.ofString "point"),.str (Str.ofString "behind")]=[Str.ofString "ahead",Str.ofString "point",Str.ofString "behind"].map .str from rfl,uM _ (by decide)];rw[show [Str.ofString "ahead",Str.ofString "point",Str.ofString "behind"].contains s.s=inP s by cases s<;>decide +kernel]
theorem mX:kT .inn (.str s.s) (.lst [.str "e",.str "e minus"]) Q ↔ Q (.bl (inX s)):=by
 rw[show [D.str (Str.ofString "e"),.str (Str.ofString "e minus")]=[Str.ofString "e",Str.ofString "e minus"].map .str from rfl,uM _ (by decide)];rw[show [Str.ofString "e",Str.ofString "e minus"].contains s.s=inX s by cases s<;>decide +kernel]
end
noncomputable def nxF(s:S8)(f:List Nat)(b:Nat)(w:List Nat)(c:Nat):Option (S8×List Nat×Nat×List Nat) :=
 if c∈FIG/\in3 s=true/\f.length<40 then some (.ahead,f ++ [c],b,w)
 else if c∈FIG/\in2 s=true/\f.length<40 then some (.behind,f ++ [c],b+1,w)
 else if c∈FIG/\inE s=true/\w.length<3 then some (.power,f,b,w ++ [c])
 else if c=45/\inM s=true then some (if s=.ee then .emin else .minus,f,b,w)
 else if c=46/\in3 s=true then some (.point,f,b,w)
 else if c=101/\f ≠ []/\inP s=true then some (.ee,f,b,w)
 else none
theorem jU{C:Cfg}{c:Ex}{a b:Sm}{K:DE}{σ:Sto}{B:Bool}(hc:wpE C c σ fun d=>d=.bl B)(h:if B=true then wpS C a K σ else wpS C b K σ):wpS C (.ite c a b) K σ:=by
 rw[kZ];refine ja c (fun d e=>?_) hc;subst e;rw[uF];exact h
theorem xM{C:Cfg}{a b:Ex}{σ:Sto}{A B:Bool}(ha:wpE C a σ fun d=>d=.bl A)(hb:wpE C b σ fun d=>d=.bl B):wpE C (.and a b) σ fun d=>d=.bl (A&&B):=by
 rw[we_and];refine ja a (fun d e=>?_) ha;subst e;rw[uF];cases A
 ·rfl
 ·exact hb
noncomputable def BodyTo(K:DE)(t:List Nat)(a c:Nat):Option (S8×List Nat×Nat×List Nat)->Prop
 |some (s',f',b',w')=>K.nx [some (.sh (tx t)),some (.sh (.str s'.s)),some (.sh (tx f')),some (.sh (.int b')),some (.sh (tx w')),some (.sh (.int (a+1))),some (.sh (tx [c])),some (.sh (.bl (decide (c∈FIG))))]
 |none=>K.rt (.tup [.bl false,.int a,.int 0])
theorem Qg{C:Cfg}{K:DE}{t:List Nat}{s:S8}{f w:List Nat}{b a:Nat}{c:Nat}{x y:Option Sl}(hc:t[a]?=some c)(ht:t.length<=200)(hf:f.length<=40)(hw:w.length<=3)
 {o:Option (S8×List Nat×Nat×List Nat)} (e:nxF s f b w c=o)
 (fin:BodyTo K t a c o) :
 wpS C (.seq (.set 6 (.ix (.var 0) (.var 5)))
 (.seq (.set 7 (.cmp .inn (.var 6) (.cst (.str "0123456789"))))
 (.seq (.ite (.and (.var 7) (.and (.cmp .inn (.var 1) (.lst [(.cst (.str "start")),(.cst (.str "minus")),(.cst (.str "ahead"))])) (.cmp .lt (.bi .len [(.var 2)]) (.cst (.int 40))))) (.seq (.set 1 (.cst (.str "ahead")))
  (.seq (.set 2 (.bin .add (.var 2) (.var 6)))
  .nop)) (.seq (.ite (.and (.var 7) (.and (.cmp .inn (.var 1) (.lst [(.cst (.str "point")),(.cst (.str "behind"))])) (.cmp .lt (.bi .len [(.var 2)]) (.cst (.int 40))))) (.seq (.set 1 (.cst (.str "behind")))
   (.seq (.set 2 (.bin .add (.var 2) (.var 6)))
   (.seq (.set 3 (.bin .add (.var 3) (.cst (.int 1))))
   .nop))) (.seq (.ite (.and (.var 7) (.and (.cmp .inn (.var 1) (.lst [(.cst (.str "e")),(.cst (.str "e minus")),(.cst (.str "power"))])) (.cmp .lt (.bi .len [(.var 4)]) (.cst (.int 3))))) (.seq (.set 1 (.cst (.str "power")))
    (.seq (.set 4 (.bin .add (.var 4) (.var 6)))
    .nop)) (.seq (.ite (.and (.cmp .eq (.var 6) (.cst (.str "-"))) (.cmp .inn (.var 1) (.lst [(.cst (.str "start")),(.cst (.str "e"))]))) (.seq (.set 1 (.ix (.lst [(.cst (.str "minus")),(.cst (.str "e minus"))]) (.bi .int [(.cmp .eq (.var 1) (.cst (.str "e")))])))
     .nop) (.seq (.ite (.and (.cmp .eq (.var 6) (.cst (.str "."))) (.cmp .inn (.var 1) (.lst [(.cst (.str "start")),(.cst (.str "minus")),(.cst (.str "ahead"))]))) (.seq (.set 1 (.cst (.str "point")))
      .nop) (.seq (.ite (.and (.cmp .eq (.var 6) (.cst (.str "e"))) (.and (.cmp .ne (.var 2) (.cst (.str ""))) (.cmp .inn (.var 1) (.lst [(.cst (.str "ahead")),(.cst (.str "point")),(.cst (.str "behind"))])))) (.seq (.set 1 (.cst (.str "e")))
       .nop) (.seq (.ret (.tup [(.cst (.bl false)),(.var 5),(.cst (.int 0))]))
       .nop))
      .nop))
     .nop))
    .nop))
   .nop))
  .nop))
 (.seq (.set 5 (.bin .add (.var 5) (.cst (.int 1))))
 .nop)))) K [some (.sh (tx t)),some (.sh (.str s.s)),some (.sh (tx f)),some (.sh (.int b)),some (.sh (tx w)),some (.sh (.int a)),x,y]:=by
 have lm:∀a:Nat,a<=200->a<=lim:=fun a h=>by unfold lim;lia
 have ix:=fun Q=>JU (Q:=Q) (l:=t) (i:=(a:Int)) (by lia) (lm _ ht) (c:=c) (by simpa using hc)
 have tl:=fun(l:List Nat) (h:l.length<=200) (Q:D->Prop)=>(yu (l:=l) (Q:=Q)).trans (and_iff_right (lm _ h))
 have tf:=tl f (by lia);have tw:=tl w (by lia);simp_all! only[ix,st_fig,tx_in];unfold nxF at e
 have fg:wpE C (.var 7) [some (.sh (tx t)),some (.sh (.str s.s)),some (.sh (tx f)),some (.sh (.int b)),some (.sh (tx w)),some (.sh (.int a)),some (.sh (tx [c])),some (.sh (.bl (decide (c∈FIG))))] fun d=>d=.bl (decide (c∈FIG)):=by dsimp! only[]
 have t3:wpE C (.cmp .inn (.var 1) (.lst [(.cst (.str "start")),(.cst (.str "minus")),(.cst (.str "ahead"))])) [some (.sh (tx t)),some (.sh (.str s.s)),some (.sh (tx f)),some (.sh (.int b)),some (.sh (tx w)),some (.sh (.int a)),some (.sh (tx [c])),some (.sh (.bl (decide (c∈FIG))))] fun d=>d=.bl (in3 s):=by simp only[wE_cmp,wE_var,wE_lst,wE_cst,wE_ix,wE_bi,wE_isi,wE_call,wE_bin,wpEs,getS];rw[m3]
 have t2:wpE C (.cmp .inn (.var 1) (.lst [(.cst (.str "point")),(.cst (.str "behind"))])) [some (.sh (tx t)),some (.sh (.str s.s)),some (.sh (tx f)),some (.sh (.int b)),some (.sh (tx w)),some (.sh (.int a)),some (.sh (tx [c])),some (.sh (.bl (decide (c∈FIG))))] fun d=>d=.bl (in2 s):=by simp only[wE_cmp,wE_var,wE_lst,wE_cst,wE_ix,wE_bi,wE_isi,wE_call,wE_bin,wpEs,getS];rw[m2]
 have tE:wpE C (.cmp .inn (.var 1) (.lst [(.cst (.str "e")),(.cst (.str "e minus")),(.cst (.str "power"))])) [some (.sh (tx t)),some (.sh (.str s.s)),some (.sh (tx f)),some (.sh (.int b)),some (.sh (tx w)),some (.sh (.int a)),some (.sh (tx [c])),some (.sh (.bl (decide (c∈FIG))))] fun d=>d=.bl (inE s):=by simp only[wE_cmp,wE_var,wE_lst,wE_cst,wE_ix,wE_bi,wE_isi,wE_call,wE_bin,wpEs,getS];rw[mE]
 have tM:wpE C (.cmp .inn (.var 1) (.lst [(.cst (.str "start")),(.cst (.str "e"))])) [some (.sh (tx t)),some (.sh (.str s.s)),some (.sh (tx f)),some (.sh (.int b)),some (.sh (tx w)),some (.sh (.int a)),some (.sh (tx [c])),some (.sh (.bl (decide (c∈FIG))))] fun d=>d=.bl (inM s):=by simp only[wE_cmp,wE_var,wE_lst,wE_cst,wE_ix,wE_bi,wE_isi,wE_call,wE_bin,wpEs,getS];rw[mM]
 have tP:wpE C (.cmp .inn (.var 1) (.lst [(.cst (.str "ahead")),(.cst (.str "point")),(.cst (.str "behind"))])) [some (.sh (tx t)),some (.sh (.str s.s)),some (.sh (tx f)),some (.sh (.int b)),some (.sh (tx w)),some (.sh (.int a)),some (.sh (tx [c])),some (.sh (.bl (decide (c∈FIG))))] fun d=>d=.bl (inP s):=by simp only[wE_cmp,wE_var,wE_lst,wE_cst,wE_ix,wE_bi,wE_isi,wE_call,wE_bin,wpEs,getS];rw[mP]
 have lf:wpE C (.cmp .lt (.bi .len [(.var 2)]) (.cst (.int 40))) [some (.sh (tx t)),some (.sh (.str s.s)),some (.sh (tx f)),some (.sh (.int b)),some (.sh (tx w)),some (.sh (.int a)),some (.sh (tx [c])),some (.sh (.bl (decide (c∈FIG))))] fun d=>d=.bl (decide (f.length<40)):=by
  dsimp! only[tf];exact congrArg _ (decide_eq_decide.mpr (by lia))
 have lw:wpE C (.cmp .lt (.bi .len [(.var 4)]) (.cst (.int 3))) [some (.sh (tx t)),some (.sh (.str s.s)),some (.sh (tx f)),some (.sh (.int b)),some (.sh (tx w)),some (.sh (.int a)),some (.sh (tx [c])),some (.sh (.bl (decide (c∈FIG))))] fun d=>d=.bl (decide (w.length<3)):=by
  dsimp! only[tw];exact congrArg _ (decide_eq_decide.mpr (by lia))
 have eq1:∀(z:Str) (v:Nat),D.str z=tx [v]->wpE C (.cmp .eq (.var 6) (.cst (.str z))) [some (.sh (tx t)),some (.sh (.str s.s)),some (.sh (tx f)),some (.sh (.int b)),some (.sh (tx w)),some (.sh (.int a)),some (.sh (tx [c])),some (.sh (.bl (decide (c∈FIG))))] fun d=>d=.bl (decide (c=v)):=fun z v hz=>by
  dsimp! only[hz,zj,xK];exact congrArg _ (decide_eq_decide.mpr (by simp))
 have fe:wpE C (.cmp .ne (.var 2) (.cst (.str ""))) [some (.sh (tx t)),some (.sh (.str s.s)),some (.sh (tx f)),some (.sh (.int b)),some (.sh (tx w)),some (.sh (.int a)),some (.sh (tx [c])),some (.sh (.bl (decide (c∈FIG))))] fun d=>d=.bl (decide (f ≠ [])):=by
  dsimp! only[Kx,zj,xK];exact congrArg _ (by simp)
 rw[jp];refine jU (xM fg (xM t3 lf)) ?_;by_cases z1:c∈FIG/\in3 s=true/\f.length<40
 ·rw[if_pos z1]at e;subst e;rw[if_pos (by simp[z1])];simp_all! only[qH];exact⟨lm _ (by lia),fin⟩
 rw[if_neg z1]at e;rw[if_neg (by simpa using z1),jp];refine jU (xM fg (xM t2 lf)) ?_;by_cases z2:c∈FIG/\in2 s=true/\f.length<40
 ·rw[if_pos z2]at e;subst e;rw[if_pos (by simp[z2])];simp_all! only[qH];refine⟨lm _ (by lia),?_⟩;simp only[BodyTo]at fin;rw[show ((b+1:Nat):Int)=(b:Int)+1 by lia]at fin;exact fin
 rw[if_neg z2]at e;rw[if_neg (by simpa using z2),jp];refine jU (xM fg (xM tE lw)) ?_;by_cases z3:c∈FIG/\inE s=true/\w.length<3
 ·rw[if_pos z3]at e;subst e;rw[if_pos (by simp[z3])];simp_all! only[qH];exact⟨lm _ (by lia),fin⟩
 rw[if_neg z3]at e;rw[if_neg (by simpa using z3),jp];refine jU (xM (eq1 _ 45 st_m) tM) ?_;by_cases z4:c=45/\inM s=true
 ·rw[if_pos z4]at e;subst e;rw[if_pos (by simp[z4])]
  have:s=.start\/s=.ee:=by
   have:=z4.2
   cases s<;>simp_all [inM]
  rcases this with rfl|rfl
  ·have e1:eqD (.str S8.start.s) (.str (Str.ofString "e"))=false:=by decide +kernel
   simp_all! only[e1];exact fin
  ·have e1:eqD (.str S8.ee.s) (.str (Str.ofString "e"))=true:=by decide +kernel
   simp_all! only[e1];exact fin
 rw[if_neg z4]at e;rw[if_neg (by simpa using z4),jp];refine jU (xM (eq1 _ 46 st_p) t3) ?_;by_cases z5:c=46/\in3 s=true
 ·rw[if_pos z5]at e;subst e;rw[if_pos (by simp[z5])];simp_all! only[];exact fin
 rw[if_neg z5]at e;rw[if_neg (by simpa using z5),jp];refine jU (xM (eq1 _ 101 st_e) (xM fe tP)) ?_;by_cases z6:c=101/\f ≠ []/\inP s=true
 ·rw[if_pos z6]at e;subst e;rw[if_pos (by simp[z6])];simp_all! only[];exact fin
 ·rw[if_neg z6]at e;subst e;rw[if_neg (by simpa using z6)];simp_all! only[];exact fin
noncomputable def pw:Option (Bool×List Nat)->List Nat
 |none=>[]
 |some (_,p)=>p
theorem st_em:Str.ofString "e-"=sx [101,45]:=by decide +kernel
theorem e_in{A ds:List Nat}{ne:Bool}(hA:101 ∉ A)(hd:AllDigits ds){Q:D->Prop}:kT .inn (.str (Str.ofString "e-")) (tx (A++101::((if ne then [45] else [])++ds))) Q ↔ Q (.bl ne):=by
 rw[st_em];show Q (.bl ((!(Builtin.Str.occurrences (sx (A++101::((if ne then [45] else [])++ds))) (sx [101,45]) 0 (sx (A++101::((if ne then [45] else [])++ds))).length 1).isEmpty) == true)) ↔ _
 have key:(!(Builtin.Str.occurrences (sx (A++101::((if ne then [45] else [])++ds))) (sx [101,45]) 0 (sx (A++101::((if ne then [45] else [])++ds))).length 1).isEmpty)=ne:=by
  rw[Bool.eq_iff_iff,StrLaws.found_iff]
  have sb:∀i,Builtin.Str.subAt (sx (A++101::((if ne then [45] else [])++ds))) (sx [101,45]) i=true ↔ ((A++101::((if ne then [45] else [])++ds)).drop i).take 2=[101,45]:=fun i=>by
   rw[StrLaws.subAt_eq,kx,kx,beq_iff_eq];rfl
  constructor
  ·rintro⟨i,_,h⟩;rw[sb]at h
   cases ne with
   |true=>rfl
   |false =>
    exfalso;simp only[Bool.false_eq_true,if_false,List.nil_append]at h
    have g0:(A++101::ds)[i]?=some 101:=by
     have:=congrArg (·[0]?) h;simpa using this
    have g1:(A++101::ds)[i+1]?=some 45:=by
     have:=congrArg (·[1]?) h;simpa using this
    have gi:i=A.length:=by
     rcases Nat.lt_trichotomy i A.length with z|z|z
     ·rw[List.getElem?_append_left z]at g0;exact absurd (List.mem_of_getElem? g0) hA
     ·exact z
     ·rw[List.getElem?_append_right (by lia)]at g0
      obtain⟨j,hj⟩:∃j,i-A.length=j+1:=⟨i-A.length-1,by lia⟩
      rw[hj,List.getElem?_cons_succ]at g0;have:=hd _ (List.mem_of_getElem? g0);lia
    subst gi;rw[List.getElem?_append_right (by lia),show A.length+1-A.length=0+1 by lia,List.getElem?_cons_succ]at g1;have:=hd _ (List.mem_of_getElem? g1);lia
  ·intro h;subst h;refine⟨A.length,?_,(sb _).mpr ?_⟩
   ·rw[ki,ki,List.length_append];simp
   ·rw[List.drop_left];rfl
 rw[key];simp
section
variable {neg pt:Bool} {f1 f2:List Nat} {E:Option (Bool×List Nat)}
theorem ahead_no(h:TxOk pt f1 f2 E):101 ∉ sgL neg 45++(f1++(sgL pt 46++f2)):=by
 have sg:∀(q:Bool) (c:Nat),c≠101->101 ∉ sgL q c:=fun q c hc z=>by
  unfold sgL at z;split at z
  ·rw[List.mem_singleton]at z;exact hc z.symm
  ·cases z
 intro z;rcases List.mem_append.mp z with z|z
 ·exact sg _ _ (by decide) z
 rcases List.mem_append.mp z with z|z
 ·have:=h.d1 _ z;lia
 rcases List.mem_append.mp z with z|z
 ·exact sg _ _ (by decide) z
 ·have:=h.d2 _ z;lia
end
noncomputable def c_power:Ctr where
 pre ds:=∃(neg:Bool) (f1:List Nat) (pt:Bool) (f2:List Nat) (E:Option (Bool×List Nat)),ds=[tx (txL neg f1 pt f2 E),tx (pw E)]/\TxOk pt f1 f2 E
 res ds d:=∀(neg:Bool) (f1:List Nat) (pt:Bool) (f2:List Nat) (E:Option (Bool×List Nat)),ds=[tx (txL neg f1 pt f2 E),tx (pw E)]->TxOk pt f1 f2 E->d=.int (exV E)
theorem wp_power{neg pt:Bool}{f1 f2:List Nat}{E':Option (Bool×List Nat)}{Q:D->Prop}{E:XD->Prop}(h:TxOk pt f1 f2 E'):c_power.wp [tx (txL neg f1 pt f2 E'),tx (pw E')] Q E ↔ Q (.int (exV E')) :=
 ⟨fun z=>z.2.1 _ fun neg' f1' pt' f2' E'' e h'=>by
  simp only[List.cons.injEq,and_true]at e
  rw[(Jg h h' (kj e.1)).2.2.2],fun q=>⟨⟨neg,f1,pt,f2,E',rfl,h⟩,fun d e=>by rw[e neg f1 pt f2 E' rfl h];exact q,fun _ z=>z.elim⟩⟩
theorem k_power{C:Cfg}:jC C 2 b_law_power c_power:=by
 rintro ds ⟨neg,f1,pt,f2,E,rfl,h⟩
 have fin:c_power.res [tx (txL neg f1 pt f2 E),tx (pw E)] (.int (exV E)):=fun neg' f1' pt' f2' E'' e h'=>by
  simp only[List.cons.injEq,and_true]at e;rw[(Jg h h' (kj e.1)).2.2.2]
 rw[b_law_power]
 cases E with
 |none =>
  refine zR (by dsimp! only[Kx,zj,xK];rfl) ?_;simp_all! only[]
  exact fin
 |some q =>
  obtain⟨ne,w⟩:=q;obtain⟨aw,w1,w2⟩:=h.ex
  have w0:w ≠ []:=fun z=>by rw[z]at w1;simp at w1
  refine kB (by dsimp! only[Kx,zj,xK];exact congrArg _ (decide_eq_false w0)) ?_
  have et:txL neg f1 pt f2 (some (ne,w))=(sgL neg 45++(f1++(sgL pt 46++f2)))++101::((if ne then [45] else [])++w):=by
   unfold txL exL;simp
  have ti:=fun Q=>Jt (Q:=Q) aw w0 (by lia)
  have ei:=fun Q=>e_in (Q:=Q) (ne:=ne) (ahead_no (neg:=neg) h) aw
  rw[<- et]at ei;have ep:pw (some (ne,w))=w:=rfl;rw[ep]at fin ⊢
  cases ne with
  |true =>
   refine zR (by dsimp! only[ei]) ?_;simp_all! only[ti]
   have:(0:Int)-(digitsVal w:Nat)=exV (some (true,w)):=by unfold exV;simp
   rw[this]
   exact fin
  |false =>
   refine kB (by dsimp! only[ei]) ?_;simp_all! only[ti];exact fin
inductive Ph (neg pt:Bool) (f1 f2:List Nat) (E:Option (Bool×List Nat)):S8->List Nat->Nat->List Nat->List Nat->Prop where
 |sg:neg=true->Ph neg pt f1 f2 E .start [] 0 [] (45::(f1++(sgL pt 46++(f2++exL E))))
 |ah (d r:List Nat) (s:S8):f1=d++r->(d=[]->s=.start\/s=.minus)->(d ≠ []->s=.ahead)->Ph neg pt f1 f2 E s d 0 [] (r++(sgL pt 46++(f2++exL E)))
 |be (d r:List Nat) (s:S8):f2=d++r->(d=[]->s=.point)->(d ≠ []->s=.behind)->Ph neg pt f1 f2 E s (f1++d) d.length [] (r++exL E)
 |ex (w:List Nat):E=some (true,w)->Ph neg pt f1 f2 E .ee (f1++f2) f2.length [] (45::w)
 |pow (ne:Bool) (d r:List Nat) (s:S8):E=some (ne,d++r)->(d=[]->s=.ee\/s=.emin)->(d ≠ []->s=.power)->Ph neg pt f1 f2 E s (f1++f2) f2.length d r
theorem uD{c:Nat}(h:48<=c/\c<=57):c∈FIG:=by
 have:c=48\/c=49\/c=50\/c=51\/c=52\/c=53\/c=54\/c=55\/c=56\/c=57:=by lia
 unfold FIG;simp only[List.mem_cons];lia
section
variable {neg pt:Bool} {f1 f2:List Nat} {E:Option (Bool×List Nat)}
theorem to_e(h:TxOk pt f1 f2 E){c:Nat}{rest:List Nat}(e:exL E=c::rest){s:S8}(hs:inP s=true):nxF s (f1++f2) f2.length [] c=some (.ee,f1++f2,f2.length,[])/\Ph neg pt f1 f2 E .ee (f1++f2) f2.length [] rest:=by
 have ne:f1++f2 ≠ []:=fun z=>by
  have:=h.n1;rw[<- List.length_append,z]at this;simp at this
 cases E with
 |none=>cases e
 |some q =>
  obtain⟨g,w⟩:=q;simp only[exL,List.cons.injEq]at e;obtain⟨rfl,rfl⟩:=e;refine⟨?_,?_⟩
  ·unfold nxF
   have n1:¬ (101:Nat)∈FIG:=by decide
   simp[n1,hs,ne]
  ·cases g with
   |true=>exact .ex w rfl
   |false=>exact .pow false [] w .ee rfl (fun _=>.inl rfl) fun z=>absurd rfl z
theorem Ph.step(h:TxOk pt f1 f2 E){s:S8}{f w:List Nat}{b c:Nat}{rest:List Nat}{R:List Nat}(p:Ph neg pt f1 f2 E s f b w R)(hR:c::rest=R):∃s' f' b' w',nxF s f b w c=some (s',f',b',w')/\Ph neg pt f1 f2 E s' f' b' w' rest:=by
 have n2:=h.n2
 cases p with
 |sg hn =>
  cases hR;refine⟨.minus,[],0,[],?_,.ah [] f1 .minus rfl (fun _=>.inr rfl) fun z=>absurd rfl z⟩;unfold nxF
  have n1:¬ (45:Nat)∈FIG:=by decide
  simp[n1,inM]
 |ah _ r _ e h0 h1 =>
  have s3:in3 s=true:=by
   by_cases z:f=[]
   ·rcases h0 z with e|e<;>rw[e]<;>rfl
   ·rw[h1 z];rfl
  cases r with
  |cons x r =>
   simp only[List.cons_append,List.cons.injEq]at hR;obtain⟨rfl,rfl⟩:=hR;have hx:=h.d1 c (by rw[e];simp)
   have hl:f.length<40:=by rw[e,List.length_append,List.length_cons]at n2;lia
   refine⟨.ahead,f ++ [c],0,[],?_,.ah (f ++ [c]) r .ahead (by rw[e];simp) (fun z=>by simp at z) fun _=>rfl⟩;unfold nxF
   rw[if_pos ⟨uD hx,s3,hl⟩]
  |nil =>
   rw[List.append_nil]at e;subst e
   cases pt with
   |true =>
    simp only[List.nil_append,sgL,if_true,List.cons_append,List.cons.injEq]at hR;obtain⟨rfl,rfl⟩:=hR;refine⟨.point,f1,0,[],?_,?_⟩
    ·unfold nxF
     have n1:¬ (46:Nat)∈FIG:=by decide
     simp[n1,s3]
    ·have:=Ph.be (neg:=neg) (pt:=true) (f1:=f1) (f2:=f2) (E:=E) [] f2 .point rfl (fun _=>rfl) fun z=>absurd rfl z
     rw[List.append_nil]at this
     exact this
   |false =>
    have e2:=h.pt0 rfl;subst e2;simp only[List.nil_append,sgL,Bool.false_eq_true,if_false]at hR
    have f0:f1 ≠ []:=fun z=>by have:=h.n1;rw[z]at this;simp at this
    have:=to_e (neg:=neg) h hR.symm (s:=s) (by rw[h1 f0];rfl);rw[List.append_nil]at this
    exact⟨_,_,_,_,this.1,this.2⟩
 |be d r _ e h0 h1 =>
  have s2:in2 s=true/\in3 s=false/\inP s=true:=by
   by_cases z:d=[]
   ·rw[h0 z];exact⟨rfl,rfl,rfl⟩
   ·rw[h1 z];exact⟨rfl,rfl,rfl⟩
  cases r with
  |cons x r =>
   simp only[List.cons_append,List.cons.injEq]at hR;obtain⟨rfl,rfl⟩:=hR;have hx:=h.d2 c (by rw[e];simp)
   have hl:(f1++d).length<40:=by rw[e,List.length_append,List.length_cons]at n2;rw[List.length_append];lia
   refine⟨.behind,f1++d ++ [c],d.length+1,[],?_,?_⟩
   ·unfold nxF;rw[if_neg (by rw[s2.2.1];simp),if_pos ⟨uD hx,s2.1,hl⟩]
   ·have:=Ph.be (neg:=neg) (pt:=pt) (f1:=f1) (f2:=f2) (E:=E) (d ++ [c]) r .behind (by rw[e];simp) (fun z=>by simp at z) fun _=>rfl
    rw[List.length_append,List.length_singleton,<- List.append_assoc]at this
    exact this
  |nil =>
   rw[List.append_nil]at e;subst e;simp only[List.nil_append]at hR;have:=to_e (neg:=neg) h hR.symm (s:=s) s2.2.2
   exact⟨_,_,_,_,this.1,this.2⟩
 |ex w e =>
  cases hR;refine⟨.emin,_,_,_,?_,.pow true [] rest .emin e (fun _=>.inr rfl) fun z=>absurd rfl z⟩;unfold nxF
  have n1:¬ (45:Nat)∈FIG:=by decide
  simp[n1,inM]
 |pow ne d r _ e h0 h1 =>
  cases hR
  have s2:inE s=true/\in3 s=false/\in2 s=false:=by
   by_cases z:w=[]
   ·rcases h0 z with e|e<;>rw[e]<;>exact⟨rfl,rfl,rfl⟩
   ·rw[h1 z];exact⟨rfl,rfl,rfl⟩
  have hx:=h.ex;rw[e]at hx;have hc:=hx.1 c (by simp)
  have hl:w.length<3:=by have:=hx.2.2;rw[List.length_append,List.length_cons]at this;lia
  refine⟨.power,_,_,w ++ [c],?_,.pow ne (w ++ [c]) rest .power (by rw[e];simp) (fun z=>by simp at z) fun _=>rfl⟩;unfold nxF;rw[if_neg (by rw[s2.2.1];simp),if_neg (by rw[s2.2.2];simp),if_pos ⟨uD hc,s2.1,hl⟩]
theorem Ph.done(h:TxOk pt f1 f2 E){s:S8}{f w R:List Nat}{b:Nat}(p:Ph neg pt f1 f2 E s f b w R)(hR:R=[]):f=f1++f2/\b=f2.length/\w=pw E/\inX s=false/\f ≠ []:=by
 have ne:f1++f2 ≠ []:=fun z=>by
  have:=h.n1;rw[<- List.length_append,z]at this;simp at this
 have no:exL E=[]->E=none:=fun z=>by
  cases E with
  |none=>rfl
  |some q=>cases z
 cases p with
 |sg hn=>cases hR
 |ah d r _ e h0 h1 =>
  simp only[List.append_eq_nil_iff]at hR;obtain⟨rfl,hp,rfl,he⟩:=hR;rw[List.append_nil]at e;subst e;have:=no he;subst this;rw[List.append_nil]at ne ⊢
  exact⟨rfl,rfl,rfl,by rw[h1 ne];rfl,ne⟩
 |be d r _ e h0 h1 =>
  simp only[List.append_eq_nil_iff]at hR;obtain⟨rfl,he⟩:=hR;rw[List.append_nil]at e;subst e;have:=no he;subst this;refine⟨rfl,rfl,rfl,?_,ne⟩;by_cases z:f2=[]
  ·rw[h0 z];rfl
  ·rw[h1 z];rfl
 |ex w e=>cases hR
 |pow ne' d r _ e h0 h1 =>
  subst hR;rw[List.append_nil]at e;subst e;have:=h.ex.2.1
  have w0:w ≠ []:=fun z=>by rw[z]at this;simp at this
  exact⟨rfl,rfl,rfl,by rw[h1 w0];rfl,ne⟩
theorem Ph.small(h:TxOk pt f1 f2 E){s:S8}{f w rest:List Nat}{b:Nat}(p:Ph neg pt f1 f2 E s f b w rest):f.length<=40/\w.length<=3/\b<=40:=by
 have n2:=h.n2
 cases p with
 |sg hn=>simp
 |ah d r _ e h0 h1=>rw[e,List.length_append]at n2;simp;lia
 |be d r _ e h0 h1=>rw[e,List.length_append]at n2;rw[List.length_append];simp;lia
 |ex w e=>rw[List.length_append];simp;lia
 |pow ne d r _ e h0 h1 =>
  have hx:=h.ex;rw[e]at hx;have:=hx.2.2;rw[List.length_append]at this;rw[List.length_append];lia
end
noncomputable def Kv:Ctr where
 pre ds:=∃(neg:Bool) (f1:List Nat) (pt:Bool) (f2:List Nat) (E:Option (Bool×List Nat)),ds=[tx (txL neg f1 pt f2 E)]/\TxOk pt f1 f2 E
 res ds d:=∀(neg:Bool) (f1:List Nat) (pt:Bool) (f2:List Nat) (E:Option (Bool×List Nat)),ds=[tx (txL neg f1 pt f2 E)]->TxOk pt f1 f2 E->d=.tup [.bl true,tx (f1++f2),.int (exV E-f2.length)]
theorem fin_reads{neg pt:Bool}{f1 f2:List Nat}{E:Option (Bool×List Nat)}(h:TxOk pt f1 f2 E):Kv.res [tx (txL neg f1 pt f2 E)] (.tup [.bl true,tx (f1++f2),.int (exV E-f2.length)]):=fun neg' f1' pt' f2' E' e h'=>by
 simp only[List.cons.injEq,and_true]at e;obtain⟨rfl,rfl,rfl,ev⟩:=Jg h h' (kj e);rw[ev]
theorem k_reads{C:Cfg}{i1:Nat}(h1:C.ct i1=c_power):jC C 8 (b_law_reads i1) Kv:=by
 rintro ds ⟨neg,f1,pt,f2,E,rfl,h⟩;have fin:=fin_reads (neg:=neg) h;have tlen:=zb (neg:=neg) h
 have lm:∀a:Nat,a<=100->a<=lim:=fun a h=>by unfold lim;lia
 rw[b_law_reads]
 obtain⟨t,ht⟩:∃t,t=txL neg f1 pt f2 E:=⟨_,rfl⟩
 rw[<- ht]at tlen fin ⊢
 have tl:=fun Q=>(yu (l:=t) (Q:=Q)).trans (and_iff_right (lm _ (by lia)))
 simp_all! only[Kx];refine jO (fun σ=>∃(s:S8) (f w:List Nat) (b:Nat) (x y:Option Sl),Ph neg pt f1 f2 E s f b w []/\σ=[some (.sh (tx t)),some (.sh (.str s.s)),some (.sh (tx f)),some (.sh (.int b)),some (.sh (tx w)),some (.sh (.int t.length)),x,y]) ?_ ?_
 ·refine qJ (fun σ=>∃(s:S8) (f w:List Nat) (b a:Nat) (x y:Option Sl),(a<=t.length/\Ph neg pt f1 f2 E s f b w (t.drop a))/\σ=[some (.sh (tx t)),some (.sh (.str s.s)),some (.sh (tx f)),some (.sh (.int b)),some (.sh (tx w)),some (.sh (.int a)),x,y]) (fun σ=>100-(xu σ 5).toNat) ?_ ?_
  ·refine⟨.start,[],[],0,0,none,none,⟨Nat.zero_le _,?_⟩,rfl⟩;rw[List.drop_zero,ht]
   cases neg with
   |true =>
    have:txL true f1 pt f2 E=45::(f1++(sgL pt 46++(f2++exL E))):=rfl;rw[this]
    exact .sg rfl
   |false =>
    have:txL false f1 pt f2 E=f1++(sgL pt 46++(f2++exL E)):=rfl;rw[this]
    exact .ah [] f1 .start rfl (fun _=>.inl rfl) fun z=>absurd rfl z
  ·rintro σ ⟨s,f,w,b,a,x,y,⟨ha,ph⟩,rfl⟩;dsimp! only[tl];obtain⟨sf,sw,sb⟩:=ph.small h;by_cases z:a<t.length
   ·rw[if_pos (by lia)]
    obtain⟨c,hc⟩:∃c,t[a]?=some c:=⟨_,List.getElem?_eq_getElem z⟩
    have hd:c::t.drop (a+1)=t.drop a:=by
     rw[List.drop_eq_getElem_cons z];have:=List.getElem?_eq_getElem z;rw[hc]at this;rw[Option.some.inj this]
    obtain⟨s',f',b',w',en,ph'⟩:=ph.step h hd;refine Qg hc (by lia) sf sw en ?_;refine⟨by simp only[xu,getS];lia,s',f',w',b',a+1,some (.sh (tx [c])),some (.sh (.bl (decide (c∈FIG)))),⟨by lia,ph'⟩,?_⟩;rw[show ((a+1:Nat):Int)=(a:Int)+1 by lia]
   ·rw[if_neg (by lia)]
    have e:a=t.length:=by lia
    subst e;rw[List.drop_length]at ph;exact⟨s,f,w,b,x,y,ph,rfl⟩
 rintro σ ⟨s,f,w,b,x,y,ph,rfl⟩;obtain⟨rfl,rfl,rfl,ix,ne⟩:=ph.done h rfl
 have wp:=fun Q X=>wp_power (neg:=neg) (Q:=Q) (E:=X) h
 rw[<- ht]at wp;refine kB ?_ ?_
 ·rw[we_or];refine ja (Q:=fun d=>d=.bl false) _ (fun d hd=>?_) (by dsimp! only[Kx,zj,xK];exact congrArg _ (decide_eq_false ne));subst hd;rw[uF,if_neg (by decide)];simp only[wE_cmp,wE_var,wE_lst,wE_cst,wE_ix,wE_bi,wE_isi,wE_call,wE_bin,wpEs,getS];rw[mX,ix]
 simp_all! only[h1,wp];exact fin
theorem vV{E:Option (Bool×List Nat)}(h:exOk E):-1000<=exV E/\exV E<=1000:=by
 cases E with
 |none=>decide
 |some q =>
  obtain⟨g,w⟩:=q;have u:=x5 w h.1;have:(10:Nat)^w.length<=10^3:=Nat.pow_le_pow_right (by decide) h.2.2
  have e:(10:Nat)^3=1000:=by decide
  unfold exV
  cases g<;>simp<;>lia
theorem tt_cross(v p:Int):ttF v p*((10^(if 0-p > 0 then 0-p else 0).toNat:Int):Rat)=((v*10^(if p > 0 then p else 0).toNat:Int):Rat):=by
 rw[tt_val];rcases Int.lt_trichotomy p 0 with h|h|h
 ·rw[if_pos (by lia),if_neg (by lia)]
  obtain⟨k,hk⟩:∃k:Nat,p=-(k:Int):=⟨(-p).toNat,by lia⟩
  subst hk;rw[show (0 - -(k:Int)).toNat=k by lia,<- qN,Rat.mul_assoc,xm];simp
 ·subst h;simp[vz]
 ·rw[if_neg (by lia),if_pos h]
  obtain⟨k,hk⟩:∃k:Nat,p=k:=⟨p.toNat,by lia⟩
  subst hk;rw[Int.toNat_natCast,Rat.intCast_mul,qN];simp
end Z.K52
set_option exponentiation.threshold 3000
namespace Z.J53
open PySem PySem.NumText Z Z.K52
noncomputable def b_power_atX(i_behind_sign i_behind_figures c_MOST_POWER_FIGURES:Nat):Sm :=
 (.seq (.ite (.cmp .ne (.slc (.var 0) (.var 1) (.bin .add (.var 1) (.cst (.int 1)))) (.cst (.str "e"))) (.seq (.ret (.tup [(.cst (.int 0)),(.var 1)]))
  .nop) .nop)
 (.seq (.set 2 (.call i_behind_sign [(.var 0),(.bin .add (.var 1) (.cst (.int 1))),(.cst (.str "-"))]))
 (.seq (.set 3 (.call i_behind_figures [(.var 0),(.var 2),(.con c_MOST_POWER_FIGURES)]))
 (.seq (.ite (.cmp .eq (.var 3) (.var 2)) (.seq (.raiseA "BadText" (.var 3))
  .nop) .nop)
 (.seq (.ret (.tup [(.bi .int [(.slc (.var 0) (.bin .add (.var 1) (.cst (.int 1))) (.var 3))]),(.var 3)]))
 .nop)))))
noncomputable def b_read_textX(i_behind_sign i_behind_figures i_power_atX i_times_ten c_MOST_FIGURES:Nat):Sm :=
 (.seq (.set 1 (.call i_behind_sign [(.var 0),(.cst (.int 0)),(.cst (.str "-"))]))
 (.seq (.set 2 (.call i_behind_figures [(.var 0),(.var 1),(.con c_MOST_FIGURES)]))
 (.seq (.set 3 (.call i_behind_sign [(.var 0),(.var 2),(.cst (.str "."))]))
 (.seq (.set 4 (.call i_behind_figures [(.var 0),(.var 3),(.bin .sub (.con c_MOST_FIGURES) (.bin .sub (.var 2) (.var 1)))]))
 (.seq (.ite (.and (.cmp .eq (.var 1) (.var 2)) (.cmp .eq (.var 3) (.var 4))) (.seq (.raiseA "BadText" (.var 4))
  .nop) .nop)
 (.seq (.setX 5 [] i_power_atX [(.var 0),(.var 4)])
 (.seq (.ite (.cmp .lt (.ix (.var 5) (.cst (.int 1))) (.bi .len [(.var 0)])) (.seq (.raiseA "BadText" (.ix (.var 5) (.cst (.int 1))))
  .nop) .nop)
 (.seq (.set 6 (.bi .int [(.bin .add (.slc (.var 0) (.cst .non) (.var 2)) (.slc (.var 0) (.var 3) (.var 4)))]))
 (.seq (.ret (.call i_times_ten [(.var 6),(.bin .sub (.ix (.var 5) (.cst (.int 0))) (.bin .sub (.var 4) (.var 3)))]))
 .nop)))))))))
abbrev St8:=S8×List Nat×Nat×List Nat
noncomputable def nx(t:St8)(c:Nat):Option St8:=nxF t.1 t.2.1 t.2.2.1 t.2.2.2 c
inductive Go:St8->List Nat->St8->Prop where
 |nil (t:St8):Go t [] t
 |cons {t t1 t2:St8} {c:Nat} {l:List Nat}:nx t c=some t1->Go t1 l t2->Go t (c::l) t2
theorem Go.app{a b c:St8}{l m:List Nat}(h:Go a l b)(k:Go b m c):Go a (l++m) c:=by
 induction h with
 |nil=>exact k
 |cons e _ ih=>exact .cons e (ih k)
noncomputable def Sm8(t:St8):Prop:=t.2.1.length<=40/\t.2.2.2.length<=3
theorem nx_small{t t1:St8}{c:Nat}(h:Sm8 t)(e:nx t c=some t1):Sm8 t1:=by
 obtain⟨s,f,b,w⟩:=t;unfold nx nxF at e;unfold Sm8 at *;simp only at *
 repeat' split at e
 all_goals (cases e;try (simp only[List.length_append,List.length_singleton];lia))
noncomputable def s0:St8:=(.start,[],0,[])
noncomputable def Bad(l:List Nat)(k:Nat):Prop:=k<=l.length/\∃t,Go s0 (l.take k) t/\((k=l.length/\(t.2.1=[]\/inX t.1=true))\/∃c,l[k]?=some c/\nx t c=none)
noncomputable def c_readsG:Ctr where
 pre ds:=∃l:List Nat,ds=[tx l]/\l.length<=200/\((∃neg f1 pt f2 E,l=txL neg f1 pt f2 E/\TxOk pt f1 f2 E)\/∃k,Bad l k)
 res ds d:=(∃neg f1 pt f2 E,ds=[tx (txL neg f1 pt f2 E)]/\TxOk pt f1 f2 E/\d=.tup [.bl true,tx (f1++f2),.int (exV E-f2.length)])\/∃(l:List Nat) (k:Nat),ds=[tx l]/\Bad l k/\d=.tup [.bl false,.int k,.int 0]
theorem k_readsG{C:Cfg}{i1:Nat}(h1:C.ct i1=c_power):jC C 8 (b_law_reads i1) c_readsG:=by
 rintro ds ⟨t,rfl,tlen,h⟩;rcases h with⟨neg,f1,pt,f2,E,rfl,ok⟩|⟨k,hb⟩
 ·have to:∀d,Kv.res [tx (txL neg f1 pt f2 E)] d->c_readsG.res [tx (txL neg f1 pt f2 E)] d:=fun d q=>.inl ⟨neg,f1,pt,f2,E,rfl,ok,q neg f1 pt f2 E rfl ok⟩
  have w:=K52.k_reads h1 [tx (txL neg f1 pt f2 E)] ⟨neg,f1,pt,f2,E,rfl,ok⟩;refine jn (b_law_reads i1) ?_ w;exact⟨fun _=>to _,to,fun _ z=>z,fun _ z=>z,fun _ z=>z,fun _ z=>z,fun _ z=>z⟩
 obtain⟨hk,te,go,hend⟩:=id hb
 have fin:∀a:Nat,a=k->c_readsG.res [tx t] (.tup [.bl false,.int a,.int 0]):=fun a e=>.inr ⟨t,k,rfl,hb,by rw[e]⟩
 have lm:∀a:Nat,a<=200->a<=lim:=fun a h=>by unfold lim;lia
 rw[b_law_reads]
 have tl:=fun Q=>(yu (l:=t) (Q:=Q)).trans (and_iff_right (lm _ (by lia)))
 simp_all! only[Kx];refine jO (fun σ=>∃(x y:Option Sl),(k=t.length/\(te.2.1=[]\/inX te.1=true))/\σ=[some (.sh (tx t)),some (.sh (.str te.1.s)),some (.sh (tx te.2.1)),some (.sh (.int te.2.2.1)),some (.sh (tx te.2.2.2)),some (.sh (.int t.length)),x,y]) ?_ ?_
 ·refine qJ (fun σ=>∃(u:St8) (a:Nat) (x y:Option Sl),(a<=k/\Sm8 u/\Go u ((t.take k).drop a) te)/\σ=[some (.sh (tx t)),some (.sh (.str u.1.s)),some (.sh (tx u.2.1)),some (.sh (.int u.2.2.1)),some (.sh (tx u.2.2.2)),some (.sh (.int a)),x,y]) (fun σ=>200-(xu σ 5).toNat) ?_ ?_
  ·exact⟨s0,0,none,none,⟨Nat.zero_le _,⟨by decide,by decide⟩,by rw[List.drop_zero];exact go⟩,rfl⟩
  ·rintro σ ⟨u,a,x,y,⟨ha,hs,hg⟩,rfl⟩;dsimp! only[tl];by_cases z:a<t.length
   ·rw[if_pos (by lia)]
    obtain⟨c,hc⟩:∃c,t[a]?=some c:=⟨_,List.getElem?_eq_getElem z⟩
    rcases Nat.lt_or_ge a k with z2|z2
    ·have hd:(t.take k).drop a=c::(t.take k).drop (a+1):=by
      have hl:a<(t.take k).length:=by rw[List.length_take];lia
      rw[List.drop_eq_getElem_cons hl]
      have:(t.take k)[a]?=some c:=by rw[List.getElem?_take_of_lt z2];exact hc
      rw[List.getElem?_eq_getElem hl]at this;rw[Option.some.inj this]
     rw[hd]at hg
     cases hg with
     | @cons _ u1 _ _ _ e g2 =>
       refine Qg hc (by lia) hs.1 hs.2 e ?_;obtain⟨s1,f1,b1,w1⟩:=u1;refine⟨by simp only[xu,getS];lia,(s1,f1,b1,w1),a+1,some (.sh (tx [c])),some (.sh (.bl (decide (c∈FIG)))),⟨by lia,nx_small hs e,g2⟩,?_⟩;rw[show ((a+1:Nat):Int)=(a:Int)+1 by lia]
    ·have e:a=k:=by lia
     subst e;have:(t.take a).drop a=[]:=List.drop_eq_nil_of_le (by rw[List.length_take];lia);rw[this]at hg;cases hg;rcases hend with⟨e,_⟩|⟨c',hc',hn⟩
     ·lia
     ·rw[hc]at hc';cases hc';exact Qg hc (by lia) hs.1 hs.2 hn (fin a rfl)
   ·rw[if_neg (by lia)]
    have e:a=k:=by lia
    subst e;have:(t.take a).drop a=[]:=List.drop_eq_nil_of_le (by rw[List.length_take];lia);rw[this]at hg;cases hg
    have e2:a=t.length:=by lia
    rcases hend with q|⟨c',hc',_⟩
    ·exact⟨x,y,q,by rw[<- e2]⟩
    ·rw[List.getElem?_eq_none (by lia)]at hc';cases hc'
 rintro σ ⟨x,y,⟨e,hq⟩,rfl⟩;rw[jp];refine jU (B:=true) ?_ ?_
 ·rw[we_or];refine ja (Q:=fun d=>d=.bl (decide (te.2.1=[]))) _ (fun d hd=>?_) (by dsimp! only[Kx,zj,xK]);subst hd;rw[uF];by_cases z:te.2.1=[]
  ·rw[if_pos (by simpa using z)]
  ·rw[if_neg (by simpa using z)];simp only[wE_cmp,wE_var,wE_lst,wE_cst,wE_ix,wE_bi,wE_isi,wE_call,wE_bin,wpEs,getS];rw[mX,hq.resolve_left z]
 ·rw[if_pos rfl];simp_all! only[];exact fin t.length e.symm
theorem mkBad{p r:List Nat}{t:St8}(g:Go s0 p t)(h:(r=[]/\(t.2.1=[]\/inX t.1=true))\/∃c r',r=c::r'/\nx t c=none):Bad (p++r) p.length:=by
 refine⟨by simp,t,by rw[List.take_left];exact g,?_⟩;rcases h with⟨rfl,h⟩|⟨c,r',rfl,h⟩
 ·exact .inl ⟨by simp,h⟩
 ·exact .inr ⟨c,by simp,h⟩
theorem zM(l:List Nat)(m:Nat):∃ds r,l=ds++r/\AllDigits ds/\ds.length=nF l m/\(ds.length=m\/∀c,r.head?=some c->dig c=false):=by
 induction l generalizing m with
 |nil=>exact⟨[],[],rfl,fun _ z=>(nomatch z),by cases m<;>rfl,.inr fun _ z=>(nomatch z)⟩
 |cons c l ih =>
  cases m with
  |zero=>exact⟨[],c::l,rfl,fun _ z=>(nomatch z),rfl,.inl rfl⟩
  |succ m =>
   cases hd:dig c with
   |false=>exact⟨[],c::l,rfl,fun _ z=>(nomatch z),by simp[nF,hd],.inr fun x hx=>by cases hx;exact hd⟩
   |true =>
    obtain⟨ds,r,e,a,n,q⟩:=ih m;refine⟨c::ds,r,by rw[e];rfl,fun x hx=>?_,by simp[nF,hd,n],q.imp (fun z=>by simp[z]) id⟩;rcases List.mem_cons.mp hx with rfl|hx
    ·unfold dig at hd;simpa using hd
    ·exact a x hx
theorem ur(l:List Nat)(c:Nat):∃g r,l=sgL g c++r/\(l[0]?=some c ↔ g=true)/\(g=false->r.head? ≠ some c):=by
 cases l with
 |nil=>exact⟨false,[],rfl,by simp,fun _=>by simp⟩
 |cons x l =>
  by_cases h:x=c
  ·subst h;exact⟨true,l,rfl,by simp,fun z=>(nomatch z)⟩
  ·exact⟨false,x::l,rfl,by simp[h],fun _=>by simpa using h⟩
theorem not_fig{c:Nat}(h:dig c=false):c ∉ FIG:=fun z=>by
 have:=in_fig c;rw[h]at this;exact absurd z (by simpa using this)
theorem go_ahead{f:List Nat}{b:Nat}{w:List Nat}:∀(ds:List Nat) (s:S8) (f:List Nat),in3 s=true->AllDigits ds->f.length+ds.length<=40->∃s',Go (s,f,b,w) ds (s',f++ds,b,w)/\(ds=[]->s'=s)/\(ds ≠ []->s'=.ahead)
 |[],s,f,_,_,_=>⟨s,by rw[List.append_nil];exact .nil _,fun _=>rfl,fun z=>absurd rfl z⟩
 |c::ds,s,f,hs,ad,hl=>by
  rw[List.length_cons]at hl;obtain⟨s',g,h0,h1⟩:=go_ahead (f:=f) (b:=b) (w:=w) ds .ahead (f ++ [c]) rfl ad.tail (by rw[List.length_append,List.length_singleton];lia);refine⟨s',.cons (t1:=(.ahead,f ++ [c],b,w)) ?_ (by rw[List.append_assoc]at g;exact g),fun z=>(nomatch z),fun _=>?_⟩
  ·unfold nx nxF;rw[if_pos ⟨uD ad.head,hs,by simp only;lia⟩]
  ·by_cases z:ds=[]
   ·exact h0 z
   ·exact h1 z
theorem J1{w:List Nat}:∀(ds:List Nat) (s:S8) (f:List Nat) (b:Nat),in2 s=true->in3 s=false->AllDigits ds->f.length+ds.length<=40->∃s',Go (s,f,b,w) ds (s',f++ds,b+ds.length,w)/\(ds=[]->s'=s)/\(ds ≠ []->s'=.behind)
 |[],s,f,b,_,_,_,_=>⟨s,by rw[List.append_nil];exact .nil _,fun _=>rfl,fun z=>absurd rfl z⟩
 |c::ds,s,f,b,hs,h3,ad,hl=>by
  rw[List.length_cons]at hl;obtain⟨s',g,h0,h1⟩:=J1 (w:=w) ds .behind (f ++ [c]) (b+1) rfl rfl ad.tail (by rw[List.length_append,List.length_singleton];lia)
  refine⟨s',.cons (t1:=(.behind,f ++ [c],b+1,w)) ?_ (by
   rw[List.append_assoc]at g;rw[List.length_cons,show b+(ds.length+1)=b+1+ds.length by lia]
   exact g),fun z=>(nomatch z),fun _=>?_⟩
  ·unfold nx nxF;rw[if_neg (by simp only[h3];simp),if_pos ⟨uD ad.head,hs,by simp only;lia⟩]
  ·by_cases z:ds=[]
   ·exact h0 z
   ·exact h1 z
theorem go_pow{f:List Nat}{b:Nat}:∀(ds:List Nat) (s:S8) (w:List Nat),inE s=true->AllDigits ds->w.length+ds.length<=3->∃s',Go (s,f,b,w) ds (s',f,b,w++ds)/\(ds=[]->s'=s)/\(ds ≠ []->s'=.power)
 |[],s,w,_,_,_=>⟨s,by rw[List.append_nil];exact .nil _,fun _=>rfl,fun z=>absurd rfl z⟩
 |c::ds,s,w,hs,ad,hl=>by
  rw[List.length_cons]at hl;obtain⟨s',g,h0,h1⟩:=go_pow (f:=f) (b:=b) ds .power (w ++ [c]) rfl ad.tail (by rw[List.length_append,List.length_singleton];lia)
  have n3:in3 s=false/\in2 s=false:=by cases s<;>first|exact⟨rfl,rfl⟩|cases hs
  refine⟨s',.cons (t1:=(.power,f,b,w ++ [c])) ?_ (by rw[List.append_assoc]at g;exact g),fun z=>(nomatch z),fun _=>?_⟩
  ·unfold nx nxF;rw[if_neg (by simp only[n3.1];simp),if_neg (by simp only[n3.2];simp),if_pos ⟨uD ad.head,hs,by simp only;lia⟩]
  ·by_cases z:ds=[]
   ·exact h0 z
   ·exact h1 z
structure Dec (l:List Nat) (neg:Bool) (f1:List Nat) (pt:Bool) (f2 r:List Nat):Prop where
 e:l=sgL neg 45++(f1++(sgL pt 46++(f2++r)))
 d1:AllDigits f1
 d2:AllDigits f2
 n2:f1.length+f2.length<=40
 a1:neg=false->(f1++(sgL pt 46++(f2++r))).head? ≠ some 45
 a2:pt=false->(f2++r).head? ≠ some 46
 a4:f1.length+f2.length=40\/∀c,r.head?=some c->dig c=false
 a5:pt=false->f2=[]
 q1:l[0]?=some 45 ↔ neg=true
 q2:nF (l.drop (sgL neg 45).length) 40=f1.length
 q3:l[(sgL neg 45).length+f1.length]?=some 46 ↔ pt=true
 q4:nF (l.drop ((sgL neg 45).length+f1.length+(sgL pt 46).length)) (40-f1.length)=f2.length
theorem dec(l:List Nat):∃neg f1 pt f2 r,Dec l neg f1 pt f2 r:=by
 obtain⟨neg,l1,e1,q1,a1⟩:=ur l 45;obtain⟨f1,l2,e2,d1,n1,a3⟩:=zM l1 40;obtain⟨pt,l3,e3,q3,a2⟩:=ur l2 46;obtain⟨f2,r,e4,d2,n4,a4⟩:=zM l3 (40-f1.length);have b1:=nF_le l1 40;have b4:=nF_le l3 (40-f1.length)
 have dr1:l.drop (sgL neg 45).length=l1:=by rw[e1,qA]
 have dr2:l.drop ((sgL neg 45).length+f1.length)=l2:=by rw[<- List.drop_drop,dr1,e2,qA]
 have dr3:l.drop ((sgL neg 45).length+f1.length+(sgL pt 46).length)=l3:=by rw[<- List.drop_drop,dr2,e3,qA]
 refine⟨neg,f1,pt,f2,r,by rw[e1,e2,e3,e4],d1,d2,by lia,fun z=>?_,fun z=>?_,?_,fun z=>?_,q1,by rw[dr1,n1],?_,by rw[dr3,n4]⟩
 ·have:=a1 z;rw[e2,e3,e4]at this;exact this
 ·have:=a2 z;rw[e4]at this;exact this
 ·rcases a4 with a4|a4
  ·exact .inl (by lia)
  ·exact .inr a4
 ·rcases a3 with a3|a3
  ·have:f2.length<=0:=by rw[n4];have:=b4.2;lia
   exact List.length_eq_zero_iff.mp (by lia)
  ·subst z;have e3':l2=l3:=e3
   cases f2 with
   |nil=>rfl
   |cons c f2 =>
    have:=a3 c (by rw[e3',e4];rfl);have hc:=d2.head;unfold dig at this;simp at this;lia
 ·have:l[(sgL neg 45).length+f1.length]?=l2[0]?:=by rw[<- dr2,List.getElem?_drop,Nat.add_zero]
  rw[this];exact q3
theorem KI{t t':St8}{c:Nat}(h:nx t c=some t'):Go t [c] t':=.cons h (.nil _)
section
variable {l f1 f2 r:List Nat} {neg pt:Bool}
theorem Dec.go(h:Dec l neg f1 pt f2 r):∃s,Go s0 (sgL neg 45++(f1++(sgL pt 46++f2))) (s,f1++f2,f2.length,[])/\inX s=false/\inE s=false/\(pt=true->in2 s=true/\in3 s=false/\inP s=true/\inM s=false)/\(pt=false->in2 s=false/\(f1 ≠ []->s=.ahead)/\(f1=[]->s=if neg then .minus else .start)):=by
 have n2:=h.n2
 have g1:Go s0 (sgL neg 45) (if neg then .minus else .start,[],0,[]):=by
  cases neg with
  |true=>exact KI (by unfold nx nxF s0;decide)
  |false=>exact .nil _
 have i3:in3 (if neg then S8.minus else .start)=true:=by cases neg<;>rfl
 obtain⟨s1,g2,h0,h1⟩:=go_ahead (f:=[]) (b:=0) (w:=[]) f1 _ [] i3 h.d1 (by simp;lia);rw[List.nil_append]at g2
 have s3:in3 s1=true/\in2 s1=false/\inX s1=false/\inE s1=false:=by
  by_cases z:f1=[]
  ·rw[h0 z];cases neg<;>exact⟨rfl,rfl,rfl,rfl⟩
  ·rw[h1 z];exact⟨rfl,rfl,rfl,rfl⟩
 cases hp:pt with
 |false =>
  have:=h.a5 hp;subst this
  refine⟨s1,by simpa[sgL]using g1.app g2,s3.2.2.1,s3.2.2.2,fun z=>(nomatch z),fun _=>⟨s3.2.1,h1,h0⟩⟩
 |true =>
  have g3:Go (s1,f1,0,[]) [46] (.point,f1,0,[]):=KI (by
   unfold nx nxF
   have n1:¬ (46:Nat)∈FIG:=by decide
   simp[n1,s3.1])
  obtain⟨s2,g4,k0,k1⟩:=J1 (w:=[]) f2 .point f1 0 rfl rfl h.d2 n2;rw[Nat.zero_add]at g4;refine⟨s2,g1.app (g2.app (g3.app g4)),?_,?_,fun _=>?_,fun z=>(nomatch z)⟩
  all_goals (by_cases z:f2=[])
  all_goals first|(rw[k0 z];first|rfl|exact⟨rfl,rfl,rfl,rfl⟩)|(rw[k1 z];first|rfl|exact⟨rfl,rfl,rfl,rfl⟩)
theorem Dec.stop(h:Dec l neg f1 pt f2 r){s:S8}(hE:inE s=false)(hp:pt=true->in2 s=true/\in3 s=false/\inP s=true/\inM s=false)(hn:pt=false->in2 s=false/\(f1 ≠ []->s=.ahead)/\(f1=[]->s=if neg then .minus else .start)){c:Nat}{r':List Nat}(hr:r=c::r')(hc:f1++f2=[]\/c≠101):nx (s,f1++f2,f2.length,[]) c=none:=by
 unfold nx nxF
 have k1:¬ (c∈FIG/\(f1++f2).length<40):=fun⟨z1,z2⟩=>by
  rw[List.length_append]at z2;rcases h.a4 with q|q
  ·lia
  ·exact not_fig (q c (by rw[hr];rfl)) z1
 have k4:¬ (c=45/\inM s=true):=fun⟨z1,z2⟩=>by
  cases pt with
  |true=>rw[(hp rfl).2.2.2]at z2;cases z2
  |false =>
   obtain⟨_,q1,q2⟩:=hn rfl;by_cases y:f1=[]
   ·rw[q2 y]at z2
    cases neg with
    |true=>cases z2
    |false =>
     have:=h.a1 rfl;rw[y,h.a5 rfl,hr,z1]at this;exact this rfl
   ·rw[q1 y]at z2;cases z2
 have k5:¬ (c=46/\in3 s=true):=fun⟨z1,z2⟩=>by
  cases pt with
  |true=>rw[(hp rfl).2.1]at z2;cases z2
  |false =>
   have:=h.a2 rfl;rw[h.a5 rfl,hr,z1]at this;exact this rfl
 have k6:¬ (c=101/\(f1++f2) ≠ []/\inP s=true):=fun⟨z1,z2,_⟩=>hc.elim (fun q=>z2 q) fun q=>q z1
 rw[if_neg (fun z=>k1 ⟨z.1,z.2.2⟩),if_neg (fun z=>k1 ⟨z.1,z.2.2⟩),if_neg (fun z=>by rw[hE]at z;exact Bool.noConfusion z.2.1),if_neg k4,if_neg k5,if_neg k6]
end
structure Pw (m:List Nat) (g:Bool) (w q:List Nat):Prop where
 e:m=101::(sgL g 45++(w++q))
 d:AllDigits w
 n:w.length<=3
 b1:g=false->(w++q).head? ≠ some 45
 b2:w.length=3\/∀c,q.head?=some c->dig c=false
noncomputable def c_power_atX:Ctr where
 pre ds:=∃(l:List Nat) (a:Nat),ds=[tx l,.int a]/\a<=l.length/\l.length<=2000
 res ds d:=∃(l:List Nat) (a:Nat),ds=[tx l,.int a]/\((l[a]? ≠ some 101/\d=.tup [.int 0,.int a])\/∃g w q,Pw (l.drop a) g w q/\w ≠ []/\d=.tup [.int (exV (some (g,w))),.int ((a+1+(sgL g 45).length+w.length:Nat):Int)])
 exn ds y:=∃(l:List Nat) (a:Nat) (g:Bool) (q:List Nat),ds=[tx l,.int a]/\Pw (l.drop a) g [] q/\y=⟨0,"BadText",[.int ((a+1+(sgL g 45).length:Nat):Int)]⟩
theorem y6{d:D}:fldOk "BadText" d:=fun z=>absurd z (by decide +kernel)
theorem k_power_atX{C:Cfg}{i1 i2 c:Nat}(h1:C.ct i1=jQ)(h2:C.ct i2=jw)(h3:C.cn c=.int 3):vP C 4 (b_power_atX i1 i2 c) c_power_atX:=by
 rintro ds ⟨l,a,rfl,ha,hl⟩;rw[b_power_atX]
 have t:=fun Q=>tx_one (Q:=Q) ha hl
 by_cases he:l[a]?=some 101
 ·have e0:(l.drop a).take 1=[101]:=by have:=one_eq (l:=l) (a:=a) (c:=101);simpa[he]using this
  refine kB (by dsimp! only[prt,kD,vN,t,st_e,zj,e0,xK,decide_true]) ?_
  have hlt:a<l.length:=by
   rcases Nat.lt_or_ge a l.length with z|z
   ·exact z
   ·rw[List.getElem?_eq_none z]at he;cases he
  have dr:l.drop a=101::l.drop (a+1):=by
   rw[List.drop_eq_getElem_cons hlt];rw[List.getElem?_eq_getElem hlt]at he;rw[Option.some.inj he]
  obtain⟨g,m,e1,q1,b1⟩:=ur (l.drop (a+1)) 45;obtain⟨w,q,e2,dw,nw,b2⟩:=zM m 3;have lw:=nF_le m 3
  have gx:l[a+1]?=some 45 ↔ g=true:=by rw[<- q1,List.getElem?_drop,Nat.add_zero]
  have ec:((a:Int)+1)=((a+1:Nat):Int):=by lia
  have wb:=fun Q E=>xl (l:=l) (a:=a+1) (c:=45) (Q:=Q) (E:=E) (by lia) hl
  have eg:(if l[a+1]?=some 45 then ((a+1:Nat):Int)+1 else ((a+1:Nat):Int))=((a+1+(sgL g 45).length:Nat):Int):=by
   rw[zF];cases g
   ·rw[if_neg (fun z=>by have:=gx.mp z;cases this)];rfl
   ·rw[if_pos (gx.mpr rfl)];simp
  have d2:l.drop (a+1+(sgL g 45).length)=m:=by rw[<- List.drop_drop,e1,qA]
  have pw:Pw (l.drop a) g w q:=⟨by rw[dr,e1,e2],dw,by lia,fun z=>by have:=b1 z;rw[e2]at this;exact this,b2⟩
  have len:a+1+(sgL g 45).length+w.length<=l.length:=by
   have:=congrArg List.length e1;rw[List.length_drop,List.length_append,e2,List.length_append]at this;lia
  have wf:∀(Q:D->Prop) (E:XD->Prop),jw.wp [tx l,.int ((a+1+(sgL g 45).length:Nat):Int),.int 3] Q E ↔ Q (.int ((a+1+(sgL g 45).length+w.length:Nat):Int)):=fun Q E=>by
   have:=qj (l:=l) (a:=a+1+(sgL g 45).length) (m:=3) (Q:=Q) (E:=E) (by lia) hl;rw[d2,<- nw]at this;exact this
  simp_all! only[h1,st_m,ec,wb,eg,h2,h3,wf];by_cases hw:w=[]
  ·subst hw;rw[jp];refine jU (B:=true) (by dsimp! only[];exact congrArg _ (by simp)) ?_;rw[if_pos rfl,jp,y9];dsimp! only[];exact⟨y6,l,a,g,q,rfl,pw,by simp⟩
  ·have w1:1<=w.length:=by cases w with|nil=>exact absurd rfl hw|cons=>simp
   refine kB (by dsimp! only[];exact congrArg _ (beq_eq_false_iff_ne.mpr (by lia))) ?_;simp_all! only[prt,kD,vN,ec]
   have et:(l.drop (a+1)).take (a+1+(sgL g 45).length+w.length-(a+1))=sgL g 45++w:=by
    rw[e1,e2,<- List.append_assoc,show a+1+(sgL g 45).length+w.length-(a+1)=(sgL g 45++w).length by rw[List.length_append];lia,List.take_left]
   rw[uY,kW (a:=a+1) (by lia),kW (a:=a+1+(sgL g 45).length+w.length) len,et];refine⟨by unfold lim;lia,?_⟩
   cases g with
   |true =>
    show biD .int [tx (45::w)] _;rw[tx_intn dw hw (by lia)]
    exact⟨l,a,rfl,.inr ⟨true,w,q,pw,hw,rfl⟩⟩
   |false =>
    show biD .int [tx w] _;rw[Jt dw hw (by lia)];exact⟨l,a,rfl,.inr ⟨false,w,q,pw,hw,rfl⟩⟩
 ·have e0:decide ((l.drop a).take 1=[101])=false:=by rw[one_eq];exact decide_eq_false he
  rw[jp];refine jU (B:=true) (by dsimp! only[prt,kD,vN,t,st_e,zj,xK,e0]) ?_;rw[if_pos rfl];simp_all! only[];exact⟨l,a,rfl,.inl ⟨he,rfl⟩⟩
section
variable {l f1 f2 r w q:List Nat} {neg pt g:Bool}
noncomputable def eL(neg pt:Bool)(f1 f2:List Nat):Nat:=(sgL neg 45).length+f1.length+(sgL pt 46).length+f2.length
theorem KM(neg pt:Bool)(f1 f2:List Nat):(sgL neg 45++(f1++(sgL pt 46++f2))).length=eL neg pt f1 f2:=by
 unfold eL;simp only[List.length_append];lia
theorem Dec.e2(h:Dec l neg f1 pt f2 r):l=(sgL neg 45++(f1++(sgL pt 46++f2)))++r:=by rw[h.e];simp
theorem Dec.bad1(h:Dec l neg f1 pt f2 r)(hc:f1++f2=[]\/(r ≠ []/\r.head? ≠ some 101)):Bad l (eL neg pt f1 f2):=by
 obtain⟨s,g,hX,hE,hp,hn⟩:=h.go;rw[<- KM,h.e2];refine mkBad g ?_
 cases hr:r with
 |nil =>
  rcases hc with z|z
  ·exact .inl ⟨rfl,.inl z⟩
  ·exact absurd hr z.1
 |cons c r' =>
  refine .inr ⟨c,r',rfl,h.stop hE hp hn hr ?_⟩;rcases hc with z|z
  ·exact .inl z
  ·rw[hr]at z
   exact .inr fun y=>z.2 (by rw[y];rfl)
theorem ok_none(h:Dec l neg f1 pt f2 r)(h1:f1++f2 ≠ [])(hr:r=[]):TxOk pt f1 f2 none/\l=txL neg f1 pt f2 none:=by
 have:1<=f1.length+f2.length:=by
  rw[<- List.length_append]
  cases q:f1++f2 with
  |nil=>exact absurd q h1
  |cons=>simp
 exact⟨⟨h.d1,h.d2,this,h.n2,h.a5,trivial⟩,by rw[h.e,hr];rfl⟩
theorem ok_some(h:Dec l neg f1 pt f2 r)(h1:f1++f2 ≠ [])(p:Pw r g w q)(hw:w ≠ [])(hq:q=[]):TxOk pt f1 f2 (some (g,w))/\l=txL neg f1 pt f2 (some (g,w)):=by
 have:1<=f1.length+f2.length:=by
  rw[<- List.length_append]
  cases q:f1++f2 with
  |nil=>exact absurd q h1
  |cons=>simp
 have w1:1<=w.length:=by cases w with|nil=>exact absurd rfl hw|cons=>simp
 refine⟨⟨h.d1,h.d2,this,h.n2,h.a5,p.d,w1,p.n⟩,?_⟩;rw[h.e,p.e,hq,List.append_nil];rfl
theorem Dec.bad2(h:Dec l neg f1 pt f2 r)(h1:f1++f2 ≠ [])(p:Pw r g w q)(hc:w=[]\/q ≠ []):Bad l (eL neg pt f1 f2+1+(sgL g 45).length+w.length):=by
 obtain⟨s,go,hX,hE,hp,hn⟩:=h.go
 have iP:inP s=true:=by
  cases pt with
  |true=>exact(hp rfl).2.2.1
  |false =>
   have f0:f1 ≠ []:=fun z=>h1 (by rw[z,h.a5 rfl];rfl)
   rw[(hn rfl).2.1 f0];rfl
 have g1:Go (s,f1++f2,f2.length,[]) [101] (.ee,f1++f2,f2.length,[]):=KI (by
  unfold nx nxF
  have n1:¬ (101:Nat)∈FIG:=by decide
  simp only[n1,false_and,if_false,iP,h1,ne_eq,not_false_eq_true,and_self,if_true]
  rfl)
 have g2:Go (.ee,f1++f2,f2.length,[]) (sgL g 45) (if g then .emin else .ee,f1++f2,f2.length,[]):=by
  cases g with
  |true=>exact KI (by unfold nx nxF;rfl)
  |false=>exact .nil _
 have iE:inE (if g then S8.emin else .ee)=true:=by cases g<;>rfl
 obtain⟨s',g3,k0,k1⟩:=go_pow (f:=f1++f2) (b:=f2.length) w _ [] iE p.d (by have:=p.n;simp;lia);rw[List.nil_append]at g3;have ga:=go.app (g1.app (g2.app g3))
 have el:l=((sgL neg 45++(f1++(sgL pt 46++f2)))++([101]++(sgL g 45++w)))++q:=by rw[h.e2,p.e];simp
 have ln:((sgL neg 45++(f1++(sgL pt 46++f2)))++([101]++(sgL g 45++w))).length=eL neg pt f1 f2+1+(sgL g 45).length+w.length:=by
  rw[List.length_append,KM,List.length_append,List.length_append,List.length_singleton];lia
 rw[<- ln,el];refine mkBad ga ?_
 cases hq:q with
 |nil =>
  have hw:=hc.resolve_right (fun z=>z hq);refine .inl ⟨rfl,.inr ?_⟩;show inX s'=true;rw[k0 hw]
  cases g<;>rfl
 |cons c q' =>
  refine .inr ⟨c,q',rfl,?_⟩
  have ns:inE s'=true/\in3 s'=false/\in2 s'=false/\inP s'=false:=by
   by_cases z:w=[]
   ·rw[k0 z];cases g<;>exact⟨rfl,rfl,rfl,rfl⟩
   ·rw[k1 z];exact⟨rfl,rfl,rfl,rfl⟩
  unfold nx nxF
  have k3:¬ (c∈FIG/\w.length<3):=fun⟨z1,z2⟩=>by
   rcases p.b2 with y|y
   ·lia
   ·exact not_fig (y c (by rw[hq];rfl)) z1
  have k4:¬ (c=45/\inM s'=true):=fun⟨z1,z2⟩=>by
   by_cases z:w=[]
   ·rw[k0 z]at z2
    cases g with
    |true=>cases z2
    |false =>
     have:=p.b1 rfl;rw[z,hq,z1]at this;exact this rfl
   ·rw[k1 z]at z2;cases z2
  rw[if_neg (fun z=>by rw[ns.2.1]at z;exact Bool.noConfusion z.2.1),if_neg (fun z=>by rw[ns.2.2.1]at z;exact Bool.noConfusion z.2.1),if_neg (fun z=>k3 ⟨z.1,z.2.2⟩),if_neg k4,if_neg (fun z=>by rw[ns.2.1]at z;exact Bool.noConfusion z.2),if_neg (fun z=>by rw[ns.2.2.2]at z;exact Bool.noConfusion z.2.2)]
end
theorem pw_of(m:List Nat)(h:m.head?=some 101):∃g w q,Pw m g w q:=by
 cases m with
 |nil=>cases h
 |cons c m =>
  cases h;obtain⟨g,k,e1,q1,b1⟩:=ur m 45;obtain⟨w,q,e2,dw,nw,b2⟩:=zM k 3;have lw:=nF_le k 3;exact⟨g,w,q,by rw[e1,e2],dw,by lia,fun z=>by have:=b1 z;rw[e2]at this;exact this,b2⟩
theorem cls_text(l:List Nat):(∃neg f1 pt f2 E,l=txL neg f1 pt f2 E/\TxOk pt f1 f2 E)\/∃k,Bad l k:=by
 obtain⟨neg,f1,pt,f2,r,h⟩:=dec l;by_cases h1:f1++f2=[]
 ·exact .inr ⟨_,h.bad1 (.inl h1)⟩
 by_cases hr:r=[]
 ·obtain⟨a,b⟩:=ok_none h h1 hr;exact .inl ⟨neg,f1,pt,f2,none,b,a⟩
 by_cases h2:r.head?=some 101
 ·obtain⟨g,w,q,p⟩:=pw_of r h2;by_cases hw:w=[]
  ·exact .inr ⟨_,h.bad2 h1 p (.inl hw)⟩
  by_cases hq:q=[]
  ·obtain⟨a,b⟩:=ok_some h h1 p hw hq;exact .inl ⟨neg,f1,pt,f2,_,b,a⟩
  ·exact .inr ⟨_,h.bad2 h1 p (.inr hq)⟩
 ·exact .inr ⟨_,h.bad1 (.inr ⟨hr,h2⟩)⟩
theorem wp_readsG{l:List Nat}{Q:D->Prop}{E:XD->Prop}(h:l.length<=200):c_readsG.wp [tx l] Q E ↔ (∀neg f1 pt f2 E,l=txL neg f1 pt f2 E->TxOk pt f1 f2 E->Q (.tup [.bl true,tx (f1++f2),.int (exV E-f2.length)]))/\∀k,Bad l k->Q (.tup [.bl false,.int (k:Nat),.int 0]):=by
 constructor
 ·intro w;exact⟨fun neg f1 pt f2 E e ok=>w.2.1 _ (.inl ⟨neg,f1,pt,f2,E,by rw[e],ok,rfl⟩),fun k hk=>w.2.1 _ (.inr ⟨l,k,rfl,hk,rfl⟩)⟩
 ·intro q;refine⟨⟨l,rfl,h,cls_text l⟩,fun d e=>?_,fun _ z=>z.elim⟩;rcases e with⟨neg,f1,pt,f2,E,e1,ok,rfl⟩|⟨l',k,e1,hk,rfl⟩
  ·simp only[List.cons.injEq,and_true]at e1;exact q.1 neg f1 pt f2 E (kj e1) ok
  ·simp only[List.cons.injEq,and_true]at e1;cases kj e1;exact q.2 k hk
noncomputable def c_read_textX:Ctr where
 pre ds:=∃l:List Nat,ds=[tx l]/\l.length<=200
 res ds d:=∃neg f1 pt f2 E,ds=[tx (txL neg f1 pt f2 E)]/\TxOk pt f1 f2 E/\d=rq (ttF (sgV neg (digitsVal (f1++f2))) (exV E-f2.length))
 exn ds y:=∃(l:List Nat) (k:Nat),ds=[tx l]/\Bad l k/\y=⟨0,"BadText",[.int k]⟩
theorem k_read_textX{C:Cfg}{i1 i2 i3 i4 c:Nat}(h1:C.ct i1=jQ)(h2:C.ct i2=jw)(h3:C.ct i3=c_power_atX)(h4:C.ct i4=qB)(hc:C.cn c=.int 40):vP C 7 (b_read_textX i1 i2 i3 i4 c) c_read_textX:=by
 rintro ds ⟨l,rfl,hl⟩;rw[b_read_textX];obtain⟨neg,f1,pt,f2,r,h⟩:=dec l;have n2:=h.n2
 have ll:l.length=eL neg pt f1 f2+r.length:=by
  have:=congrArg List.length h.e2;rw[List.length_append,KM]at this;exact this
 have le:eL neg pt f1 f2=(sgL neg 45).length+f1.length+(sgL pt 46).length+f2.length:=rfl
 have w1:∀(Q:D->Prop) (X:XD->Prop),jQ.wp [tx l,.int 0,tx [45]] Q X ↔ Q (.int ((sgL neg 45).length:Nat)):=fun Q X=>by
  have e:=xl (l:=l) (a:=0) (c:=45) (Q:=Q) (E:=X) (Nat.zero_le _) (by lia);refine e.trans ?_;have r1:=h.q1;cases neg
  ·rw[if_neg (fun z=>by have:=r1.mp z;cases this)];rfl
  ·rw[if_pos (r1.mpr rfl)];rfl
 have w2:∀(Q:D->Prop) (X:XD->Prop),jw.wp [tx l,.int ((sgL neg 45).length:Nat),.int 40] Q X ↔ Q (.int (((sgL neg 45).length+f1.length:Nat):Int)):=fun Q X=>by
  have e:=qj (l:=l) (a:=(sgL neg 45).length) (m:=40) (Q:=Q) (E:=X) (by lia) (by lia);rw[h.q2]at e;exact e
 have w3:∀(Q:D->Prop) (X:XD->Prop),jQ.wp [tx l,.int (((sgL neg 45).length+f1.length:Nat):Int),tx [46]] Q X ↔ Q (.int (((sgL neg 45).length+f1.length+(sgL pt 46).length:Nat):Int)):=fun Q X=>by
  have e:=xl (l:=l) (a:=(sgL neg 45).length+f1.length) (c:=46) (Q:=Q) (E:=X) (by lia) (by lia);refine e.trans ?_;have r3:=h.q3;cases pt
  ·rw[if_neg (fun z=>by have:=r3.mp z;cases this)];rfl
  ·rw[if_pos (r3.mpr rfl)];rfl
 have w4:∀(Q:D->Prop) (X:XD->Prop),jw.wp [tx l,.int (((sgL neg 45).length+f1.length+(sgL pt 46).length:Nat):Int),.int (40-((((sgL neg 45).length+f1.length:Nat):Int)-((sgL neg 45).length:Nat)))] Q X ↔ Q (.int ((eL neg pt f1 f2:Nat):Int)):=fun Q X=>by
  have e:=qj (l:=l) (a:=(sgL neg 45).length+f1.length+(sgL pt 46).length) (m:=40-f1.length) (Q:=Q) (E:=X) (by lia) (by lia);rw[h.q4]at e;rw[show (40-((((sgL neg 45).length+f1.length:Nat):Int)-((sgL neg 45).length:Nat)))=((40-f1.length:Nat):Int) by lia];exact e
 have de:l.drop (eL neg pt f1 f2)=r:=by
  have:=h.e2;rw[<- KM]
  conv=>lhs;rw[this]
  rw[qA]
 simp_all! only[h1,h2,hc,st_m,st_p,w1,w2,w3,w4];by_cases hf:f1++f2=[]
 ·have ff:=List.append_eq_nil_iff.mp hf;rw[jp]
  refine jU (B:=true) (by
   dsimp! only[];simp only[ff.1,ff.2]
   simp[eL]) ?_
  rw[if_pos rfl,jp,y9];dsimp! only[];exact⟨y6,l,_,rfl,h.bad1 (.inl hf),rfl⟩
 have hn:1<=f1.length+f2.length:=by
  rw[<- List.length_append]
  cases q:f1++f2 with
  |nil=>exact absurd q hf
  |cons=>simp
 refine kB (by
  dsimp! only[];split
  ·exact congrArg _ (beq_eq_false_iff_ne.mpr (by lia))
  ·trivial) ?_
 rw[jp,ws_setX];dsimp! only[h3]
 have hlim:l.length<=lim:=by unfold lim;lia
 have hd:AllDigits (f1++f2):=fun c hc=>by
  rcases List.mem_append.mp hc with z|z
  ·exact h.d1 c z
  ·exact h.d2 c z
 have lt:=x5 _ hd
 have le2:10^(f1++f2).length<=2^160:=by
  have:10^(f1++f2).length<=10^40:=Nat.pow_le_pow_right (by decide) (by rw[List.length_append];exact n2);exact Nat.le_trans this (by decide)
 have bw:bits (sgV neg (digitsVal (f1++f2)))<=2000:=by
  refine Nat.le_trans ((jg (n:=160)).mpr ?_) (by decide)
  cases neg<;>simp only[sgV,Bool.false_eq_true,if_false,if_true]<;>lia
 have t1:l.take ((sgL neg 45).length+f1.length)=sgL neg 45++f1:=by
  rw[h.e,<- List.append_assoc,<- List.length_append,List.take_left]
 have t2:(l.drop ((sgL neg 45).length+f1.length+(sgL pt 46).length)).take f2.length=f2:=by
  rw[h.e,<- List.append_assoc,<- List.append_assoc,<- List.length_append,<- List.length_append,qA,List.take_left]
 have fin:∀(E:Option (Bool×List Nat)) (n:Nat),TxOk pt f1 f2 E/\l=txL neg f1 pt f2 E->-1000<=exV E->exV E<=1000->n=l.length ->
  wpS C (.seq (.ite (.cmp .lt (.ix (.var 5) (.cst (.int 1))) (.bi .len [(.var 0)])) (.seq (.raiseA "BadText" (.ix (.var 5) (.cst (.int 1)))) .nop) .nop)
   (.seq (.set 6 (.bi .int [(.bin .add (.slc (.var 0) (.cst .non) (.var 2)) (.slc (.var 0) (.var 3) (.var 4)))]))
   (.seq (.ret (.call i4 [(.var 6),(.bin .sub (.ix (.var 5) (.cst (.int 0))) (.bin .sub (.var 4) (.var 3)))]))
   .nop))) { nx:=fun _=>c_read_textX.res [tx l] .non,rt:=c_read_textX.res [tx l],xn:=c_read_textX.exn [tx l] }
   [some (.sh (tx l)),some (.sh (.int ((sgL neg 45).length:Nat))),some (.sh (.int (((sgL neg 45).length+f1.length:Nat):Int))),some (.sh (.int (((sgL neg 45).length+f1.length+(sgL pt 46).length:Nat):Int))),some (.sh (.int ((eL neg pt f1 f2:Nat):Int))),some (.sh (.tup [.int (exV E),.int (n:Nat)])),none]:=by
  rintro E n ⟨ok,el⟩ x1 x2 rfl;refine kB (by dsimp! only[yu,hlim];exact congrArg _ (decide_eq_false (by lia))) ?_
  have tt:=fun Q X=>K3 (w:=sgV neg (digitsVal (f1++f2))) (p:=exV E-f2.length) (Q:=Q) (E:=X) bw (by lia) (by lia)
  have ee:exV E-(((eL neg pt f1 f2:Nat):Int)-(((sgL neg 45).length+f1.length+(sgL pt 46).length:Nat):Int))=exV E-f2.length:=by lia
  have done:c_read_textX.res [tx l] (rq (ttF (sgV neg (digitsVal (f1++f2))) (exV E-f2.length))):=⟨neg,f1,pt,f2,E,by rw[el],ok,rfl⟩
  simp_all! only[prt,kD,vN];rw[uY];refine⟨hlim,?_⟩;rw[show sIx l.length 0 none=0 from rfl,kW (by lia),List.drop_zero,Nat.sub_zero,t1,uY];refine⟨hlim,?_⟩;rw[kW (a:=(sgL neg 45).length+f1.length+(sgL pt 46).length) (by lia),kW (a:=eL neg pt f1 f2) (by lia),show eL neg pt f1 f2-((sgL neg 45).length+f1.length+(sgL pt 46).length)=f2.length by lia,t2,qH];refine⟨by simp only[List.length_append];unfold lim;lia,?_⟩
  cases neg with
  |true =>
   show biD .int [tx (45::(f1++f2))] _;rw[tx_intn hd hf (by rw[List.length_append];lia),ee,h4]
   exact(tt _ _).mpr done
  |false =>
   show biD .int [tx (f1++f2)] _;rw[Jt hd hf (by rw[List.length_append];lia),ee,h4];exact(tt _ _).mpr done
 refine⟨⟨l,_,rfl,by lia,by lia⟩,fun d hd'=>?_,fun y hy=>?_⟩
 ·obtain⟨l',a',e1,hres⟩:=hd';simp only[List.cons.injEq,and_true,D.int.injEq]at e1;cases kj e1.1
  have:a'=eL neg pt f1 f2:=by lia
  subst this;rcases hres with⟨hne,rfl⟩|⟨g,w,q,pw,hw,rfl⟩
  ·by_cases hr:r=[]
   ·have ok:=ok_none h hf hr;have:=fin none l.length ok (by decide) (by decide) rfl
    have el:eL neg pt f1 f2=l.length:=by rw[ll,hr];simp
    rw[el]at this ⊢;exact this
   ·have hh:r.head? ≠ some 101:=fun z=>hne (by
     rw[<- de,List.head?_eq_getElem?,List.getElem?_drop,Nat.add_zero]at z;exact z)
    have r1:1<=r.length:=by cases r with|nil=>exact absurd rfl hr|cons=>simp
    show wpS C (.seq _ _) _ _;rw[jp];refine jU (B:=true) (by dsimp! only[yu,hlim];exact congrArg _ (decide_eq_true (by lia))) ?_;rw[if_pos rfl,jp,y9];dsimp! only[];exact⟨y6,l,_,rfl,h.bad1 (.inr ⟨hr,hh⟩),rfl⟩
  ·rw[de]at pw;by_cases hq:q=[]
   ·have ok:=ok_some h hf pw hw hq;obtain⟨x1,x2⟩:=vV ok.1.ex
    have el:eL neg pt f1 f2+1+(sgL g 45).length+w.length=l.length:=by
     rw[ll,pw.e,hq,List.append_nil,List.length_cons,List.length_append];lia
    exact fin _ _ ok x1 x2 el
   ·have q1:1<=q.length:=by cases q with|nil=>exact absurd rfl hq|cons=>simp
    have el:eL neg pt f1 f2+1+(sgL g 45).length+w.length<l.length:=by
     rw[ll,pw.e,List.length_cons,List.length_append,List.length_append];lia
    show wpS C (.seq _ _) _ _;rw[jp];refine jU (B:=true) (by dsimp! only[yu,hlim];exact congrArg _ (decide_eq_true (by lia))) ?_;rw[if_pos rfl,jp,y9];dsimp! only[];exact⟨y6,l,_,rfl,h.bad2 hf pw (.inr hq),rfl⟩
 ·obtain⟨l',a',g,q,e1,pw,rfl⟩:=hy;simp only[List.cons.injEq,and_true,D.int.injEq]at e1;cases kj e1.1
  have:a'=eL neg pt f1 f2:=by lia
  subst this;rw[de]at pw;exact⟨l,_,rfl,h.bad2 hf pw (.inl rfl),by simp⟩
theorem Go.det{t a b:St8}{l:List Nat}(h:Go t l a)(k:Go t l b):a=b:=by
 induction h with
 |nil=>cases k;rfl
 |cons e _ ih =>
  cases k with
  |cons e' g =>
   rw[e]at e';cases e';exact ih g
theorem Go.split{b:St8}{m:List Nat}:∀ {l:List Nat} {a:St8},Go a (l++m) b->∃c,Go a l c/\Go c m b
 |[],a,h=>⟨a,.nil _,h⟩
 |x::l,a,h=>by
  cases h with
  |cons e g =>
   obtain⟨c,g1,g2⟩:=Go.split g;exact⟨c,.cons e g1,g2⟩
theorem Bad.no{l:List Nat}{k:Nat}(h:Bad l k){n:Nat}{t:St8}(hn:k<n)(h2:n<=l.length)(g:Go s0 (l.take n) t):False:=by
 obtain⟨hk,u,gu,hend⟩:=h
 have e:l.take n=l.take k++(l.take n).drop k:=by
  have:l.take k=(l.take n).take k:=by rw[List.take_take,Nat.min_eq_left (by lia)]
  rw[this,List.take_append_drop]
 rw[e]at g;obtain⟨c,g1,g2⟩:=g.split;cases gu.det g1;rcases hend with⟨z,_⟩|⟨x,hx,hno⟩
 ·lia
 ·have hl:k<(l.take n).length:=by rw[List.length_take];lia
  rw[List.drop_eq_getElem_cons hl]at g2
  have:(l.take n)[k]?=some x:=by rw[List.getElem?_take_of_lt hn];exact hx
  rw[List.getElem?_eq_getElem hl]at this;rw[Option.some.inj this]at g2
  cases g2 with
  |cons e' _=>rw[hno]at e';cases e'
theorem ph_go{neg pt:Bool}{f1 f2:List Nat}{E:Option (Bool×List Nat)}(h:TxOk pt f1 f2 E):∀(R:List Nat) (s:S8) (f:List Nat) (b:Nat) (w:List Nat),Ph neg pt f1 f2 E s f b w R->∃t,Go (s,f,b,w) R t/\t.2.1 ≠ []/\inX t.1=false
 |[],s,f,b,w,p=>by
  obtain⟨_,_,_,ix,ne⟩:=p.done h rfl
  exact⟨_,.nil _,ne,ix⟩
 |c::R,s,f,b,w,p=>by
  obtain⟨s',f',b',w',e,p'⟩:=p.step h rfl;obtain⟨t,g,q⟩:=ph_go h R s' f' b' w' p';exact⟨t,.cons e g,q⟩
theorem ok_bad{neg pt:Bool}{f1 f2:List Nat}{E:Option (Bool×List Nat)}{k:Nat}(hb:Bad (txL neg f1 pt f2 E) k)(h:TxOk pt f1 f2 E):False:=by
 have p:Ph neg pt f1 f2 E .start [] 0 [] (txL neg f1 pt f2 E):=by
  cases neg with
  |true=>exact .sg rfl
  |false=>exact .ah [] f1 .start rfl (fun _=>.inl rfl) fun z=>absurd rfl z
 obtain⟨t,g,q1,q2⟩:=ph_go h _ _ _ _ _ p;rcases Nat.lt_or_ge k (txL neg f1 pt f2 E).length with z|z
 ·exact hb.no z (Nat.le_refl _) (by rw[List.take_length];exact g)
 ·obtain⟨hk,u,gu,hend⟩:=hb
  have e:k=(txL neg f1 pt f2 E).length:=by lia
  rw[e,List.take_length]at gu;cases gu.det g;rcases hend with⟨_,z|z⟩|⟨c,hc,_⟩
  ·exact q1 z
  ·rw[q2]at z;cases z
  ·rw[e,List.getElem?_eq_none (Nat.le_refl _)]at hc;cases hc
end Z.J53
set_option exponentiation.threshold 3000
namespace Z.K53
open PySem PySem.NumText Z Z.K52 Z.J53
noncomputable def yl:Sm :=
 (.seq (.set 1 (.lst [(.cst (.str "")),(.cst (.str "-")),(.cst (.str ".")),(.cst (.str "-.")),(.cst (.str "e")),(.cst (.str "1e")),(.cst (.str "1e-")),(.cst (.str "1.e5")),(.cst (.str ".e5")),(.cst (.str "1..2")),(.cst (.str "--1")),(.cst (.str "1-")),(.cst (.str "1e5.0")),(.cst (.str "1e1234")),(.cst (.str "e5"))]))
 (.seq (.set 1 (.bin .add (.var 1) (.lst [(.cst (.str "+1")),(.cst (.str " 1"))])))
 (.seq (.set 1 (.bin .add (.var 1) (.lst [(.cst (.str "1 ")),(.cst (.str "1e+5")),(.cst (.str "0x1")),(.cst (.str "1_0")),(.cst (.str "inf")),(.cst (.str "nan")),(.cst (.str "1,5")),(.cst (.str "-.5e-9")),(.cst (.str "00")),(.bin .mul (.cst (.str "1")) (.cst (.int 41))),(.bin .add (.cst (.str ".")) (.bin .mul (.cst (.str "1")) (.cst (.int 41)))),(.cst (.str "1e--5"))])))
 (.seq (.ret (.ix (.bin .add (.var 1) (.lst [(.bin .add (.bin .mul (.cst (.str "1")) (.cst (.int 40))) (.cst (.str "."))),(.bin .add (.bin .mul (.cst (.str "1")) (.cst (.int 40))) (.cst (.str ".1"))),(.bin .add (.bin .add (.cst (.str "-")) (.bin .mul (.cst (.str "0")) (.cst (.int 40)))) (.cst (.str "e000")))])) (.bin .mod (.var 0) (.cst (.int 32)))))
 .nop))))
noncomputable def x9(i_read_textX:Nat):Sm :=
 (.seq (.tryX (.seq (.retP "told" i_read_textX [(.var 0)])
  .nop) [("BadText","bad",true)])
 .nop)
noncomputable def b_law(i_law_cell i_law_drawn i_law_bent i_law_text i_law_some i_law_reads i_law_told i_law_whole i_law_ten i_law_is_ratio:Nat):Sm :=
 (.seq (.forR 1 [(.bi .max [(.cst (.int 1)),(.bi .min [(.cst (.int 15)),(.bi .len [(.var 0)])])])] (.seq (.set 2 (.call i_law_cell [(.var 0),(.var 1)]))
  (.seq (.set 3 (.call i_law_drawn [(.var 2),(.bin .add (.var 1) (.cst (.int 160)))]))
  (.seq (.set 4 (.call i_law_bent [(.call i_law_text [(.var 2),(.var 1)]),(.bin .fdiv (.var 3) (.cst (.int 64)))]))
  (.seq (.ite (.cmp .lt (.bin .mod (.var 3) (.cst (.int 8))) (.cst (.int 2))) (.seq (.set 4 (.call i_law_bent [(.var 4),(.call i_law_drawn [(.var 2),(.bin .add (.var 1) (.cst (.int 161)))])]))
   .nop) .nop)
  (.seq (.ite (.cmp .eq (.bin .mod (.var 3) (.cst (.int 8))) (.cst (.int 2))) (.seq (.set 4 (.call i_law_some [(.bin .fdiv (.var 3) (.cst (.int 64)))]))
   .nop) .nop)
  (.seq (.unp [5,6,7] (.call i_law_reads [(.var 4)]))
  (.seq (.unp [8,9] (.call i_law_told [(.var 4)]))
  (.seq (.ite (.not (.var 5)) (.seq (.ite (.or (.cmp .ne (.var 8) (.cst (.str "bad"))) (.or (.not (.call i_law_whole [(.var 9)])) (.cmp .ne (.var 9) (.var 6)))) (.seq (.ret (.cst (.bl false)))
   .nop) .nop)
   (.seq .cnt
   .nop)) .nop)
  (.seq (.set 10 (.bin .mul (.bin .mul (.bi .int [(.var 6)]) (.call i_law_ten [(.bi .max [(.cst (.int 0)),(.var 7)])])) (.bin .sub (.cst (.int 1)) (.bin .mul (.cst (.int 2)) (.bi .int [(.cmp .eq (.ix (.var 4) (.cst (.int 0))) (.cst (.str "-")))])))))
  (.seq (.ite (.or (.cmp .ne (.var 8) (.cst (.str "told"))) (.not (.call i_law_is_ratio [(.var 9),(.var 10),(.call i_law_ten [(.bi .max [(.cst (.int 0)),(.bin .sub (.cst (.int 0)) (.var 7))])])]))) (.seq (.ret (.cst (.bl false)))
   .nop) .nop)
  .nop)))))))))))
 (.seq (.ret (.cst (.bl true)))
 .nop))
theorem str_tx(x:Str):D.str x=tx x.cps.toList:=by
 unfold tx sx;rw[Array.toArray_toList]
noncomputable def zA:Ctr where
 pre ds:=∃m:Int,ds=[.int m]/\0<=m
 res ds d:=∃l,d=tx l/\l.length<=60
theorem wp_some{m:Int}{Q:D->Prop}{E:XD->Prop}(h:0<=m):zA.wp [.int m] Q E ↔ ∀l,l.length<=60->Q (tx l) :=
 ⟨fun w l hl=>w.2.1 _ ⟨l,rfl,hl⟩,fun q=>⟨⟨m,rfl,h⟩,fun d ⟨l,e,hl⟩=>by subst e;exact q l hl,fun _ z=>z.elim⟩⟩
end Z.K53
set_option exponentiation.threshold 3000
namespace Z.K62
open PySem PySem.NumText Z Z.K52 Z.J53
noncomputable def zx:Sm :=
 (.seq (.ret (.and (.isi (.var 0) .int) (.not (.isi (.var 0) .bool))))
 .nop)
noncomputable def kC(i_is_whole:Nat):Sm :=
 (.seq (.ite (.or (.not (.isi (.var 0) .tuple)) (.cmp .ne (.bi .len [(.var 0)]) (.cst (.int 2)))) (.seq (.ret (.cst (.bl false)))
  .nop) .nop)
 (.seq (.ret (.and (.call i_is_whole [(.ix (.var 0) (.cst (.int 0)))]) (.call i_is_whole [(.ix (.var 0) (.cst (.int 1)))])))
 .nop))
noncomputable def yz(i_is_pair_of_wholes:Nat):Sm :=
 (.seq (.ite (.not (.call i_is_pair_of_wholes [(.var 0)])) (.seq (.ret (.cst (.bl false)))
  .nop) .nop)
 (.seq (.ite (.cmp .eq (.var 0) (.tup [(.cst (.int 0)),(.cst (.int 0))])) (.seq (.ret (.cst (.bl true)))
  .nop) .nop)
 (.seq (.ret (.and (.cmp .eq (.bin .mod (.ix (.var 0) (.cst (.int 0))) (.cst (.int 2))) (.cst (.int 1))) (.cmp .le (.meth .bitlen (.ix (.var 0) (.cst (.int 0)))) (.var 1))))
 .nop)))
noncomputable def yo(i_is_number c_MEASURE_POWER:Nat):Sm :=
 (.seq (.ite (.not (.call i_is_number [(.var 0),(.var 1)])) (.seq (.ret (.cst (.bl false)))
  .nop) .nop)
 (.seq (.ite (.cmp .eq (.ix (.var 0) (.cst (.int 0))) (.cst (.int 0))) (.seq (.ret (.cst (.bl true)))
  .nop) .nop)
 (.seq (.set 2 (.bin .add (.bin .sub (.meth .bitlen (.ix (.var 0) (.cst (.int 0)))) (.cst (.int 1))) (.ix (.var 0) (.cst (.int 1)))))
 (.seq (.ite (.cmp .eq (.var 2) (.con c_MEASURE_POWER)) (.seq (.ret (.cmp .eq (.bi .abs [(.ix (.var 0) (.cst (.int 0)))]) (.cst (.int 1))))
  .nop) .nop)
 (.seq (.ret (.chain .le .lt (.neg (.con c_MEASURE_POWER)) (.var 2) (.con c_MEASURE_POWER)))
 .nop)))))
noncomputable def qG(i_near i_read_textX i_is_measure:Nat):Sm :=
 (.seq (.setX 2 [(i_near,[(.var 1)])] i_read_textX [(.var 0)])
 (.seq (.ite (.not (.call i_is_measure [(.var 2),(.var 1)])) (.seq (.raise "TooGreat")
  .nop) .nop)
 (.seq (.ret (.var 2))
 .nop)))
noncomputable def x9(i_read_measureX:Nat):Sm :=
 (.seq (.tryX (.seq (.retX [] i_read_measureX [(.var 0),(.var 1)])
  .nop) [("TooGreat","great",false),("BadText","bad",false)])
 .nop)
noncomputable def qv:Sm :=
 (.seq (.ite (.cmp .eq (.var 0) (.tup [(.cst (.int 0)),(.cst (.int 0))])) (.seq (.ret (.cst (.bl true)))
  .nop) .nop)
 (.seq (.ite (.cmp .gt (.bi .abs [(.ix (.var 0) (.cst (.int 1)))]) (.cst (.int 300))) (.seq (.ret (.cst (.bl false)))
  .nop) .nop)
 (.seq (.set 1 (.bin .shl (.bi .abs [(.ix (.var 0) (.cst (.int 0)))]) (.bin .add (.ix (.var 0) (.cst (.int 1))) (.cst (.int 300)))))
 (.seq (.ret (.and (.cmp .le (.var 1) (.bin .shl (.cst (.int 1)) (.cst (.int 360)))) (.cmp .ge (.var 1) (.bin .shl (.cst (.int 1)) (.cst (.int 240))))))
 .nop))))
noncomputable def yl(i_law_drawn i_law_text:Nat):Sm :=
 (.seq (.set 2 (.call i_law_drawn [(.var 0),(.bin .add (.var 1) (.cst (.int 230)))]))
 (.seq (.ite (.cmp .eq (.bin .mod (.var 2) (.cst (.int 4))) (.cst (.int 0))) (.seq (.ret (.call i_law_text [(.var 0),(.var 1)]))
  .nop) .nop)
 (.seq (.ite (.cmp .eq (.bin .mod (.var 2) (.cst (.int 4))) (.cst (.int 1))) (.seq (.set 3 (.ix (.lst [(.bin .shl (.cst (.int 1)) (.cst (.int 60))),(.bin .add (.bin .shl (.cst (.int 1)) (.cst (.int 60))) (.cst (.int 1))),(.bin .add (.bin .shl (.cst (.int 1)) (.cst (.int 60))) (.bin .shl (.cst (.int 1)) (.cst (.int 52)))),(.bin .sub (.bin .shl (.cst (.int 1)) (.cst (.int 60))) (.cst (.int 1)))]) (.bin .mod (.bin .fdiv (.var 2) (.cst (.int 4))) (.cst (.int 4)))))
  (.seq (.ret (.bin .add (.bi .str [(.var 3)]) (.ix (.lst [(.cst (.str ".5")),(.cst (.str "")),(.cst (.str ".")),(.cst (.str ".0001"))]) (.bin .mod (.bin .fdiv (.var 2) (.cst (.int 16))) (.cst (.int 4))))))
  .nop)) .nop)
 (.seq (.ite (.cmp .eq (.bin .mod (.var 2) (.cst (.int 4))) (.cst (.int 2))) (.seq (.set 4 (.slc (.bi .str [(.cst (.int 867361737988403547205962240695953369140625))]) (.cst .non) (.bin .add (.cst (.int 1)) (.bin .mod (.bin .fdiv (.var 2) (.cst (.int 4))) (.cst (.int 40))))))
  (.seq (.ret (.bin .add (.bin .add (.cst (.str ".")) (.var 4)) (.cst (.str "e-18"))))
  .nop)) .nop)
 (.seq (.set 4 (.bi .str [(.bin .mod (.bin .fdiv (.var 2) (.cst (.int 64))) (.bin .pow (.cst (.int 10)) (.cst (.int 18))))]))
 (.seq (.ret (.bin .add (.bin .add (.bin .add (.bin .mul (.cst (.str "-")) (.bin .mod (.bin .fdiv (.var 2) (.cst (.int 4))) (.cst (.int 2)))) (.var 4)) (.cst (.str "e"))) (.bi .str [(.bin .sub (.bin .sub (.bin .mod (.bin .fdiv (.var 2) (.cst (.int 8))) (.cst (.int 51))) (.cst (.int 25))) (.bin .fdiv (.bi .len [(.var 4)]) (.cst (.int 2))))])))
 .nop))))))
noncomputable def b_law(i_law_cell i_law_width i_law_some i_law_drawn i_law_reads i_law_told i_law_ten i_law_near i_law_is_measure i_law_is_number i_read_measure i_briefest:Nat):Sm :=
 (.seq (.forR 1 [(.bi .max [(.cst (.int 1)),(.bi .min [(.cst (.int 10)),(.bi .len [(.var 0)])])])] (.seq (.set 2 (.call i_law_cell [(.var 0),(.var 1)]))
  (.seq (.set 3 (.call i_law_width [(.var 0),(.var 1)]))
  (.seq (.set 4 (.call i_law_some [(.var 2),(.var 1)]))
  (.seq (.ite (.cmp .eq (.bin .mod (.call i_law_drawn [(.var 2),(.bin .add (.var 1) (.cst (.int 231)))]) (.cst (.int 7))) (.cst (.int 0))) (.seq (.set 4 (.bin .add (.var 4) (.ix (.lst [(.cst (.str "x")),(.cst (.str "e")),(.cst (.str " ")),(.cst (.str "-")),(.cst (.str "..")),(.cst (.str "ee"))]) (.bin .mod (.call i_law_drawn [(.var 2),(.bin .add (.var 1) (.cst (.int 232)))]) (.cst (.int 6))))))
   .nop) .nop)
  (.seq (.unp [5,6,7] (.call i_law_reads [(.var 4)]))
  (.seq (.set 8 (.call i_law_told [(.var 4),(.var 3)]))
  (.seq (.ite (.not (.var 5)) (.seq (.ite (.cmp .ne (.var 8) (.cst (.str "bad"))) (.seq (.ret (.cst (.bl false)))
   .nop) .nop)
   (.seq .cnt
   .nop)) .nop)
  (.seq (.set 9 (.bin .mul (.bin .mul (.bi .int [(.var 6)]) (.call i_law_ten [(.bi .max [(.cst (.int 0)),(.var 7)])])) (.bin .sub (.cst (.int 1)) (.bin .mul (.cst (.int 2)) (.bi .int [(.cmp .eq (.ix (.var 4) (.cst (.int 0))) (.cst (.str "-")))])))))
  (.seq (.set 10 (.call i_law_near [(.var 9),(.call i_law_ten [(.bi .max [(.cst (.int 0)),(.bin .sub (.cst (.int 0)) (.var 7))])]),(.var 3)]))
  (.seq (.ite (.not (.call i_law_is_measure [(.var 10)])) (.seq (.ite (.cmp .ne (.var 8) (.cst (.str "great"))) (.seq (.ret (.cst (.bl false)))
   .nop) .nop)
   (.seq .cnt
   .nop)) .nop)
  (.seq (.ite (.or (.not (.call i_law_is_number [(.var 8),(.var 3)])) (.or (.cmp .ne (.var 8) (.var 10)) (.cmp .ne (.call i_read_measure [(.call i_briefest [(.var 8),(.var 3)]),(.var 3)]) (.var 10)))) (.seq (.ret (.cst (.bl false)))
   .nop) .nop)
  .nop))))))))))))
 (.seq (.ret (.cst (.bl true)))
 .nop))
noncomputable def xOf(n:Nat)(neg:Bool)(f1 f2:List Nat)(E:Option (Bool×List Nat)):Int×Int:=jo n (ttF (sgV neg (digitsVal (f1++f2))) (exV E-f2.length))
noncomputable def meas(w p:Int):Bool:=if (bits w:Int)-1+p=60 then decide (w.natAbs=1) else decide (-60<=(bits w:Int)-1+p/\(bits w:Int)-1+p<60)
noncomputable def isM(_:Nat)(x:Int×Int):Bool:=if x.1=0 then true else meas x.1 x.2
theorem k_is_whole{C:Cfg}:jC C 1 zx kJ:=by
 rintro ds h;simp only[kJ]at h;split at h
 case h_2=>exact h.elim
 next x =>
 cases x<;>simp_all_arith! only[zx,kJ,isInt]
noncomputable def c_isp:Ctr where
 pre ds:=∃x:Int×Int,ds=[nq x]
 res _ d:=d=.bl true
theorem k_isp{C:Cfg}{i:Nat}(h1:C.ct i=kJ):jC C 1 (kC i) c_isp:=by
 rintro ds ⟨⟨w,p⟩,rfl⟩
 simp_all_arith! only[kC,nq,h1,kJ,isInt,c_isp]
theorem k_isn{C:Cfg}{i:Nat}(h1:C.ct i=c_isp):jC C 2 (yz i) xz:=by
 rintro ds ⟨x,n,rfl,hx,n1,n2⟩;rw[yz]
 have wi:∀(Q:D->Prop) (E:XD->Prop),c_isp.wp [nq x] Q E ↔ Q (.bl true):=fun Q E=>⟨fun w=>w.2.1 _ rfl,fun q=>⟨⟨x,rfl⟩,fun d e=>by rw[e];exact q,fun _ z=>z.elim⟩⟩
 refine kB (by dsimp! only[h1,wi]) ?_;rw[jp];by_cases h0:x=(0,0)
 ·subst h0;refine jU (B:=true) (by dsimp! only[zY,Jc,zz,decide_true]) ?_;rw[if_pos rfl];simp_all! only[];rfl
 ·refine jU (B:=false) (by dsimp! only[zY,Jc,zz];exact congrArg _ (decide_eq_false h0)) ?_;rw[if_neg (by decide)]
  have ho:x.1%2=1:=by
   rcases hx.odd with z|z
   ·exact z
   ·exact absurd (Prod.ext z.1 z.2) h0
  have hb:bits x.1<=n:=jg.mpr hx.sz;have q1:x.1.fmod 2=x.1%2:=ji (by decide);simp_all! only[kP,q1,ho];exact congrArg _ (decide_eq_true (by lia))
noncomputable def c_mea:Ctr where
 pre ds:=∃(x:Int×Int) (n:Nat),ds=[nq x,.int n]/\Num n x.1 x.2/\8<=n/\n<=64
 res ds d:=∀(x:Int×Int) (n:Nat),ds=[nq x,.int n]->d=.bl (isM n x)
theorem wp_mea{n:Nat}{x:Int×Int}{Q:D->Prop}{E:XD->Prop}(h:Num n x.1 x.2)(n1:8<=n)(n2:n<=64):c_mea.wp [nq x,.int n] Q E ↔ Q (.bl (isM n x)):=by
 constructor
 ·intro w
  refine w.2.1 _ fun x' n' e=>?_
  simp only[List.cons.injEq,and_true]at e;cases xh e.1;rfl
 ·intro q;exact⟨⟨x,n,rfl,h,n1,n2⟩,fun d e=>by rw[e x n rfl];exact q,fun _ z=>z.elim⟩
theorem k_mea{C:Cfg}{i c:Nat}(h1:C.ct i=xz)(h2:C.cn c=.int 60):jC C 3 (yo i c) c_mea:=by
 rintro ds ⟨x,n,rfl,hx,n1,n2⟩;rw[yo]
 have wi:=fun Q X=>JY (n:=n) (x:=x) (Q:=Q) (E:=X) hx n1 n2
 have fin:∀v:Bool,v=isM n x->c_mea.res [nq x,.int n] (.bl v):=fun v hv x' n' e=>by
  simp only[List.cons.injEq,and_true]at e;cases xh e.1;rw[hv];rfl
 unfold isM at fin;refine kB (by dsimp! only[h1,wi]) ?_;rw[jp];by_cases h0:x.1=0
 ·refine jU (B:=true) (by dsimp! only[kP];exact congrArg _ (by simpa using h0)) ?_;rw[if_pos rfl];simp_all! only[];exact fin true (by rw[if_pos h0])
 ·refine jU (B:=false) (by dsimp! only[kP];exact congrArg _ (by simpa using h0)) ?_;rw[if_neg (by decide)];rw[if_neg h0]at fin;unfold meas at fin;simp_all! only[kP,xO,h2];rw[jp];by_cases h6:(bits x.1:Int)-1+x.2=60
  ·refine jU (B:=true) (by dsimp! only[h2];exact congrArg _ (by simpa using h6)) ?_;rw[if_pos rfl];simp_all! only[kP,x6];refine fin _ ?_;rw[if_pos h6,Bool.eq_iff_iff];simp;lia
  ·refine jU (B:=false) (by dsimp! only[h2];exact congrArg _ (by simpa using h6)) ?_;rw[if_neg (by decide)];rw[if_neg h6]at fin;simp_all! only[h2];by_cases h7:-60<=(bits x.1:Int)-1+x.2
   ·rw[if_pos h7];exact fin _ (decide_eq_decide.mpr (by simp[h7]))
   ·rw[if_neg h7];exact fin _ (by simp[h7])
theorem ok_all{pt:Bool}{f1 f2:List Nat}{E:Option (Bool×List Nat)}(ok:TxOk pt f1 f2 E):AllDigits (f1++f2):=fun x hx=>by
 rcases List.mem_append.mp hx with z|z
 ·exact ok.d1 x z
 ·exact ok.d2 x z
theorem ok_szr{neg pt:Bool}{f1 f2:List Nat}{E:Option (Bool×List Nat)}(ok:TxOk pt f1 f2 E):szr 4400 (ttF (sgV neg (digitsVal (f1++f2))) (exV E-f2.length)):=by
 obtain⟨x1,x2⟩:=vV ok.ex;have n2:=ok.n2
 have bw:bits (sgV neg (digitsVal (f1++f2)))<=161:=by
  refine jg.mpr ?_;have u:=x5 (f1++f2) (ok_all ok);have:(10:Nat)^(f1++f2).length<=10^40:=Nat.pow_le_pow_right (by decide) (by rw[List.length_append];exact n2)
  have:(10:Nat)^40<2^161:=by decide
  cases neg<;>simp only[sgV,Bool.false_eq_true,if_false,if_true]<;>lia
 generalize sgV neg (digitsVal (f1++f2))=w at *
 obtain⟨p,hp⟩:∃p,exV E-(f2.length:Int)=p:=⟨_,rfl⟩
 rw[hp];have bt:=j4 p.natAbs;have tp:=j7 p.natAbs
 have b1:bits (1:Int)=1:=by decide
 unfold ttF;split
 ·have:=Kj w (u:=10^p.natAbs) (by lia);exact⟨by lia,by lia⟩
 ·have:=Kj (w*10^p.natAbs) (u:=1) (by decide);have bm:=j5 w (10^p.natAbs);exact⟨by lia,by lia⟩
noncomputable def ke:Ctr where
 pre ds:=∃(l:List Nat) (n:Nat),ds=[tx l,.int n]/\l.length<=200/\8<=n/\n<=64
 res ds d:=∃neg f1 pt f2 E n,ds=[tx (txL neg f1 pt f2 E),.int (n:Nat)]/\TxOk pt f1 f2 E/\isM n (xOf n neg f1 f2 E)=true/\d=nq (xOf n neg f1 f2 E)
 exn ds y:=(∃neg f1 pt f2 E n,ds=[tx (txL neg f1 pt f2 E),.int (n:Nat)]/\TxOk pt f1 f2 E/\isM n (xOf n neg f1 f2 E)=false/\y.t="TooGreat")\/∃(l:List Nat) (n k:Nat),ds=[tx l,.int n]/\Bad l k/\y.t="BadText"
theorem vb{C:Cfg}{i1 i2 i3:Nat}(h1:C.ct i1=xJ)(h2:C.ct i2=c_read_textX)(h3:C.ct i3=c_mea):vP C 3 (qG i1 i2 i3) ke:=by
 rintro ds ⟨l,n,rfl,hl,n1,n2⟩;rw[qG,jp,ws_setN,ws_retX];dsimp! only[h2];refine⟨⟨l,rfl,hl⟩,fun d hd=>?_,fun y hy=>?_⟩
 ·obtain⟨neg,f1,pt,f2,E,e,ok,rfl⟩:=hd;simp only[List.cons.injEq,and_true]at e;cases kj e;rw[h1,wp_near (ok_szr ok) n1 n2];show wpS C _ _ _
  have wm:=fun Q X=>wp_mea (n:=n) (x:=jo n (ttF (sgV neg (digitsVal (f1++f2))) (exV E-f2.length))) (Q:=Q) (E:=X) (vY (by lia)) n1 n2
  rw[jp]
  cases hm:isM n (jo n (ttF (sgV neg (digitsVal (f1++f2))) (exV E-f2.length))) with
  |true =>
   refine jU (B:=false) (by dsimp! only[h3,wm,hm]) ?_;rw[if_neg (by decide)];simp_all! only[]
   exact⟨neg,f1,pt,f2,E,n,rfl,ok,hm,rfl⟩
  |false =>
   refine jU (B:=true) (by dsimp! only[h3,wm,hm]) ?_;rw[if_pos rfl,jp,ws_raise];exact .inl ⟨neg,f1,pt,f2,E,n,rfl,ok,hm,rfl⟩
 ·obtain⟨l',k,e,hb,rfl⟩:=hy;simp only[List.cons.injEq,and_true]at e;cases kj e;exact .inr ⟨l,n,k,rfl,hb,rfl⟩
noncomputable def KL:Ctr where
 pre ds:=∃(l:List Nat) (n:Nat),ds=[tx l,.int n]/\l.length<=200/\8<=n/\n<=64
 res ds d:=(∃neg f1 pt f2 E n,ds=[tx (txL neg f1 pt f2 E),.int (n:Nat)]/\TxOk pt f1 f2 E/\d=if isM n (xOf n neg f1 f2 E)=true then nq (xOf n neg f1 f2 E) else .str "great")\/∃(l:List Nat) (n k:Nat),ds=[tx l,.int n]/\Bad l k/\d=.str "bad"
theorem k_told{C:Cfg}{i:Nat}(h1:C.ct i=ke):vP C 3 (x9 i) KL:=by
 rintro ds ⟨l,n,rfl,hl,n1,n2⟩;rw[x9,jp,ws_tryX,jp,ws_retX];dsimp! only[h1];refine⟨⟨l,n,rfl,hl,n1,n2⟩,fun d hd=>?_,fun y hy=>?_⟩
 ·obtain⟨neg,f1,pt,f2,E,n',e,ok,hm,rfl⟩:=hd;exact .inl ⟨neg,f1,pt,f2,E,n',e,ok,by rw[if_pos hm]⟩
 ·rcases hy with⟨neg,f1,pt,f2,E,n',e,ok,hm,yt⟩|⟨l',n',k,e,hb,yt⟩
  ·refine .inl ⟨yt,?_⟩;rw[if_neg (by decide)];exact .inl ⟨neg,f1,pt,f2,E,n',e,ok,by rw[if_neg (by rw[hm];decide)]⟩
  ·refine .inr ⟨yt,?_⟩;rw[if_neg (by decide)];exact .inr ⟨l',n',k,e,hb,rfl⟩
theorem bits_shl{w:Int}(h:w≠0)(n:Nat):bits (w*2^n)=bits w+n:=by
 have hb:=kX h;have h1:=u8 h;have h2:=(jg (i:=w) (n:=bits w)).mp (Nat.le_refl _)
 obtain⟨b,e⟩:∃b,bits w=b+1:=⟨bits w-1,by lia⟩
 rw[e]at h1 h2 ⊢;rw[show b+1+n=(b+n)+1 by lia,yQ,Int.natAbs_mul,Int.natAbs_pow];have hp:=Nat.two_pow_pos n;refine⟨?_,?_⟩
 ·rw[Nat.pow_add];exact Nat.mul_le_mul_right _ h1
 ·rw[show b+n+1=(b+1)+n by lia,Nat.pow_add];exact Nat.mul_lt_mul_of_pos_right h2 hp
theorem mea_300{w p:Int}{n:Nat}(h0:w≠0)(ho:w%2=1)(hn:w.natAbs<2^n)(h64:n<=64)(h1:-300<=p)(h2:p<=300) :
 ((w.natAbs:Int)*2^(p+300).toNat<=2^360/\2^240<=(w.natAbs:Int)*2^(p+300).toNat) ↔ meas w p=true:=by
 have hb:=kX h0
 obtain⟨k,hk⟩:∃k:Nat,(p+300).toNat=k:=⟨_,rfl⟩
 have e:p=k-300:=by lia
 rw[hk]
 have hB:bits ((w.natAbs:Int)*2^k)=bits w+k:=by rw[bits_shl (by lia),zN]
 have hT:((w.natAbs:Int)*2^k)=((w.natAbs*2^k:Nat):Int):=by simp
 rw[hT]at hB ⊢;generalize ht:w.natAbs*2^k=t at *
 have g1:(2:Int)^240<=(t:Int) ↔ 240<bits w+k:=by
  rw[<- hB,xy,Int.natAbs_natCast]
  norm_cast
 have g2:(t:Int)<=2^360 ↔ bits w+k<=360\/t=2^360:=by
  rw[<- hB,jg,Int.natAbs_natCast]
  norm_cast
  lia
 have g3:bits w+k=361->(t=2^360 ↔ w.natAbs=1):=by
  intro hs;constructor
  ·intro h;rw[h]at ht
   have hk2:k<=360:=by lia
   have:(2:Nat)^360=2^(360-k)*2^k:=by rw[<- Nat.pow_add];congr 1;lia
   rw[this]at ht;have hw:=Nat.eq_of_mul_eq_mul_right (Nat.two_pow_pos k) ht;rcases Nat.eq_zero_or_pos (360-k) with z|z
   ·rw[z]at hw;exact hw
   ·exfalso
    obtain⟨r,hr⟩:∃r,360-k=r+1:=⟨360-k-1,by lia⟩
    rw[hr,Nat.pow_succ]at hw;lia
  ·intro h
   have hb1:bits w=1:=by
    rw[show (1:Nat)=0+1 from rfl,yQ,h];decide
   rw[<- ht,h,Nat.one_mul];congr 1;lia
 rw[g1,g2];unfold meas;by_cases h6:(bits w:Int)-1+p=60
 ·rw[if_pos h6,g3 (by lia)];simp;lia
 ·rw[if_neg h6]
  have:t=2^360->bits w+k=361:=by
   intro h;rw[<- hB,h]
   have:((2^360:Nat):Int)=2^360:=by norm_cast
   rw[this,jz]
  simp;lia
theorem y7{n:Nat}{x:Int×Int}(_:Num n x.1 x.2):isM n x=if x.1=0 then true else meas x.1 x.2:=rfl
noncomputable def Jb:Ctr where
 pre ds:=∃(x:Int×Int) (n:Nat),ds=[nq x]/\Num n x.1 x.2/\n<=64
 res ds d:=∀(x:Int×Int) (n:Nat),ds=[nq x]->Num n x.1 x.2->d=.bl (isM n x)
theorem wp_lmea{x:Int×Int}{n:Nat}{Q:D->Prop}{E:XD->Prop}(h:Num n x.1 x.2)(n2:n<=64):Jb.wp [nq x] Q E ↔ Q (.bl (isM n x)):=by
 constructor
 ·intro w
  refine w.2.1 _ fun x' n' e h'=>?_
  simp only[List.cons.injEq,and_true]at e;cases xh e;rw[y7 h,y7 h']
 ·intro q;exact⟨⟨x,n,rfl,h,n2⟩,fun d e=>by rw[e x n rfl h];exact q,fun _ z=>z.elim⟩
theorem k_lmea{C:Cfg}:jC C 2 qv Jb:=by
 rintro ds ⟨x,n,rfl,hx,n2⟩
 have fin:∀v:Bool,v=isM n x->Jb.res [nq x] (.bl v):=fun v hv x' n' e h'=>by
  simp only[List.cons.injEq,and_true]at e;cases xh e;rw[hv,y7 hx,y7 h']
 rw[y7 hx]at fin;rw[qv];by_cases h0:x.1=0
 ·have xe:x=(0,0):=by
   rcases hx.odd with z|z
   ·rw[h0]at z;cases z
   ·obtain⟨a,b⟩:=x;simp only at z;rw[z.1,z.2]
  subst xe;refine zR (by dsimp! only[zY,Jc,zz,decide_true]) ?_;simp_all! only[];exact fin true (by rw[if_pos rfl])
 ·rw[if_neg h0]at fin
  have ne:eqD (nq x) (nq (0,0))=false:=by
   rw[Jc]
   exact decide_eq_false fun z=>h0 (by rw[z])
  refine kB (by dsimp! only[zY,ne,zz]) ?_;rw[jp];by_cases hp:300<(x.2.natAbs:Int)
  ·refine jU (B:=true) (by dsimp! only[xO,x6];exact congrArg _ (decide_eq_true hp)) ?_;rw[if_pos rfl];simp_all! only[];refine fin false ?_;have hb:=kX h0;have bw:bits x.1<=n:=jg.mpr hx.sz;unfold meas;rw[if_neg (by lia)];exact(decide_eq_false (by lia)).symm
  ·refine jU (B:=false) (by dsimp! only[xO,x6];exact congrArg _ (decide_eq_false hp)) ?_;rw[if_neg (by decide)];have m:=mea_300 (p:=x.2) h0 (hx.odd.resolve_right fun z=>h0 z.1) hx.sz n2 (by lia) (by lia);have bw:bits x.1<=n:=jg.mpr hx.sz
   have s1:ShlOk (x.1.natAbs:Int) (x.2+300):=⟨by lia,by rw[zN];lia⟩
   have b1:bits (1:Int)=1:=by decide
   have s2:ShlOk 1 360:=⟨by decide,by rw[b1];decide⟩
   have s3:ShlOk 1 240:=⟨by decide,by rw[b1];decide⟩
   have e1:(1:Int)*2^Int.toNat 360=2^360:=by decide
   have e2:(1:Int)*2^Int.toNat 240=2^240:=by decide
   simp_all! only[kP,xO,x6,s1,s2,s3,e1,e2];generalize (x.1.natAbs:Int)*2^(x.2+300).toNat=B at *;generalize (2:Int)^360=M1 at *;generalize (2:Int)^240=M2 at *;by_cases z:B<=M1
   ·rw[if_pos z];refine fin _ ?_;rw[Bool.eq_iff_iff,<- m];simp[z]
   ·rw[if_neg z];refine fin _ ?_;rw[Bool.eq_iff_iff,<- m];simp[z]
noncomputable def zA:Ctr where
 pre ds:=∃c k:Int,ds=[.int c,.int k]
 res ds d:=∃l,d=tx l/\l.length<=150
theorem wp_some{c k:Int}{Q:D->Prop}{E:XD->Prop}:zA.wp [.int c,.int k] Q E ↔ ∀l,l.length<=150->Q (tx l) :=
 ⟨fun w l hl=>w.2.1 _ ⟨l,rfl,hl⟩,fun q=>⟨⟨c,k,rfl⟩,fun d ⟨l,e,hl⟩=>by subst e;exact q l hl,fun _ z=>z.elim⟩⟩
theorem str_int{v:Int}{Q:D->Prop}(h:v.natAbs<10^60):biD .str [.int v] Q ↔ Q (tx (itS v)):=by
 have e:(10:Nat)^60<2^200:=by decide
 have lg:v.natAbs.log2<200:=zc (Nat.lt_trans h e) (by decide);rw[bi_str,zW];exact and_iff_right (by lia)
theorem KS{v:Int}(h:v.natAbs<10^60):(itS v).length<=61:=by
 have:=uK (k:=60) (by decide) h;unfold itS;split
 ·rw[List.length_cons];lia
 ·lia
theorem k_some{C:Cfg}{i1 i2:Nat}(h1:C.ct i1=qh)(h2:C.ct i2=c_ntext):jC C 5 (yl i1 i2) zA:=by
 rintro ds ⟨c,k,rfl⟩;rw[yl]
 have lm:∀a:Nat,a<=300->a<=lim:=fun a h=>by unfold lim;lia
 simp_all! only[h1,uf];intro m m0 m1;have q1:m.fmod 4=m%4:=ji (by decide);have q2:m.fdiv 4=m / 4:=jr (by decide);have q3:(m / 4).fmod 4=m / 4%4:=ji (by decide);have q4:m.fdiv 16=m / 16:=jr (by decide);have q5:(m / 16).fmod 4=m / 16%4:=ji (by decide);have q6:(m / 4).fmod 40=m / 4%40:=ji (by decide);have q7:m.fdiv 64=m / 64:=jr (by decide);have q8:(m / 64).fmod (10^18)=m / 64%10^18:=ji (by decide);have q9:(m / 4).fmod 2=m / 4%2:=ji (by decide);have qa:m.fdiv 8=m / 8:=jr (by decide);have qb:(m / 8).fmod 51=m / 8%51:=ji (by decide)
 have fin:∀l:List Nat,l.length<=150->zA.res [.int c,.int k] (tx l):=fun l h=>⟨l,rfl,h⟩
 rw[jp,kZ];dsimp! only[q1];by_cases w0:m%4=0
 ·rw[if_pos w0];simp_all! only[h2,wp_ntext];intro neg f1 pt f2 E ok;exact fin _ (by have:=zb (neg:=neg) ok;lia)
 rw[if_neg w0];simp_all! only[];rw[jp,kZ];dsimp! only[q1];by_cases w1:m%4=1
 ·rw[if_pos w1]
  obtain⟨v,ev,v1⟩:∃v:Int,atD [D.int (1*2^(60:Int).toNat),.int (1*2^(60:Int).toNat+1),.int (1*2^(60:Int).toNat+1*2^(52:Int).toNat),.int (1*2^(60:Int).toNat-1)] (m / 4%4)=some (.int v)/\v.natAbs<10^60:=by
   have:m / 4%4=0\/m / 4%4=1\/m / 4%4=2\/m / 4%4=3:=by lia
   rcases this with e|e|e|e<;>rw[e]<;>exact⟨_,rfl,by decide⟩
  obtain⟨y,ey,y1⟩:∃y:List Nat,atD [D.str ".5",.str "",.str ".",.str ".0001"] (m / 16%4)=some (tx y)/\y.length<=5:=by
   have:m / 16%4=0\/m / 16%4=1\/m / 16%4=2\/m / 16%4=3:=by lia
   rcases this with e|e|e|e<;>rw[e]
   ·exact⟨_,congrArg some (K53.str_tx _),by decide +kernel⟩
   ·exact⟨_,congrArg some (K53.str_tx _),by decide +kernel⟩
   ·exact⟨_,congrArg some (K53.str_tx _),by decide +kernel⟩
   ·exact⟨_,congrArg some (K53.str_tx _),by decide +kernel⟩
  have b1:bits (1:Int)=1:=by decide
  have s1:ShlOk 1 60:=⟨by decide,by rw[b1];decide⟩
  have s2:ShlOk 1 52:=⟨by decide,by rw[b1];decide⟩
  have si:=fun Q=>str_int (v:=v) (Q:=Q) v1
  have il:=KS v1;simp_all! only[q2,q3,q4,q5,s1,s2];refine⟨by decide,_,ev,?_⟩;rw[si];refine⟨by decide,_,ey,?_⟩;rw[qH];exact⟨lm _ (by lia),fin _ (by rw[List.length_append];lia)⟩
 rw[if_neg w1];simp_all! only[];rw[jp,kZ];dsimp! only[q1];by_cases w2:m%4=2
 ·rw[if_pos w2]
  have v1:(867361737988403547205962240695953369140625:Int).natAbs<10^60:=by decide
  have si:=fun Q=>str_int (Q:=Q) v1
  have il:=KS v1;have e18:D.str (Str.ofString "e-18")=tx [101,45,49,56]:=congrArg D.str (by decide +kernel);simp_all! only[q2,q6,si,prt,kD,vN,uY,st_p,e18,qH];generalize itS 867361737988403547205962240695953369140625=l0 at *
  have ll:∀a b:Nat,((l0.drop a).take b).length<=61:=fun a b=>by rw[List.length_take,List.length_drop];lia
  have l2:=ll (sIx l0.length 0 none) (sIx l0.length l0.length (some (1+m / 4%40))-sIx l0.length 0 none);refine⟨by decide,lm _ (by lia),lm _ ?_,lm _ ?_,fin _ ?_⟩
  all_goals (try simp only[List.length_append,List.length_cons,List.length_nil]);lia
 rw[if_neg w2];simp_all! only[];have u0:=Int.emod_nonneg (m / 64) (show (10:Int)^18≠0 by decide);have u1:=Int.emod_lt_of_pos (m / 64) (show (0:Int)<10^18 by decide)
 have u2:(10:Int)^18<10^60:=by decide
 have u3:((10^60:Nat):Int)=10^60:=by norm_cast
 have v1:(m / 64%10^18).natAbs<10^60:=by
  generalize (10:Int)^18=A at *;generalize (10:Int)^60=B at *;generalize (10:Nat)^60=N at *;lia
 have si:=fun Q=>str_int (Q:=Q) v1
 have il:=KS v1
 have pk:PowOk 10 18:=⟨by decide,by decide⟩
 have ep:(10:Int)^Int.toNat 18=10^18:=rfl;simp_all! only[q7,q8,pk,ep,si];generalize itS (m / 64%10^18)=l0 at *
 have tl:=fun Q=>(yu (l:=l0) (Q:=Q)).trans (and_iff_right (lm _ (by lia)))
 have qc:((l0.length:Nat):Int).fdiv 2=(l0.length:Int) / 2:=jr (by decide)
 have v2:(m / 8%51-25-(l0.length:Int) / 2).natAbs<10^60:=by
  have:(1000:Nat)<10^60:=by decide
  generalize (10:Nat)^60=N at *;lia
 have sj:=fun Q=>str_int (Q:=Q) v2
 have jl:=KS v2
 have rp:ue 1 (m / 4%2):=⟨by lia,by unfold lim;lia⟩
 simp_all! only[q2,q9,qa,qb,qc,st_m,st_e,tl,sj,KY,qH,List.length_singleton,zO,rp]
 have rl:(List.replicate (m / 4%2).toNat 45).length<=1:=by rw[List.length_replicate];lia
 refine⟨by decide,by decide,by decide,lm _ ?_,lm _ ?_,by decide,by decide,lm _ ?_,fin _ ?_⟩
 all_goals (try simp only[List.length_append,List.length_cons,List.length_nil]);lia
theorem bri_fig{n:Nat}{x:Int×Int}{P:Int}{k:Nat}{w:Nat}{b:Bool}(h:BriAt n x P k w):∃(l:List Nat) (e:Int),FigOk l k/\spF w P k b=spF (digitsVal l) e k b/\jo n (digitsVal l*tn (e-(k-1)))=x /\ -332<=e/\e<=332:=by
 obtain⟨f,f1,f2,wf⟩:=h.wf;have k1:=h.k1;have q1:=h.ra.q1;have q2:=h.ra.q2;have g:=h.ra.fl k1 f1 f2
 have cp:((10^k:Nat):Int)=10^k:=by simp
 have cp1:((10^(k-1):Nat):Int)=10^(k-1):=by simp
 have rd:=h.rd
 have ek:(10:Nat)^k=10*10^(k-1):=by
  obtain⟨m,hm⟩:∃m,k=m+1:=⟨k-1,by lia⟩
  rw[hm,Nat.add_sub_cancel,Nat.pow_succ];lia
 have tp:0<(10:Nat)^(k-1):=Nat.pow_pos (by decide);by_cases z:w<10^k
 ·have fg:=fig_of k1 (show 10^(k-1)<=w by lia) z;refine⟨dgs w,P,fg,by rw[(yX w).2],?_,by lia,by lia⟩;rw[(yX w).2,show P-((k:Int)-1)=P-k+1 by lia];exact rd
 ·have we:w=10^k:=by lia
  have fg:=fig_of (n:=10^(k-1)) k1 (Nat.le_refl _) (by lia);have dv:=(yX (10^(k-1))).2;refine⟨dgs (10^(k-1)),P+1,fg,?_,?_,by lia,by lia⟩
  ·rw[dv,we,<- sp_up k1,show P+1-1=P by lia]
  ·rw[dv,<- rd,we];congr 1
   have e1:(((10^(k-1):Nat):Rat))=tn ((k-1:Nat):Int):=by rw[qN];norm_cast
   have e2:((((10^k:Nat):Int)):Rat)=tn ((k:Nat):Int):=by rw[qN];norm_cast
   rw[e1,e2,<- yR,<- yR];congr 1;lia
theorem bri_text{n:Nat}{x:Int×Int}{d:D}(hx:Num n x.1 x.2)(h:Bri n x d):∃neg f1 pt f2 E,d=tx (txL neg f1 pt f2 E)/\TxOk pt f1 f2 E/\xOf n neg f1 f2 E=x:=by
 by_cases h0:x.1=0
 ·have xe:x=(0,0):=by
   rcases hx.odd with z|z
   ·rw[h0]at z;cases z
   ·obtain⟨a,b⟩:=x;simp only at z;rw[z.1,z.2]
  refine⟨false,[48],false,[],none,h.1 h0,⟨fun c hc=>(by rw[List.mem_singleton]at hc;subst hc;decide),fun c hc=>(by cases hc),by decide,by decide,fun _=>rfl,trivial⟩,?_⟩;rw[xe];show jo n (ttF 0 0)=(0,0)
  have:ttF 0 0=0:=by decide
  rw[this,kO]
 ·obtain⟨P,k,w,br,rfl⟩:=h.2 h0;obtain⟨l,e,fg,es,rd,e1,e2⟩:=bri_fig (b:=decide (x.1<0)) br;have k2:=br.k2;have k1:=br.k1;refine⟨decide (x.1<0),l.take 1,decide (1<k),l.drop 1,eP e,?_,fig_tx fg (by lia) (by lia),?_⟩
  ·rw[es,sp_fig fg]
  ·unfold xOf;have v:=rd_val fg e (decide (x.1<0));unfold rdF at v;rw[List.take_append_drop,eP_v,v];obtain⟨a,p⟩:=x;by_cases z:a<0
   ·rw[if_pos (by simpa using z),qW,rd];unfold xG abP;simp only[z,if_true];rw[Int.neg_neg]
   ·rw[if_neg (by simpa using z),rd];unfold abP;simp only[z,if_false]
theorem isM_okn{n:Nat}{x:Int×Int}(hx:Num n x.1 x.2)(n2:n<=64)(h:isM n x=true):OkN n 963 x:=by
 rw[y7 hx]at h;by_cases h0:x.1=0
 ·rcases hx.odd with z|z
  ·rw[h0]at z;cases z
  ·exact⟨hx,by rw[z.2];decide,by rw[z.2];decide⟩
 ·rw[if_neg h0]at h;have hb:=kX h0;have bw:bits x.1<=n:=jg.mpr hx.sz;unfold meas at h;split at h
  ·exact⟨hx,by lia,by lia⟩
  ·have:=of_decide_eq_true h;exact⟨hx,by lia,by lia⟩
theorem wp_told{l:List Nat}{n:Nat}{Q:D->Prop}{E:XD->Prop}(h:l.length<=200)(n1:8<=n)(n2:n<=64):KL.wp [tx l,.int n] Q E ↔ (∀neg f1 pt f2 E,l=txL neg f1 pt f2 E->TxOk pt f1 f2 E->Q (if isM n (xOf n neg f1 f2 E)=true then nq (xOf n neg f1 f2 E) else .str "great"))/\∀k,Bad l k->Q (.str "bad"):=by
 constructor
 ·intro w;exact⟨fun neg f1 pt f2 E e ok=>w.2.1 _ (.inl ⟨neg,f1,pt,f2,E,n,by rw[e],ok,rfl⟩),fun k hk=>w.2.1 _ (.inr ⟨l,n,k,rfl,hk,rfl⟩)⟩
 ·intro q;refine⟨⟨l,n,rfl,h,n1,n2⟩,fun d e=>?_,fun _ z=>z.elim⟩;rcases e with⟨neg,f1,pt,f2,E,n',e1,ok,rfl⟩|⟨l',n',k,e1,hk,rfl⟩
  ·simp only[List.cons.injEq,and_true,D.int.injEq]at e1
   have:n=n':=by lia
   subst this;exact q.1 neg f1 pt f2 E (kj e1.1) ok
  ·simp only[List.cons.injEq,and_true,D.int.injEq]at e1;cases kj e1.1;exact q.2 k hk
theorem vg{neg pt:Bool}{f1 f2:List Nat}{E':Option (Bool×List Nat)}{n:Nat}{Q:D->Prop}{E:XD->Prop}(ok:TxOk pt f1 f2 E')(hm:isM n (xOf n neg f1 f2 E')=true)(n1:8<=n)(n2:n<=64):ke.wp [tx (txL neg f1 pt f2 E'),.int n] Q E ↔ Q (nq (xOf n neg f1 f2 E')):=by
 have one:∀ {neg' f1' pt' f2' E'' n'},[tx (txL neg f1 pt f2 E'),.int (n:Int)]=[tx (txL neg' f1' pt' f2' E''),.int ((n':Nat):Int)]->TxOk pt' f1' f2' E''->n=n'/\xOf n neg f1 f2 E'=xOf n neg' f1' f2' E'':=fun {neg' f1' pt' f2' E'' n'} e1 ok'=>by
  simp only[List.cons.injEq,and_true,D.int.injEq]at e1;obtain⟨rfl,rfl,rfl,ev⟩:=Jg ok ok' (kj e1.1);exact⟨by lia,by unfold xOf;rw[ev]⟩
 constructor
 ·intro w;exact w.2.1 _ ⟨neg,f1,pt,f2,E',n,rfl,ok,hm,rfl⟩
 ·intro q;have tl:=zb (neg:=neg) ok;refine⟨⟨_,n,rfl,by lia,n1,n2⟩,fun d e=>?_,fun y hy=>?_⟩
  ·obtain⟨neg',f1',pt',f2',E'',n',e1,ok',_,rfl⟩:=e;obtain⟨rfl,e2⟩:=one e1 ok';rw[<- e2];exact q
  ·rcases hy with⟨neg',f1',pt',f2',E'',n',e1,ok',hm',_⟩|⟨l',n',k,e1,hb,_⟩
   ·obtain⟨rfl,e2⟩:=one e1 ok';rw[<- e2,hm]at hm';cases hm'
   ·simp only[List.cons.injEq,and_true,D.int.injEq]at e1;rw[<- kj e1.1]at hb;exact(ok_bad hb ok).elim
theorem k_law{C:Cfg}{i1 i2 i3 i4 i5 i6 i7 i8 i9 i10 i11 i12:Nat}(h1:C.ct i1=yO)(h2:C.ct i2=yZ)(h3:C.ct i3=zA)(h4:C.ct i4=qh)(h5:C.ct i5=c_readsG)(h6:C.ct i6=KL)(h7:C.ct i7=kq)(h8:C.ct i8=yk)(h9:C.ct i9=Jb)(h10:C.ct i10=xz)(h11:C.ct i11=ke)(h12:C.ct i12=ye):jC C 11 (b_law i1 i2 i3 i4 i5 i6 i7 i8 i9 i10 i11 i12) ui:=by
 rintro ds ⟨ns,rfl,hl⟩;simp only[b_law,ui,startS]
 let P:Sto->Prop:=fun σ=>∃a1 a2 a3 a4 a5 a6 a7 a8 a9 a10,σ=[some (.sh (.lst (ns.map .int))),a1,a2,a3,a4,a5,a6,a7,a8,a9,a10]
 refine jO P ?_ ?_
 ·refine forR_law (fun d=>∃k:Int,d=.int k/\0<=k) P ?_ ⟨_,_,_,_,_,_,_,_,_,_,rfl⟩ ?_ fun _ z=>z
  ·simp_all_arith! only[List.length_map]
   exact⟨turns_ok (by lia) (by decide) (by decide) (by decide) (by decide),zn (P:=fun k=>0<=k) _ _ _ fun i _=>by lia⟩
  ·rintro _ _ ⟨j,rfl,hj⟩ ⟨a1,a2,a3,a4,a5,a6,a7,a8,a9,a10,rfl⟩
   have w1:=fun Q E=>wp_cell (Q:=Q) (E:=E) hl hj
   have w2:=fun Q E=>wp_width (Q:=Q) (E:=E) hl hj
   simp_all! only[h1,h2,h3,w1,w2,wp_some];intro c n n1 n2 l0 hl0
   have lm:∀a:Nat,a<=200->a<=lim:=fun a h=>by unfold lim;lia
   refine jO (fun σ=>∃t:List Nat,t.length<=200/\σ=[some (.sh (.lst (ns.map .int))),some (.sh (.int j)),some (.sh (.int c)),some (.sh (.int n)),some (.sh (tx t)),a5,a6,a7,a8,a9,a10]) ?_ ?_
   ·rw[kZ];dsimp! only[h4,uf];intro m m0 m1;have q1:m.fmod 7=m%7:=ji (by decide);rw[q1];by_cases z:m%7=0
    ·rw[if_pos z];simp_all! only[h4,uf];intro o o0 o1;have q2:o.fmod 6=o%6:=ji (by decide);rw[q2]
     obtain⟨y,ey,y1⟩:∃y:List Nat,atD [D.str "x",.str "e",.str " ",.str "-",.str "..",.str "ee"] (o%6)=some (tx y)/\y.length<=5:=by
      have:o%6=0\/o%6=1\/o%6=2\/o%6=3\/o%6=4\/o%6=5:=by lia
      rcases this with e|e|e|e|e|e<;>rw[e]<;>exact⟨_,congrArg some (K53.str_tx _),by decide +kernel⟩
     refine⟨_,ey,?_⟩;rw[qH];exact⟨lm _ (by lia),l0++y,by rw[List.length_append];lia,rfl⟩
    ·rw[if_neg z];simp_all! only[];exact⟨l0,by lia,rfl⟩
   rintro σ ⟨t,ht,rfl⟩
   have wr:=fun Q X=>wp_readsG (l:=t) (Q:=Q) (E:=X) ht
   have wt:=fun Q X=>wp_told (l:=t) (n:=n) (Q:=Q) (E:=X) ht n1 n2
   simp_all! only[h5,wr];refine⟨fun neg f1 pt f2 E et ok=>?_,fun k hb=>?_⟩
   ·simp_all! only[h6,wt];refine⟨fun neg' f1' pt' f2' E' et' ok'=>?_,fun k hb=>(ok_bad (by rw[<- et];exact hb) ok).elim⟩;obtain⟨rfl,rfl,rfl,ev⟩:=Jg ok ok' (et.symm.trans et')
    have xe:xOf n neg f1 f2 E'=xOf n neg f1 f2 E:=by unfold xOf;rw[ev]
    rw[xe];have tlen:=zb (neg:=neg) ok;rw[<- et]at tlen;obtain⟨x1,x2⟩:=vV ok.ex;have m1:=ok.n1;have m2:=ok.n2;have ad:=ok_all ok
    obtain⟨V,hV⟩:∃V:Int,V=(digitsVal (f1++f2):Nat):=⟨_,rfl⟩
    obtain⟨p,hp⟩:∃p:Int,p=exV E-f2.length:=⟨_,rfl⟩
    have hne:f1++f2 ≠ []:=fun z=>by
     have:=congrArg List.length z;rw[List.length_append,List.length_nil]at this;lia
    have t1:1<=t.length:=by
     rw[et];unfold txL;simp only[List.length_append];lia
    obtain⟨c0,hc⟩:∃c0,t[0]?=some c0:=⟨_,List.getElem?_eq_getElem (by lia)⟩
    have hn:c0=45 ↔ neg=true:=by
     rw[<- Jq (neg:=neg) ok,<- et,hc];simp
    have bV:bits V<=161:=by
     refine jg.mpr ?_;have u:=x5 (f1++f2) ad;have:(10:Nat)^(f1++f2).length<=10^40:=Nat.pow_le_pow_right (by decide) (by rw[List.length_append];exact m2)
     have:(10:Nat)^40<2^161:=by decide
     lia
    have sV:sgV neg (digitsVal (f1++f2))=if neg=true then -V else V:=by rw[hV];rfl
    have bS:bits (if neg=true then -V else V)<=161:=by
     cases neg
     ·simp;lia
     ·simp;rw[zV];lia
    obtain⟨A,hA⟩:∃A:Int,A=10^(if p > 0 then p else 0).toNat:=⟨_,rfl⟩
    obtain⟨U,hU⟩:∃U:Int,U=10^(if 0-p > 0 then 0-p else 0).toNat:=⟨_,rfl⟩
    have ix0:=fun Q=>JU (Q:=Q) (l:=t) (i:=0) (by decide) (lm _ (by lia)) (c:=c0) hc
    have ti:=fun Q=>Jt (Q:=Q) ad hne (by rw[List.length_append];lia)
    have w6:=fun Q E=>yT (n:=if p > 0 then p else 0) (Q:=Q) (E:=E) (by split<;>lia) (by split<;>lia)
    have w7:=fun Q E=>yT (n:=if 0-p > 0 then 0-p else 0) (Q:=Q) (E:=E) (by split<;>lia) (by split<;>lia)
    have bA:bits A<=4401:=by
     have:=j4 (if p > 0 then p else 0).toNat
     have:(if p > 0 then p else 0).toNat<=1100:=by split<;>lia
     rw[hA];lia
    have bU:bits U<=4401:=by
     have:=j4 (if 0-p > 0 then 0-p else 0).toNat
     have:(if 0-p > 0 then 0-p else 0).toNat<=1100:=by split<;>lia
     rw[hU];lia
    have uP:0<U:=by rw[hU];exact j7 _
    rw[<- hA]at w6;rw[<- hU]at w7;rw[<- hV]at ti;have cr:=tt_cross (if neg=true then -V else V) p;rw[<- hA,<- hU]at cr;have bT:=j5 (if neg=true then -V else V) A;have bT2:=j5 V A
    have e0:eqD (tx [c0]) (tx [45])=neg:=by
     rw[zj];cases neg
     ·exact decide_eq_false fun z=>by simp at z;have:=hn.mp z;cases this
     ·exact decide_eq_true (by rw[hn.mpr rfl])
    obtain⟨x,hx⟩:∃x,x=xOf n neg f1 f2 E:=⟨_,rfl⟩
    rw[<- hx,<- hp]
    have nx:Num n x.1 x.2:=by rw[hx];exact vY (by lia)
    have xv:jo n (Rat.divInt ((if neg=true then -V else V)*A) U)=x:=by
     rw[hx];unfold xOf;rw[sV,<- hp];congr 1;rw[Rat.divInt_eq_div,<- cr]
     have u0:(U:Rat)≠0:=by
      have:((U:Int):Rat)≠((0:Int):Rat):=fun z=>by have:=Rat.intCast_inj.mp z;lia
      exact this
     rw[Rat.div_def,Rat.mul_assoc,Rat.mul_inv_cancel _ u0,Rat.mul_one]
    have wn:=fun Q X=>wp_near0 (t:=(if neg=true then -V else V)*A) (u:=U) (n:=n) (Q:=Q) (E:=X) uP n1 n2 (by lia) (by lia)
    rw[xv]at wn
    have wl:=fun Q X=>wp_lmea (x:=x) (n:=n) (Q:=Q) (E:=X) nx n2
    have eT:V*A*(1-2*(if neg=true then (1:Int) else 0))=(if neg=true then -V else V)*A:=by
     cases neg
     ·simp
     ·simp[Int.neg_mul]
    refine kB (by dsimp! only[]) ?_;simp_all! only[ti,h7,w6,ix0,st_m,e0,xK]
    refine⟨jJ (by lia),.inl (by decide),jJ (by
     have b2:bits (1-2*(if neg=true then (1:Int) else 0))<=1:=by cases neg<;>decide
     lia),?_⟩
    rw[eT];simp_all! only[w7,h8,wn]
    cases hm:isM n x with
    |false =>
     rw[if_neg (by decide)];refine zR (by dsimp! only[h9,wl,hm]) ?_
     refine kB (by dsimp! only[]) (by simp_all! only[];exact⟨_,_,_,_,_,_,_,_,_,_,rfl⟩)
    |true =>
     rw[if_pos rfl];refine kB (by dsimp! only[h9,wl,hm]) ?_
     have wi:=fun Q X=>JY (n:=n) (x:=x) (Q:=Q) (E:=X) nx n1 n2
     have wb:=fun Q X=>wp_briefest (x:=x) (n:=n) (Q:=Q) (E:=X) (isM_okn nx n2 hm) n1 n2
     refine kB ?_ (by simp_all! only[];exact⟨_,_,_,_,_,_,_,_,_,_,rfl⟩);dsimp! only[h10,wi,Jc,zz,h12,wb,decide_true];intro d hd;obtain⟨neg',f1',pt',f2',E'',rfl,ok'',xe''⟩:=bri_text nx hd
     have wm:=fun Q X=>vg (neg:=neg') (n:=n) (Q:=Q) (E:=X) ok'' (by rw[xe''];exact hm) n1 n2
     rw[xe'']at wm;dsimp! only[h11,wm,Jc,zz,decide_true]
   ·simp_all! only[h6,wt];refine⟨fun neg' f1' pt' f2' E' et' ok'=>(ok_bad (by rw[<- et'];exact hb) ok').elim,fun k' hb'=>?_⟩;refine zR (by dsimp! only[]) ?_;refine kB (by dsimp! only[]) (by simp_all! only[];exact⟨_,_,_,_,_,_,_,_,_,_,rfl⟩)
 rintro σ ⟨a1,a2,a3,a4,a5,a6,a7,a8,a9,a10,rfl⟩;simp_all! only[]
end Z.K62
namespace Z.K62
open PySem PySem.Spec PyProof.Rows L2 Z
noncomputable def top(i:Nat):Stmt:=PySem.Challenge.pw_trueline_k62_measures_read.main.body.getD i (.Pass ⟨0,0,0,0⟩)
noncomputable def fi_law_cell:FnI:=⟨"_law_cell",top 55,["_law_script","_law_k"],["_law_script","_law_k"],zJ,yO,false,false,[],true,false⟩
noncomputable def fi_law_drawn:FnI:=⟨"_law_drawn",top 56,["_law_cell_here","_law_k","_law_more"],["_law_cell_here","_law_k"],yC,qh,false,false,[],true,false⟩
noncomputable def fi_law_width:FnI:=⟨"_law_width",top 61,["_law_script","_law_k"],["_law_script","_law_k"],yM 1 0,yZ,false,false,[],true,false⟩
noncomputable def fi_law_figures:FnI:=⟨"_law_figures",top 63,["_law_more","_law_many","_law_made","_law_k"],["_law_more","_law_many"],K52.b_law_figures,K52.c_figures,false,false,[],true,false⟩
noncomputable def fi_law_text:FnI:=⟨"_law_text",top 64,["_law_cell_here","_law_k","_law_more","_law_other","_law_many","_law_figures_here","_law_text_here","_law_point","_law_power_here"],["_law_cell_here","_law_k"],K52.b_law_text 1 3,K52.c_ntext,false,false,[],true,false⟩
noncomputable def fi_law_some:FnI:=⟨"_law_some",top 68,["_law_cell_here","_law_k","_law_more","_law_size","_law_text_here"],["_law_cell_here","_law_k"],yl 1 4,zA,false,false,[],true,false⟩
noncomputable def fi_law_power:FnI:=⟨"_law_power",top 65,["_law_text_here","_law_power_here"],["_law_text_here","_law_power_here"],K52.b_law_power,K52.c_power,false,false,[],true,false⟩
noncomputable def fi_law_reads:FnI:=⟨"_law_reads",top 67,["_law_text_here","_law_state","_law_figures_here","_law_behind","_law_power_here","_law_at","_law_sign","_law_is_figure"],["_law_text_here"],K52.b_law_reads 6,J53.c_readsG,false,false,[],true,false⟩
noncomputable def fi_two_to:FnI:=⟨"two_to",top 25,["count","told","factor","left"],["count"],v9,kH,false,false,[],true,false⟩
noncomputable def fi_left_of:FnI:=⟨"left_of",top 30,["rest","under"],["rest","under"],uU 1 3 2 4,ky,false,false,[],true,false⟩
noncomputable def fi_cut:FnI:=⟨"cut",top 31,["top","under","width","power"],["top","under","width"],b_cut 8 9,JC,false,false,[],true,false⟩
noncomputable def fi_odd_form:FnI:=⟨"odd_form",top 29,["whole","power"],["whole","power"],zq,qu,false,false,[],true,false⟩
noncomputable def fi_from_cut:FnI:=⟨"from_cut",top 32,["part","goes_up","is_below","size"],["part","goes_up","is_below"],zE 11,qy,false,false,[],true,false⟩
noncomputable def fi_near:FnI:=⟨"near",top 33,["given","width","part","is_odd_midst"],["given","width"],b_near 10 12 3 4,xJ,false,false,[],true,false⟩
noncomputable def fi_behind_sign:FnI:=⟨"behind_sign",top 38,["text","at","sign"],["text","at","sign"],xN,jQ,false,false,[],true,false⟩
noncomputable def fi_behind_figures:FnI:=⟨"behind_figures",top 39,["text","at","most","end"],["text","at","most"],qt 5,jw,false,false,[],true,false⟩
noncomputable def fi_power_atX:FnI:=⟨"power_at",top 40,["text","at","first","end"],["text","at"],J53.b_power_atX 14 15 7,J53.c_power_atX,false,true,["BadText","TooGreat"],true,false⟩
noncomputable def fi_common_divisor:FnI:=⟨"common_divisor",top 17,["one","other","greater","lesser","left"],["one","other"],qr,jR,false,false,[],true,false⟩
noncomputable def fi_ratio:FnI:=⟨"ratio",top 18,["top","under","divisor"],["top","under"],K1 17,xE,false,false,[],true,false⟩
noncomputable def fi_times_ten:FnI:=⟨"times_ten",top 41,["whole","power","ten"],["whole","power"],yB 18,qB,false,false,[],true,false⟩
noncomputable def fi_read_textX:FnI:=⟨"read_text",top 42,["text","start","point","behind","end","power","whole"],["text"],J53.b_read_textX 14 15 16 19 6,J53.c_read_textX,false,true,["BadText","TooGreat"],true,false⟩
noncomputable def fi_is_whole:FnI:=⟨"is_whole",top 15,["thing"],["thing"],zx,kJ,false,false,[],true,false⟩
noncomputable def fi_is_pair_of_wholes:FnI:=⟨"is_pair_of_wholes",top 16,["thing"],["thing"],kC 21,c_isp,false,false,[],true,false⟩
noncomputable def fi_is_number:FnI:=⟨"is_number",top 26,["thing","width"],["thing","width"],yz 22,xz,false,false,[],true,false⟩
noncomputable def fi_is_measure:FnI:=⟨"is_measure",top 27,["thing","width","first"],["thing","width"],yo 23 0,c_mea,false,false,[],true,false⟩
noncomputable def fi_read_measureX:FnI:=⟨"read_measure",top 43,["text","width","number"],["text","width"],qG 13 20 24,ke,false,true,["BadText","TooGreat"],true,false⟩
noncomputable def fi_law_told:FnI:=⟨"_law_told",top 70,["_law_text_here","_law_width_here","_law_e"],["_law_text_here","_law_width_here"],x9 25,KL,false,true,["BadText","TooGreat"],true,false⟩
noncomputable def fi_law_ten:FnI:=⟨"_law_ten",top 66,["_law_many","_law_made","_law_factor"],["_law_many"],uL,kq,false,false,[],true,false⟩
noncomputable def fi_law_bare:FnI:=⟨"_law_bare",top 57,["_law_whole_here","_law_power_here","_law_low"],["_law_whole_here","_law_power_here"],zw,uV,false,false,[],true,false⟩
noncomputable def fi_law_near:FnI:=⟨"_law_near",top 58,["_law_top","_law_under","_law_width_here","_law_size","_law_power_here","_law_base","_law_whole_here","_law_left"],["_law_top","_law_under","_law_width_here"],zK 28,yk,false,false,[],true,false⟩
noncomputable def fi_law_is_measure:FnI:=⟨"_law_is_measure",top 69,["_law_number","_law_high"],["_law_number"],qv,Jb,false,false,[],true,false⟩
noncomputable def fi_law_whole:FnI:=⟨"_law_whole",top 59,["_law_thing"],["_law_thing"],yH,kJ,false,false,[],true,false⟩
noncomputable def fi_law_is_number:FnI:=⟨"_law_is_number",top 60,["_law_thing","_law_width_here"],["_law_thing","_law_width_here"],qK 31,xz,false,false,[],true,false⟩
noncomputable def fi_ten_to:FnI:=⟨"ten_to",top 45,["count","told","factor","left"],["count"],vI,kq,false,false,[],true,false⟩
noncomputable def fi_times_ten_to:FnI:=⟨"times_ten_to",top 46,["pair","power"],["pair","power"],xg 33,jS,false,false,[],true,false⟩
noncomputable def fi_reaches:FnI:=⟨"reaches",top 47,["size","power","moved"],["size","power"],uE 34,xU,false,false,[],true,false⟩
noncomputable def fi_first_power:FnI:=⟨"first_power",top 48,["size","power"],["size"],xP 35,kE,false,false,[],true,false⟩
noncomputable def fi_value:FnI:=⟨"value",top 28,["number"],["number"],KU 8,xC,false,false,[],true,false⟩
noncomputable def fi_wholes_around:FnI:=⟨"wholes_around",top 49,["size","power","digits","moved","whole","left"],["size","power","digits"],qM 34 9 1 4 3,jV,false,false,[],true,false⟩
noncomputable def fi_is_read_as:FnI:=⟨"is_read_as",top 51,["whole","power","number","width"],["whole","power","number","width"],yn 13 34,qS,false,false,[],true,false⟩
noncomputable def fi_read_as:FnI:=⟨"read_as",top 52,["number","width","power","digits","wholes"],["number","width","power","digits"],ux 38 37 39,xQ,false,false,[],true,false⟩
noncomputable def fi_spelled:FnI:=⟨"spelled",top 50,["whole","power","digits","is_below","figures","sign","first","point","others"],["whole","power","digits","is_below"],uN,qZ,false,false,[],true,false⟩
noncomputable def fi_briefest:FnI:=⟨"briefest",top 53,["number","width","size","power","digits","wholes"],["number","width"],zB 36 37 40 41,ye,false,false,[],true,false⟩
noncomputable def fi_law:FnI:=⟨"law",top 71,["_law_script","_law_k","_law_cell_here","_law_width_here","_law_text_here","_law_good","_law_figures_here","_law_power_here","_law_told_here","_law_top","_law_due"],["_law_script"],b_law 0 2 5 1 7 26 27 29 30 32 25 42,ui,false,false,[],true,false⟩
noncomputable def fi_law_alone:FnI:=⟨"_law_alone",top 62,["_law_e","_law_flags"],["_law_e"],.nop,ui,false,false,[],true,false⟩
noncomputable def fi_ini_BadText:FnI:=⟨"__init__",clsDef (top 8),["self","text","at"],["self","text","at"],.nop,ui,false,false,[],true,false⟩
noncomputable def fns:List FnI:=[fi_law_cell,fi_law_drawn,fi_law_width,fi_law_figures,fi_law_text,fi_law_some,fi_law_power,fi_law_reads,fi_two_to,fi_left_of,fi_cut,fi_odd_form,fi_from_cut,fi_near,fi_behind_sign,fi_behind_figures,fi_power_atX,fi_common_divisor,fi_ratio,fi_times_ten,fi_read_textX,fi_is_whole,fi_is_pair_of_wholes,fi_is_number,fi_is_measure,fi_read_measureX,fi_law_told,fi_law_ten,fi_law_bare,fi_law_near,fi_law_is_measure,fi_law_whole,fi_law_is_number,fi_ten_to,fi_times_ten_to,fi_reaches,fi_first_power,fi_value,fi_wholes_around,fi_is_read_as,fi_read_as,fi_spelled,fi_briefest,fi_law]
noncomputable def C:Cfg where
 ct n:=((fns.map (·.c))[n]?).getD ⟨fun _=>False,fun _ _=>False,fun _ _=>False⟩
 cn n:=match n with|0=>.int 60|1=>.int 0|2=>.int 1|3=>.int 2|4=>.int 3|5=>.str "0123456789" |6=>.int 40|7=>.int 3|_=>.non
 fr n:=((fns.map (·.fr))[n]?).getD false
 f2 n:=((fns.map (·.g))[n]?).getD false
theorem chk:vM fns ["MEASURE_POWER","NONE_LEFT","BELOW_HALF","HALF_LEFT","ABOVE_HALF","FIGURES","MOST_FIGURES","MOST_POWER_FIGURES"]=true:=by decide +kernel
theorem ct:∀n i,fns[n]?=some i->C.ct n=i.c/\C.fr n=i.fr/\C.f2 n=i.g:=by
 intro n i e;refine⟨?_,?_,?_⟩
 ·show ((fns.map (·.c))[n]?).getD _=i.c;rw[List.getElem?_map,e];rfl
 ·show ((fns.map (·.fr))[n]?).getD _=i.fr;rw[List.getElem?_map,e];rfl
 ·show ((fns.map (·.g))[n]?).getD _=i.g;rw[List.getElem?_map,e];rfl
theorem keeps:∀i∈fns,i.Keep C:=by
 intro i hi;simp only[fns,List.mem_cons,List.not_mem_nil,or_false]at hi;rcases hi with rfl|rfl|rfl|rfl|rfl|rfl|rfl|rfl|rfl|rfl|rfl|rfl|rfl|rfl|rfl|rfl|rfl|rfl|rfl|rfl|rfl|rfl|rfl|rfl|rfl|rfl|rfl|rfl|rfl|rfl|rfl|rfl|rfl|rfl|rfl|rfl|rfl|rfl|rfl|rfl|rfl|rfl|rfl|rfl
 ·exact k_cell
 ·exact k_drawn
 ·exact k_width rfl rfl
 ·exact K52.k_figures
 ·exact K52.k_ntext rfl rfl
 ·exact k_some rfl rfl
 ·exact K52.k_power
 ·exact J53.k_readsG rfl
 ·exact k_two_to
 ·exact k_left_of rfl rfl rfl rfl
 ·exact k_cut rfl rfl
 ·exact k_odd_form
 ·exact k_from_cut rfl
 ·exact k_near rfl rfl rfl rfl
 ·exact JB
 ·exact uR rfl
 ·exact⟨rfl,J53.k_power_atX rfl rfl rfl⟩
 ·exact uX
 ·exact k_ratio rfl
 ·exact k_times_ten rfl
 ·exact⟨rfl,J53.k_read_textX rfl rfl rfl rfl rfl⟩
 ·exact k_is_whole
 ·exact k_isp rfl
 ·exact k_isn rfl
 ·exact k_mea rfl rfl
 ·exact⟨rfl,vb rfl rfl rfl⟩
 ·exact⟨rfl,k_told rfl⟩
 ·exact k_lten
 ·exact k_bare
 ·exact k_near0 rfl
 ·exact k_lmea
 ·exact k_whole
 ·exact k_isnum rfl
 ·exact k_ten_to
 ·exact Jj rfl
 ·exact k_reaches rfl
 ·exact Jy rfl
 ·exact k_value rfl
 ·exact vd rfl rfl rfl rfl rfl
 ·exact Ks rfl rfl
 ·exact k_read_as rfl rfl rfl
 ·exact k_spelled
 ·exact k_briefest rfl rfl rfl rfl
 ·exact k_law rfl rfl rfl rfl rfl rfl rfl rfl rfl rfl rfl rfl
end Z.K62
namespace PySem.W.Fast
theorem tw10774848077234113969:True:=⟨⟩
theorem tw17904554404023205427:True:=⟨⟩
theorem tw9792678818445149397:True:=⟨⟩
theorem tw7488255043636911577:True:=⟨⟩
theorem tw10612082602675200410:True:=⟨⟩
theorem tw12456325202909346724:True:=⟨⟩
theorem tw12677725837483498425:True:=⟨⟩
theorem tw17475033696494209822:True:=⟨⟩
theorem tw9147964754497629123:True:=⟨⟩
theorem tw2472280597134940550:True:=⟨⟩
theorem tw7446095329460108353:True:=⟨⟩
theorem tw14248754020814706437:True:=⟨⟩
theorem tw15309658178520968455:True:=⟨⟩
theorem tw8193405270702042049:True:=⟨⟩
theorem tw5506011148116633774:True:=⟨⟩
theorem tw5848451289341403075:True:=⟨⟩
theorem tw17616854864134482610:True:=⟨⟩
theorem tw8650570297538401686:True:=⟨⟩
theorem tw17726937769219378174:True:=⟨⟩
theorem tw6180884896305174621:True:=⟨⟩
theorem tw13579374583451415658:True:=⟨⟩
theorem tw16632266540830084586:True:=⟨⟩
theorem tw1440756748538699528:True:=⟨⟩
theorem tw16938717240063122748:True:=⟨⟩
theorem tw5342585214511983260:True:=⟨⟩
theorem tw13040319992600250263:True:=⟨⟩
theorem tw4504577043189270554:True:=⟨⟩
theorem tw13976515385480496372:True:=⟨⟩
theorem tw4414313649319373912:True:=⟨⟩
theorem tw14812829168735932222:True:=⟨⟩
theorem tw10344316809762618656:True:=⟨⟩
theorem tw6056096844138619977:True:=⟨⟩
theorem tw11400396490931016423:True:=⟨⟩
theorem tw6245701847176204468:True:=⟨⟩
theorem tw1250818722620381948:True:=⟨⟩
theorem tw13416004564977698773:True:=⟨⟩
theorem tw8352784014095505970:True:=⟨⟩
theorem tw17326710190354245257:True:=⟨⟩
theorem tw14437036279081621642:True:=⟨⟩
theorem tw16960439670370352178:True:=⟨⟩
theorem tw2351724639820621686:True:=⟨⟩
theorem tw6940609114679278694:True:=⟨⟩
theorem tw15490279171531236722:True:=⟨⟩
theorem tw14749769326105129812:True:=⟨⟩
theorem tw4512896616611068202:True:=⟨⟩
theorem tw6261124474112450744:True:=⟨⟩
theorem tw2141579814113045743:True:=⟨⟩
theorem tw5469929276140619529:True:=⟨⟩
theorem tw15968507567873268206:True:=⟨⟩
theorem tw2727936129983351271:True:=⟨⟩
theorem tw1135200649695859026:True:=⟨⟩
theorem tw5957353964607219926:True:=⟨⟩
theorem tw13425419562349166831:True:=⟨⟩
theorem tw12415271329920896251:True:=⟨⟩
theorem tw11426222224864706890:True:=⟨⟩
theorem tw12977526984839868387:True:=⟨⟩
theorem tw13465604601155202926:True:=⟨⟩
theorem tw9359048039480942305:True:=⟨⟩
theorem tw4829226725511698198:True:=⟨⟩
theorem tw2503999419781053269:True:=⟨⟩
theorem tw3920251767183497066:True:=⟨⟩
theorem tw10919829392760776647:True:=⟨⟩
theorem tw14983863101694526153:True:=⟨⟩
theorem tw4461286214010687817:True:=⟨⟩
theorem tw16372456621799457390:True:=⟨⟩
theorem tw5456062926077334360:True:=⟨⟩
theorem tw8922490513667310794:True:=⟨⟩
theorem tw5164449576870136517:True:=⟨⟩
theorem tw7681215985219842996:True:=⟨⟩
theorem tw8782809341847530665:True:=⟨⟩
theorem tw160011494524118200:True:=⟨⟩
theorem tw4590393445994386037:True:=⟨⟩
theorem tw10073632351250780554:True:=⟨⟩
theorem tw8963301570727109142:True:=⟨⟩
theorem tw3446473567952024956:True:=⟨⟩
theorem tw16577490674917496802:True:=⟨⟩
theorem tw11569913792951367550:True:=⟨⟩
theorem tw8944559515140630343:True:=⟨⟩
theorem tw5648324046868154408:True:=⟨⟩
theorem tw12165933435040945699:True:=⟨⟩
theorem tw10736429703203226724:True:=⟨⟩
theorem tw11819690800681325507:True:=⟨⟩
theorem tw15389668196098864435:True:=⟨⟩
theorem tw12401494494144412473:True:=⟨⟩
theorem tw15909936124206982589:True:=⟨⟩
theorem tw4427719303239769251:True:=⟨⟩
theorem tw1955301151224772553:True:=⟨⟩
theorem tw13639223113513501826:True:=⟨⟩
theorem tw8182030180587177586:True:=⟨⟩
theorem tw17631203586795955079:True:=⟨⟩
theorem tw6737849743817298614:True:=⟨⟩
theorem tw16693935889096878038:True:=⟨⟩
theorem tw3780084285043069966:True:=⟨⟩
theorem tw12124188208398991705:True:=⟨⟩
theorem tw13676959768652726539:True:=⟨⟩
theorem tw17700502348500433332:True:=⟨⟩
theorem tw10769155549020526374:True:=⟨⟩
theorem tw3497281395397094103:True:=⟨⟩
theorem tw2919034612569562168:True:=⟨⟩
theorem tw13096256158270258393:True:=⟨⟩
theorem tw17652989277219811649:True:=⟨⟩
theorem tw14234073962781097770:True:=⟨⟩
theorem tw17695219475062845005:True:=⟨⟩
theorem tw14194518230620278057:True:=⟨⟩
theorem tw11701576494163617475:True:=⟨⟩
theorem tw1442474207052571482:True:=⟨⟩
theorem tw16044485633368949191:True:=⟨⟩
theorem tw5474339718986592955:True:=⟨⟩
theorem tw11322541820671557535:True:=⟨⟩
theorem tw12401234380106666098:True:=⟨⟩
theorem tw14283078689562319535:True:=⟨⟩
theorem tw11742103549692418792:True:=⟨⟩
theorem tw4720304024410299728:True:=⟨⟩
theorem tw13982129046950119860:True:=⟨⟩
theorem tw5048620772283012518:True:=⟨⟩
theorem tw12265524816418917531:True:=⟨⟩
theorem tw12317596260314685625:True:=⟨⟩
theorem tw11119581132267097922:True:=⟨⟩
theorem tw7712807142325416149:True:=⟨⟩
theorem tw14589905659160202655:True:=⟨⟩
theorem tw14473567739758967303:True:=⟨⟩
theorem tw7679307125862073534:True:=⟨⟩
theorem tw17054323008891459887:True:=⟨⟩
theorem tw13557122861093197508:True:=⟨⟩
theorem tw6555160322401762797:True:=⟨⟩
theorem tw4608962960985302356:True:=⟨⟩
theorem tw12704896166445143296:True:=⟨⟩
theorem tw5928531212862470525:True:=⟨⟩
theorem tw1589799978581965882:True:=⟨⟩
theorem tw15630688261526413366:True:=⟨⟩
theorem tw9132316449792447090:True:=⟨⟩
theorem tw17798628354107014322:True:=⟨⟩
theorem tw10285369458683615108:True:=⟨⟩
theorem tw7520059994719625246:True:=⟨⟩
theorem tw2191542357943734792:True:=⟨⟩
theorem tw16072195092245403064:True:=⟨⟩
theorem tw16029552801917133727:True:=⟨⟩
theorem tw15441399906697232273:True:=⟨⟩
theorem tw14896974268055008461:True:=⟨⟩
theorem tw18102945875589542021:True:=⟨⟩
theorem tw4585877149801964154:True:=⟨⟩
theorem tw6436983927402013618:True:=⟨⟩
theorem tw5375193499704078143:True:=⟨⟩
theorem tw7941041607708831520:True:=⟨⟩
theorem tw11392471547267981551:True:=⟨⟩
theorem tw15095726455071024226:True:=⟨⟩
theorem tw11637349921679123548:True:=⟨⟩
theorem tw13011205197511686441:True:=⟨⟩
theorem tw953792769746589594:True:=⟨⟩
theorem tw3202355990756657080:True:=⟨⟩
theorem tw5942226158774365375:True:=⟨⟩
theorem tw16044431409550761564:True:=⟨⟩
theorem tw1742405723465295937:True:=⟨⟩
theorem tw4465055618486126308:True:=⟨⟩
theorem tw16443518748554413981:True:=⟨⟩
theorem tw14780055343384818528:True:=⟨⟩
theorem tw17353003097282425219:True:=⟨⟩
theorem tw6163481572335990845:True:=⟨⟩
theorem tw773908480894774539:True:=⟨⟩
theorem tw17592192547795100954:True:=⟨⟩
theorem tw16369725585142264416:True:=⟨⟩
theorem tw8066377639448277081:True:=⟨⟩
theorem tw12666732647660377169:True:=⟨⟩
theorem tw16202380102812304925:True:=⟨⟩
theorem tw3235896345949778409:True:=⟨⟩
theorem tw15735282842949251414:True:=⟨⟩
theorem tw17079630629798881655:True:=⟨⟩
theorem tw10049193474585610371:True:=⟨⟩
theorem tw9695857061866426611:True:=⟨⟩
theorem tw2894458045877803053:True:=⟨⟩
theorem tw12951443281387005085:True:=⟨⟩
theorem tw6232161008743758250:True:=⟨⟩
theorem tw8416000905396521314:True:=⟨⟩
theorem tw16555301763246163039:True:=⟨⟩
theorem tw10109343253993852712:True:=⟨⟩
theorem tw1348672157192970723:True:=⟨⟩
theorem tw10390122288715652919:True:=⟨⟩
theorem tw14554379789730849935:True:=⟨⟩
theorem tw2623849757033275230:True:=⟨⟩
theorem tw7993037319424348313:True:=⟨⟩
theorem tw15590367488766691525:True:=⟨⟩
theorem tw13910809258582484059:True:=⟨⟩
theorem tw8458202428017610014:True:=⟨⟩
theorem tw10011007891693812774:True:=⟨⟩
theorem tw7221862295442877391:True:=⟨⟩
theorem tw12855054972345321352:True:=⟨⟩
theorem tw14880778136961477695:True:=⟨⟩
theorem tw10296030531381770624:True:=⟨⟩
theorem tw14727138876104185253:True:=⟨⟩
theorem tw9961095396388647597:True:=⟨⟩
theorem tw6938863989411747746:True:=⟨⟩
theorem tw11359678002293739651:True:=⟨⟩
theorem tw14963862999269421261:True:=⟨⟩
theorem tw8324168259273341660:True:=⟨⟩
theorem tw12861360104560869879:True:=⟨⟩
theorem tw12462878869325072001:True:=⟨⟩
theorem tw11271854131683726680:True:=⟨⟩
theorem tw5249848494656304249:True:=⟨⟩
theorem tw17527635479178613966:True:=⟨⟩
theorem tw6115301394155528611:True:=⟨⟩
theorem tw349176256404238077:True:=⟨⟩
theorem tw4279854700218329070:True:=⟨⟩
theorem tw8357949469661637220:True:=⟨⟩
theorem tw8974056566526885960:True:=⟨⟩
theorem tw13925941142264656850:True:=⟨⟩
theorem tw14999591375375950086:True:=⟨⟩
theorem tw2194305125138076953:True:=⟨⟩
theorem tw10776927855592052135:True:=⟨⟩
theorem tw7816567792773193256:True:=⟨⟩
theorem tw16080488218960722721:True:=⟨⟩
theorem tw3347335998995533786:True:=⟨⟩
theorem tw15587670550763073281:True:=⟨⟩
theorem tw13834908238256229054:True:=⟨⟩
theorem tw7396423100112710851:True:=⟨⟩
theorem tw16676275998974564319:True:=⟨⟩
theorem tw15060885895074600471:True:=⟨⟩
theorem tw13150100632661515691:True:=⟨⟩
theorem tw16021832958725099227:True:=⟨⟩
theorem tw6464361182976821407:True:=⟨⟩
theorem tw696598778175953083:True:=⟨⟩
theorem tw9760572786469415527:True:=⟨⟩
theorem tw16109793249208512331:True:=⟨⟩
theorem tw7864114857586623747:True:=⟨⟩
theorem tw17218943909064702990:True:=⟨⟩
theorem tw12994721736576514587:True:=⟨⟩
theorem tw12410060787507567782:True:=⟨⟩
theorem tw5396321986854871751:True:=⟨⟩
theorem tw9353963805487072047:True:=⟨⟩
theorem tw9849045810768242168:True:=⟨⟩
theorem tw17804561088197793655:True:=⟨⟩
theorem tw8929072575842152111:True:=⟨⟩
theorem tw11057628453441642466:True:=⟨⟩
theorem tw1095434633589152160:True:=⟨⟩
theorem tw6658925938999817249:True:=⟨⟩
theorem tw701354482041743544:True:=⟨⟩
theorem tw3792374959774962311:True:=⟨⟩
theorem tw4300944619290554970:True:=⟨⟩
theorem tw2574691669478249617:True:=⟨⟩
theorem tw11482920990232425389:True:=⟨⟩
theorem tw7593428696399064094:True:=⟨⟩
theorem tw3843983590356236174:True:=⟨⟩
theorem tw5268331131773115865:True:=⟨⟩
theorem tw17260392426936735273:True:=⟨⟩
theorem tw8416580923360738655:True:=⟨⟩
theorem tw15777904468992095990:True:=⟨⟩
theorem tw11550339980272212785:True:=⟨⟩
theorem tw14776260171705930179:True:=⟨⟩
theorem tw10376432038879505495:True:=⟨⟩
theorem tw9304866020886872431:True:=⟨⟩
theorem tw2790362109366511118:True:=⟨⟩
theorem tw1177722342782133309:True:=⟨⟩
theorem tw9314194793476295985:True:=⟨⟩
theorem tw2373700141421668940:True:=⟨⟩
theorem tw17694546059780270875:True:=⟨⟩
theorem tw16823787924086223356:True:=⟨⟩
theorem tw9443434768285364074:True:=⟨⟩
theorem tw5181249185992846759:True:=⟨⟩
theorem tw2099804099478394058:True:=⟨⟩
theorem tw18043860983998176396:True:=⟨⟩
theorem tw6887495552519697399:True:=⟨⟩
theorem tw1875589364577931698:True:=⟨⟩
theorem tw15547576211139081737:True:=⟨⟩
theorem tw16266969306117069041:True:=⟨⟩
theorem tw10088249414332490135:True:=⟨⟩
theorem tw11266348445154716987:True:=⟨⟩
theorem tw16012241090030050672:True:=⟨⟩
theorem tw17604473654381642237:True:=⟨⟩
theorem tw18240514350746380569:True:=⟨⟩
theorem tw16384295522039293765:True:=⟨⟩
theorem tw15536931453400795951:True:=⟨⟩
theorem tw15971089453375172844:True:=⟨⟩
theorem tw11267975875248741839:True:=⟨⟩
theorem tw4930811948747220843:True:=⟨⟩
theorem tw17102711345161282801:True:=⟨⟩
theorem tw2203863036016093328:True:=⟨⟩
theorem tw14513523903633126810:True:=⟨⟩
theorem tw13804147805891948003:True:=⟨⟩
theorem tw6380962097533432745:True:=⟨⟩
theorem tw7835634741671340059:True:=⟨⟩
theorem tw9488089031470684189:True:=⟨⟩
theorem tw14420693488029093922:True:=⟨⟩
theorem tw2046565453846606324:True:=⟨⟩
theorem tw10348692045244324075:True:=⟨⟩
theorem tw4451322337666620577:True:=⟨⟩
theorem tw13393895652613864827:True:=⟨⟩
theorem tw9733920531122134601:True:=⟨⟩
theorem tw15781708252840359886:True:=⟨⟩
theorem tw2488105773426241097:True:=⟨⟩
theorem tw4122240316652777535:True:=⟨⟩
theorem tw15397864429934687490:True:=⟨⟩
theorem tw13724111536938026091:True:=⟨⟩
theorem tw2948664319175947922:True:=⟨⟩
theorem tw4666998383330364474:True:=⟨⟩
theorem tw6313829614832064940:True:=⟨⟩
theorem tw17206072041176110172:True:=⟨⟩
theorem tw1233548361123119036:True:=⟨⟩
theorem tw12086734163793484802:True:=⟨⟩
theorem tw4274294617361930900:True:=⟨⟩
theorem tw750997445100076707:True:=⟨⟩
theorem tw14252644093939897492:True:=⟨⟩
theorem tw10347942387163145733:True:=⟨⟩
theorem tw9046112675312056314:True:=⟨⟩
theorem tw5582091648822765892:True:=⟨⟩
theorem tw5786908113055234250:True:=⟨⟩
theorem tw9961655327962848694:True:=⟨⟩
theorem tw15298624845270146436:True:=⟨⟩
theorem tw211751543991748732:True:=⟨⟩
theorem tw16210424672628743695:True:=⟨⟩
theorem tw14107824124693544607:True:=⟨⟩
theorem tw11391571037877161932:True:=⟨⟩
theorem tw3215335666967290124:True:=⟨⟩
theorem tw17143361360468985855:True:=⟨⟩
theorem tw2659782809608296495:True:=⟨⟩
theorem tw12934670988541608768:True:=⟨⟩
theorem tw856195539076530426:True:=⟨⟩
theorem tw5233264548238646654:True:=⟨⟩
theorem tw9413068723192009255:True:=⟨⟩
theorem tw11209027771648035215:True:=⟨⟩
theorem tw14690217426176419436:True:=⟨⟩
theorem tw10451882625599746204:True:=⟨⟩
theorem tw12909505991837736490:True:=⟨⟩
theorem tw14698159021374228407:True:=⟨⟩
theorem tw17695206167310918694:True:=⟨⟩
theorem tw2775361656016364374:True:=⟨⟩
theorem tw5956344174220785328:True:=⟨⟩
theorem tw3010895718512070006:True:=⟨⟩
theorem tw11121026219180187529:True:=⟨⟩
theorem tw1120041349330185158:True:=⟨⟩
theorem tw1835029804673321388:True:=⟨⟩
theorem tw12304826202916760899:True:=⟨⟩
theorem tw2779558026757206988:True:=⟨⟩
theorem tw10737519132840965124:True:=⟨⟩
theorem tw17717711148802597080:True:=⟨⟩
theorem tw1241580917488105960:True:=⟨⟩
theorem tw2615915139567967157:True:=⟨⟩
theorem tw12181282291032730948:True:=⟨⟩
theorem tw10275313610728962024:True:=⟨⟩
theorem tw14293926921185481405:True:=⟨⟩
theorem tw12765827364584814601:True:=⟨⟩
theorem tw2865806883498937403:True:=⟨⟩
theorem tw6647352606948295608:True:=⟨⟩
end PySem.W.Fast
open PySem PySem.W PyProof.Rows
set_option maxRecDepth 100000 in
set_option maxHeartbeats 0 in
theorem PySem.Challenge.cw_trueline_k62_measures_read_holds : PySem.Challenge.rw_trueline_k62_measures_read.Holds := by
 w_on;o_law;k_head;(case hw=>w_witness2)
 k_fill
 refine Z.law_walkX (l:=PySem.Challenge.rw_trueline_k62_measures_read) Z.K62.fns ["MEASURE_POWER","NONE_LEFT","BELOW_HALF","HALF_LEFT","ABOVE_HALF","FIGURES","MOST_FIGURES","MOST_POWER_FIGURES"] Z.K62.C 43 Z.K62.fi_law rfl rfl (fun w h Y=>PySem.W.kIn_of Y) ⟨fun _=>rfl,by decide,by decide⟩ rfl rfl rfl ⟨rfl,rfl⟩ rfl Z.K62.chk Z.K62.keeps Z.K62.ct (fun _ z=>z) ?F
 case F =>
  intro w mg h KX G;refine⟨?fns,?cns,?blt,?exc⟩
  case fns =>
   intro i hi;simp only[Z.K62.fns,List.mem_cons,List.not_mem_nil,or_false]at hi
   rcases hi with rfl|rfl|rfl|rfl|rfl|rfl|rfl|rfl|rfl|rfl|rfl|rfl|rfl|rfl|rfl|rfl|rfl|rfl|rfl|rfl|rfl|rfl|rfl|rfl|rfl|rfl|rfl|rfl|rfl|rfl|rfl|rfl|rfl|rfl|rfl|rfl|rfl|rfl|rfl|rfl|rfl|rfl|rfl|rfl<;>((first|refine' Z.fact_mk KX G (fun _ _ _ _ _ _=>Z.len1 fun _=>rfl) ?a ?l ?c ?k|refine' Z.fact_mk KX G (fun _ _ _ _ _ _=>Z.len2 fun _ _=>rfl) ?a ?l ?c ?k|refine' Z.fact_mk KX G (fun _ _ _ _ _ _=>Z.len3 fun _ _ _=>rfl) ?a ?l ?c ?k|refine' Z.fact_mk KX G (fun _ _ _ _ _ _=>Z.len4 fun _ _ _ _=>rfl) ?a ?l ?c ?k);(all_goals try dsimp only[Z.K62.fi_law_cell,Z.K62.fi_law_drawn,Z.K62.fi_law_width,Z.K62.fi_law_figures,Z.K62.fi_law_text,Z.K62.fi_law_some,Z.K62.fi_law_power,Z.K62.fi_law_reads,Z.K62.fi_two_to,Z.K62.fi_left_of,Z.K62.fi_cut,Z.K62.fi_odd_form,Z.K62.fi_from_cut,Z.K62.fi_near,Z.K62.fi_behind_sign,Z.K62.fi_behind_figures,Z.K62.fi_power_atX,Z.K62.fi_common_divisor,Z.K62.fi_ratio,Z.K62.fi_times_ten,Z.K62.fi_read_textX,Z.K62.fi_is_whole,Z.K62.fi_is_pair_of_wholes,Z.K62.fi_is_number,Z.K62.fi_is_measure,Z.K62.fi_read_measureX,Z.K62.fi_law_told,Z.K62.fi_law_ten,Z.K62.fi_law_bare,Z.K62.fi_law_near,Z.K62.fi_law_is_measure,Z.K62.fi_law_whole,Z.K62.fi_law_is_number,Z.K62.fi_ten_to,Z.K62.fi_times_ten_to,Z.K62.fi_reaches,Z.K62.fi_first_power,Z.K62.fi_value,Z.K62.fi_wholes_around,Z.K62.fi_is_read_as,Z.K62.fi_read_as,Z.K62.fi_spelled,Z.K62.fi_briefest,Z.K62.fi_law]);(case a=>k_is);(case l=>k_is);(case c=>k_is);(case k=>k_is))
  case cns =>
   intro n x e
   match n,e with
   |0,e =>
    cases e;refine' Z.cn_mk KX G ?z
    case z=>k_is
   |1,e =>
    cases e;refine' Z.cn_mk KX G ?z
    case z=>k_is
   |2,e =>
    cases e;refine' Z.cn_mk KX G ?z
    case z=>k_is
   |3,e =>
    cases e;refine' Z.cn_mk KX G ?z
    case z=>k_is
   |4,e =>
    cases e;refine' Z.cn_mk KX G ?z
    case z=>k_is
   |5,e =>
    cases e;refine' Z.cn_mkS KX G (by decide +kernel) ?z
    case z=>k_is
   |6,e =>
    cases e;refine' Z.cn_mk KX G ?z
    case z=>k_is
   |7,e =>
    cases e;refine' Z.cn_mk KX G ?z
    case z=>k_is
   |n+8,e=>simp at e
  case blt =>
   intro x hx;simp only[Z.blts,List.mem_cons,List.not_mem_nil,or_false]at hx
   rcases hx with rfl|rfl|rfl|rfl|rfl|rfl|rfl|rfl|rfl|rfl|rfl|rfl|rfl|rfl|rfl|rfl|rfl|rfl|rfl<;>(refine' PySem.W.mg_none_of KX G ?z;(case z=>k_is))
  case exc =>
   refine'(fun(E:Z.ExcOk _ mg ["BadText","TooGreat"] true)=>?main) (Z.exc_ok KX (i:=Z.K62.fi_law_alone) ?al (by decide +kernel) ?ex)
   case al=>refine' Z.fact_mk (i:=Z.K62.fi_law_alone) KX G (fun _ _ _ _ _ _=>Z.len1 fun _=>rfl) ?a ?l ?c ?k;(all_goals try dsimp only[Z.K62.fi_law_alone]);(case a=>k_is);(case l=>k_is);(case c=>k_is);(case k=>k_is)
   case ex =>
    intro x hx;simp only[List.mem_cons,List.not_mem_nil,or_false]at hx;rcases hx with rfl|rfl
    ·refine' Z.exc_mkO (i:=Z.K62.fi_ini_BadText) KX G (by decide +kernel) (by decide +kernel) (fun _ _ _ _ _ _ _ _ _ _ _=>⟨_,rfl,rfl⟩) ?oa ?ote ?oml ?ol ?oln ?orN ?oT ?oM ?orM ?oi ?on1 ?on2 ?on3 ?on4 ?om1 ?om2 ?om3 ?om4 ?om5 ?om6 ?oop ?ofi ?ofn ?okp ?olf ?olD ?ocd (fun _=>Z.alone_mk KX G ?xe1 ?xe2 ?xe3 ?xe4 ?xe5 ?xe6 ?xe7 ?xt1 ?xt2 ?xt3 ?xt4 ?xv1 ?xv2 ?xv3 (by decide +kernel) ?xcl);(case oa=>k_is);(case ote=>k_is);(case oml=>k_is);(case ol=>k_is);(case oln=>k_is);(case orN=>rfl);(case oT=>k_is);(case oM=>k_is);(case orM=>rfl);(case oi=>k_is);(case on1=>k_is);(case on2=>k_is);(case on3=>k_is);(case on4=>k_is);(case om1=>k_is);(case om2=>k_is);(case om3=>k_is);(case om4=>k_is);(case om5=>k_is);(case om6=>k_is);(case oop=>k_is);(case ofi=>k_is);(case ofn=>k_is);(case okp=>k_is);(case olf=>k_is);(case olD=>k_is);(case ocd=>k_is);(case xe1=>k_is);(case xe2=>k_is);(case xe3=>k_is);(case xe4=>k_is);(case xe5=>k_is);(case xe6=>k_is);(case xe7=>k_is);(case xt1=>k_is);(case xt2=>k_is);(case xt3=>k_is);(case xt4=>k_is);(case xv1=>k_is);(case xv2=>k_is);(case xv3=>k_is);(case xcl=>exact(fun c hc=>by simp only[Z.names12,List.mem_cons,List.not_mem_nil,or_false]at hc;rcases hc with rfl|rfl|rfl|rfl|rfl|rfl|rfl|rfl|rfl|rfl|rfl|rfl<;>(refine' Z.kit_cl KX G ?ya ?yt ?ym ?ys ?yb ?yd;(case ya=>k_is);(case yt=>k_is);(case ym=>k_is);(case ys=>k_is);(case yb=>decide +kernel);(case yd=>decide))))
    ·refine' Z.exc_mk KX G ?xa ?xq (by decide +kernel) (fun _=>Z.alone_mk KX G ?xe1 ?xe2 ?xe3 ?xe4 ?xe5 ?xe6 ?xe7 ?xt1 ?xt2 ?xt3 ?xt4 ?xv1 ?xv2 ?xv3 (by decide +kernel) ?xcl);(case xa=>k_is);(case xq=>k_exc);(case xe1=>k_is);(case xe2=>k_is);(case xe3=>k_is);(case xe4=>k_is);(case xe5=>k_is);(case xe6=>k_is);(case xe7=>k_is);(case xt1=>k_is);(case xt2=>k_is);(case xt3=>k_is);(case xt4=>k_is);(case xv1=>k_is);(case xv2=>k_is);(case xv3=>k_is);(case xcl=>exact(fun c hc=>by simp only[Z.names12,List.mem_cons,List.not_mem_nil,or_false]at hc;rcases hc with rfl|rfl|rfl|rfl|rfl|rfl|rfl|rfl|rfl|rfl|rfl|rfl<;>(refine' Z.kit_cl KX G ?ya ?yt ?ym ?ys ?yb ?yd;(case ya=>k_is);(case yt=>k_is);(case ym=>k_is);(case ys=>k_is);(case yb=>decide +kernel);(case yd=>decide))))
   case main =>
    intro i hi hz;simp only[Z.K62.fns,List.mem_cons,List.not_mem_nil,or_false]at hi
    rcases hi with rfl|rfl|rfl|rfl|rfl|rfl|rfl|rfl|rfl|rfl|rfl|rfl|rfl|rfl|rfl|rfl|rfl|rfl|rfl|rfl|rfl|rfl|rfl|rfl|rfl|rfl|rfl|rfl|rfl|rfl|rfl|rfl|rfl|rfl|rfl|rfl|rfl|rfl|rfl|rfl|rfl|rfl|rfl|rfl<;>first|exact E|cases hz
